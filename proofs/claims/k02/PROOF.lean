import PyProof.Rows.All
import Wide.All
import OpenK.AllK
import Wide.FinOn
import HandS.ForMost
import HandS.Deep
import HandS.Wide
import HandS.Exc
import HandS.TryMany
import HandS.ExcInit
import HandS.Flow
import HandS.More
import HandS.Dict
import HandS.WordsDict
import HandS.TupAny
import HandS.Small
import HandS.Property
import HandS.HeadHook2
import HandS.Defaults
import HandS.ExcField
import HandS.ExcIs
import HandS.MakeKw
import HandS.HeadWalk
import HandS.Comp
import HandS.Iter
import HandS.Star
import HandS.IsInst
import OpenK.KCls
import HandS.DictComp
import HandS.Style
import HandS.HeadHook1
import HandS.Head0
import HandS.Head1
import HandS.Head2
import HandS.Ends
import PySem.Challenge.RW_keptworths_k02_tables_told
set_option Elab.async false
set_option linter.all false

section
namespace AM
open PySem (Str PyData Operator CmpOp)

inductive Val where
  | non | bl (b : Bool) | int (i : Int) | str (s : Str) | tup (l : List Val) | ref (n : Nat)
  deriving Inhabited

inductive Obj where
  | lst (l : List Val) | ins (c : Str) (f : List (Str × Val)) | dct (l : List (Sum Int Str × Val))
  deriving Inhabited

structure Cell where
  o : Obj
  lk : Bool := false
  deriving Inhabited

abbrev Store := List Cell

structure Env where
  s : List (Option Val)
  x : Option (Str × Val) := none

inductive Res (α : Type) where
  | ok (a : α) (s : Store) | err (c : Str) (v : Val) (s : Store) | stk

def Res.bind {α β : Type} (r : Res α) (f : α → Store → Res β) : Res β :=
  match r with
  | .ok a s => f a s
  | .err c v s => .err c v s
  | .stk => .stk

/-- from an option: nothing said where there is none -/
def Res.of {α : Type} (o : Option α) (s : Store) : Res α :=
  match o with
  | some a => .ok a s
  | none => .stk

inductive Tg where
  | nm (i : Nat) | tp (l : List Nat)
  deriving DecidableEq

/-- expressions; nil and cons make lists of them -/
inductive E where
  | nil | cons (a r : E)
  | var (i : Nat) | non | bl (b : Bool) | int (i : Int) | str (s : Str) | con (x : Str)
  | bin (o : Operator) (a b : E) | neg (a : E) | not (a : E)
  | cmp (o : CmpOp) (a b : E) | chn (o p : CmpOp) (a b c : E)
  | and (a b : E) | or (a b : E) | ife (c a b : E)
  | tup (l : E) | lst (l : E)
  | call (f : Str) (l : E) | make (c : Str) (l : E) | makek (c : Str) (ks : List Str) (p : List Nat) (l : E)
  | bi (f : Str) (l : E) | isi (a : E) (c : Str)
  | om (o : E) (m : Str) (l : E) | bm (o : E) (m : Str) (l : E)
  | attr (o : E) (f : Str) | sub (a b : E) | slc (a lo hi : E)
  | lc (e : E) (t : Tg) (it c : E) (vs : List Nat)
  | lc2 (e : E) (t : Tg) (it c : E) (t2 : Tg) (it2 c2 : E) (vs vs2 : List Nat)
  | dc (k e : E) (t : Tg) (it c : E) (vs : List Nat)
  | d0 | d1 (k v : E) | dgt (o k d : E) | bid (f : Str) (l : E)
  | rng1 (a : E) | rng2 (a b : E) | enu (a : E)
  | exv | exi (c : Str)
  | cal (o l : E) | omk (o : E) (m : Str) (ks : List Str) (p : List Nat) (l : E) | clm (c m : Str) (l : E) | isb (a : E) (t : Str) | itm (a : E)
  deriving DecidableEq

inductive S where
  | skip | seq (a b : S)
  | asg (t : Tg) (e : E) | asgA (o : E) (f : Str) (e : E) | asgS (o i e : E)
  | drop (e : E) | ret (e : E) | retN | ifs (c : E) (a b : S)
  | for (t : Tg) (it : E) (b : S)
  | rais (c : Str) (l : E)
  | tri (b h : S) | hnd (c : Str) (x : Option Nat) (b r : S) | noh
  | lkS (i : Nat) (fs : List Str) (b : S)

structure Def where
  np : Nat
  nv : Nat
  body : S

structure Cinfo where
  init : Str
  flds : List Str
  meths : List (Str × Str)
  props : List (Str × Str)

structure Prog where
  defs : List (Str × Def)
  funs : List Str
  clss : List (Str × Cinfo)
  exs : List Str
  subs : List (Str × Str)
  cons : List (Str × Val)
  kws : List (Str × List Str × List Nat) := []
  stt : List (Str × Str × Str) := []
  kwm : List (Str × List Str × List Nat) := []

abbrev Call := Str → List Val → Store → Res Val

def line : Nat := 1000000

/-- the data of a value, n levels deep -/
def deep (st : Store) : Nat → Val → Option PyData
  | _, .non => some .none
  | _, .bl b => some (.bool b)
  | _, .int i => some (.int i)
  | _, .str s => some (.str s)
  | 0, _ => none
  | n + 1, .tup l => (l.mapM (deep st n)).map .tuple
  | n + 1, .ref r => match st[r]? with
    | some ⟨.lst l, _⟩ => (l.mapM (deep st n)).map .list
    | _ => none

def dp (st : Store) (v : Val) : Option PyData :=
  match deep st 60 v with
  | some d => if d.canLay0 = true then some d else none
  | none => none

def lstAt (st : Store) : Val → Option (List Val)
  | .ref r => match st[r]? with
    | some ⟨.lst l, _⟩ => some l
    | _ => none
  | _ => none
def insAt (st : Store) : Val → Option (Str × List (Str × Val))
  | .ref r => match st[r]? with
    | some ⟨.ins c f, _⟩ => some (c, f)
    | _ => none
  | _ => none

def truthy (st : Store) : Val → Option Bool
  | .non => some false
  | .bl b => some b
  | .int i => some (i != 0)
  | .str s => if s.length ≤ line then some ((s.length : Int) != 0) else none
  | .tup l => some (!l.isEmpty)
  | .ref r => match st[r]? with
    | some ⟨.lst l, _⟩ => some (!l.isEmpty)
    | _ => none

/-- the value at a key of a dict -/
def dget (l : List (Sum Int Str × Val)) (k : Sum Int Str) : Option Val := (l.find? fun kv => decide (kv.1 = k)).map (·.2)
/-- in its place, or at the end -/
def dput (l : List (Sum Int Str × Val)) (k : Sum Int Str) (v : Val) : List (Sum Int Str × Val) :=
  if (l.any fun kv => decide (kv.1 = k)) = true then l.map (fun kv => if kv.1 = k then (kv.1, v) else kv) else l ++ [(k, v)]
def keyOf : Val → Option (Sum Int Str)
  | .int i => some (.inl i)
  | .str s => some (.inr s)
  | _ => none
def keyV : Sum Int Str → Val
  | .inl i => .int i
  | .inr s => .str s
def dctAt (st : Store) : Val → Option (List (Sum Int Str × Val))
  | .ref r => match st[r]? with
    | some ⟨.dct l, _⟩ => some l
    | _ => none
  | _ => none
def fput (f : Str) (v : Val) : List (Str × Val) → List (Str × Val)
  | [] => [(f, v)]
  | (a, u) :: r => if a = f then (a, v) :: r else (a, u) :: fput f v r

def cut {α : Type} (l : List α) (lo hi : Option Int) : List α :=
  (l.drop (HT.sIx l.length 0 lo)).take (HT.sIx l.length l.length hi - HT.sIx l.length 0 lo)
def chars (s : Str) : List Val := s.cps.toList.map fun c => .str ⟨#[c]⟩

def opBin (st : Store) : Operator → Val → Val → Res Val
  | .Add, .int i, .int j => .ok (.int (i + j)) st
  | .Sub, .int i, .int j => .ok (.int (i - j)) st
  | .Mult, .int i, .int j => if (-(2 ^ 64) < i ∧ i < 2 ^ 64) ∨ (-(2 ^ 64) < j ∧ j < 2 ^ 64) then .ok (.int (i * j)) st else .stk
  | .Mod, .int i, .int j => if 0 < j then .ok (.int (i % j)) st else .stk
  | .FloorDiv, .int i, .int j => if 0 < j ∧ j.natAbs.log2 < 9000 then .ok (.int (i / j)) st else .stk
  | .Pow, .int i, .int j => if 0 ≤ j ∧ j ≤ 64 ∧ i.natAbs < 2 ^ 1000 then .ok (.int (i ^ j.toNat)) st else .stk
  | .Add, .str a, .str b => if a.length + b.length ≤ line then .ok (.str (a ++ b)) st else .stk
  | .Add, .ref a, .ref b => match st[a]?, st[b]? with
    | some ⟨.lst x, false⟩, some ⟨.lst y, false⟩ => if x.length + y.length ≤ line then .ok (.ref st.length) (st ++ [⟨.lst (x ++ y), false⟩]) else .stk
    | _, _ => .stk
  | _, _, _ => .stk

def isFlat : Val → Bool
  | .str _ => true
  | .non => true
  | _ => false
def flatEq : Val → Val → Bool
  | .str a, .str b => decide (a = b)
  | .non, .non => true
  | _, _ => false

/-- x in y -/
def opIn (st : Store) (x y : Val) : Option Bool :=
  match y with
  | .str z => match x with
    | .str c => if c.length = 1 then some (decide (c.cps.getD 0 0 ∈ z.cps.toList)) else none
    | _ => none
  | .tup l => if isFlat x && l.all isFlat then some (l.any fun z => flatEq z x) else none
  | .ref r => match st[r]? with
    | some ⟨.lst _, _⟩ => match dp st x, dp st y with
      | some d, some (.list ds) => some (ds.any fun z => PyData.eqv z d)
      | _, _ => none
    | some ⟨.dct l, _⟩ => (keyOf x).map fun k => (dget l k).isSome
    | _ => none
  | _ => none

def opCmp (st : Store) : CmpOp → Val → Val → Option Bool
  | .Lt, .int i, .int j => some (decide (i < j))
  | .LtE, .int i, .int j => some (decide (i ≤ j))
  | .Gt, .int i, .int j => some (decide (j < i))
  | .GtE, .int i, .int j => some (decide (j ≤ i))
  | .Is, x, .non => some (match x with | .non => true | _ => false)
  | .IsNot, x, .non => some (match x with | .non => false | _ => true)
  | .Eq, x, y => match dp st x, dp st y with
    | some a, some b => some (PyData.eqv a b)
    | _, _ => none
  | .NotEq, x, y => match dp st x, dp st y with
    | some a, some b => some (!PyData.eqv a b)
    | _, _ => none
  | .In, x, y => opIn st x y
  | .NotIn, x, y => (opIn st x y).map (!·)
  | _, _, _ => none

def allStr : List Val → Option (List Str)
  | [] => some []
  | .str s :: r => (allStr r).map (s :: ·)
  | _ => none
def isBl : Val → Bool
  | .bl _ => true
  | _ => false
def valBl : Val → Bool
  | .bl b => b
  | _ => false

/-- a built-in function -/
def opBi (st : Store) (f : Str) (vs : List Val) : Res Val :=
  match vs with
  | [v] =>
    if f = "len" then
      match v with
      | .str s => if s.length ≤ line then .ok (.int s.length) st else .stk
      | .tup l => .ok (.int l.length) st
      | .ref r => match st[r]? with
        | some ⟨.lst l, _⟩ => .ok (.int l.length) st
        | some ⟨.dct l, _⟩ => .ok (.int l.length) st
        | _ => .stk
      | _ => .stk
    else if f = "int" then
      match v with
      | .int i => .ok (.int i) st
      | .bl b => .ok (.int (if b then 1 else 0)) st
      | _ => .stk
    else if f = "abs" then
      match v with
      | .int i => .ok (.int (if i < 0 then -i else i)) st
      | _ => .stk
    else if f = "list" then
      match lstAt st v with
      | some l => .ok (.ref st.length) (st ++ [⟨.lst l, false⟩])
      | none => .stk
    else if f = "str" then
      match v with
      | .int i => if i.natAbs.log2 < 1920 then .ok (.str (toString i)) st else .stk
      | _ => .stk
    else if f = "repr" then
      match dp st v with
      | some d => if d.showable = true ∧ d.shown.length ≤ line then .ok (.str d.shown) st else .stk
      | none => .stk
    else if f = "all" then
      match lstAt st v with
      | some l => if l.all isBl then .ok (.bl (l.all valBl)) st else .stk
      | none => .stk
    else if f = "any" then
      match lstAt st v with
      | some l => if l.all isBl then .ok (.bl (l.any valBl)) st else .stk
      | none => .stk
    else .stk
  | [.int i, .int j] =>
    if f = "max" then .ok (.int (if j > i then j else i)) st
    else if f = "min" then .ok (.int (if j < i then j else i)) st
    else .stk
  | _ => .stk

/-- a method of a built-in value -/
def opBm (st : Store) (o : Val) (m : Str) (vs : List Val) : Res Val :=
  match o with
  | .str s =>
    if m = "join" then
      match vs with
      | [v] => match (lstAt st v).bind allStr with
        | some l => if (l.map (·.length)).sum + l.length * s.length ≤ line then .ok (.str (PySem.Txt.join s l)) st else .stk
        | none => .stk
      | _ => .stk
    else if m = "upper" then
      match vs with
      | [] => if s.length ≤ line then .ok (.str (PySem.Txt.upper s)) st else .stk
      | _ => .stk
    else .stk
  | .ref r =>
    match st[r]? with
    | some ⟨.lst l, false⟩ =>
      if m = "append" then
        match vs with
        | [v] => if l.length < line then .ok .non (st.set r ⟨.lst (l ++ [v]), false⟩) else .stk
        | _ => .stk
      else if m = "pop" then
        match vs with
        | [] => match l[l.length - 1]? with
          | some v => .ok v (st.set r ⟨.lst l.dropLast, false⟩)
          | none => .stk
        | [.int i] => match (if -(2 ^ 63) ≤ i ∧ i < 2 ^ 63 then PySem.seqIndex? i l.length else none) with
          | some k => match l[k]? with
            | some v => .ok v (st.set r ⟨.lst (l.eraseIdx k), false⟩)
            | none => .stk
          | none => .stk
        | _ => .stk
      else if m = "insert" then
        match vs with
        | [.int i, v] => if 0 ≤ i ∧ i < 2 ^ 63 ∧ l.length < line then .ok .non (st.set r ⟨.lst (l.take i.toNat ++ [v] ++ l.drop i.toNat), false⟩) else .stk
        | _ => .stk
      else if m = "clear" then
        match vs with
        | [] => .ok .non (st.set r ⟨.lst [], false⟩)
        | _ => .stk
      else if m = "reverse" then
        match vs with
        | [] => .ok .non (st.set r ⟨.lst l.reverse, false⟩)
        | _ => .stk
      else if m = "index" then
        match vs with
        | [.str x] => match allStr l with
          | some ss => if ss.contains x = true then .ok (.int (ss.findIdx (· == x))) st else .stk
          | none => .stk
        | _ => .stk
      else .stk
    | _ => .stk
  | _ => .stk

def bmStr : List Str := ["join", "upper"]
def bmLst : List Str := ["append", "pop", "insert", "clear", "index", "reverse"]
/-- a method for that value -/
def bmOk (st : Store) (o : Val) (m : Str) : Bool :=
  match o with
  | .str _ => bmStr.contains m
  | .ref r => match st[r]? with
    | some ⟨.lst _, false⟩ => bmLst.contains m
    | _ => false
  | _ => false
/-- a[b] of a built-in value -/
def opSub (st : Store) (a b : Val) : Option Val :=
  match a, b with
  | .tup l, .int i => L2.atI l i
  | .str s, .int i => if s.length ≤ line then (L2.atI s.cps.toList i).map fun c => .str ⟨#[c]⟩ else none
  | .ref r, b => match st[r]? with
    | some ⟨.lst l, _⟩ => match b with
      | .int i => L2.atI l i
      | _ => none
    | some ⟨.dct l, _⟩ => (keyOf b).bind (dget l)
    | _ => none
  | _, _ => none

def optI : Option Val → Option (Option Int)
  | none => some none
  | some (.int i) => some (some i)
  | _ => none

def opSlc (st : Store) (a : Val) (lo hi : Option Val) : Res Val :=
  match optI lo, optI hi with
  | some l, some h => match a with
    | .str s => if s.length ≤ line then .ok (.str (L2.cutS s l h)) st else .stk
    | .tup x => .ok (.tup (cut x l h)) st
    | .ref r => match st[r]? with
      | some ⟨.lst x, _⟩ => .ok (.ref st.length) (st ++ [⟨.lst (cut x l h), false⟩])
      | _ => .stk
    | _ => .stk
  | _, _ => .stk

inductive Iter where
  | live (n : Nat) (en : Bool) | snap (l : List Val) | keys (n : Nat) (en : Bool)

/-- none: nothing said; some none: the end -/
def Iter.next (k : Iter) (i : Nat) (st : Store) : Option (Option Val) :=
  match k with
  | .snap l => some l[i]?
  | .live n en => match st[n]? with
    | some ⟨.lst l, _⟩ => match l[i]? with
      | some v => some (some (if en then .tup [.int i, v] else v))
      | none => some none
    | _ => none
  | .keys n en => match st[n]? with
    | some ⟨.dct l, true⟩ => match l[i]? with
      | some kv => some (some (if en then .tup [keyV kv.1, kv.2] else keyV kv.1))
      | none => some none
    | _ => none
def Iter.fuel (k : Iter) (st : Store) : Nat :=
  match k with
  | .snap l => l.length + 1
  | .live n _ => match st[n]? with
    | some ⟨.lst l, _⟩ => l.length + 1
    | _ => 0
  | .keys n _ => match st[n]? with
    | some ⟨.dct l, true⟩ => l.length + 1
    | _ => 0
def rangeL (lo : Int) (n : Nat) : List Val := (List.range n).map fun k : Nat => .int (lo + (k : Int))

/-- what a for walks over a value -/
def iterV (st : Store) : Val → Option Iter
  | .tup l => some (.snap l)
  | .str s => some (.snap (chars s))
  | .ref r => match st[r]? with
    | some ⟨.lst _, _⟩ => some (.live r false)
    | some ⟨.dct _, true⟩ => some (.keys r false)
    | _ => none
  | _ => none

/-- the kind of a value, where isinstance is told it -/
def tyName (st : Store) : Val → Option String
  | .non => some "NoneType"
  | .bl _ => some "bool"
  | .int _ => some "int"
  | .str _ => some "str"
  | .tup _ => some "tuple"
  | .ref r => match st[r]? with
    | some ⟨.lst _, false⟩ => some "list"
    | some ⟨.dct _, false⟩ => some "dict"
    | _ => none
def isbNames : List Str := ["tuple", "list"]
/-- where a dict stands that is reached from a value by attributes -/
def pathAt (st : Store) : Val → List Str → Option Nat
  | .ref n, [] => some n
  | _, [] => none
  | v, f :: fs => match insAt st v with
    | some (_, l) => match l.lookup f with
      | some w => pathAt st w fs
      | none => none
    | none => none
def lockAt (st : Store) (v : Option (Option Val)) (fs : List Str) : Option (Nat × List (Sum Int Str × Val)) :=
  match v with
  | some (some v) => match pathAt st v fs with
    | some n => match st[n]? with
      | some ⟨.dct l, false⟩ => some (n, l)
      | _ => none
    | none => none
  | _ => none
def unlk (n : Nat) (s : Store) : Option Store :=
  match s[n]? with
  | some ⟨.dct l, true⟩ => some (s.set n ⟨.dct l, false⟩)
  | _ => none

def assign (t : Tg) (v : Val) (e : Env) : Option Env :=
  match t with
  | .nm i => some { e with s := e.s.set i (some v) }
  | .tp l => match v with
    | .tup vs => if vs.length = l.length then some { e with s := (l.zip vs).foldl (fun s p => s.set p.1 (some p.2)) e.s } else none
    | _ => none

def wipe (vs : List Nat) (e : Env) : Env := { e with s := vs.foldr (fun i s => s.set i none) e.s }

/-- a comprehension's turns: el makes the new store of a turn -/
def turns (k : Iter) (t : Tg) (e : Env) (el : Env → Store → Option Store) : Nat → Nat → Store → Option Store
  | 0, _, _ => none
  | m + 1, i, st => match k.next i st with
    | none => none
    | some none => some st
    | some (some v) => match assign t v e with
      | none => none
      | some e1 => match el e1 st with
        | none => none
        | some st1 => turns k t e el m (i + 1) st1

/-- a turn that puts its element behind the list at n -/
def pushTo (n : Nat) (r : Res Val) : Option Store :=
  match r with
  | .ok v st => match st[n]? with
    | some ⟨.lst l, false⟩ => if l.length < line then some (st.set n ⟨.lst (l ++ [v]), false⟩) else none
    | _ => none
  | _ => none

/-- pairs (key, value) -/
def pairsOf : List Val → Option (List (Sum Int Str × Val))
  | [] => some []
  | .tup [k, v] :: r => match keyOf k, pairsOf r with
    | some k, some l => some ((k, v) :: l)
    | _, _ => none
  | _ => none
def dmerge (l more : List (Sum Int Str × Val)) : List (Sum Int Str × Val) := more.foldl (fun acc kv => dput acc kv.1 kv.2) l
/-- dict(d), list(d), dict(pairs) -/
def opBid (st : Store) (f : Str) (vs : List Val) : Res Val :=
  match vs with
  | [v] => match dctAt st v with
    | some l => if f = "dict" then .ok (.ref st.length) (st ++ [⟨.dct l, false⟩]) else if f = "list" then .ok (.ref st.length) (st ++ [⟨.lst (l.map fun kv => keyV kv.1), false⟩]) else .stk
    | none => if f = "dict" then match (lstAt st v).bind pairsOf with
        | some l => .ok (.ref st.length) (st ++ [⟨.dct (dmerge [] l), false⟩])
        | none => .stk
      else .stk
  | _ => .stk
/-- d.get(k), d.get(k, z) -/
def opGet (st : Store) (x y z : Val) : Option Val :=
  match dctAt st x, keyOf y with
  | some l, some k => some ((dget l k).getD z)
  | _, _ => none
/-- a pair put into the dict at n -/
def pairTo (n : Nat) (r : Res (Val × Val)) : Option Store :=
  match r with
  | .ok v st => match st[n]? with
    | some ⟨.dct l, false⟩ => match keyOf v.1 with
      | some k => if l.length < line then some (st.set n ⟨.dct (dput l k v.2), false⟩) else none
      | none => none
    | _ => none
  | _ => none

def isaP (P : Prog) (d c : Str) : Bool := d == c || P.subs.contains (d, c)

def noneE : E → Bool
  | .nil => true
  | _ => false

section
variable (P : Prog) (C : Call)

def ownKey (c m : Str) : Option Str :=
  match P.clss.lookup c with
  | some i => i.meths.lookup m
  | none => none

/-- a new instance, then its __init__ -/
def opMake (c : Str) (vs : List Val) (st : Store) : Res Val :=
  match P.clss.lookup c with
  | some i => match C i.init (.ref st.length :: vs) (st ++ [⟨.ins c [], false⟩]) with
    | .ok .non st1 => .ok (.ref st.length) st1
    | .ok _ _ => .stk
    | .err d v st1 => .err d v st1
    | .stk => .stk
  | none => .stk

def lookAttr (o : Val) (f : Str) (st : Store) : Res Val :=
  match insAt st o with
  | some (c, fs) => match P.clss.lookup c with
    | some i => if i.flds.contains f then Res.of (fs.lookup f) st else match i.props.lookup f with
      | some k => match C k [o] st with
        | .ok v s1 => .ok v s1
        | _ => .stk
      | none => .stk
    | none => .stk
  | none => .stk

def ownAt (o : Val) (m : Str) (st : Store) : Option Str :=
  match insAt st o with
  | some (c, fs) => match fs.lookup m with
    | some _ => none
    | none => ownKey P c m
  | none => none
def callOwn (o : Val) (m : Str) (vs : List Val) (st : Store) : Res Val :=
  match ownAt P o m st with
  | some k => C k (o :: vs) st
  | none => .stk
def lenOk : Res Val → Res Val
  | .ok (.int n) s => if 0 ≤ n ∧ n < 9223372036854775808 then .ok (.int n) s else .stk
  | _ => .stk
/-- a built-in function; len has an own __len__ too -/
def opBiP (f : Str) (vs : List Val) (st : Store) : Res Val :=
  match vs.head?.bind (insAt st) with
  | some _ => match vs with
    | [v] => if f = "len" then lenOk (callOwn P C v "__len__" [] st) else .stk
    | _ => .stk
  | none => opBi st f vs

mutual
def ev : E → Env → Store → Res Val
  | .var i, e, st => Res.of ((e.s[i]?).bind id) st
  | .non, _, st => .ok .non st
  | .bl b, _, st => .ok (.bl b) st
  | .int i, _, st => .ok (.int i) st
  | .str s, _, st => .ok (.str s) st
  | .con x, _, st => Res.of (P.cons.lookup x) st
  | .bin o a b, e, st => (ev a e st).bind fun x s1 => (ev b e s1).bind fun y s2 => opBin s2 o x y
  | .neg a, e, st => (ev a e st).bind fun x s1 => match x with
    | .int i => .ok (.int (-i)) s1
    | _ => .stk
  | .not a, e, st => (ev a e st).bind fun x s1 => match x with
    | .bl b => .ok (.bl (!b)) s1
    | _ => .stk
  | .cmp o a b, e, st => (ev a e st).bind fun x s1 => (ev b e s1).bind fun y s2 => Res.of ((opCmp s2 o x y).map .bl) s2
  | .chn o p a b c, e, st => (ev a e st).bind fun x s1 => (ev b e s1).bind fun y s2 => (Res.of (opCmp s2 o x y) s2).bind fun k s3 =>
      if k = true then (ev c e s3).bind fun z s4 => Res.of ((opCmp s4 p y z).map .bl) s4 else .ok (.bl false) s3
  | .and a b, e, st => (ev a e st).bind fun x s1 => match x with
    | .bl true => ev b e s1
    | .bl false => .ok (.bl false) s1
    | _ => .stk
  | .or a b, e, st => (ev a e st).bind fun x s1 => match x with
    | .bl true => .ok (.bl true) s1
    | .bl false => ev b e s1
    | _ => .stk
  | .ife c a b, e, st => (evT c e st).bind fun k s1 => if k = true then ev a e s1 else ev b e s1
  | .tup l, e, st => (evL l e st).bind fun vs s1 => .ok (.tup vs) s1
  | .lst l, e, st => (evL l e st).bind fun vs s1 => .ok (.ref s1.length) (s1 ++ [⟨.lst vs, false⟩])
  | .call f l, e, st => if P.funs.contains f = true then (evL l e st).bind fun vs s1 => C f vs s1 else .stk
  | .make c l, e, st => if (P.clss.lookup c).isSome = true then (evL l e st).bind fun vs s1 => opMake P C c vs s1 else .stk
  | .makek c ks p l, e, st => if ((P.clss.lookup c).isSome && P.kws.contains (c, ks, p)) = false then .stk else (evL l e st).bind fun vs s1 => match p.mapM (fun i => vs[i]?) with
    | some ws => opMake P C c ws s1
    | none => .stk
  | .bi f l, e, st => (evL l e st).bind fun vs s1 => opBiP P C f vs s1
  | .isi a c, e, st => (ev a e st).bind fun x s1 => match insAt s1 x with
    | some (d, _) => .ok (.bl (isaP P d c)) s1
    | none => .stk
  | .om o m l, e, st => (ev o e st).bind fun x s1 => match ownAt P x m s1 with
    | some k => (evL l e s1).bind fun vs s2 => C k (x :: vs) s2
    | none => .stk
  | .bm o m l, e, st => (ev o e st).bind fun x s1 => if bmOk s1 x m = true then (evL l e s1).bind fun vs s2 => opBm s2 x m vs else .stk
  | .attr o f, e, st => (ev o e st).bind fun x s1 => lookAttr P C x f s1
  | .sub a b, e, st => (ev a e st).bind fun x s1 => (ev b e s1).bind fun y s2 => match insAt s2 x with
    | some _ => callOwn P C x "__getitem__" [y] s2
    | none => Res.of (opSub s2 x y) s2
  | .slc a lo hi, e, st => (ev a e st).bind fun x s1 =>
      (if noneE lo = true then .ok none s1 else (ev lo e s1).bind fun v s => match v with
        | .int i => .ok (some (.int i)) s
        | _ => .stk).bind fun l s2 =>
      (if noneE hi = true then .ok none s2 else (ev hi e s2).bind fun v s => match v with
        | .int i => .ok (some (.int i)) s
        | _ => .stk).bind fun h s3 => opSlc s3 x l h
  | .lc el t it c vs, e, st => (evI it e st).bind fun k s2 =>
      match turns k t (wipe vs e) (fun e1 s => if noneE c = true then pushTo s2.length (ev el e1 s) else match evT c e1 s with
        | .ok true s' => pushTo s2.length (ev el e1 s')
        | .ok false s' => some s'
        | _ => none) (k.fuel s2) 0 (s2 ++ [⟨.lst [], false⟩]) with
      | none => .stk
      | some s3 => .ok (.ref s2.length) s3
  | .bid f l, e, st => (evL l e st).bind fun vs s1 => opBid s1 f vs
  | .dgt o k d, e, st => (ev o e st).bind fun x s1 => match dctAt s1 x with
    | some _ => (ev k e s1).bind fun y s2 => if noneE d = true then Res.of (opGet s2 x y .non) s2 else (ev d e s2).bind fun z s3 => Res.of (opGet s3 x y z) s3
    | none => .stk
  | .d0, e, st => .ok (.ref st.length) (st ++ [⟨.dct [], false⟩])
  | .d1 k v, e, st => (ev k e (st ++ [⟨.dct [], false⟩])).bind fun a s1 => (ev v e s1).bind fun b s2 => match s2[st.length]? with
    | some ⟨.dct [], false⟩ => match keyOf a with
      | some k => .ok (.ref st.length) (s2.set st.length ⟨.dct [(k, b)], false⟩)
      | none => .stk
    | _ => .stk
  | .dc kx el t it c vs, e, st => (evI it e st).bind fun k s2 =>
      match turns k t (wipe vs e) (fun e1 s => if noneE c = true then pairTo s2.length ((ev kx e1 s).bind fun a s' => (ev el e1 s').bind fun b s' => .ok (a, b) s') else match evT c e1 s with
        | .ok true s' => pairTo s2.length ((ev kx e1 s').bind fun a s' => (ev el e1 s').bind fun b s' => .ok (a, b) s')
        | .ok false s' => some s'
        | _ => none) (k.fuel s2) 0 (s2 ++ [⟨.dct [], false⟩]) with
      | none => .stk
      | some s3 => .ok (.ref s2.length) s3
  | .lc2 el t it c t2 it2 c2 vs vs2, e, st => (evI it e st).bind fun k s2 =>
      match turns k t (wipe vs e) (fun e1 s => match (if noneE c = true then .ok true s else evT c e1 s) with
        | .ok true s' => match evI it2 e1 s' with
          | .ok k2 s5 => turns k2 t2 (wipe vs2 e1) (fun e2 s6 => if noneE c2 = true then pushTo s2.length (ev el e2 s6) else match evT c2 e2 s6 with
              | .ok true s' => pushTo s2.length (ev el e2 s')
              | .ok false s' => some s'
              | _ => none) (k2.fuel s5) 0 s5
          | _ => none
        | .ok false s' => some s'
        | _ => none) (k.fuel s2) 0 (s2 ++ [⟨.lst [], false⟩]) with
      | none => .stk
      | some s3 => .ok (.ref s2.length) s3
  | .cal o l, e, st => (ev o e st).bind fun x s1 => match ownAt P x "__call__" s1 with
    | some _ => (evL l e s1).bind fun vs s2 => match ownAt P x "__call__" s2 with
      | some k => C k (x :: vs) s2
      | none => .stk
    | none => .stk
  | .omk o m ks p l, e, st => (ev o e st).bind fun x s1 => match ownAt P x m s1 with
    | some k => if P.kwm.contains (k, ks, p) = true then (evL l e s1).bind fun vs s2 => match p.mapM (fun i => vs[i]?) with
      | some ws => C k (x :: ws) s2
      | none => .stk
      else .stk
    | none => .stk
  | .clm c m l, e, st => match P.stt.find? (fun q => decide (q.1 = c) && decide (q.2.1 = m)) with
    | some q => (evL l e st).bind fun vs s1 => C q.2.2 vs s1
    | none => .stk
  | .isb a t, e, st => if isbNames.contains t = true then (ev a e st).bind fun x s1 => Res.of ((tyName s1 x).map fun u => .bl (Str.ofString u == t)) s1 else .stk
  | .exv, e, st => match e.x with
    | some (_, v) => .ok v st
    | none => .stk
  | .exi c, e, st => match e.x with
    | some (d, _) => if P.exs.contains c = true then .ok (.bl (isaP P d c)) st else .stk
    | none => .stk
  | _, _, _ => .stk
def evL : E → Env → Store → Res (List Val)
  | .nil, _, st => .ok [] st
  | .cons a r, e, st => (ev a e st).bind fun x s1 => (evL r e s1).bind fun xs s2 => .ok (x :: xs) s2
  | _, _, _ => .stk
/-- as a test -/
def evT : E → Env → Store → Res Bool
  | .and a b, e, st => (evT a e st).bind fun k s1 => if k = true then evT b e s1 else .ok false s1
  | .or a b, e, st => (evT a e st).bind fun k s1 => if k = true then .ok true s1 else evT b e s1
  | .not a, e, st => (evT a e st).bind fun k s1 => .ok (!k) s1
  | .ife _ _ _, _, _ => .stk
  | a, e, st => (ev a e st).bind fun v s1 => Res.of (truthy s1 v) s1
/-- what is walked -/
def evI : E → Env → Store → Res Iter
  | .rng1 a, e, st => (ev a e st).bind fun v s1 => match v with
    | .int n => if -4611686018427387904 ≤ n ∧ n < 4611686018427387904 then .ok (.snap (rangeL 0 n.toNat)) s1 else .stk
    | _ => .stk
  | .rng2 a b, e, st => (ev a e st).bind fun v s1 => (ev b e s1).bind fun w s2 => match v, w with
    | .int i, .int j => if (-4611686018427387904 ≤ i ∧ i < 4611686018427387904) ∧ -4611686018427387904 ≤ j ∧ j < 4611686018427387904 then .ok (.snap (rangeL i (j - i).toNat)) s2 else .stk
    | _, _ => .stk
  | .enu a, e, st => (ev a e st).bind fun v s1 => match v with
    | .ref r => match s1[r]? with
      | some ⟨.lst _, _⟩ => .ok (.live r true) s1
      | _ => .stk
    | _ => .stk
  | .itm a, e, st => (ev a e st).bind fun v s1 => match v with
    | .ref r => match s1[r]? with
      | some ⟨.dct _, true⟩ => .ok (.keys r true) s1
      | _ => .stk
    | _ => .stk
  | a, e, st => (ev a e st).bind fun v s1 => Res.of (iterV s1 v) s1
end

inductive Out where
  | nx (e : Env) (s : Store) | rt (v : Val) (s : Store) | er (c : Str) (v : Val) (e : Env) (s : Store) | stk

def Out.of (e : Env) (r : Res Val) (f : Val → Store → Out) : Out :=
  match r with
  | .ok v s => f v s
  | .err c v s => .er c v e s
  | .stk => .stk
def Out.ofT (e : Env) (r : Res Bool) (f : Bool → Store → Out) : Out :=
  match r with
  | .ok v s => f v s
  | .err c v s => .er c v e s
  | .stk => .stk

/-- a for's turns -/
def goes (k : Iter) (t : Tg) (b : Env → Store → Out) : Nat → Nat → Env → Store → Out
  | 0, _, _, _ => .stk
  | m + 1, i, e, st => match k.next i st with
    | none => .stk
    | some none => .nx e st
    | some (some v) => match assign t v e with
      | none => .stk
      | some e1 => match b e1 st with
        | .nx e2 s2 => goes k t b m (i + 1) e2 s2
        | .rt v s2 => .rt v s2
        | .er c v e2 s2 => .er c v e2 s2
        | .stk => .stk

/-- o.f = v -/
def opSetA (P : Prog) (o : Val) (f : Str) (v : Val) (st : Store) : Option Store :=
  match o with
  | .ref r => match st[r]? with
    | some ⟨.ins c fs, false⟩ => match P.clss.lookup c with
      | some i => if fs.length < 900 ∧ i.flds.contains f = true then some (st.set r ⟨.ins c (fput f v fs), false⟩) else none
      | none => none
    | _ => none
  | _ => none
/-- o[i] = v -/
def opSetS (o i v : Val) (st : Store) : Option Store :=
  match o with
  | .ref r => match st[r]? with
    | some ⟨.lst l, false⟩ => match i with
      | .int k => match L2.ixN l.length k with
        | some j => some (st.set r ⟨.lst (l.set j v), false⟩)
        | none => none
      | _ => none
    | some ⟨.dct l, false⟩ => match keyOf i with
      | some k => if l.length < line then some (st.set r ⟨.dct (dput l k v), false⟩) else none
      | none => none
    | _ => none
  | _ => none

def hsOk (P : Prog) : S → Bool
  | .hnd c _ _ r => P.exs.contains c && hsOk P r
  | .noh => true
  | _ => false
def hndOk (x : Option Nat) (e : Env) : Bool :=
  match x with
  | some i => decide (i < e.s.length)
  | none => true
def exec (P : Prog) (C : Call) : S → Env → Store → Out
  | .skip, e, st => .nx e st
  | .seq a b, e, st => match exec P C a e st with
    | .nx e1 s1 => exec P C b e1 s1
    | o => o
  | .asg t a, e, st => Out.of e (ev P C a e st) fun v s1 => match assign t v e with
    | some e1 => .nx e1 s1
    | none => .stk
  | .asgA o f a, e, st => Out.of e (ev P C a e st) fun v s1 => Out.of e (ev P C o e s1) fun x s2 => match opSetA P x f v s2 with
    | some s3 => .nx e s3
    | none => .stk
  | .asgS o i a, e, st => Out.of e (ev P C a e st) fun v s1 => Out.of e (ev P C o e s1) fun x s2 => Out.of e (ev P C i e s2) fun j s3 => match opSetS x j v s3 with
    | some s4 => .nx e s4
    | none => .stk
  | .drop a, e, st => Out.of e (ev P C a e st) fun _ s1 => .nx e s1
  | .ret a, e, st => Out.of e (ev P C a e st) fun v s1 => .rt v s1
  | .retN, e, st => .rt .non st
  | .ifs c a b, e, st => Out.ofT e (evT P C c e st) fun k s1 => if k = true then exec P C a e s1 else exec P C b e s1
  | .for t it b, e, st => match evI P C it e st with
    | .ok k s1 => goes k t (exec P C b) (k.fuel s1) 0 e s1
    | .err c v s1 => .er c v e s1
    | .stk => .stk
  | .rais c l, e, st => if P.exs.contains c = false then .stk else match evL P C l e st with
    | .ok [v] s1 => .er c v e s1
    | .ok _ _ => .stk
    | .err d v s1 => .er d v e s1
    | .stk => .stk
  | .tri b h, e, st => if hsOk P h = false then .stk else match exec P C b e st with
    | .er c v e1 s1 => exec P C h { e1 with x := some (c, v) } s1
    | o => o
  | .hnd c x b r, e, st => match e.x with
    | none => .stk
    | some (d, v) => if (P.exs.contains d && hndOk x e) = false then .stk else if isaP P d c = true then
        match exec P C b (match x with | some i => { e with s := e.s.set i none } | none => e) st with
        | .nx e1 s1 => .nx { s := (match x with | some i => e1.s.set i none | none => e1.s), x := none } s1
        | .rt v s1 => .rt v s1
        | _ => .stk
      else exec P C r e st
  | .noh, e, st => match e.x with
    | some (d, v) => .er d v { e with x := none } st
    | none => .stk
  | .lkS i fs b, e, st => match lockAt st (e.s[i]?) fs with
    | none => exec P C b e st
    | some (n, l) => match exec P C b e (st.set n ⟨.dct l, true⟩) with
      | .nx e1 s1 => match unlk n s1 with
        | some s2 => .nx e1 s2
        | none => .stk
      | .rt v s1 => match unlk n s1 with
        | some s2 => .rt v s2
        | none => .stk
      | o => o

def startE (n : Nat) (vs : List Val) : Env := { s := vs.map some ++ List.replicate (n - vs.length) none }

/-- a def, called; n: how deep calls may go -/
def callF (P : Prog) : Nat → Str → List Val → Store → Res Val
  | 0, _, _, _ => .stk
  | n + 1, f, vs, st => match P.defs.lookup f with
    | none => .stk
    | some d => if vs.length = d.np then
        match exec P (callF P n) d.body (startE d.nv vs) st with
        | .nx _ s1 => .ok .non s1
        | .rt v s1 => .ok v s1
        | .er c v _ s1 => .err c v s1
        | .stk => .stk
      else .stk
end
end AM
end

section
set_option maxRecDepth 100000
set_option maxHeartbeats 4000000
namespace AM
open PySem L2 PyProof.Rows
abbrev Frg := PySem.W.Frag

/-- what never changes: tuples, known things, an error's attributes -/
def Per : HO → Prop
  | .tup _ => True
  | .frz _ _ => True
  | .xd _ => True
  | _ => False
def Ext (H H' : Hp) : Prop := ∀ a o, Per o → H a = some o → H' a = some o
theorem Ext.rf {H : Hp} : Ext H H := fun _ _ _ h => h
theorem Ext.tr {H H1 H2 : Hp} (a : Ext H H1) (b : Ext H1 H2) : Ext H H2 := fun x o p h => b x o p (a x o p h)
theorem Ext.new {H : Hp} {p : Addr} {o : HO} (h : H p = none) : Ext H (upd H p o) := fun a u _ e => by
  rw [upd_ne (ne_of_none e h)]; exact e
theorem Ext.put {H : Hp} {p : Addr} {o u : HO} (h : H p = some u) (hn : ¬ Per u) : Ext H (upd H p o) := fun a w pw e => by
  have hne : a ≠ p := fun z => by
    subst z
    rw [h] at e
    cases e
    exact hn pw
  rw [upd_ne hne]; exact e

section
variable (K : Frg)
mutual
inductive Rv (ρ : List Addr) (H : Hp) : Val → V → Prop
  | non : Rv ρ H .non .non
  | bl (b : Bool) : Rv ρ H (.bl b) (.bl b)
  | int (i : Int) : Rv ρ H (.int i) (.int i)
  | str (s : Str) : Rv ρ H (.str s) (.str s)
  | tup {a : Addr} {vs : List Val} {xs : List V} : SqT K H a xs → Rvs ρ H vs xs → Rv ρ H (.tup vs) (.ref a)
  | ref {n : Nat} {a : Addr} : ρ[n]? = some a → Rv ρ H (.ref n) (.ref a)
inductive Rvs (ρ : List Addr) (H : Hp) : List Val → List V → Prop
  | nil : Rvs ρ H [] []
  | cons {v : Val} {vs : List Val} {x : V} {xs : List V} : Rv ρ H v x → Rvs ρ H vs xs → Rvs ρ H (v :: vs) (x :: xs)
end
end
section
variable {K : Frg} {ρ ρ' : List Addr} {H H' : Hp}
theorem sqT_mono (e : Ext H H') {a : Addr} {xs : List V} (h : SqT K H a xs) : SqT K H' a xs := by
  rcases h with h | h
  · rcases h with h | ⟨o, h⟩
    · exact .inl (.inl (e a _ trivial h))
    · exact .inl (.inr ⟨o, e a _ trivial h⟩)
  · exact .inr h
mutual
theorem Rv.mono (p : ρ <+: ρ') (e : Ext H H') : ∀ {v : Val} {x : V}, Rv K ρ H v x → Rv K ρ' H' v x
  | _, _, .non => .non
  | _, _, .bl b => .bl b
  | _, _, .int i => .int i
  | _, _, .str s => .str s
  | _, _, .tup h r => .tup (sqT_mono e h) (Rvs.mono p e r)
  | _, _, .ref h => .ref (by
    obtain ⟨t, rfl⟩ := p
    have hlt := (List.getElem?_eq_some_iff.mp h).1
    rw [List.getElem?_append_left hlt]; exact h)
theorem Rvs.mono (p : ρ <+: ρ') (e : Ext H H') : ∀ {vs : List Val} {xs : List V}, Rvs K ρ H vs xs → Rvs K ρ' H' vs xs
  | _, _, .nil => .nil
  | _, _, .cons a b => .cons (Rv.mono p e a) (Rvs.mono p e b)
end
theorem Rvs.length : ∀ {vs : List Val} {xs : List V}, Rvs K ρ H vs xs → vs.length = xs.length
  | _, _, .nil => rfl
  | _, _, .cons _ r => congrArg (· + 1) (Rvs.length r)
theorem Rvs.get : ∀ {vs : List Val} {xs : List V} {i : Nat} {v : Val}, Rvs K ρ H vs xs → vs[i]? = some v → ∃ x, xs[i]? = some x ∧ Rv K ρ H v x
  | _, _, _, _, .nil, h => by simp at h
  | _, _, 0, _, .cons r _, h => by simp at h; subst h; exact ⟨_, rfl, r⟩
  | _, _, i + 1, v, .cons _ t, h => by
    obtain ⟨x, h1, h2⟩ := Rvs.get (i := i) (v := v) t (by simpa using h)
    exact ⟨x, by simpa using h1, h2⟩
theorem Rvs.getR : ∀ {vs : List Val} {xs : List V} {i : Nat} {x : V}, Rvs K ρ H vs xs → xs[i]? = some x → ∃ v, vs[i]? = some v ∧ Rv K ρ H v x
  | _, _, _, _, .nil, h => by simp at h
  | _, _, 0, _, .cons r _, h => by simp at h; subst h; exact ⟨_, rfl, r⟩
  | _, _, i + 1, v, .cons _ t, h => by
    obtain ⟨x, h1, h2⟩ := Rvs.getR (i := i) (x := v) t (by simpa using h)
    exact ⟨x, by simpa using h1, h2⟩
theorem Rvs.app : ∀ {vs ws : List Val} {xs ys : List V}, Rvs K ρ H vs xs → Rvs K ρ H ws ys → Rvs K ρ H (vs ++ ws) (xs ++ ys)
  | _, _, _, _, .nil, s => s
  | _, _, _, _, .cons r t, s => .cons r (Rvs.app t s)
theorem Rvs.take : ∀ {vs : List Val} {xs : List V} (n : Nat), Rvs K ρ H vs xs → Rvs K ρ H (vs.take n) (xs.take n)
  | _, _, 0, _ => by simp; exact .nil
  | _, _, n + 1, .nil => by simp; exact .nil
  | _, _, n + 1, .cons r t => by simp only [List.take_succ_cons]; exact .cons r (Rvs.take n t)
theorem Rvs.drop : ∀ {vs : List Val} {xs : List V} (n : Nat), Rvs K ρ H vs xs → Rvs K ρ H (vs.drop n) (xs.drop n)
  | _, _, 0, h => h
  | _, _, n + 1, .nil => by simp; exact .nil
  | _, _, n + 1, .cons r t => by simp only [List.drop_succ_cons]; exact Rvs.drop n t
theorem Rvs.set {v : Val} {x : V} (h : Rv K ρ H v x) : ∀ {vs : List Val} {xs : List V} (n : Nat), Rvs K ρ H vs xs → Rvs K ρ H (vs.set n v) (xs.set n x)
  | _, _, _, .nil => by simp; exact .nil
  | _, _, 0, .cons r t => by simp only [List.set_cons_zero]; exact .cons h t
  | _, _, n + 1, .cons r t => by simp only [List.set_cons_succ]; exact .cons r (Rvs.set h n t)
theorem Rvs.erase : ∀ {vs : List Val} {xs : List V} (n : Nat), Rvs K ρ H vs xs → Rvs K ρ H (vs.eraseIdx n) (xs.eraseIdx n)
  | _, _, _, .nil => by simp; exact .nil
  | _, _, 0, .cons r t => by simp only [List.eraseIdx_cons_zero]; exact t
  | _, _, n + 1, .cons r t => by simp only [List.eraseIdx_cons_succ]; exact .cons r (Rvs.erase n t)
theorem Rvs.dropLast {vs : List Val} {xs : List V} (h : Rvs K ρ H vs xs) : Rvs K ρ H vs.dropLast xs.dropLast := by
  rw [List.dropLast_eq_take, List.dropLast_eq_take, ← h.length]; exact h.take _
theorem Rvs.rev : ∀ {vs : List Val} {xs : List V}, Rvs K ρ H vs xs → Rvs K ρ H vs.reverse xs.reverse
  | _, _, .nil => .nil
  | _, _, .cons r t => by simp only [List.reverse_cons]; exact (Rvs.rev t).app (.cons r .nil)
theorem Rvs.one {v : Val} {x : V} (h : Rv K ρ H v x) : Rvs K ρ H [v] [x] := .cons h .nil
end

/-- the attributes of an instance -/
inductive Rfs (K : Frg) (ρ : List Addr) (H : Hp) : List (Str × Val) → List (Str × V) → Prop
  | nil : Rfs K ρ H [] []
  | cons {f : Str} {v : Val} {x : V} {fs : List (Str × Val)} {gs : List (Str × V)} : Rv K ρ H v x → Rfs K ρ H fs gs → Rfs K ρ H ((f, v) :: fs) ((f, x) :: gs)
section
variable {K : Frg} {ρ ρ' : List Addr} {H H' : Hp}
theorem Rfs.mono (p : ρ <+: ρ') (e : Ext H H') {fs : List (Str × Val)} {gs : List (Str × V)} (h : Rfs K ρ H fs gs) : Rfs K ρ' H' fs gs := by
  induction h with
  | nil => exact .nil
  | cons r _ ih => exact .cons (r.mono p e) ih
theorem Rfs.length {fs : List (Str × Val)} {gs : List (Str × V)} (h : Rfs K ρ H fs gs) : fs.length = gs.length := by
  induction h with
  | nil => rfl
  | cons _ _ ih => simp [ih]
theorem Rfs.look {f : Str} {v : Val} {fs : List (Str × Val)} {gs : List (Str × V)} (h : Rfs K ρ H fs gs) (e : fs.lookup f = some v) : ∃ x, gs.lookup f = some x ∧ Rv K ρ H v x := by
  induction h with
  | nil => simp at e
  | @cons g w x fs gs r _ ih =>
    simp only [List.lookup_cons] at e ⊢
    cases hb : f == g with
    | true => rw [hb] at e; cases e; exact ⟨x, rfl, r⟩
    | false => rw [hb] at e; exact ih e
theorem Rfs.none {f : Str} {fs : List (Str × Val)} {gs : List (Str × V)} (h : Rfs K ρ H fs gs) (e : fs.lookup f = none) : gs.lookup f = none := by
  induction h with
  | nil => rfl
  | @cons g w x fs gs r _ ih =>
    simp only [List.lookup_cons] at e ⊢
    cases hb : f == g with
    | true => rw [hb] at e; cases e
    | false => rw [hb] at e; exact ih e
end
theorem Rfs.put {K : Frg} {ρ : List Addr} {H : Hp} {f : Str} {v : Val} {x : V} (hr : Rv K ρ H v x) {fs : List (Str × Val)} {gs : List (Str × V)} (h : Rfs K ρ H fs gs) : Rfs K ρ H (fput f v fs) (putF f x gs) := by
  induction h with
  | nil => exact .cons hr .nil
  | @cons g w y fs gs r t ih =>
    show Rfs K ρ H (if g = f then (g, v) :: fs else (g, w) :: fput f v fs) (if g = f then (g, x) :: gs else (g, y) :: putF f x gs)
    by_cases e : g = f
    · rw [if_pos e, if_pos e]; exact .cons hr t
    · rw [if_neg e, if_neg e]; exact .cons r ih

/-- the pairs of a dict -/
inductive Rks (K : Frg) (ρ : List Addr) (H : Hp) : List (Sum Int Str × Val) → List (Key × V) → Prop
  | nil : Rks K ρ H [] []
  | cons {k : Sum Int Str} {v : Val} {x : V} {fs : List (Sum Int Str × Val)} {gs : List (Key × V)} : Rv K ρ H v x → Rks K ρ H fs gs → Rks K ρ H ((k, v) :: fs) ((k, x) :: gs)
section
variable {K : Frg} {ρ ρ' : List Addr} {H H' : Hp}
theorem Rks.mono (p : ρ <+: ρ') (e : Ext H H') {fs : List (Sum Int Str × Val)} {gs : List (Key × V)} (h : Rks K ρ H fs gs) : Rks K ρ' H' fs gs := by
  induction h with
  | nil => exact .nil
  | cons r _ ih => exact .cons (r.mono p e) ih
theorem Rks.length {fs : List (Sum Int Str × Val)} {gs : List (Key × V)} (h : Rks K ρ H fs gs) : fs.length = gs.length := by
  induction h with
  | nil => rfl
  | cons _ _ ih => simp [ih]
/-- the value at a key -/
theorem Rks.look {k : Sum Int Str} {fs : List (Sum Int Str × Val)} {gs : List (Key × V)} (h : Rks K ρ H fs gs) : (∀ v, dget fs k = some v → ∃ x, valV gs k = some x ∧ Rv K ρ H v x) ∧ (dget fs k = none → valV gs k = none) := by
  induction h with
  | nil => exact ⟨fun v e => by simp [dget] at e, fun _ => rfl⟩
  | @cons j w x fs gs r _ ih =>
    by_cases e : j = k
    · subst e
      refine ⟨fun v hv => ⟨x, valV_pos rfl, ?_⟩, fun hv => ?_⟩
      · simp [dget] at hv
        exact hv ▸ r
      · simp [dget] at hv
    · rw [valV_neg (p := (j, x)) e]
      simpa [dget, e] using ih
theorem Rks.any {k : Sum Int Str} {fs : List (Sum Int Str × Val)} {gs : List (Key × V)} (h : Rks K ρ H fs gs) : (fs.any fun kv => decide (kv.1 = k)) = gs.any fun kv => decide (kv.1 = k) := by
  induction h with
  | nil => rfl
  | cons _ _ ih => simp [ih]
theorem Rks.app {fs fs' : List (Sum Int Str × Val)} {gs gs' : List (Key × V)} (h : Rks K ρ H fs gs) (h' : Rks K ρ H fs' gs') : Rks K ρ H (fs ++ fs') (gs ++ gs') := by
  induction h with
  | nil => exact h'
  | cons r _ ih => exact .cons r ih
theorem Rks.swap {k : Sum Int Str} {v : Val} {x : V} (hr : Rv K ρ H v x) {fs : List (Sum Int Str × Val)} {gs : List (Key × V)} (h : Rks K ρ H fs gs) : Rks K ρ H (fs.map fun kv => if kv.1 = k then (kv.1, v) else kv) (gs.map fun kv => if kv.1 = k then (kv.1, x) else kv) := by
  induction h with
  | nil => exact .nil
  | @cons j w y fs gs r _ ih =>
    simp only [List.map_cons]
    by_cases e : j = k
    · rw [if_pos e, if_pos e]; exact .cons hr ih
    · rw [if_neg e, if_neg e]; exact .cons r ih
theorem Rks.put {k : Sum Int Str} {v : Val} {x : V} (hr : Rv K ρ H v x) {fs : List (Sum Int Str × Val)} {gs : List (Key × V)} (h : Rks K ρ H fs gs) : Rks K ρ H (dput fs k v) (putK gs k x) := by
  unfold dput putK
  rw [h.any]
  split
  · exact h.swap hr
  · exact h.app (.cons hr .nil)
end

/-- a known list: the script -/
def Kn (K : Frg) (H : Hp) (a : Addr) (xs : List V) : Prop :=
  (∃ o, H a = some (.frz o (.lst xs))) ∨
    ∃ (o : PySem.Obj) (its : Array Value) (n : Nat), K.lookup a = some o ∧ o.cls = .type "list" ∧ o.dict = none ∧ o.data = .seq its n ∧ its.size ≤ sizeLine ∧ Vals xs its.toList
theorem Kn.sq {K : Frg} {H : Hp} {a : Addr} {xs : List V} (h : Kn K H a xs) : SqL K H a xs := by
  rcases h with ⟨o, h⟩ | h
  · exact .inl (.inr ⟨o, h⟩)
  · exact .inr h
theorem Kn.mono {K : Frg} {H H' : Hp} {a : Addr} {xs : List V} (e : Ext H H') (h : Kn K H a xs) : Kn K H' a xs := by
  rcases h with ⟨o, h⟩ | h
  · exact .inl ⟨o, e a _ trivial h⟩
  · exact .inr h

/-- an object of the store and one of the heap; ca: where the classes stand -/
inductive Ro (K : Frg) (ca : Str → Addr) (ρ : List Addr) (H : Hp) : Obj → HO → Prop
  | lst {vs : List Val} {xs : List V} : Rvs K ρ H vs xs → Ro K ca ρ H (.lst vs) (.lst xs)
  | ins {c : Str} {fs : List (Str × Val)} {gs : List (Str × V)} {dx : Addr} : Rfs K ρ H fs gs → Ro K ca ρ H (.ins c fs) (.ins (ca c) dx gs)
  | dct {fs : List (Sum Int Str × Val)} {gs : List (Key × V)} : Rks K ρ H fs gs → Ro K ca ρ H (.dct fs) (.dK gs)
theorem Ro.mono {K : Frg} {ca : Str → Addr} {ρ ρ' : List Addr} {H H' : Hp} (p : ρ <+: ρ') (e : Ext H H') {o : Obj} {ho : HO} (h : Ro K ca ρ H o ho) : Ro K ca ρ' H' o ho := by
  cases h with
  | lst r => exact .lst (r.mono p e)
  | ins r => exact .ins (r.mono p e)
  | dct r => exact .dct (r.mono p e)
theorem Ro.nper {K : Frg} {ca : Str → Addr} {ρ : List Addr} {H : Hp} {o : Obj} {ho : HO} (h : Ro K ca ρ H o ho) : ¬ Per ho := by
  cases h <;> exact fun z => z
theorem Ro.mut {K : Frg} {ca : Str → Addr} {ρ : List Addr} {H : Hp} {o : Obj} {ho : HO} (h : Ro K ca ρ H o ho) : Mut (some ho) := by
  cases h <;> exact trivial

/-- a locked thing: the script, or a dict that is walked -/
inductive Rk (K : Frg) (ρ : List Addr) (H : Hp) : Obj → Addr → Prop
  | lst {vs : List Val} {xs : List V} {a : Addr} : Rvs K ρ H vs xs → Kn K H a xs → Rk K ρ H (.lst vs) a
  | dct {fs : List (Sum Int Str × Val)} {gs : List (Key × V)} {od : PySem.Obj} {a : Addr} : H a = some (.frz od (.dK gs)) → Rks K ρ H fs gs → Rk K ρ H (.dct fs) a
theorem Rk.mono {K : Frg} {ρ ρ' : List Addr} {H H' : Hp} (p : ρ <+: ρ') (e : Ext H H') {o : Obj} {a : Addr} (h : Rk K ρ H o a) : Rk K ρ' H' o a := by
  cases h with
  | lst r k => exact .lst (r.mono p e) (k.mono e)
  | dct h r => exact .dct (e _ _ trivial h) (r.mono p e)
def Rc (K : Frg) (ca : Str → Addr) (ρ : List Addr) (H : Hp) (c : Cell) (a : Addr) : Prop :=
  if c.lk = true then Rk K ρ H c.o a else ∃ ho, H a = some ho ∧ Ro K ca ρ H c.o ho
/-- a cell whose place no other one has -/
def Cell.own (c : Cell) : Prop := c.lk = false ∨ ∃ l, c.o = .dct l

mutual
theorem unlA {K : Frg} {ρ : List Addr} {H H' : Hp} (sq : ∀ {b : Addr} {xs : List V}, SqT K H b xs → SqT K H' b xs) : ∀ {v : Val} {x : V}, Rv K ρ H v x → Rv K ρ H' v x
  | _, _, .non => .non
  | _, _, .bl b => .bl b
  | _, _, .int i => .int i
  | _, _, .str s => .str s
  | _, _, .tup h r => .tup (sq h) (unlB sq r)
  | _, _, .ref h => .ref h
theorem unlB {K : Frg} {ρ : List Addr} {H H' : Hp} (sq : ∀ {b : Addr} {xs : List V}, SqT K H b xs → SqT K H' b xs) : ∀ {vs : List Val} {xs : List V}, Rvs K ρ H vs xs → Rvs K ρ H' vs xs
  | _, _, .nil => .nil
  | _, _, .cons a b => .cons (unlA sq a) (unlB sq b)
end
/-- values stay where tuples do -/
theorem unl_rv {K : Frg} {ρ : List Addr} {H H' : Hp} (sq : ∀ {b : Addr} {xs : List V}, SqT K H b xs → SqT K H' b xs) : (∀ v x, Rv K ρ H v x → Rv K ρ H' v x) ∧ ∀ vs xs, Rvs K ρ H vs xs → Rvs K ρ H' vs xs :=
  ⟨fun _ _ h => unlA sq h, fun _ _ h => unlB sq h⟩
structure Rst (K : Frg) (ca : Str → Addr) (ρ : List Addr) (H : Hp) (st : Store) : Prop where
  len : ρ.length = st.length
  cell : ∀ (n : Nat) (c : Cell), st[n]? = some c → ∃ a, ρ[n]? = some a ∧ Rc K ca ρ H c a
  inj : ∀ (n m : Nat) (c d : Cell) (a : Addr), st[n]? = some c → st[m]? = some d → c.own → d.own → ρ[n]? = some a → ρ[m]? = some a → n = m
section
variable {K : Frg} {ca : Str → Addr} {ρ ρ' : List Addr} {H H' : Hp} {st : Store}
theorem Rst.obj (h : Rst K ca ρ H st) {n : Nat} {o : Obj} {a : Addr} (e : st[n]? = some ⟨o, false⟩) (ea : ρ[n]? = some a) : ∃ ho, H a = some ho ∧ Ro K ca ρ H o ho := by
  obtain ⟨b, e1, r⟩ := h.cell n _ e
  rw [ea] at e1
  cases e1
  simpa [Rc] using r
/-- a list of the store, to be read -/
theorem Rst.list (h : Rst K ca ρ H st) {n : Nat} {vs : List Val} {k : Bool} {a : Addr} (e : st[n]? = some ⟨.lst vs, k⟩) (ea : ρ[n]? = some a) : ∃ xs, SqL K H a xs ∧ Rvs K ρ H vs xs := by
  obtain ⟨b, e1, r⟩ := h.cell n _ e
  rw [ea] at e1
  cases e1
  cases k with
  | true =>
    have r : Rk K ρ H (.lst vs) a := by simpa [Rc] using r
    cases r with
    | lst r2 kn => exact ⟨_, kn.sq, r2⟩
  | false =>
    obtain ⟨ho, e2, r2⟩ := (show ∃ ho, H _ = some ho ∧ Ro K ca ρ H (.lst vs) ho by simpa [Rc] using r)
    cases r2 with
    | lst r3 => exact ⟨_, .inl (.inl e2), r3⟩
theorem Rst.insK (h : Rst K ca ρ H st) {n : Nat} {c : Str} {fs : List (Str × Val)} {k : Bool} {a : Addr} (e : st[n]? = some ⟨.ins c fs, k⟩) (ea : ρ[n]? = some a) : ∃ dx gs, H a = some (.ins (ca c) dx gs) ∧ Rfs K ρ H fs gs := by
  obtain ⟨b, e1, r⟩ := h.cell n _ e
  rw [ea] at e1
  cases e1
  cases k with
  | true =>
    have r : Rk K ρ H (.ins c fs) a := by simpa [Rc] using r
    cases r
  | false =>
    obtain ⟨ho, e2, r2⟩ := (show ∃ ho, H _ = some ho ∧ Ro K ca ρ H (.ins c fs) ho by simpa [Rc] using r)
    cases r2 with
    | ins r3 => exact ⟨_, _, e2, r3⟩
theorem Rst.dct (h : Rst K ca ρ H st) {n : Nat} {fs : List (Sum Int Str × Val)} {k : Bool} {a : Addr} (e : st[n]? = some ⟨.dct fs, k⟩) (ea : ρ[n]? = some a) : ∃ gs, Rd H a (.dK gs) ∧ Rks K ρ H fs gs := by
  obtain ⟨b, e1, r⟩ := h.cell n _ e
  rw [ea] at e1
  cases e1
  cases k with
  | true =>
    have r : Rk K ρ H (.dct fs) a := by simpa [Rc] using r
    cases r with
    | dct h r => exact ⟨_, .inr ⟨_, h⟩, r⟩
  | false =>
    obtain ⟨ho, e2, r2⟩ := (show ∃ ho, H _ = some ho ∧ Ro K ca ρ H (.dct fs) ho by simpa [Rc] using r)
    cases r2 with
    | dct r3 => exact ⟨_, .inl e2, r3⟩
theorem Rst.dctU (h : Rst K ca ρ H st) {n : Nat} {fs : List (Sum Int Str × Val)} {a : Addr} (e : st[n]? = some ⟨.dct fs, false⟩) (ea : ρ[n]? = some a) : ∃ gs, H a = some (.dK gs) ∧ Rks K ρ H fs gs := by
  obtain ⟨b, e1, r⟩ := h.cell n _ e
  rw [ea] at e1
  cases e1
  obtain ⟨ho, e2, r2⟩ := (show ∃ ho, H _ = some ho ∧ Ro K ca ρ H (.dct fs) ho by simpa [Rc] using r)
  cases r2 with
  | dct r3 => exact ⟨_, e2, r3⟩
theorem Rst.dctL (h : Rst K ca ρ H st) {n : Nat} {fs : List (Sum Int Str × Val)} {a : Addr} (e : st[n]? = some ⟨.dct fs, true⟩) (ea : ρ[n]? = some a) : ∃ od gs, H a = some (.frz od (.dK gs)) ∧ Rks K ρ H fs gs := by
  obtain ⟨b, e1, r⟩ := h.cell n _ e
  rw [ea] at e1
  cases e1
  have r : Rk K ρ H (.dct fs) a := by simpa [Rc] using r
  cases r with
  | dct h r => exact ⟨_, _, h, r⟩
theorem Rst.there (h : Rst K ca ρ H st) {n : Nat} {c : Cell} {a : Addr} (hc : st[n]? = some c) (ea : ρ[n]? = some a) (lc : c.own) : H a ≠ none := by
  intro z
  obtain ⟨co, ck⟩ := c
  cases ck with
  | false =>
    obtain ⟨u, hu, _⟩ := h.obj hc ea
    rw [z] at hu; cases hu
  | true =>
    rcases lc with lc | ⟨l, lc⟩
    · cases lc
    · cases (show co = .dct l from lc)
      obtain ⟨od, gs, hu, _⟩ := h.dctL hc ea
      rw [z] at hu; cases hu
theorem keyOf_ok {v : Val} {x : V} {k : Sum Int Str} (h : keyOf v = some k) (r : Rv K ρ H v x) : x = kV k := by
  cases r <;> simp [keyOf] at h <;> subst h <;> rfl
theorem Rst.lt (h : Rst K ca ρ H st) {n : Nat} {a : Addr} (ea : ρ[n]? = some a) : ∃ c, st[n]? = some c := by
  have hlt := (List.getElem?_eq_some_iff.mp ea).1
  rw [h.len] at hlt
  exact ⟨_, List.getElem?_eq_getElem hlt⟩
theorem Rc.mono (p : ρ <+: ρ') (e : Ext H H') {c : Cell} {a : Addr} (h : Rc K ca ρ H c a) (k : ∀ ho, H a = some ho → Mut (some ho) → H' a = some ho) : Rc K ca ρ' H' c a := by
  unfold Rc at h ⊢
  split at h
  · rename_i hl
    rw [if_pos hl]
    exact h.mono p e
  · rename_i hl
    rw [if_neg hl]
    obtain ⟨ho, e1, r⟩ := h
    exact ⟨ho, k ho e1 r.mut, r.mono p e⟩
/-- a new object -/
theorem Rst.new (h : Rst K ca ρ H st) {p : Addr} (hp : H p = none) {o : Obj} {ho : HO} (e : Ext H H') (k : ∀ a u, H a = some u → H' a = some u) (hn : H' p = some ho) (r : Ro K ca ρ H o ho) : Rst K ca (ρ ++ [p]) H' (st ++ [⟨o, false⟩]) := by
  have pre : ρ <+: ρ ++ [p] := List.prefix_append _ _
  refine ⟨by simp [h.len], fun n c hc => ?_, fun n m c d a hc hd lc ld ea eb => ?_⟩
  · by_cases hlt : n < st.length
    · rw [List.getElem?_append_left hlt] at hc
      obtain ⟨a, ea, rc⟩ := h.cell n c hc
      refine ⟨a, ?_, rc.mono pre e fun u hu _ => k a u hu⟩
      rw [List.getElem?_append_left (by rw [h.len]; exact hlt)]
      exact ea
    · rw [List.getElem?_append_right (by omega)] at hc
      have hz : n - st.length = 0 := by
        by_cases hz : n - st.length = 0
        · exact hz
        · rw [List.getElem?_eq_none (by simp; omega)] at hc; cases hc
      rw [hz] at hc
      cases hc
      refine ⟨p, ?_, ?_⟩
      · rw [List.getElem?_append_right (by rw [h.len]; omega), h.len, hz]; rfl
      · show Rc K ca (ρ ++ [p]) H' ⟨o, false⟩ p
        unfold Rc
        rw [if_neg (by simp)]
        exact ⟨ho, hn, r.mono pre e⟩
  · have old : ∀ {n : Nat} {c : Cell} {a : Addr}, n < st.length → (st ++ [⟨o, false⟩])[n]? = some c → c.own → (ρ ++ [p])[n]? = some a → st[n]? = some c ∧ ρ[n]? = some a ∧ H a ≠ none := by
      intro n c a hlt hc lc ea
      rw [List.getElem?_append_left hlt] at hc
      rw [List.getElem?_append_left (by rw [h.len]; exact hlt)] at ea
      exact ⟨hc, ea, h.there hc ea lc⟩
    have newE : ∀ {n : Nat} {c : Cell} {a : Addr}, ¬ n < st.length → (st ++ [⟨o, false⟩])[n]? = some c → (ρ ++ [p])[n]? = some a → n = st.length ∧ a = p := by
      intro n c a hlt hc ea
      rw [List.getElem?_append_right (by rw [h.len]; omega), h.len] at ea
      have hz : n - st.length = 0 := by
        by_cases hz : n - st.length = 0
        · exact hz
        · rw [List.getElem?_eq_none (by simp; omega)] at ea; cases ea
      rw [hz] at ea
      cases ea
      exact ⟨by omega, rfl⟩
    by_cases h1 : n < st.length <;> by_cases h2 : m < st.length
    · obtain ⟨a1, a2, _⟩ := old h1 hc lc ea
      obtain ⟨b1, b2, _⟩ := old h2 hd ld eb
      exact h.inj n m c d a a1 b1 lc ld a2 b2
    · obtain ⟨_, _, z⟩ := old h1 hc lc ea
      obtain ⟨_, rfl⟩ := newE h2 hd eb
      exact absurd hp z
    · obtain ⟨_, _, z⟩ := old h2 hd ld eb
      obtain ⟨_, rfl⟩ := newE h1 hc ea
      exact absurd hp z
    · obtain ⟨rfl, _⟩ := newE h1 hc ea
      obtain ⟨rfl, _⟩ := newE h2 hd eb
      rfl
theorem Rst.newU (h : Rst K ca ρ H st) {p : Addr} (hp : H p = none) {o : Obj} {ho : HO} (r : Ro K ca ρ H o ho) : Rst K ca (ρ ++ [p]) (upd H p ho) (st ++ [⟨o, false⟩]) :=
  h.new hp (Ext.new hp) (fun a u e => by rw [upd_ne (ne_of_none e hp)]; exact e) upd_same r
/-- an object changed -/
theorem Rst.put (h : Rst K ca ρ H st) {n : Nat} {o o' : Obj} {ho : HO} {a : Addr} (e : st[n]? = some ⟨o, false⟩) (ea : ρ[n]? = some a) (r : Ro K ca ρ H o' ho) : Rst K ca ρ (upd H a ho) (st.set n ⟨o', false⟩) ∧ Ext H (upd H a ho) := by
  obtain ⟨u, hu, ru⟩ := h.obj e ea
  have ex : Ext H (upd H a ho) := Ext.put hu ru.nper
  refine ⟨⟨by simp [h.len], fun m c hc => ?_, fun i j c d b hc hd lc ld e1 e2 => ?_⟩, ex⟩
  · by_cases hm : m = n
    · subst hm
      have hlt := (List.getElem?_eq_some_iff.mp e).1
      rw [List.getElem?_set_self hlt] at hc
      cases hc
      refine ⟨a, ea, ?_⟩
      unfold Rc
      rw [if_neg (by simp)]
      exact ⟨ho, upd_same, r.mono (List.prefix_refl _) ex⟩
    · rw [List.getElem?_set_ne (Ne.symm hm)] at hc
      obtain ⟨b, eb, rb⟩ := h.cell m c hc
      refine ⟨b, eb, ?_⟩
      by_cases lc : c.lk = true
      · unfold Rc at rb ⊢
        rw [if_pos lc] at rb ⊢
        exact rb.mono (List.prefix_refl _) ex
      · have lc' : c.lk = false := by simpa using lc
        refine rb.mono (List.prefix_refl _) ex fun w hw _ => ?_
        have : b ≠ a := fun z => by
          subst z
          exact hm (h.inj m n c _ b hc e (.inl lc') (.inl rfl) eb ea)
        rw [upd_ne this]; exact hw
  · have back : ∀ {i : Nat} {c : Cell}, (st.set n ⟨o', false⟩)[i]? = some c → c.own → ∃ c', st[i]? = some c' ∧ c'.own := by
      intro i c hc lc
      by_cases hi : i = n
      · subst hi; exact ⟨_, e, .inl rfl⟩
      · rw [List.getElem?_set_ne (Ne.symm hi)] at hc
        exact ⟨c, hc, lc⟩
    obtain ⟨c', hc', lc'⟩ := back hc lc
    obtain ⟨d', hd', ld'⟩ := back hd ld
    exact h.inj i j c' d' b hc' hd' lc' ld' e1 e2
/-- one more thing in the heap -/
theorem Rst.more {q : Addr} {o : HO} (h : Rst K ca ρ H st) (hq : H q = none) : Rst K ca ρ (upd H q o) st := by
  refine ⟨h.len, fun m c hc => ?_, h.inj⟩
  obtain ⟨a, ea, rc⟩ := h.cell m c hc
  exact ⟨a, ea, rc.mono (List.prefix_refl _) (Ext.new hq) fun u hu _ => by rw [upd_ne (ne_of_none hu hq)]; exact hu⟩
/-- a dict is locked -/
theorem Rst.lock (h : Rst K ca ρ H st) {n : Nat} {fs : List (Sum Int Str × Val)} {gs : List (Key × V)} {a : Addr} (e : st[n]? = some ⟨.dct fs, false⟩) (ea : ρ[n]? = some a) (ha : H a = some (.dK gs)) (r : Rks K ρ H fs gs) (od : PySem.Obj) :
    Rst K ca ρ (upd H a (.frz od (.dK gs))) (st.set n ⟨.dct fs, true⟩) ∧ Ext H (upd H a (.frz od (.dK gs))) := by
  have ex : Ext H (upd H a (.frz od (.dK gs))) := Ext.put ha (fun z => z)
  refine ⟨⟨by simp [h.len], fun m c hc => ?_, fun i j c d b hc hd lc ld e1 e2 => ?_⟩, ex⟩
  · by_cases hm : m = n
    · subst hm
      rw [List.getElem?_set_self (List.getElem?_eq_some_iff.mp e).1] at hc
      cases hc
      refine ⟨a, ea, ?_⟩
      unfold Rc
      rw [if_pos rfl]
      exact .dct upd_same (r.mono (List.prefix_refl _) ex)
    · rw [List.getElem?_set_ne (Ne.symm hm)] at hc
      obtain ⟨b, eb, rb⟩ := h.cell m c hc
      refine ⟨b, eb, ?_⟩
      by_cases lc : c.lk = true
      · unfold Rc at rb ⊢
        rw [if_pos lc] at rb ⊢
        exact rb.mono (List.prefix_refl _) ex
      · have lc' : c.lk = false := by simpa using lc
        refine rb.mono (List.prefix_refl _) ex fun w hw _ => ?_
        have : b ≠ a := fun z => by
          subst z
          exact hm (h.inj m n c _ b hc e (.inl lc') (.inl rfl) eb ea)
        rw [upd_ne this]; exact hw
  · have back : ∀ {i : Nat} {c : Cell}, (st.set n ⟨.dct fs, true⟩)[i]? = some c → c.own → ∃ c', st[i]? = some c' ∧ c'.own := by
      intro i c hc lc
      by_cases hi : i = n
      · subst hi; exact ⟨_, e, .inl rfl⟩
      · rw [List.getElem?_set_ne (Ne.symm hi)] at hc
        exact ⟨c, hc, lc⟩
    obtain ⟨c', hc', lc'⟩ := back hc lc
    obtain ⟨d', hd', ld'⟩ := back hd ld
    exact h.inj i j c' d' b hc' hd' lc' ld' e1 e2
/-- .. and set free -/
theorem Rst.unlock (h : Rst K ca ρ H st) {n : Nat} {fs : List (Sum Int Str × Val)} {gs : List (Key × V)} {od : PySem.Obj} {a : Addr} (e : st[n]? = some ⟨.dct fs, true⟩) (ea : ρ[n]? = some a) (ha : H a = some (.frz od (.dK gs))) :
    Rst K ca ρ (upd H a (.dK gs)) (st.set n ⟨.dct fs, false⟩) ∧ (∀ v x, Rv K ρ H v x → Rv K ρ (upd H a (.dK gs)) v x) := by
  have sq : ∀ {b : Addr} {xs : List V}, SqT K H b xs → SqT K (upd H a (.dK gs)) b xs := fun {b xs} z => by
    rcases z with z | z
    · rcases z with z | ⟨o, z⟩
      · exact .inl (.inl (by rw [upd_ne (fun q => by rw [q, ha] at z; cases z)]; exact z))
      · exact .inl (.inr ⟨o, by rw [upd_ne (fun q => by rw [q, ha] at z; cases z)]; exact z⟩)
    · exact .inr z
  have rv := unl_rv (ρ := ρ) sq
  have kn : ∀ {b : Addr} {xs : List V}, Kn K H b xs → Kn K (upd H a (.dK gs)) b xs := fun {b xs} z => by
    rcases z with ⟨o, z⟩ | z
    · exact .inl ⟨o, by rw [upd_ne (fun q => by rw [q, ha] at z; cases z)]; exact z⟩
    · exact .inr z
  have rfs : ∀ {l : List (Str × Val)} {m : List (Str × V)}, Rfs K ρ H l m → Rfs K ρ (upd H a (.dK gs)) l m := fun z => by
    induction z with
    | nil => exact .nil
    | cons r _ ih => exact .cons (rv.1 _ _ r) ih
  have rks : ∀ {l : List (Sum Int Str × Val)} {m : List (Key × V)}, Rks K ρ H l m → Rks K ρ (upd H a (.dK gs)) l m := fun z => by
    induction z with
    | nil => exact .nil
    | cons r _ ih => exact .cons (rv.1 _ _ r) ih
  have ro : ∀ {o : Obj} {ho : HO}, Ro K ca ρ H o ho → Ro K ca ρ (upd H a (.dK gs)) o ho := fun z => by
    cases z with
    | lst r => exact .lst (rv.2 _ _ r)
    | ins r => exact .ins (rfs r)
    | dct r => exact .dct (rks r)
  refine ⟨⟨by simp [h.len], fun m c hc => ?_, fun i j c d b hc hd lc ld e1 e2 => ?_⟩, rv.1⟩
  · by_cases hm : m = n
    · subst hm
      rw [List.getElem?_set_self (List.getElem?_eq_some_iff.mp e).1] at hc
      cases hc
      refine ⟨a, ea, ?_⟩
      unfold Rc
      rw [if_neg (by simp)]
      obtain ⟨od2, gs2, h2, r2⟩ := h.dctL e ea
      rw [ha] at h2
      cases h2
      exact ⟨_, upd_same, .dct (rks r2)⟩
    · rw [List.getElem?_set_ne (Ne.symm hm)] at hc
      obtain ⟨b, eb, rb⟩ := h.cell m c hc
      refine ⟨b, eb, ?_⟩
      by_cases lc : c.lk = true
      · unfold Rc at rb ⊢
        rw [if_pos lc] at rb ⊢
        obtain ⟨co, ck⟩ := c
        cases (show ck = true from lc)
        have rb : Rk K ρ H co b := rb
        show Rk K ρ (upd H a (.dK gs)) co b
        cases rb with
        | lst r k => exact .lst (rv.2 _ _ r) (kn k)
        | dct hb r =>
          have hne : b ≠ a := fun z => by
            subst z
            exact hm (h.inj m n _ _ b hc e (.inr ⟨_, rfl⟩) (.inr ⟨_, rfl⟩) eb ea)
          exact .dct ((upd_ne hne).trans hb) (rks r)
      · unfold Rc at rb ⊢
        rw [if_neg lc] at rb ⊢
        obtain ⟨ho, hb, r⟩ := rb
        refine ⟨ho, ?_, ro r⟩
        rw [upd_ne]
        · exact hb
        · intro z
          subst z
          exact hm (h.inj m n _ _ b hc e (.inl (by simpa using lc)) (.inr ⟨_, rfl⟩) eb ea)
  · have back : ∀ {i : Nat} {c : Cell}, (st.set n ⟨.dct fs, false⟩)[i]? = some c → c.own → ∃ c', st[i]? = some c' ∧ c'.own := by
      intro i c hc lc
      by_cases hi : i = n
      · subst hi; exact ⟨_, e, .inr ⟨_, rfl⟩⟩
      · rw [List.getElem?_set_ne (Ne.symm hi)] at hc
        exact ⟨c, hc, lc⟩
    obtain ⟨c', hc', lc'⟩ := back hc lc
    obtain ⟨d', hd', ld'⟩ := back hd ld
    exact h.inj i j c' d' b hc' hd' lc' ld' e1 e2
end

structure Renv (K : Frg) (ρ : List Addr) (H : Hp) (s : List (Option Val)) (σ : L2.St) : Prop where
  len : s.length = σ.length
  at_ : ∀ (i : Nat) (v : Val), s[i]? = some (some v) → ∃ x, σ[i]? = some (some x) ∧ Rv K ρ H v x
theorem Renv.mono {K : Frg} {ρ ρ' : List Addr} {H H' : Hp} (p : ρ <+: ρ') (e : Ext H H') {s : List (Option Val)} {σ : L2.St} (h : Renv K ρ H s σ) : Renv K ρ' H' s σ :=
  ⟨h.len, fun i v hv => let ⟨x, h1, h2⟩ := h.at_ i v hv; ⟨x, h1, h2.mono p e⟩⟩
theorem Renv.set {K : Frg} {ρ : List Addr} {H : Hp} {s : List (Option Val)} {σ : L2.St} (h : Renv K ρ H s σ) {v : Val} {x : V} (r : Rv K ρ H v x) (i : Nat) : Renv K ρ H (s.set i (some v)) (σ.set i (some x)) := by
  refine ⟨by simp [h.len], fun j w hw => ?_⟩
  by_cases hj : j = i
  · subst hj
    by_cases hlt : j < s.length
    · rw [List.getElem?_set_self hlt] at hw
      cases hw
      exact ⟨x, List.getElem?_set_self (by rw [← h.len]; exact hlt), r⟩
    · rw [List.getElem?_eq_none (by simpa using hlt)] at hw; cases hw
  · rw [List.getElem?_set_ne (Ne.symm hj)] at hw
    obtain ⟨y, h1, h2⟩ := h.at_ j w hw
    exact ⟨y, by rw [List.getElem?_set_ne (Ne.symm hj)]; exact h1, h2⟩
theorem Renv.unset {K : Frg} {ρ : List Addr} {H : Hp} {s : List (Option Val)} {σ : L2.St} (h : Renv K ρ H s σ) (i : Nat) : Renv K ρ H (s.set i none) (σ.set i none) := by
  refine ⟨by simp [h.len], fun j w hw => ?_⟩
  by_cases hj : j = i
  · subst hj
    by_cases hlt : j < s.length
    · rw [List.getElem?_set_self hlt] at hw; cases hw
    · rw [List.getElem?_eq_none (by simpa using hlt)] at hw; cases hw
  · rw [List.getElem?_set_ne (Ne.symm hj)] at hw
    obtain ⟨y, h1, h2⟩ := h.at_ j w hw
    exact ⟨y, by rw [List.getElem?_set_ne (Ne.symm hj)]; exact h1, h2⟩

section
variable (K : Frg) (ca : Str → Addr)
/-- a run's end, seen from (ρ, H) on -/
def Fin {α β : Type} (R : List Addr → Hp → α → β → Prop) (r : Res α) (ρ : List Addr) (H : Hp) (σ : L2.St) (Q : β → Hp → Prop) (W : WX) : Prop :=
  match r with
  | .ok a st => ∀ ρ' H' b, ρ <+: ρ' → Ext H H' → Rst K ca ρ' H' st → R ρ' H' a b → Q b H'
  | .err c v st => ∀ ρ' H' d w, ρ <+: ρ' → Ext H H' → Rst K ca ρ' H' st → H' d = some (.xd [(("value" : Str), w)]) → Rv K ρ' H' v w → W (.ref (ca c)) (some d) σ H'
  | .stk => False
end
section
variable {K : Frg} {ca : Str → Addr} {α β γ δ : Type} {R : List Addr → Hp → α → β → Prop} {R' : List Addr → Hp → γ → δ → Prop} {ρ ρ' : List Addr} {H H' : Hp} {σ : L2.St} {W : WX}
theorem Fin.mono {r : Res α} {Q : β → Hp → Prop} (p : ρ <+: ρ') (e : Ext H H') (h : Fin K ca R r ρ H σ Q W) : Fin K ca R r ρ' H' σ Q W := by
  cases r with
  | ok a st => exact fun ρ2 H2 b p2 e2 => h ρ2 H2 b (p.trans p2) (e.tr e2)
  | err c v st => exact fun ρ2 H2 d w p2 e2 => h ρ2 H2 d w (p.trans p2) (e.tr e2)
  | stk => exact h
theorem Fin.bind {r : Res α} {f : α → Store → Res γ} {Q : δ → Hp → Prop} (h : Fin K ca R' (r.bind f) ρ H σ Q W) :
    Fin K ca R r ρ H σ (fun b H1 => ∃ ρ1 a st1, ρ <+: ρ1 ∧ Ext H H1 ∧ Rst K ca ρ1 H1 st1 ∧ R ρ1 H1 a b ∧ r = .ok a st1 ∧ Fin K ca R' (f a st1) ρ1 H1 σ Q W) W := by
  cases r with
  | ok a st => exact fun ρ1 H1 b p e hs hr => ⟨ρ1, a, st, p, e, hs, hr, rfl, Fin.mono p e h⟩
  | err c v st => exact h
  | stk => exact h
theorem Fin.ok {a : α} {b : β} {st : Store} {Q : β → Hp → Prop} (h : Fin K ca R (.ok a st) ρ H σ Q W) (hs : Rst K ca ρ H st) (hr : R ρ H a b) : Q b H := h ρ H b (List.prefix_refl _) Ext.rf hs hr
end
end AM
end

section
set_option maxRecDepth 100000
set_option maxHeartbeats 4000000
namespace AM
open PySem L2 PyProof.Rows

theorem dget_rd {H : Hp} {a : Addr} {kvs : List (Key × V)} {k : Key} (e : Rd H a (.dK kvs)) : DGet H a (kV k) (valV kvs k) := .inl ⟨kvs, k, e, rfl, rfl⟩
theorem line_le : line ≤ sizeLine := by rw [sizeLine_eq]; decide
theorem le_line {n : Nat} (h : n ≤ line) : n ≤ sizeLine := Nat.le_trans h line_le
theorem lt_line {n : Nat} (h : n < line) : n < sizeLine := Nat.lt_of_lt_of_le h line_le

section
variable {K : Frg} {ca : Str → Addr} {ρ : List Addr} {H : Hp} {st : Store}
theorem mapM_deep {n : Nat} (ih : ∀ (v : Val) (x : V) (d : PyData), deep st n v = some d → Rv K ρ H v x → Dp K H x d ∧ d.depth ≤ n) :
    ∀ (l : List Val) (xs : List V) (ds : List PyData), l.mapM (deep st n) = some ds → Rvs K ρ H l xs → DpAll K H xs ds ∧ PyData.depthAll ds ≤ n
  | [], _, ds, h, .nil => by
    simp at h
    subst h
    exact ⟨.nil, by simp [PyData.depthAll]⟩
  | v :: l, _, ds, h, .cons r t => by
    rw [List.mapM_cons] at h
    cases e1 : deep st n v with
    | none => rw [e1] at h; simp at h
    | some d =>
      rw [e1] at h
      cases e2 : l.mapM (deep st n) with
      | none => rw [e2] at h; simp at h
      | some es =>
        rw [e2] at h
        simp at h
        subst h
        obtain ⟨a1, a2⟩ := ih v _ d e1 r
        obtain ⟨b1, b2⟩ := mapM_deep ih l _ es e2 t
        exact ⟨.cons a1 b1, by simp only [PyData.depthAll]; omega⟩
theorem deep_ok (hs : Rst K ca ρ H st) : ∀ (n : Nat) (v : Val) (x : V) (d : PyData), deep st n v = some d → Rv K ρ H v x → Dp K H x d ∧ d.depth ≤ n := by
  intro n
  induction n with
  | zero =>
    intro v x d h r
    cases r with
    | non => simp [deep] at h; subst h; exact ⟨.non, by simp [PyData.depth]⟩
    | bl b => simp [deep] at h; subst h; exact ⟨.bl b, by simp [PyData.depth]⟩
    | int i => simp [deep] at h; subst h; exact ⟨.int i, by simp [PyData.depth]⟩
    | str s => simp [deep] at h; subst h; exact ⟨.str s, by simp [PyData.depth]⟩
    | tup _ _ => simp [deep] at h
    | ref _ => simp [deep] at h
  | succ n ih =>
    intro v x d h r
    cases r with
    | non => simp [deep] at h; subst h; exact ⟨.non, by simp [PyData.depth]⟩
    | bl b => simp [deep] at h; subst h; exact ⟨.bl b, by simp [PyData.depth]⟩
    | int i => simp [deep] at h; subst h; exact ⟨.int i, by simp [PyData.depth]⟩
    | str s => simp [deep] at h; subst h; exact ⟨.str s, by simp [PyData.depth]⟩
    | @tup a vs xs hq hr =>
      simp only [deep] at h
      cases e : vs.mapM (deep st n) with
      | none => rw [e] at h; simp at h
      | some ds =>
        rw [e] at h
        simp at h
        subst h
        obtain ⟨a1, a2⟩ := mapM_deep ih vs xs ds e hr
        exact ⟨.tup hq a1, by simp only [PyData.depth]; omega⟩
    | @ref m a ea =>
      obtain ⟨c, hc⟩ := hs.lt ea
      obtain ⟨o, k⟩ := c
      simp only [deep, hc] at h
      cases o with
      | ins c f => simp at h
      | dct f => simp at h
      | lst vs =>
        simp only at h
        obtain ⟨xs, hq, hr⟩ := hs.list hc ea
        cases e : vs.mapM (deep st n) with
        | none => rw [e] at h; simp at h
        | some ds =>
          rw [e] at h
          simp at h
          subst h
          obtain ⟨a1, a2⟩ := mapM_deep ih vs xs ds e hr
          exact ⟨.lst hq a1, by simp only [PyData.depth]; omega⟩
theorem dp_ok (hs : Rst K ca ρ H st) {v : Val} {x : V} {d : PyData} (h : dp st v = some d) (r : Rv K ρ H v x) : Dp K H x d ∧ SeqAt.shaped d = true := by
  unfold dp at h
  cases e : deep st 60 v with
  | none => rw [e] at h; cases h
  | some d' =>
    rw [e] at h
    by_cases hl : d'.canLay0 = true
    · simp only [if_pos hl] at h
      cases h
      obtain ⟨a, b⟩ := deep_ok hs 60 v x d e r
      refine ⟨a, ?_⟩
      unfold SeqAt.shaped
      rw [hl, Bool.true_and]
      exact decide_eq_true (by omega)
    · simp only [if_neg hl] at h
      cases h
end

section
variable {X : Cx} {ca : Str → Addr}
/-- an operation of two values, whose end is told by the machine -/
def r2M (K : Frg) (ca : Str → Addr) (f : Store → Val → Val → Res Val) : R2 := fun x y H Q => ∃ ρ st vx vy σ W, Rst K ca ρ H st ∧ Rv K ρ H vx x ∧ Rv K ρ H vy y ∧ Fin K ca (Rv K) (f st vx vy) ρ H σ Q W

theorem bits_of {i : Int} {k : Nat} (h : i.natAbs < 2 ^ k) : Builtin.Int.intBits i ≤ k := by
  unfold Builtin.Int.intBits
  split
  · omega
  · rename_i hz
    have hne : i.natAbs ≠ 0 := by
      intro e
      apply hz
      simpa using e
    have := (Nat.log2_lt hne).mpr h
    omega

theorem op_binM {o : Operator} : OpR X (binaryOp o) (r2M X.K ca fun st x y => opBin st o x y) := by
  intro pins s σ H x y v u Q I rx ry h
  obtain ⟨ρ, st, vx, vy, σ0, W, hs, hx, hy, hf⟩ := h
  replace hf : Fin X.K ca (Rv X.K) (opBin st o vx vy) ρ H σ0 Q W := hf
  unfold opBin at hf
  split at hf
  · cases hx; cases hy
    exact op_add pins s σ H _ _ v u Q I rx ry ⟨_, _, rfl, rfl, hf.ok hs (.int _)⟩
  · cases hx; cases hy
    exact op_sub pins s σ H _ _ v u Q I rx ry ⟨_, _, rfl, rfl, hf.ok hs (.int _)⟩
  · cases hx; cases hy
    split at hf
    · rename_i hc
      exact op_mul pins s σ H _ _ v u Q I rx ry ⟨_, _, rfl, rfl, hc, hf.ok hs (.int _)⟩
    · exact hf.elim
  · cases hx; cases hy
    split at hf
    · rename_i hc
      exact op_mod pins s σ H _ _ v u Q I rx ry ⟨_, _, rfl, rfl, hc, hf.ok hs (.int _)⟩
    · exact hf.elim
  · cases hx; cases hy
    split at hf
    · rename_i hc
      exact op_fdivW pins s σ H _ _ v u Q I rx ry ⟨_, _, rfl, rfl, hc, hf.ok hs (.int _)⟩
    · exact hf.elim
  · cases hx; cases hy
    split at hf
    · rename_i i j hc
      obtain ⟨t, rfl⟩ := rx
      obtain ⟨t', rfl⟩ := ry
      have hb := bits_of hc.2.2
      have hz : (Builtin.Int.intBits i : Int) * j ≤ 2 ^ 27 := by
        have h1 : (Builtin.Int.intBits i : Int) ≤ 1000 := by exact_mod_cast hb
        have h2 : (Builtin.Int.intBits i : Int) * j ≤ 1000 * 64 := Int.mul_le_mul h1 hc.2.1 hc.1 (by decide)
        have h3 : ((1000 : Int) * 64) ≤ 2 ^ 27 := by decide
        omega
      exact pow_int hc.1 hz ⟨.int _, H, I.tok _, ⟨_, rfl⟩, hf.ok hs (.int _)⟩
    · exact hf.elim
  · cases hx; cases hy
    split at hf
    · rename_i hc
      exact op_add_str pins s σ H _ _ v u Q I rx ry ⟨_, _, rfl, rfl, le_line hc, hf.ok hs (.str _)⟩
    · exact hf.elim
  · split at hf
    · rename_i a b x1 y1 ea eb
      split at hf
      · rename_i hc
        cases hx with
        | ref ha =>
          cases hy with
          | ref hb =>
            obtain ⟨_, h1, r1⟩ := hs.obj ea ha
            obtain ⟨_, h2, r2⟩ := hs.obj eb hb
            cases r1 with
            | lst q1 =>
              cases r2 with
              | lst q2 =>
                refine op_cat pins s σ H _ _ v u Q I rx ry ⟨_, _, _, _, rfl, rfl, h1, h2, ?_, fun p hp => ?_⟩
                · rw [← q1.length, ← q2.length]; exact le_line hc
                · have n1 := hs.newU hp (.lst (q1.app q2))
                  exact hf _ _ _ (List.prefix_append _ _) (Ext.new hp) n1 (.ref (by rw [List.getElem?_append_right (by rw [hs.len]; exact Nat.le_refl _), hs.len]; simp))
      · exact hf.elim
    · exact hf.elim
  · exact hf.elim

/-- a comparison -/
def rCmpM (K : Frg) (ca : Str → Addr) (o : CmpOp) : R2 := fun x y H Q => ∃ ρ st vx vy k, Rst K ca ρ H st ∧ Rv K ρ H vx x ∧ Rv K ρ H vy y ∧ opCmp st o vx vy = some k ∧ Q (.bl k) H

theorem flat_of {K : Frg} {ρ : List Addr} {H : Hp} {v : Val} {x : V} (h : isFlat v = true) (r : Rv K ρ H v x) : flatV x = true := by
  cases r <;> first | rfl | simp [isFlat] at h
theorem flatEq_of {K : Frg} {ρ : List Addr} {H : Hp} {v w : Val} {x y : V} (h : isFlat v = true) (h2 : isFlat w = true) (r : Rv K ρ H v x) (r2 : Rv K ρ H w y) : flatEq v w = eqV x y := by
  cases r <;> cases r2 <;> simp_all [isFlat, flatEq, eqV]
  all_goals (first | rfl | (rename_i a b; by_cases e : a = b <;> simp [e]))
theorem flats_of {K : Frg} {ρ : List Addr} {H : Hp} : ∀ {l : List Val} {xs : List V}, l.all isFlat = true → Rvs K ρ H l xs → xs.all flatV = true
  | _, _, _, .nil => rfl
  | _, _, h, .cons r t => by
    simp only [List.all_cons, Bool.and_eq_true] at h ⊢
    exact ⟨flat_of h.1 r, flats_of h.2 t⟩
theorem inV_of {K : Frg} {ρ : List Addr} {H : Hp} {v : Val} {x : V} (hv : isFlat v = true) (r : Rv K ρ H v x) : ∀ {l : List Val} {xs : List V}, l.all isFlat = true → Rvs K ρ H l xs → (l.any fun z => flatEq z v) = inV x xs
  | _, _, _, .nil => rfl
  | _, _, h, .cons r2 t => by
    simp only [List.all_cons, Bool.and_eq_true] at h
    show (flatEq _ _ || _) = (eqV _ _ || _)
    rw [flatEq_of h.1 hv r2 r, inV_of hv r h.2 t]
    rfl
theorem one_sign {c : Str} (h : c.length = 1) : c = ⟨#[c.cps.getD 0 0]⟩ := by
  obtain ⟨a⟩ := c
  have h' : a.size = 1 := h
  congr 1
  apply Array.ext
  · simp [h']
  · intro i h1 h2
    have : i = 0 := by simp at h2; omega
    subst this
    simp [h', Array.getD]

theorem op_inM (hu : X.A.units + 65 < cLine) {pins : List (Addr × PySem.Obj)} {s : Shared} {σ : L2.St} {H : Hp} {x y : V} {v u : Value} {Q : VK} (I : Inv X pins σ H s) (rx : RelV x v) (ry : RelV y u)
    {ρ : List Addr} {st : Store} {vx vy : Val} {k : Bool} (hs : Rst X.K ca ρ H st) (hx : Rv X.K ρ H vx x) (hy : Rv X.K ρ H vy y) (h : opIn st vx vy = some k) :
    (Q (.bl k) H → wpAny (model X.prog X.w) X.A (compareOp .In v u) (EP X pins σ Q) X.xe s) ∧ (Q (.bl (!k)) H → wpAny (model X.prog X.w) X.A (compareOp .NotIn v u) (EP X pins σ Q) X.xe s) := by
  unfold opIn at h
  split at h
  · rename_i z
    split at h
    · rename_i c
      split at h
      · rename_i hc
        cases h
        cases hx; cases hy
        have e := one_sign hc
        have e2 : V.str c = V.str ⟨#[c.cps.getD 0 0]⟩ := congrArg V.str e
        exact ⟨fun q => op_in_sign pins s σ H _ _ v u Q I rx ry ⟨_, _, e2, rfl, q⟩, fun q => op_notIn_sign pins s σ H _ _ v u Q I rx ry ⟨_, _, e2, rfl, q⟩⟩
      · cases h
    · cases h
  · rename_i l
    split at h
    · rename_i hc
      cases h
      simp only [Bool.and_eq_true] at hc
      cases hy with
      | tup hq hr =>
        have e := inV_of hc.1 hx hc.2 hr
        refine ⟨fun q => op_in_seq pins s σ H _ _ v u Q I rx ry ⟨_, _, rfl, .inr hq, flat_of hc.1 hx, flats_of hc.2 hr, ?_⟩, fun q => op_notIn_seq pins s σ H _ _ v u Q I rx ry ⟨_, _, rfl, .inr hq, flat_of hc.1 hx, flats_of hc.2 hr, ?_⟩⟩
        · rw [e] at q; exact q
        · rw [e] at q; exact q
    · cases h
  · split at h
    · split at h
      · rename_i d ds e1 e2
        cases h
        obtain ⟨a1, a2⟩ := dp_ok hs e1 hx
        obtain ⟨b1, b2⟩ := dp_ok hs e2 hy
        exact ⟨fun q => op_inD hu pins s σ H _ _ v u Q I rx ry ⟨_, _, a1, b1, a2, b2, q⟩, fun q => op_notInD hu pins s σ H _ _ v u Q I rx ry ⟨_, _, a1, b1, a2, b2, q⟩⟩
      · cases h
    · rename_i l lk e
      cases ek : keyOf vx with
      | none => rw [ek] at h; cases h
      | some j =>
        rw [ek] at h
        cases hy with
        | @ref m a ea =>
          obtain ⟨gs, hd, hr⟩ := hs.dct e ea
          obtain rfl := keyOf_ok ek hx
          have e2 : k = (valV gs j).isSome := by
            have h : (dget l j).isSome = k := Option.some.inj h
            rw [← h]
            cases eg : dget l j with
            | none => rw [hr.look.2 eg]; rfl
            | some w =>
              obtain ⟨z, ez, _⟩ := hr.look.1 w eg
              rw [ez]; rfl
          subst e2
          obtain rfl : u = Value.ref a := ry
          have g := dget_rd (k := j) hd
          exact ⟨fun q => d_in (by omega) I g rx fun s' I' => ⟨.bl _, H, I', rfl, q⟩, fun q => d_notIn (by omega) I g rx fun s' I' => ⟨.bl _, H, I', rfl, q⟩⟩
    · cases h
  · cases h

theorem op_cmpM (hu : X.A.units + 65 < cLine) {o : CmpOp} : OpR X (compareOp o) (rCmpM X.K ca o) := by
  intro pins s σ H x y v u Q I rx ry h
  obtain ⟨ρ, st, vx, vy, k, hs, hx, hy, he, q⟩ := h
  unfold opCmp at he
  split at he
  · cases he; cases hx; cases hy
    exact op_lt pins s σ H _ _ v u Q I rx ry ⟨_, _, rfl, rfl, q⟩
  · cases he; cases hx; cases hy
    exact op_le pins s σ H _ _ v u Q I rx ry ⟨_, _, rfl, rfl, q⟩
  · cases he; cases hx; cases hy
    exact op_gt pins s σ H _ _ v u Q I rx ry ⟨_, _, rfl, rfl, q⟩
  · cases he; cases hx; cases hy
    exact op_ge pins s σ H _ _ v u Q I rx ry ⟨_, _, rfl, rfl, q⟩
  · cases hy
    cases he
    refine op_isN pins s σ H _ _ v u Q I rx ry ⟨rfl, ?_⟩
    cases hx <;> exact q
  · cases hy
    cases he
    refine op_notN pins s σ H _ _ v u Q I rx ry ⟨rfl, ?_⟩
    cases hx <;> exact q
  · split at he
    · rename_i e1 e2
      cases he
      obtain ⟨a1, a2⟩ := dp_ok hs e1 hx
      obtain ⟨b1, b2⟩ := dp_ok hs e2 hy
      exact op_eqD (by omega) pins s σ H _ _ v u Q I rx ry ⟨_, _, a1, b1, a2, b2, q⟩
    · cases he
  · split at he
    · rename_i e1 e2
      cases he
      obtain ⟨a1, a2⟩ := dp_ok hs e1 hx
      obtain ⟨b1, b2⟩ := dp_ok hs e2 hy
      exact op_neD (by omega) pins s σ H _ _ v u Q I rx ry ⟨_, _, a1, b1, a2, b2, q⟩
    · cases he
  · exact (op_inM hu I rx ry hs hx hy he).1 q
  · cases e : opIn st _ _ with
    | none => rw [e] at he; cases he
    | some k' =>
      rw [e] at he
      cases he
      exact (op_inM hu I rx ry hs hx hy e).2 q
  · cases he
end
end AM
end

section
set_option maxRecDepth 100000
set_option maxHeartbeats 4000000
namespace AM
open PySem L2 PyProof.Rows

theorem call_lenR {X : Cx} : CallR X (.builtin "len") (fun xs H Q => ∃ a kvs, xs = [V.ref a] ∧ Rd H a (.dK kvs) ∧ Q (.int kvs.length) H) := by
  intro pins s σ H xs us Q I r h
  obtain ⟨a, kvs, rfl, ha, q⟩ := h
  obtain ⟨u, rfl, ru⟩ := vals1 r
  cases ru
  exact d_len I ha fun t s' I' => ⟨.int kvs.length, H, I', ⟨t, rfl⟩, q⟩
section
variable {K : Frg} {ca : Str → Addr} {ρ : List Addr} {H : Hp} {st : Store}
theorem lstAt_ok (hs : Rst K ca ρ H st) {v : Val} {x : V} {l : List Val} (h : lstAt st v = some l) (r : Rv K ρ H v x) : ∃ a xs, x = .ref a ∧ SqL K H a xs ∧ Rvs K ρ H l xs := by
  cases r with
  | @ref n a ea =>
    obtain ⟨c, hc⟩ := hs.lt ea
    obtain ⟨o, k⟩ := c
    simp only [lstAt, hc] at h
    cases o with
    | ins c f => simp at h
    | dct f => simp at h
    | lst vs =>
      simp at h
      subst h
      obtain ⟨xs, hq, hr⟩ := hs.list hc ea
      exact ⟨a, xs, rfl, hq, hr⟩
  | _ => simp [lstAt] at h
theorem bls_ok : ∀ {l : List Val} {xs : List V}, l.all isBl = true → Rvs K ρ H l xs →
    ∃ bs : List Bool, xs = bs.map V.bl ∧ l.all valBl = bs.all id ∧ l.any valBl = bs.any id
  | _, _, _, .nil => ⟨[], rfl, rfl, rfl⟩
  | _, _, h, .cons r t => by
    simp only [List.all_cons, Bool.and_eq_true] at h
    obtain ⟨bs, e1, e2, e3⟩ := bls_ok h.2 t
    cases r with
    | bl b => exact ⟨b :: bs, by rw [e1]; rfl, by simp only [List.all_cons, e2, id, valBl], by simp only [List.any_cons, e3, id, valBl]⟩
    | _ => simp [isBl] at h
theorem strs_ok : ∀ {l : List Val} {xs : List V} {ss : List Str}, allStr l = some ss → Rvs K ρ H l xs → xs = ss.map V.str
  | _, _, _, h, .nil => by simp [allStr] at h; subst h; rfl
  | _, _, _, h, .cons r t => by
    cases r with
    | str z =>
      simp only [allStr] at h
      rename_i vs xs
      cases e : allStr vs with
      | none => rw [e] at h; simp at h
      | some ss =>
        rw [e] at h
        simp at h
        subst h
        rw [strs_ok e t]
        rfl
    | _ => simp [allStr] at h
end

section
variable {X : Cx} {ca : Str → Addr}
/-- a call by values, whose end is told by the machine -/
def rcM (K : Frg) (ca : Str → Addr) (f : Store → List Val → Res Val) : List V → Hp → VK → Prop := fun xs H Q => ∃ ρ st vs σ W, Rst K ca ρ H st ∧ Rvs K ρ H vs xs ∧ Fin K ca (Rv K) (f st vs) ρ H σ Q W

theorem rvs1 {K : Frg} {ρ : List Addr} {H : Hp} {v : Val} {xs : List V} (h : Rvs K ρ H [v] xs) : ∃ x, xs = [x] ∧ Rv K ρ H v x := by
  cases h with
  | cons r t => cases t; exact ⟨_, rfl, r⟩
theorem rvs2 {K : Frg} {ρ : List Addr} {H : Hp} {v w : Val} {xs : List V} (h : Rvs K ρ H [v, w] xs) : ∃ x y, xs = [x, y] ∧ Rv K ρ H v x ∧ Rv K ρ H w y := by
  cases h with
  | cons r t =>
    obtain ⟨y, rfl, r2⟩ := rvs1 t
    exact ⟨_, _, rfl, r, r2⟩

theorem bi_len : CallR X (.builtin "len") (rcM X.K ca fun st vs => opBi st "len" vs) := by
  intro pins s σ H xs us Q I r h
  obtain ⟨ρ, st, vs, σ0, W, hs, hv, hf⟩ := h
  replace hf : Fin X.K ca (Rv X.K) (opBi st "len" vs) ρ H σ0 Q W := hf
  unfold opBi at hf
  split at hf
  · rw [if_pos rfl] at hf
    obtain ⟨x, rfl, rx⟩ := rvs1 hv
    split at hf
    · split at hf
      · rename_i hl
        cases rx
        exact call_len pins s σ H _ us Q I r ⟨_, _, rfl, ⟨le_line hl, rfl⟩, hf.ok hs (.int _)⟩
      · exact hf.elim
    · cases rx with
      | tup hq hr =>
        refine call_len pins s σ H _ us Q I r ⟨_, _, rfl, .inr ⟨_, hq, rfl⟩, ?_⟩
        have q := hf.ok hs (.int _)
        rw [hr.length] at q
        exact q
    · rename_i n
      split at hf
      · rename_i l k e
        cases rx with
        | ref ea =>
          obtain ⟨xs, hq, hr⟩ := hs.list e ea
          refine call_len pins s σ H _ us Q I r ⟨_, _, rfl, .inl ⟨_, hq, rfl⟩, ?_⟩
          have q := hf.ok hs (.int _)
          rw [hr.length] at q
          exact q
      · rename_i l k e
        cases rx with
        | ref ea =>
          obtain ⟨gs, hd, hr⟩ := hs.dct e ea
          refine call_lenR pins s σ H _ us Q I r ⟨_, _, rfl, hd, ?_⟩
          have q := hf.ok hs (.int _)
          rw [hr.length] at q
          exact q
      · exact hf.elim
    · exact hf.elim
  · rw [if_neg (by decide +kernel), if_neg (by decide +kernel)] at hf
    exact hf.elim
  · exact hf.elim

theorem bi_int : CallR X (.type "int") (rcM X.K ca fun st vs => opBi st "int" vs) := by
  intro pins s σ H xs us Q I r h
  obtain ⟨ρ, st, vs, σ0, W, hs, hv, hf⟩ := h
  replace hf : Fin X.K ca (Rv X.K) (opBi st "int" vs) ρ H σ0 Q W := hf
  unfold opBi at hf
  split at hf
  · rw [if_neg (by decide +kernel), if_pos rfl] at hf
    obtain ⟨x, rfl, rx⟩ := rvs1 hv
    split at hf
    · cases rx
      exact call_int1 pins s σ H _ us Q I r (.inl ⟨_, rfl, hf.ok hs (.int _)⟩)
    · cases rx
      exact call_int1 pins s σ H _ us Q I r (.inr ⟨_, rfl, hf.ok hs (.int _)⟩)
    · exact hf.elim
  · rw [if_neg (by decide +kernel), if_neg (by decide +kernel)] at hf
    exact hf.elim
  · exact hf.elim

theorem bi_abs : CallR X (.builtin "abs") (rcM X.K ca fun st vs => opBi st "abs" vs) := by
  intro pins s σ H xs us Q I r h
  obtain ⟨ρ, st, vs, σ0, W, hs, hv, hf⟩ := h
  replace hf : Fin X.K ca (Rv X.K) (opBi st "abs" vs) ρ H σ0 Q W := hf
  unfold opBi at hf
  split at hf
  · rw [if_neg (by decide +kernel), if_neg (by decide +kernel), if_pos rfl] at hf
    obtain ⟨x, rfl, rx⟩ := rvs1 hv
    split at hf
    · cases rx
      exact call_abs pins s σ H _ us Q I r ⟨_, rfl, hf.ok hs (.int _)⟩
    · exact hf.elim
  · rw [if_neg (by decide +kernel), if_neg (by decide +kernel)] at hf
    exact hf.elim
  · exact hf.elim

theorem bi_list : CallR X (.type "list") (rcM X.K ca fun st vs => opBi st "list" vs) := by
  intro pins s σ H xs us Q I r h
  obtain ⟨ρ, st, vs, σ0, W, hs, hv, hf⟩ := h
  replace hf : Fin X.K ca (Rv X.K) (opBi st "list" vs) ρ H σ0 Q W := hf
  unfold opBi at hf
  split at hf
  · rw [if_neg (by decide +kernel), if_neg (by decide +kernel), if_neg (by decide +kernel), if_pos rfl] at hf
    obtain ⟨x, rfl, rx⟩ := rvs1 hv
    split at hf
    · rename_i l e
      obtain ⟨a, ys, rfl, hq, hr⟩ := lstAt_ok hs e rx
      refine call_list_of pins s σ H _ us Q I r ⟨a, ys, rfl, .inl hq, fun p hp => ?_⟩
      exact hf _ _ _ (List.prefix_append _ _) (Ext.new hp) (hs.newU hp (.lst hr)) (.ref (by rw [List.getElem?_append_right (by rw [hs.len]; exact Nat.le_refl _), hs.len]; simp))
    · exact hf.elim
  · rw [if_neg (by decide +kernel), if_neg (by decide +kernel)] at hf
    exact hf.elim
  · exact hf.elim

theorem bi_str : CallR X (.type "str") (rcM X.K ca fun st vs => opBi st "str" vs) := by
  intro pins s σ H xs us Q I r h
  obtain ⟨ρ, st, vs, σ0, W, hs, hv, hf⟩ := h
  replace hf : Fin X.K ca (Rv X.K) (opBi st "str" vs) ρ H σ0 Q W := hf
  unfold opBi at hf
  split at hf
  · rw [if_neg (by decide +kernel), if_neg (by decide +kernel), if_neg (by decide +kernel), if_neg (by decide +kernel), if_pos rfl] at hf
    obtain ⟨x, rfl, rx⟩ := rvs1 hv
    split at hf
    · split at hf
      · rename_i hl
        cases rx
        exact call_str_int pins s σ H _ us Q I r ⟨_, rfl, hl, hf.ok hs (.str _)⟩
      · exact hf.elim
    · exact hf.elim
  · rw [if_neg (by decide +kernel), if_neg (by decide +kernel)] at hf
    exact hf.elim
  · exact hf.elim

theorem bi_repr (hg : X.A.guards = some []) (hu : X.A.units + 100 < cLine) : CallR X (.builtin "repr") (rcM X.K ca fun st vs => opBi st "repr" vs) := by
  intro pins s σ H xs us Q I r h
  obtain ⟨ρ, st, vs, σ0, W, hs, hv, hf⟩ := h
  replace hf : Fin X.K ca (Rv X.K) (opBi st "repr" vs) ρ H σ0 Q W := hf
  unfold opBi at hf
  split at hf
  · rw [if_neg (by decide +kernel), if_neg (by decide +kernel), if_neg (by decide +kernel), if_neg (by decide +kernel), if_neg (by decide +kernel), if_pos rfl] at hf
    obtain ⟨x, rfl, rx⟩ := rvs1 hv
    split at hf
    · rename_i d e
      split at hf
      · rename_i hl
        obtain ⟨u, rfl, ru⟩ := vals1 r
        obtain ⟨hd, hsh⟩ := dp_ok hs e rx
        have q := hf.ok hs (.str _)
        obtain ⟨as, rd⟩ := Dp.reads I d x u hd ru
        have hdp := SeqAt.depth_of_shaped hsh
        cases hd with
        | non =>
          cases ru
          simp only [PyData.shown] at q
          exact PySem.P.repr_of_none ⟨.str _, H, I.tok _, ⟨_, rfl⟩, q⟩
        | bl b =>
          cases ru
          simp only [PyData.shown] at q
          refine PySem.P.repr_of_bool ⟨.str _, H, I.tok _, ⟨_, rfl⟩, ?_⟩
          cases b <;> exact q
        | int i =>
          obtain ⟨t, rfl⟩ := ru
          simp only [PyData.shown] at q
          have hz : i.natAbs.log2 < 1920 := by simpa [PyData.showable] using hl.1
          exact PySem.P.repr_of_int hz ⟨.str _, H, I.tok _, ⟨_, rfl⟩, q⟩
        | str z =>
          obtain ⟨t, rfl⟩ := ru
          simp only [PyData.shown] at q hl
          exact PySem.P.repr_of_str ⟨.str _, H, I.tok _, ⟨_, rfl⟩, q⟩ (le_line hl.2)
        | lst _ _ =>
          cases ru
          exact repr_of_reads' rd hl.1 (PyData.noDict_hsm (PyData.hasDict_of_canLay _ (SeqAt.canLay_of_shaped hsh))) hg (by omega) (fun _ _ e => e) (fun h' u tk hk => ⟨.str _, H, I.kept hk, ⟨_, rfl⟩, q⟩) (le_line hl.2)
        | tup _ _ =>
          cases ru
          exact repr_of_reads' rd hl.1 (PyData.noDict_hsm (PyData.hasDict_of_canLay _ (SeqAt.canLay_of_shaped hsh))) hg (by omega) (fun _ _ e => e) (fun h' u tk hk => ⟨.str _, H, I.kept hk, ⟨_, rfl⟩, q⟩) (le_line hl.2)
      · exact hf.elim
    · exact hf.elim
  · rw [if_neg (by decide +kernel), if_neg (by decide +kernel)] at hf
    exact hf.elim
  · exact hf.elim

theorem bi_all (hc : X.calm = true) : CallR X (.builtin "all") (rcM X.K ca fun st vs => opBi st "all" vs) := by
  intro pins s σ H xs us Q I r h
  obtain ⟨ρ, st, vs, σ0, W, hs, hv, hf⟩ := h
  replace hf : Fin X.K ca (Rv X.K) (opBi st "all" vs) ρ H σ0 Q W := hf
  unfold opBi at hf
  split at hf
  · rw [if_neg (by decide +kernel), if_neg (by decide +kernel), if_neg (by decide +kernel), if_neg (by decide +kernel), if_neg (by decide +kernel), if_neg (by decide +kernel), if_pos rfl] at hf
    obtain ⟨x, rfl, rx⟩ := rvs1 hv
    split at hf
    · rename_i l e
      split at hf
      · rename_i hl
        obtain ⟨a, ys, rfl, hq, hr⟩ := lstAt_ok hs e rx
        obtain ⟨bs, rfl, e2, _⟩ := bls_ok hl hr
        have q := hf.ok hs (.bl _)
        rw [e2] at q
        exact cr_all hc pins s σ H _ us Q I r ⟨a, bs, rfl, hq, q⟩
      · exact hf.elim
    · exact hf.elim
  · rw [if_neg (by decide +kernel), if_neg (by decide +kernel)] at hf
    exact hf.elim
  · exact hf.elim
theorem bi_any (hc : X.calm = true) : CallR X (.builtin "any") (rcM X.K ca fun st vs => opBi st "any" vs) := by
  intro pins s σ H xs us Q I r h
  obtain ⟨ρ, st, vs, σ0, W, hs, hv, hf⟩ := h
  replace hf : Fin X.K ca (Rv X.K) (opBi st "any" vs) ρ H σ0 Q W := hf
  unfold opBi at hf
  split at hf
  · rw [if_neg (by decide +kernel), if_neg (by decide +kernel), if_neg (by decide +kernel), if_neg (by decide +kernel), if_neg (by decide +kernel), if_neg (by decide +kernel), if_neg (by decide +kernel), if_pos rfl] at hf
    obtain ⟨x, rfl, rx⟩ := rvs1 hv
    split at hf
    · rename_i l e
      split at hf
      · rename_i hl
        obtain ⟨a, ys, rfl, hq, hr⟩ := lstAt_ok hs e rx
        obtain ⟨bs, rfl, _, e2⟩ := bls_ok hl hr
        have q := hf.ok hs (.bl _)
        rw [e2] at q
        exact cr_any hc pins s σ H _ us Q I r ⟨a, bs, rfl, hq, q⟩
      · exact hf.elim
    · exact hf.elim
  · rw [if_neg (by decide +kernel), if_neg (by decide +kernel)] at hf
    exact hf.elim
  · exact hf.elim
theorem bi_max (hc : X.calm = true) : CallR X (.builtin "max") (rcM X.K ca fun st vs => opBi st "max" vs) := by
  intro pins s σ H xs us Q I r h
  obtain ⟨ρ, st, vs, σ0, W, hs, hv, hf⟩ := h
  replace hf : Fin X.K ca (Rv X.K) (opBi st "max" vs) ρ H σ0 Q W := hf
  unfold opBi at hf
  split at hf
  · iterate 8 rw [if_neg (by decide +kernel)] at hf
    exact hf.elim
  · rw [if_pos rfl] at hf
    obtain ⟨x, y, rfl, rx, ry⟩ := rvs2 hv
    cases rx; cases ry
    exact call_max2 hc pins s σ H _ us Q I r ⟨_, _, rfl, hf.ok hs (.int _)⟩
  · exact hf.elim
theorem bi_min (hc : X.calm = true) : CallR X (.builtin "min") (rcM X.K ca fun st vs => opBi st "min" vs) := by
  intro pins s σ H xs us Q I r h
  obtain ⟨ρ, st, vs, σ0, W, hs, hv, hf⟩ := h
  replace hf : Fin X.K ca (Rv X.K) (opBi st "min" vs) ρ H σ0 Q W := hf
  unfold opBi at hf
  split at hf
  · iterate 8 rw [if_neg (by decide +kernel)] at hf
    exact hf.elim
  · rw [if_neg (by decide +kernel), if_pos rfl] at hf
    obtain ⟨x, y, rfl, rx, ry⟩ := rvs2 hv
    cases rx; cases ry
    exact call_min2 hc pins s σ H _ us Q I r ⟨_, _, rfl, hf.ok hs (.int _)⟩
  · exact hf.elim
end
end AM
end

section
set_option maxRecDepth 100000
set_option maxHeartbeats 4000000
namespace AM
open PySem L2 PyProof.Rows
section
variable {X : Cx} {ca : Str → Addr}
/-- a method of a built-in value -/
def rmM (K : Frg) (ca : Str → Addr) (m : Str) : V → List V → Hp → VK → Prop := fun x xs H Q => ∃ ρ st vo vs σ W, Rst K ca ρ H st ∧ Rv K ρ H vo x ∧ Rvs K ρ H vs xs ∧ Fin K ca (Rv K) (opBm st vo m vs) ρ H σ Q W

theorem rvs0 {K : Frg} {ρ : List Addr} {H : Hp} {xs : List V} (h : Rvs K ρ H [] xs) : xs = [] := by cases h; rfl

/-- what a list's method starts from -/
theorem lst_at {K : Frg} {ρ : List Addr} {H : Hp} {st : Store} (hs : Rst K ca ρ H st) {r : Nat} {l : List Val} (e : st[r]? = some ⟨.lst l, false⟩) {x : V} (hx : Rv K ρ H (.ref r) x) :
    ∃ a xs, x = .ref a ∧ ρ[r]? = some a ∧ H a = some (.lst xs) ∧ Rvs K ρ H l xs := by
  cases hx with
  | ref ea =>
    obtain ⟨ho, h1, r1⟩ := hs.obj e ea
    cases r1 with
    | lst q => exact ⟨_, _, rfl, ea, h1, q⟩

theorem m_append : MtR X "list.append" (fun x xs H Q => (∃ p, x = .ref p) ∧ rmM X.K ca "append" x xs H Q) := by
  intro pins s σ H x xs v us Q I rx rs h
  obtain ⟨⟨p, rfl⟩, ρ, st, vo, vs, σ0, W, hs, hx, hv, hf⟩ := h
  unfold opBm at hf
  split at hf
  · cases hx
  · split at hf
    · rename_i r l e
      rw [if_pos rfl] at hf
      split at hf
      · rename_i w
        split at hf
        · rename_i hl
          obtain ⟨a, ys, ex, ea, ha, q⟩ := lst_at hs e hx
          obtain ⟨y, rfl, ry⟩ := rvs1 hv
          cases ex
          have hl2 : ys.length < line := by rw [← q.length]; exact hl
          obtain ⟨n1, n2⟩ := hs.put e ea (.lst (q.app (.one ry)))
          exact mt_append pins s σ H _ _ v us Q I rx rs ⟨_, _, _, rfl, rfl, ha, lt_line hl2, hf _ _ _ (List.prefix_refl _) n2 n1 .non⟩
        · exact hf.elim
      · exact hf.elim
    · exact hf.elim
  · exact hf.elim

theorem m_pop : MtR X "list.pop" (fun x xs H Q => (∃ p, x = .ref p) ∧ rmM X.K ca "pop" x xs H Q) := by
  intro pins s σ H x xs v us Q I rx rs h
  obtain ⟨⟨p, rfl⟩, ρ, st, vo, vs, σ0, W, hs, hx, hv, hf⟩ := h
  unfold opBm at hf
  split at hf
  · cases hx
  · split at hf
    · rename_i r l e
      rw [if_neg (by decide +kernel), if_pos rfl] at hf
      obtain ⟨a, ys, ex, ea, ha, q⟩ := lst_at hs e hx
      cases ex
      split at hf
      · cases rvs0 hv
        split at hf
        · rename_i w ew
          obtain ⟨y, ey, ry⟩ := q.get ew
          rw [q.length] at ey
          obtain ⟨n1, n2⟩ := hs.put e ea (.lst q.dropLast)
          exact mt_pop pins s σ H _ _ v us Q I rx rs ⟨_, _, _, rfl, rfl, ha, ey, hf _ _ _ (List.prefix_refl _) n2 n1 (ry.mono (List.prefix_refl _) n2)⟩
        · exact hf.elim
      · rename_i i
        obtain ⟨y0, rfl, ry0⟩ := rvs1 hv
        cases ry0
        split at hf
        · rename_i k ek
          split at hf
          · rename_i w ew
            split at ek
            · rename_i hi
              obtain ⟨y, ey, ry⟩ := q.get ew
              rw [q.length] at ek
              obtain ⟨n1, n2⟩ := hs.put e ea (.lst (q.erase k))
              exact mt_popAt pins s σ H _ _ v us Q I rx rs ⟨_, _, _, _, _, rfl, rfl, ha, hi.1, hi.2, ek, ey, hf _ _ _ (List.prefix_refl _) n2 n1 (ry.mono (List.prefix_refl _) n2)⟩
            · cases ek
          · exact hf.elim
        · exact hf.elim
      · exact hf.elim
    · exact hf.elim
  · exact hf.elim

theorem m_insert : MtR X "list.insert" (fun x xs H Q => (∃ p, x = .ref p) ∧ rmM X.K ca "insert" x xs H Q) := by
  intro pins s σ H x xs v us Q I rx rs h
  obtain ⟨⟨p, rfl⟩, ρ, st, vo, vs, σ0, W, hs, hx, hv, hf⟩ := h
  unfold opBm at hf
  split at hf
  · cases hx
  · split at hf
    · rename_i r l e
      rw [if_neg (by decide +kernel), if_neg (by decide +kernel), if_pos rfl] at hf
      obtain ⟨a, ys, ex, ea, ha, q⟩ := lst_at hs e hx
      cases ex
      split at hf
      · rename_i i w
        obtain ⟨y0, y, rfl, ry0, ry⟩ := rvs2 hv
        cases ry0
        split at hf
        · rename_i hl
          have hl2 : ys.length < line := by rw [← q.length]; exact hl.2.2
          obtain ⟨n1, n2⟩ := hs.put e ea (.lst (((q.take i.toNat).app (.one ry)).app (q.drop i.toNat)))
          exact mt_insert pins s σ H _ _ v us Q I rx rs ⟨_, _, _, _, rfl, rfl, ha, lt_line hl2, hl.1, hl.2.1, hf _ _ _ (List.prefix_refl _) n2 n1 .non⟩
        · exact hf.elim
      · exact hf.elim
    · exact hf.elim
  · exact hf.elim

theorem m_clear : MtR X "list.clear" (fun x xs H Q => (∃ p, x = .ref p) ∧ rmM X.K ca "clear" x xs H Q) := by
  intro pins s σ H x xs v us Q I rx rs h
  obtain ⟨⟨p, rfl⟩, ρ, st, vo, vs, σ0, W, hs, hx, hv, hf⟩ := h
  unfold opBm at hf
  split at hf
  · cases hx
  · split at hf
    · rename_i r l e
      rw [if_neg (by decide +kernel), if_neg (by decide +kernel), if_neg (by decide +kernel), if_pos rfl] at hf
      obtain ⟨a, ys, ex, ea, ha, q⟩ := lst_at hs e hx
      cases ex
      split at hf
      · cases rvs0 hv
        obtain ⟨n1, n2⟩ := hs.put e ea (.lst .nil)
        exact mt_clear pins s σ H _ _ v us Q I rx rs ⟨_, _, rfl, rfl, ha, hf _ _ _ (List.prefix_refl _) n2 n1 .non⟩
      · exact hf.elim
    · exact hf.elim
  · exact hf.elim

theorem m_reverse : MtR X "list.reverse" (fun x xs H Q => (∃ p, x = .ref p) ∧ rmM X.K ca "reverse" x xs H Q) := by
  intro pins s σ H x xs v us Q I rx rs h
  obtain ⟨⟨p, rfl⟩, ρ, st, vo, vs, σ0, W, hs, hx, hv, hf⟩ := h
  unfold opBm at hf
  split at hf
  · cases hx
  · split at hf
    · rename_i r l e
      rw [if_neg (by decide +kernel), if_neg (by decide +kernel), if_neg (by decide +kernel), if_neg (by decide +kernel), if_pos rfl] at hf
      obtain ⟨a, ys, ex, ea, ha, q⟩ := lst_at hs e hx
      cases ex
      split at hf
      · cases rvs0 hv
        obtain ⟨n1, n2⟩ := hs.put e ea (.lst q.rev)
        exact mt_reverse pins s σ H _ _ v us Q I rx rs ⟨_, _, rfl, rfl, ha, hf _ _ _ (List.prefix_refl _) n2 n1 .non⟩
      · exact hf.elim
    · exact hf.elim
  · exact hf.elim

theorem m_index : MtR X "list.index" (fun x xs H Q => (∃ p, x = .ref p) ∧ rmM X.K ca "index" x xs H Q) := by
  intro pins s σ H x xs v us Q I rx rs h
  obtain ⟨⟨p, rfl⟩, ρ, st, vo, vs, σ0, W, hs, hx, hv, hf⟩ := h
  unfold opBm at hf
  split at hf
  · cases hx
  · split at hf
    · rename_i r l e
      rw [if_neg (by decide +kernel), if_neg (by decide +kernel), if_neg (by decide +kernel), if_neg (by decide +kernel), if_neg (by decide +kernel), if_pos rfl] at hf
      obtain ⟨a, ys, ex, ea, ha, q⟩ := lst_at hs e hx
      cases ex
      split at hf
      · rename_i z
        obtain ⟨y, rfl, ry⟩ := rvs1 hv
        cases ry
        split at hf
        · rename_i ss es
          split at hf
          · rename_i hc
            have e2 := strs_ok es q
            subst e2
            have hm : z ∈ ss := by simpa using hc
            have hlt : ss.findIdx (· == z) < ss.length := List.findIdx_lt_length_of_exists ⟨z, hm, by simp⟩
            refine mt_index pins s σ H _ _ v us Q I rx rs ⟨_, _, _, ss.findIdx (· == z), .str (ss[ss.findIdx (· == z)]), rfl, rfl, .inl (.inl ha), rfl, by simp [flatV], ?_, ?_, fun m z' hm' hz' => ?_, hf.ok hs (.int _)⟩
            · rw [List.getElem?_map, List.getElem?_eq_getElem hlt]; rfl
            · have := List.findIdx_getElem (xs := ss) (p := (· == z)) (w := hlt)
              simpa [eqV] using this
            · rw [List.getElem?_map, List.getElem?_eq_getElem (by omega)] at hz'
              cases hz'
              have := List.not_of_lt_findIdx (xs := ss) (p := (· == z)) hm'
              simpa [eqV] using this
          · exact hf.elim
        · exact hf.elim
      · exact hf.elim
    · exact hf.elim
  · exact hf.elim

theorem m_join : MtR X "str.join" (fun x xs H Q => (∃ z, x = .str z) ∧ rmM X.K ca "join" x xs H Q) := by
  intro pins s σ H x xs v us Q I rx rs h
  obtain ⟨⟨p, rfl⟩, ρ, st, vo, vs, σ0, W, hs, hx, hv, hf⟩ := h
  cases hx
  unfold opBm at hf
  simp only at hf
  rw [if_pos True.intro] at hf
  split at hf
  · rename_i w
    split at hf
    · rename_i ss es
      split at hf
      · rename_i hl
        obtain ⟨y, rfl, ry⟩ := rvs1 hv
        cases el : lstAt st w with
        | none => rw [el] at es; simp at es
        | some l =>
          rw [el] at es
          obtain ⟨a, ys, rfl, hq, hr⟩ := lstAt_ok hs el ry
          have e2 := strs_ok es hr
          subst e2
          refine mt_join pins s σ H _ _ v us Q I rx rs ⟨_, _, ss, rfl, rfl, .inl hq, ?_, hf.ok hs (.str _)⟩
          exact Nat.le_trans hl (by decide)
      · exact hf.elim
    · exact hf.elim
  · exact hf.elim
theorem m_upper : MtR X "str.upper" (fun x xs H Q => (∃ z, x = .str z) ∧ rmM X.K ca "upper" x xs H Q) := by
  intro pins s σ H x xs v us Q I rx rs h
  obtain ⟨⟨p, rfl⟩, ρ, st, vo, vs, σ0, W, hs, hx, hv, hf⟩ := h
  cases hx
  unfold opBm at hf
  simp only at hf
  rw [if_neg (by decide +kernel), if_pos True.intro] at hf
  split at hf
  · split at hf
    · rename_i hl
      cases rvs0 hv
      refine mt_upper pins s σ H _ _ v us Q I rx rs ⟨_, rfl, rfl, ?_, hf.ok hs (.str _)⟩
      exact Nat.le_trans hl (by decide)
    · exact hf.elim
  · exact hf.elim

theorem atI_get {K : Frg} {ρ : List Addr} {H : Hp} {l : List Val} {xs : List V} {i : Int} {v : Val} (q : Rvs K ρ H l xs) (h : L2.atI l i = some v) : ∃ x, L2.atI xs i = some x ∧ Rv K ρ H v x := by
  unfold L2.atI at h ⊢
  rw [← q.length]
  cases e : ixN l.length i with
  | none => rw [e] at h; simp at h
  | some j =>
    rw [e] at h
    exact q.get (by simpa using h)
def rSubM (K : Frg) (ca : Str → Addr) : R2 := fun x y H Q => ∃ ρ st vx vy k, Rst K ca ρ H st ∧ Rv K ρ H vx x ∧ Rv K ρ H vy y ∧ opSub st vx vy = some k ∧ ∀ z, Rv K ρ H k z → Q z H
theorem ix_M (hu : X.A.units + 1 < cLine) : IxR X (rSubM X.K ca) := by
  intro value slice pins s σ H x y v u Q I rx ry h hsb
  obtain ⟨ρ, st, vx, vy, k, hs, hx, hy, he, q⟩ := h
  unfold opSub at he
  split at he
  · cases hy
    cases hx with
    | tup hq hr =>
      obtain ⟨z, ez, rz⟩ := atI_get hr he
      exact ix_tup value slice pins s σ H _ _ v u Q I rx ry ⟨_, _, _, _, rfl, rfl, hq, ez, q z rz⟩ hsb
  · cases hy
    cases hx
    split at he
    · rename_i z i hl
      cases ec : L2.atI z.cps.toList i with
      | none => rw [ec] at he; cases he
      | some c =>
        rw [ec] at he
        cases he
        exact ix_str value slice pins s σ H _ _ v u Q I rx ry ⟨_, _, _, rfl, rfl, le_line hl, ec, q _ (.str _)⟩ hsb
    · cases he
  · split at he
    · rename_i e
      split at he
      · cases hy
        cases hx with
        | ref ea =>
          obtain ⟨xs, hq, hr⟩ := hs.list e ea
          obtain ⟨z, ez, rz⟩ := atI_get hr he
          exact ix_list value slice pins s σ H _ _ v u Q I rx ry ⟨_, _, _, _, rfl, rfl, hq, ez, q z rz⟩ hsb
      · cases he
    · rename_i l lk e
      cases ek : keyOf vy with
      | none => rw [ek] at he; cases he
      | some j =>
        rw [ek] at he
        cases hx with
        | @ref m a ea =>
          obtain ⟨gs, hd, hr⟩ := hs.dct e ea
          obtain rfl := keyOf_ok ek hy
          obtain ⟨z, ez, rz⟩ := hr.look.1 k he
          obtain rfl : v = Value.ref a := rx
          have g : DGet H a (kV j) (some z) := by
            have := dget_rd (k := j) hd
            rw [ez] at this
            exact this
          exact tail_any (dict_typeIs I g) slot_dict_getitem.lookup (d_getItem hu I g ry fun w' s' I' rw' => ⟨z, H, I', rw', q z rz⟩) hsb
    · cases he
  · cases he

def rSlM (K : Frg) (ca : Str → Addr) : V → Option Int → Option Int → Hp → VK → Prop := fun x lo hi H Q => ∃ ρ st vx σ W, Rst K ca ρ H st ∧ Rv K ρ H vx x ∧ Fin K ca (Rv K) (opSlc st vx (lo.map .int) (hi.map .int)) ρ H σ Q W
theorem optI_map (o : Option Int) : optI (o.map Val.int) = some o := by cases o <;> rfl
theorem sl_M : SlR X (rSlM X.K ca) := by
  intro pins s σ H x v vl vu lo hi sl Q I rx hsl pl pu h
  obtain ⟨ρ, st, vx, σ0, W, hs, hx, hf⟩ := h
  unfold opSlc at hf
  rw [optI_map, optI_map] at hf
  simp only at hf
  split at hf
  · cases hx
    split at hf
    · rename_i hl
      exact sl_str pins s σ H _ v vl vu lo hi sl Q I rx hsl pl pu ⟨_, rfl, le_line hl, hf.ok hs (.str _)⟩
    · exact hf.elim
  · rename_i w
    cases hx with
    | @tup a _ xs hq hr =>
      have hc : Rvs X.K ρ H (cut w lo hi) (cutV xs lo hi) := by
        unfold cut cutV
        rw [hr.length]
        exact (hr.drop _).take _
      refine sl_tupA pins s σ H _ v vl vu lo hi sl Q I rx hsl pl pu ⟨_, _, rfl, hq, fun hw => ?_, fun hw p hp => ?_⟩
      · have e : cut w lo hi = w := by
          unfold cut
          rw [hr.length, hw.1, hw.2, Nat.sub_zero, List.drop_zero, ← hr.length, List.take_length]
        rw [e] at hf
        exact hf.ok hs (.tup hq hr)
      · have e2 : Ext H (upd H p (.tup (cutV xs lo hi))) := Ext.new hp
        exact hf ρ _ _ (List.prefix_refl _) e2 (hs.more hp) (.tup (.inl (.inl upd_same)) (hc.mono (List.prefix_refl _) e2))
  · split at hf
    · rename_i r l k e
      cases hx with
      | ref ea =>
        obtain ⟨xs, hq, hr⟩ := hs.list e ea
        refine sl_list pins s σ H _ v vl vu lo hi sl Q I rx hsl pl pu ⟨_, _, rfl, hq, fun p hp => ?_⟩
        have hc : Rvs X.K ρ H (cut l lo hi) (cutV xs lo hi) := by
          unfold cut cutV
          rw [hr.length]
          exact (hr.drop _).take _
        exact hf _ _ _ (List.prefix_append _ _) (Ext.new hp) (hs.newU hp (.lst hc)) (.ref (by rw [List.getElem?_append_right (by rw [hs.len]; exact Nat.le_refl _), hs.len]; simp))
    · exact hf.elim
  · exact hf.elim

def rSetM (K : Frg) (ca : Str → Addr) : TSet := fun o i v H Q => ∃ ρ st vo vi vv st', Rst K ca ρ H st ∧ Rv K ρ H vo o ∧ Rv K ρ H vi i ∧ Rv K ρ H vv v ∧ opSetS vo vi vv st = some st' ∧ ∀ H', Ext H H' → Rst K ca ρ H' st' → Q H'
theorem set_M (hu : X.A.units + 1 < cLine) : PSet X (rSetM X.K ca) := by
  intro pins s σ H o i v ov iv u Q I ro ri rv h
  obtain ⟨ρ, st, vo, vi, vv, st', hs, ho, hi, hv, he, q⟩ := h
  unfold opSetS at he
  split at he
  · rename_i r
    split at he
    · rename_i l e
      split at he
      · rename_i k
        split at he
        · rename_i j ej
          cases he
          cases hi
          obtain ⟨a, xs, rfl, ea, ha, hr⟩ := lst_at hs e ho
          obtain ⟨n1, n2⟩ := hs.put e ea (.lst (hr.set hv j))
          rw [hr.length] at ej
          exact set_list pins s σ H _ _ _ ov iv u Q I ro ri rv ⟨_, _, _, _, rfl, rfl, ha, ej, q _ n2 n1⟩
        · cases he
      · cases he
    · rename_i l e
      cases ek : keyOf vi with
      | none => simp only [ek] at he; cases he
      | some j =>
        simp only [ek] at he
        by_cases hl : l.length < line
        · rw [if_pos hl] at he
          cases he
          cases ho with
          | @ref m a ea =>
            obtain ⟨gs, hd, hr⟩ := hs.dctU e ea
            obtain rfl := keyOf_ok ek hi
            obtain ⟨n1, n2⟩ := hs.put e ea (.dct (hr.put hv))
            exact set_dict hu pins s σ H _ _ _ ov iv u Q I ro ri rv ⟨a, _, rfl, DPut.k hd (by rw [← hr.length]; exact lt_line hl), q _ n2 n1⟩
        · rw [if_neg hl] at he
          cases he
    · cases he
  · cases he

theorem tru_M {K : Frg} {ρ : List Addr} {H : Hp} {st : Store} (hs : Rst K ca ρ H st) {v : Val} {x : V} {k : Bool} (h : truthy st v = some k) (r : Rv K ρ H v x) : TruV K x H k := by
  cases r with
  | non => cases h; rfl
  | bl b => cases h; rfl
  | int i => cases h; rfl
  | str z =>
    simp only [truthy] at h
    split at h
    · rename_i hl
      cases h
      exact ⟨le_line hl, rfl⟩
    · cases h
  | tup hq hr =>
    cases h
    refine .inr (.inl ⟨_, hq, ?_⟩)
    cases hr <;> rfl
  | @ref n a ea =>
    simp only [truthy] at h
    split at h
    · rename_i l k' e
      cases h
      obtain ⟨xs, hq, hr⟩ := hs.list e ea
      refine .inl ⟨_, hq, ?_⟩
      cases hr <;> rfl
    · cases h
end
end AM
end

section
set_option maxRecDepth 100000
set_option maxHeartbeats 4000000
namespace AM
open PySem L2 PyProof.Rows
open PySem.Spec

/-- a def at f keeps the promise sp where no repr runs -/
structure FnG (P : Program) (w : World) (K : Frg) (mg : Str → Option Value) (base : Heap) (k : Nat) (f : Addr) (fd : FuncData) (ps : List Str) (sp : Sp) : Prop where
  len : ∀ vs H Q E, sp vs H Q E → vs.length = ps.length
  run : ∀ (A : Around) (outer : List PySem.Env) (s : Shared) (H : Hp) (args : Args) (us : List Value) (vs : List V) (Q : VK) (E : XK), Room k A → A.guards = some [] → Env0 P w K mg base A outer s H →
    BindsTo s fd args (ps.zip us) → Vals vs us → sp vs H Q E → codeAny (model P w) A (.call (.ref f) args) (CR (CX P w) outer P w H s Q E) s

theorem guards_deeper {A : Around} {env : PySem.Env} (h : A.guards = some []) : (A.deeper env).guards = some [] := h
theorem guards_in1 {A : Around} (h : A.guards = some []) : A.in1.guards = some [] := h
theorem guards_make {A : Around} {C : Addr} {us : List Value} {kw : List (Str × Value)} (h : A.guards = some []) : (A.under (.builtin "type.__call__" ⟨.ref C :: us, kw⟩)).guards = some [] := by
  first | exact h | (simpa [Around.under, Code.guards, pushGuards, Code.isGuard, guardIds] using h)

/-- from the body -/
theorem fnG_of {P : Program} {w : World} {K : Frg} {mg : Str → Option Value} {base : Heap} {x qual : Str} {params : Arguments} {body : List Stmt} {scope : Scope} {f : Addr} {fd : FuncData} {N ps : List Str} {k : Nat} {sp : Sp}
    (F : FunD K x qual params body scope [] [] f fd) (S : FnScope N ps scope) (len : ∀ vs H Q E, sp vs H Q E → vs.length = ps.length)
    (hb : ∀ (cdv : Value) (A : Around) (outer : List PySem.Env) (s : Shared) (H : Hp) (vs : List V) (Q : VK) (E : XK), Room k (A.deeper (envOfC qual scope s.heap.objs.size f cdv)) → A.guards = some [] → sp vs H Q E →
      ∃ t, PSs (cxOf (CX P w) P w K mg base N qual scope f cdv A outer s H E) body t ∧ t { nx := fun _ H' => Q .non H', rt := Q } (start N vs) H) : FnG P w K mg base (k + 1) f fd ps sp := by
  obtain ⟨oc, od, dV, kV, doc, pm, an, cdv, ct, osl, rfl, lk, hcd, _, _⟩ := F.ex
  refine ⟨len, fun A outer s H args us vs Q E hr hgd e0 hbd r hsp => ?_⟩
  have KX : K.In s.heap := e0.mod.kin.keeps (fun b o e => (e0.bs b o e).1)
  have kinds : ∀ y ∈ ps.zip us, scope.names.lookup y.1 = some .local ∨ (scope.names.lookup y.1 = some .cell ∧ ((cellsFrom (s.heap.objs.size + 1) scope.names []).lookup y.1).isSome = true) := by
    rintro ⟨n, v⟩ hy
    exact (S.par n (List.of_mem_zip hy).1).elim (fun q => .inl q) (fun q => .inr ⟨q, PySem.W.cellsFrom_some _ _ _ (.inl q)⟩)
  refine codeAny_call_function hr.depth (KX _ _ lk) rfl S.co S.gen rfl (PySem.W.codeRec_of KX hcd) (hbd _ _ _ _ (wpAny_newFunctionEnv_cells S.kind kinds ?_))
  intro env he s1 x1
  subst he
  have lim1 := (e0.mod.nolimit.keeps (fun b o e => (e0.bs b o e).1)).keeps x1.toInCall.keep
  obtain ⟨t, ht, hq⟩ := hb cdv A outer s H vs Q E (hr.deeper _) hgd hsp
  have I1 : Inv (cxOf (CX P w) P w K mg base N qual scope f cdv A outer s H E) [] (start N vs) H s1 := inv_start S hr.hd e0 (len _ _ _ _ hsp) r x1
  refine ⟨lim1, codeAny_func (wpAny_mono (ht.run [] s1 (start N vs) H _ I1 hq) (fun fl s' hs => ?_) (fun e s' hs => hs))⟩
  cases fl with
  | ret u =>
    obtain ⟨v, σ', H', J, rv, q⟩ := hs
    exact (⟨v, H', J.os, J.bare, J.base, J.hok, rv, q⟩ : CE outer P w H s Q u s')
  | next =>
    obtain ⟨σ', H', J, q⟩ := hs
    exact (⟨.non, H', J.os, J.bare, J.base, J.hok, rfl, q⟩ : CE outer P w H s Q .none s')
  | brk => exact hs.elim fun _ z => z.elim fun _ z => z.2.elim
  | cont => exact hs.elim fun _ z => z.elim fun _ z => z.2.elim

section
variable {X : Cx} {k : Nat} {f C : Addr} {fd : FuncData} {ps : List Str} {sp : Sp} {W : WX}
/-- a call of it, what is raised wished for at the caller's slots -/
theorem run_G {pins : List (Addr × PySem.Obj)} {σ : L2.St} {H : Hp} {s : Shared} {Q : VK} {us : List Value} {vs : List V} (F : FnG X.prog X.w X.K X.mg X.base k f fd ps sp) (hr : Room k X.A) (hg : X.A.guards = some []) (hb : Binds X.K fd ps [])
    (tk : Takes X W) (I : Inv X pins σ H s) (r : Vals vs us) (h : sp vs H Q (fun c d H' => W c d σ H')) : wpAny (model X.prog X.w) X.A (call (.ref f) us) (EP X pins σ Q) X.xe s := by
  have hl : us.length = ps.length := by rw [← r.length]; exact F.len _ _ _ _ h
  have hb' := hb s us I.kIn (by simpa using hl)
  rw [List.append_nil] at hb'
  refine wpAny_call (codeAny_mono (F.run X.A X.stack s H ⟨us, []⟩ us vs Q _ hr hg I.env0 hb' r h) fun r2 s' hq => ?_)
  match r2, hq with
  | .error e, hq => exact tk e s' (XE.of_call I (fun _ _ _ z => z) hq)
  | .ok (.ret u), hq => exact I.after hq
  | .ok .next, hq => exact hq.elim
  | .ok .brk, hq => exact hq.elim
  | .ok .cont, hq => exact hq.elim

/-- the same from within a built-in -/
theorem run_G1 {pins : List (Addr × PySem.Obj)} {σ : L2.St} {H : Hp} {s : Shared} {Q : VK} {us : List Value} {vs : List V} (F : FnG X.prog X.w X.K X.mg X.base k f fd ps sp) (hr : Room (k + 1) X.A) (hg : X.A.guards = some []) (hb : Binds X.K fd ps [])
    (tk : Takes X W) (I : Inv X pins σ H s) (r : Vals vs us) (h : sp vs H Q (fun c d H' => W c d σ H')) : wpAny (model X.prog X.w) X.A.in1 (call (.ref f) us) (EP X pins σ Q) X.xe s := by
  have hl : us.length = ps.length := by rw [← r.length]; exact F.len _ _ _ _ h
  have hb' := hb s us I.kIn (by simpa using hl)
  rw [List.append_nil] at hb'
  refine wpAny_call (codeAny_mono (F.run X.A.in1 X.stack s H ⟨us, []⟩ us vs Q _ hr.in1 (guards_in1 hg) I.env0.in1 hb' r h) fun r2 s' hq => ?_)
  match r2, hq with
  | .error e, hq => exact tk e s' (XE.of_call I (fun _ _ _ z => z) hq)
  | .ok (.ret u), hq => exact I.after hq
  | .ok .next, hq => exact hq.elim
  | .ok .brk, hq => exact hq.elim
  | .ok .cont, hq => exact hq.elim

/-- a new instance, its __init__ run -/
theorem make_G {pins : List (Addr × PySem.Obj)} {σ : L2.St} {H : Hp} {s : Shared} {Q : VK} {us : List Value} {vs : List V} (M : Mk X.K C f) (F : FnG X.prog X.w X.K X.mg X.base k f fd ps sp) (hr : Room (k + 1) X.A) (hg : X.A.guards = some []) (hb : Binds X.K fd ps [])
    (tk : Takes X W) (I : Inv X pins σ H s) (r : Vals vs us)
    (h : ∀ x dx, H x = none → H dx = none → dx ≠ x → sp (.ref x :: vs) (upd (upd H dx (.own x)) x (.ins C dx [])) (fun v H2 => v = .non ∧ Q (.ref x) H2) (fun c d H' => W c d σ H')) :
    wpAny (model X.prog X.w) X.A (call (.ref C) us) (EP X pins σ Q) X.xe s := by
  have hq := h (s.heap.objs.size + 1) s.heap.objs.size (I.hok.fresh (Nat.le_succ _)) (I.hok.fresh (Nat.le_refl _)) (Nat.ne_of_lt (Nat.lt_succ_self _))
  have I2 := Inv.made (C := C) I
  have r2 : Vals (V.ref (s.heap.objs.size + 1) :: vs) (Value.ref (s.heap.objs.size + 1) :: us) := .cons rfl r
  have hl : (Value.ref (s.heap.objs.size + 1) :: us).length = ps.length := by rw [← r2.length]; exact F.len _ _ _ _ hq
  have hb' := hb _ (Value.ref (s.heap.objs.size + 1) :: us) I2.kIn (by simpa using hl)
  rw [List.append_nil] at hb'
  refine wpAny_call (make_map (f := f) I.kIn M.makes M.init (beq_iff_eq.mp M.fn) (codeAny_mono
    (F.run _ X.stack _ _ ⟨Value.ref (s.heap.objs.size + 1) :: us, []⟩ _ _ _ _ (hr.make C us []) (guards_make hg) (I2.env0.make C us []) hb' r2 hq) fun r3 s' hq' => ?_))
  match r3, hq' with
  | .error e, hq' => exact tk e s' (XE.of_call I2 (fun _ _ _ z => z) hq')
  | .ok (.ret u), hq' =>
    obtain ⟨v, H', I3, rv, ev, q3⟩ := I2.after hq'
    subst ev
    exact ⟨rv, ⟨V.ref (s.heap.objs.size + 1), H', I3, rfl, q3⟩⟩
  | .ok .next, hq' => exact hq'.elim
  | .ok .brk, hq' => exact hq'.elim
  | .ok .cont, hq' => exact hq'.elim

/-- the same, all values by keywords -/
theorem makeK_G {pins : List (Addr × PySem.Obj)} {σ : L2.St} {H : Hp} {s : Shared} {Q : VK} {kw : List (Str × Value)} {ws : List Value} {vs : List V} (M : Mk X.K C f) (F : FnG X.prog X.w X.K X.mg X.base k f fd ps sp) (hr : Room (k + 1) X.A) (hg : X.A.guards = some [])
    (hb : ∀ (s' : Shared) (u0 : Value), X.K.In s'.heap → BindsTo s' fd ⟨[u0], kw⟩ (ps.zip (u0 :: ws))) (tk : Takes X W) (I : Inv X pins σ H s) (r : Vals vs ws)
    (h : ∀ x dx, H x = none → H dx = none → dx ≠ x → sp (.ref x :: vs) (upd (upd H dx (.own x)) x (.ins C dx [])) (fun v H2 => v = .non ∧ Q (.ref x) H2) (fun c d H' => W c d σ H')) :
    wpAny (model X.prog X.w) X.A (call (.ref C) [] kw) (EP X pins σ Q) X.xe s := by
  have g0 := I.hok.fresh (Nat.le_refl s.heap.objs.size)
  have g1 := I.hok.fresh (Nat.le_succ s.heap.objs.size)
  have hq := h _ _ g1 g0 (Nat.ne_of_lt (Nat.lt_succ_self _))
  have J := Inv.made (C := C) I
  refine wpAny_call (make_map (f := f) I.kIn M.makes M.init (beq_iff_eq.mp M.fn) ?_)
  refine codeAny_mono (F.run _ X.stack _ _ ⟨[.ref (s.heap.objs.size + 1)], kw⟩ (.ref (s.heap.objs.size + 1) :: ws) _ _ _ (hr.make C [] kw) (guards_make hg) (J.env0.make C [] kw) (hb _ _ J.kIn) (.cons (show RelV (V.ref (s.heap.objs.size + 1)) (Value.ref (s.heap.objs.size + 1)) from rfl) r) hq) fun r3 s' hz => ?_
  rcases r3 with e | fl
  · exact tk e s' (XE.of_call J (fun _ _ _ z => z) hz)
  · cases fl <;> try (exact False.elim hz)
    obtain ⟨v, H', J3, rv, ev, q3⟩ := J.after hz
    subst ev
    exact ⟨rv, V.ref _, H', J3, rfl, q3⟩

/-- a property of an own class, read -/
theorem prop_G {pins : List (Addr × PySem.Obj)} {σ : L2.St} {H : Hp} {s : Shared} {Q : VK} {b : Bool} {p a dx : Addr} {fs : List (Str × V)} {nm : Str} (I : Inv X pins σ H s) (ea : H a = some (.ins C dx fs)) (c : Cls X.K C) (hp : PropOf X.K C nm p f)
    (F : FnG X.prog X.w X.K X.mg X.base k f fd ps sp) (hr : Room (k + 1) X.A) (hg : X.A.guards = some []) (hb : Binds X.K fd ps []) (h : sp [.ref a] H Q (fun _ _ _ => False)) :
    wpAny (model X.prog X.w) X.A (getAttr (.ref a) nm b) (EP X pins σ Q) X.xe s := by
  obtain ⟨mA, O, _⟩ := ins_get I.hok ea
  obtain ⟨od, J, _⟩ := O.look
  obtain ⟨rest, hrec⟩ := hp.rec_
  have I1 := I.tok (s.toks + 1)
  have hl : [Value.ref a].length = ps.length := by rw [← F.len _ _ _ _ h]; rfl
  have hb' := hb { s with toks := s.toks + 1 } [Value.ref a] I1.kIn (by simpa using hl)
  rw [List.append_nil] at hb'
  have hcls : (PySem.W.clsIn X.K C).isSome = true := by
    obtain ⟨cd, hc, _⟩ := PySem.W.any_some c.hd
    rw [hc]; rfl
  refine PySem.W.get_bind I.kIn J (PySem.W.plainGet_of (c.get nm)).1 (PySem.W.findObj_data hcls hp.at_ hp.get hp.tak) (PySem.W.plainGet_of (c.get nm)).2 (wpAny_call (PySem.W.prop_get (s := { s with toks := s.toks + 1 }) I.kIn hrec
    (codeAny_mono (F.run X.A.in1 X.stack { s with toks := s.toks + 1 } H ⟨[.ref a], []⟩ [.ref a] [.ref a] Q _ hr.in1 (guards_in1 hg) I1.env0.in1 hb' (.cons rfl .nil) h) fun r2 s' hq => ?_)))
  match r2, hq with
  | .error e, hq => exact (takes_none5 (X := X.nox) e s' (XE.of_call (X := X.nox) (W := fun _ _ _ _ => False) (σ := σ) (I1.wish _) (fun _ _ _ z => z) hq)).elim
  | .ok (.ret u), hq =>
    obtain ⟨v, H', I3, rv, q3⟩ := I1.after hq
    show wpAny _ _ (handedOut u) _ _ _
    rw [PySem.W.handedOut_of (handed_of rv)]
    exact wpAny_pure ⟨v, H', I3, rv, q3⟩
  | .ok .next, hq => exact hq.elim
  | .ok .brk, hq => exact hq.elim
  | .ok .cont, hq => exact hq.elim
end
end AM
end

section
set_option maxRecDepth 100000
set_option maxHeartbeats 4000000
namespace AM
open PySem L2 PyProof.Rows

def visB (sc : Scope) (x : Str) : Bool :=
  match sc.names.lookup x with
  | some .local => true
  | some .cell => true
  | some .free => true
  | _ => false
def locB (sc : Scope) (x : Str) : Bool :=
  match sc.names.lookup x with
  | some .local => true
  | _ => false
def glB (sc : Scope) (x : Str) : Bool :=
  match sc.names.lookup x with
  | some .globalImplicit => true
  | _ => false
def okN (x : Str) : Bool := !(x == ("__debug__" : Str)) && !(x == ("__classdict__" : Str)) && !(x == ("__name__" : Str))
def noSup : Expr → Bool
  | .Call (.Name _ _) [] [] _ => false
  | _ => true
def notSlc : Expr → Bool
  | .Slice .. => false
  | _ => true
def notSet : Expr → Bool
  | .Set .. => false
  | _ => true
def biNames : List Str := ["len", "int", "abs", "list", "str", "repr", "all", "any", "max", "min"]
def bidNames : List Str := ["dict", "list"]
def stdNames : List Str := ["dict", "len", "int", "abs", "list", "str", "repr", "all", "any", "max", "min", "range", "enumerate", "isinstance", "tuple"]
def calmBi : List Str := ["all", "any", "max", "min", "len"]

section
variable (N : List Str)
/-- a name that may be stored to -/
def stoB (fnb : Str → Bool) (sc : Scope) (x : Str) : Bool :=
  match sc.names.lookup x with
  | some .local => true
  | some .cell => fnb x
  | _ => false
def chkT (fnb : Str → Bool) (sc : Scope) : Tg → Expr → Bool
  | .nm i, .Name x _ => decide (N[i]? = some x) && stoB fnb sc x
  | .tp l, .Tuple es _ _ => (l.length == es.length) && (l.zip es).all fun q => match q.2 with
    | .Name x _ => decide (N[q.1]? = some x) && stoB fnb sc x
    | _ => false
  | _, _ => false
def cellB (scope : Scope) (x : Str) : Bool := scope.names.lookup x == some .cell
def enuOk : E → Expr → Bool
  | .enu _, .Tuple .. => true
  | .enu _, _ => false
  | .itm _, .Tuple .. => true
  | .itm _, _ => false
  | _, _ => true
def tgIx : Tg → List Nat
  | .nm i => [i]
  | .tp l => l
def optB (isNil : Bool) (f : Expr → Bool) : Option Expr → Bool
  | none => isNil
  | some e => !isNil && f e
def ifsB (isNil : Bool) (f : Expr → Bool) : List Expr → Bool
  | [] => isNil
  | [e] => !isNil && f e
  | _ => false
mutual
def chkE (sc : Scope) (hot : Option Nat) : E → Expr → Bool
  | .var i, .Name x _ => decide (N[i]? = some x) && visB sc x && okN x && decide (hot ≠ some i)
  | .non, .Constant .none _ _ => true
  | .bl b, .Constant (.bool c) _ _ => b == c
  | .int i, .Constant (.int j) _ _ => decide (i = j)
  | .str s, .Constant (.str t) _ _ => decide (s = t)
  | .con x, .Name y _ => decide (x = y) && glB sc x && okN x
  | .bin o a b, .BinOp l op r _ => decide (o = op) && chkE sc hot a l && chkE sc hot b r
  | .neg a, .UnaryOp .USub e _ => chkE sc hot a e
  | .cmp o a b, .Compare l [op] [r] _ => decide (o = op) && chkE sc hot a l && chkE sc hot b r && !behindInMarks op r
  | .chn o p a b c, .Compare l [o2, p2] [m, r] _ => decide (o = o2) && decide (p = p2) && chkE sc hot a l && chkE sc hot b m && chkE sc hot c r && !lastMarks [o2, p2] [m, r]
  | .and a b, .BoolOp .And (l :: m :: rest) pos => chkE sc hot a l && (match rest with
    | [] => chkE sc hot b m
    | _ => chkE sc hot b (.BoolOp .And (m :: rest) pos))
  | .or a b, .BoolOp .Or (l :: m :: rest) pos => chkE sc hot a l && (match rest with
    | [] => chkE sc hot b m
    | _ => chkE sc hot b (.BoolOp .Or (m :: rest) pos))
  | .not a, .UnaryOp .Not e _ => chkE sc hot a e
  | .ife c a b, .IfExp t l r _ => chkE sc hot c t && chkE sc hot a l && chkE sc hot b r
  | .tup l, .Tuple es _ _ => chkL sc hot l es && decide (es.length ≤ 1000)
  | .lst l, .List es _ => chkL sc hot l es && decide (es.length ≤ 1000)
  | .call f l, .Call (.Name x _) args [] _ => decide (f = x) && glB sc x && okN x && chkL sc hot l args && hot.isNone
  | .make c l, .Call (.Name x _) args [] _ => decide (c = x) && glB sc x && okN x && chkL sc hot l args && hot.isNone && !args.isEmpty
  | .makek c ks _ l, .Call (.Name x _) [] kws _ => decide (c = x) && glB sc x && okN x && decide (kws.map (·.arg) = ks.map some) && chkL sc hot l (kws.map (·.value)) && hot.isNone
  | .bi f l, .Call (.Name x _) args [] _ => decide (f = x) && glB sc x && okN x && chkL sc hot l args && biNames.contains x && !args.isEmpty && (hot.isNone || !calmBi.contains x)
  | .om o m l, .Call (.Attribute r x apos) args [] pos => decide (m = x) && chkE sc hot o r && chkL sc hot l args && noSup r && hot.isNone && decide (args.length ≤ 20) && (apos.endLine == pos.line)
  | .bm o m l, .Call (.Attribute r x apos) args [] pos => decide (m = x) && chkE sc hot o r && chkL sc hot l args && noSup r && decide (args.length ≤ 2) && (apos.endLine == pos.line) && (bmStr.contains x || bmLst.contains x)
  | .attr o f, .Attribute r x _ => decide (f = x) && chkE sc hot o r && noSup r && hot.isNone
  | .slc a lo hi, .Subscript v (.Slice l u none _) _ => chkE sc hot a v && optB (noneE lo) (chkE sc hot lo) l && optB (noneE hi) (chkE sc hot hi) u
  | .sub a b, .Subscript v i _ => chkE sc hot a v && chkE sc hot b i && notSlc i && hot.isNone
  | .lc e t it c vs, .ListComp elt [⟨tg, iter, ifs, k0⟩] scope _ => decide (k0 = 0) && hot.isNone && blkC N sc scope (vs.map fun i => ((N[i]?).getD Str.empty, i)) && (chkE sc hot it iter && notSet iter) && enuOk it tg && chkT N (cellB scope) (relS scope sc) t tg && chkE (relS scope sc) hot e elt &&
      (tgIx t).all (fun i => vs.contains i) && ifsB (noneE c) (chkE (relS scope sc) hot c) ifs
  | .bid f l, .Call (.Name x _) args [] _ => decide (f = x) && glB sc x && okN x && chkL sc hot l args && bidNames.contains x && !args.isEmpty && hot.isNone
  | .dgt o k d, .Call (.Attribute r x apos) [a] [] pos => decide (x = ("get" : Str)) && noneE d && chkE sc hot o r && noSup r && (apos.endLine == pos.line) && chkE sc hot k a
  | .dgt o k d, .Call (.Attribute r x apos) [a, b] [] pos => decide (x = ("get" : Str)) && !noneE d && chkE sc hot o r && noSup r && (apos.endLine == pos.line) && chkE sc hot k a && chkE sc hot d b
  | .d0, .Dict [] [] _ => true
  | .d1 k v, .Dict [some kx] [vx] _ => chkE sc hot k kx && chkE sc hot v vx
  | .dc k e t it c vs, .DictComp kx elt [⟨tg, iter, ifs, k0⟩] scope _ => decide (k0 = 0) && hot.isNone && blkC N sc scope (vs.map fun i => ((N[i]?).getD Str.empty, i)) && (chkE sc hot it iter && notSet iter) && enuOk it tg && chkT N (cellB scope) (relS scope sc) t tg && chkE (relS scope sc) hot e elt &&
      (tgIx t).all (fun i => vs.contains i) && ifsB (noneE c) (chkE (relS scope sc) hot c) ifs && chkE (relS scope sc) hot k kx
  | .lc2 e t it c t2 it2 c2 vs vs2, .ListComp elt [⟨tg, iter, ifs, k0⟩, ⟨tg2, iter2, ifs2, k1⟩] scope _ => decide (k0 = 0) && decide (k1 = 0) && hot.isNone && blkC N sc scope (vs.map fun i => ((N[i]?).getD Str.empty, i)) && (chkE sc hot it iter && notSet iter) && enuOk it tg && chkT N (cellB scope) (relS scope sc) t tg && chkE (relS scope sc) hot e elt &&
      (tgIx t).all (fun i => vs.contains i) && ifsB (noneE c) (chkE (relS scope sc) hot c) ifs && (chkE (relS scope sc) hot it2 iter2 && notSet iter2) && enuOk it2 tg2 && chkT N (cellB scope) (relS scope sc) t2 tg2 && (tgIx t2).all (fun i => vs2.contains i) && vs2.all (fun i => vs.contains i) && ifsB (noneE c2) (chkE (relS scope sc) hot c2) ifs2
  | .exv, .Attribute (.Name x _) f _ => decide (f = ("value" : Str)) && visB sc x && okN x && (match hot with
    | some i => decide (N[i]? = some x)
    | none => false)
  | .exi c, .Call (.Name f _) [.Name x _, .Name y _] [] _ => decide (f = ("isinstance" : Str)) && glB sc f && visB sc x && okN x && decide (c = y) && glB sc y && okN y && (match hot with
    | some i => decide (N[i]? = some x)
    | none => false)
  | .rng1 a, .Call (.Name x _) [e] [] _ => decide (x = ("range" : Str)) && glB sc x && chkE sc hot a e
  | .rng2 a b, .Call (.Name x _) [e, e2] [] _ => decide (x = ("range" : Str)) && glB sc x && chkE sc hot a e && chkE sc hot b e2
  | .enu a, .Call (.Name x _) [e] [] _ => decide (x = ("enumerate" : Str)) && glB sc x && chkE sc hot a e
  | .itm a, .Call (.Attribute r x apos) [] [] pos => decide (x = ("items" : Str)) && chkE sc hot a r && noSup r && (apos.endLine == pos.line)
  | .cal o l, .Call (.Name x q) (e1 :: es) [] _ => chkE sc hot o (.Name x q) && chkL sc hot l (e1 :: es) && hot.isNone
  | .omk o m ks _ l, .Call (.Attribute r x apos) [] kws pos => decide (m = x) && chkE sc hot o r && chkL sc hot l (kws.map (·.value)) && decide (kws.map (·.arg) = ks.map some) && noSup r && hot.isNone && decide (kws.length ≤ 20) && (apos.endLine == pos.line)
  | .clm c m l, .Call (.Attribute (.Name x _) y apos) (e1 :: es) [] pos => decide (c = x) && decide (m = y) && glB sc x && okN x && chkL sc hot l (e1 :: es) && hot.isNone && decide ((e1 :: es).length ≤ 20) && (apos.endLine == pos.line)
  | .isb a t, .Call (.Name f _) [e, .Name y _] [] _ => decide (f = ("isinstance" : Str)) && glB sc f && chkE sc hot a e && decide (t = y) && isbNames.contains y && glB sc y
  | _, _ => false
def chkL (sc : Scope) (hot : Option Nat) : E → List Expr → Bool
  | .nil, [] => true
  | .cons a r, e :: es => chkE sc hot a e && chkL sc hot r es
  | _, _ => false
end
def chkI (sc : Scope) (hot : Option Nat) (a : E) (t : Expr) : Bool := chkE N sc hot a t && notSet t
def chkO (sc : Scope) (hot : Option Nat) (a : E) (o : Option Expr) : Bool := optB (noneE a) (chkE N sc hot a) o
def chkC (sc : Scope) (hot : Option Nat) (a : E) (o : List Expr) : Bool := ifsB (noneE a) (chkE N sc hot a) o
end

variable (p : Prog)
structure Ent (ca fa : Str → Addr) (fd : Str → FuncData) (ps : Str → List Str) (K : Frg) (chkB : List Str → Scope → S → List Stmt → Bool) (key : Str) (d : Def) : Prop where
  ex : ∃ (x qual : Str) (params : Arguments) (body : List Stmt) (scope : Scope) (N : List Str), FunD K x qual params body scope [] [] (fa key) (fd key) ∧ FnScope N (ps key) scope ∧ chkB N scope d.body body = true ∧ N.length = d.nv
  np : (ps key).length = d.np
  binds : Binds K (fd key) (ps key) []
structure Facts (ca fa : Str → Addr) (fd : Str → FuncData) (ps : Str → List Str) (K : Frg) (mg : Str → Option Value) : Prop where
  con : ∀ x v, p.cons.lookup x = some v → ∃ u xv, mg x = some u ∧ RelV xv u ∧ ∀ ρ H, Rv K ρ H v xv
  bi : ∀ x, stdNames.contains x = true → mg x = none
  fn : ∀ key, p.funs.contains key = true → mg key = some (.ref (fa key)) ∧ PySem.W.keepIn K (.ref (fa key)) = true
  bnd : ∀ key d, p.defs.lookup key = some d → Binds K (fd key) (ps key) [] ∧ (ps key).length = d.np ∧ PySem.W.fnIn K (fa key) = true
  cls : ∀ c i, p.clss.lookup c = some i → mg c = some (.ref (ca c)) ∧ Cls K (ca c) ∧ (∀ f, i.flds.contains f = true → NoAttr K (ca c) f) ∧ Mk K (ca c) (fa i.init) ∧
    (∀ m k, i.meths.lookup m = some k → Meth K (ca c) m (fa k)) ∧ (∀ f k, i.props.lookup f = some k → ∃ pa, PropOf K (ca c) f pa (fa k))
  kb : ∀ c i ks q, p.clss.lookup c = some i → p.kws.contains (c, ks, q) = true → ∀ d, p.defs.lookup i.init = some d → ∀ (s : Shared) (u0 : Value) (us uws : List Value), K.In s.heap → us.length = ks.length → (q.mapM fun j => us[j]?) = some uws → BindsTo s (fd i.init) ⟨[u0], ks.zip us⟩ ((ps i.init).zip (u0 :: uws))
  stt : ∀ c m k, p.stt.contains (c, m, k) = true → mg c = some (.ref (ca c)) ∧ PySem.W.readsIn K (ca c) (.type "type") = true ∧ PySem.W.specialIn K (.ref (ca c)) "__getattribute__" = some (some (.builtin "type.__getattribute__")) ∧
    PySem.W.findCls K (.ref (ca c)) (.type "type") m = some (.val (.ref (fa k))) ∧ PySem.W.keepIn K (.ref (fa k)) = true
  kbm : ∀ k ks q, p.kwm.contains (k, ks, q) = true → ∀ d, p.defs.lookup k = some d → ∀ (s : Shared) (u0 : Value) (us uws : List Value), K.In s.heap → us.length = ks.length → (q.mapM fun j => us[j]?) = some uws → BindsTo s (fd k) ⟨[u0], ks.zip us⟩ ((ps k).zip (u0 :: uws))
  exc : ∀ c, p.exs.contains c = true → mg c = some (.ref (ca c)) ∧ OexC K (ca c) ∧ XfC K (ca c) ∧ PySem.W.findIn K (.ref (ca c)) "value" = some none
  exd : ∀ c, p.exs.contains c = true → L2.ExcC K (ca c)
  exk : ∀ c d, p.exs.contains c = true → p.exs.contains d = true → PySem.W.kitOne K (.ref (ca d)) (.ref (ca c)) = some (isaP p d c)
  exm : ∀ c d, p.exs.contains c = true → p.exs.contains d = true → PySem.W.exmOne K (.ref (ca d)) (.ref (ca c)) = some (isaP p d c)

/-- a def's promise: what the machine says of it -/
def spM (ca : Str → Addr) (K : Frg) (n : Nat) (key : Str) : Sp := fun vs H Q E => ∃ ρ st mvs, Rst K ca ρ H st ∧ Rvs K ρ H mvs vs ∧ Fin K ca (Rv K) (callF p n key mvs st) ρ H [] Q (fun c d _ H' => E c d H')

/-- what the __init__ of the own exceptions does: the value is kept -/
def spX (K : Frg) : Sp := fun vs H Q _ => ∃ a C v, vs = [.ref a, v] ∧ OexC K C ∧ PySem.W.findIn K (.ref C) "value" = some none ∧ H a = some (exo a C none) ∧ ∀ dx, H dx = none → dx ≠ a → Q .non (upd (upd H dx (exd dx [(("value" : Str), v)])) a (exo a C (some dx)))
/-- the suite of an except clause: the name's slot, the exception, its class, its dict -/
structure Hx where
  i : Nat
  a : Addr
  cls : Value
  d : Option Addr
def Rx (K : Frg) (ca : Str → Addr) (ρ : List Addr) (H : Hp) (e : Env) (σ : L2.St) : Option Hx → Prop
  | none => True
  | some h => ∃ c v dd w, e.x = some (c, v) ∧ h.cls = .ref (ca c) ∧ h.d = some dd ∧ H dd = some (.xd [(("value" : Str), w)]) ∧ Rv K ρ H v w ∧ p.exs.contains c = true ∧ σ[h.i]? = some (some (.ref h.a))

structure Gd (ca fa : Str → Addr) (fd : Str → FuncData) (ps : Str → List Str) (X : Cx) (n : Nat) (W : WX) (hx : Option Hx) : Prop where
  nd : X.N.Nodup
  fc : Facts p ca fa fd ps X.K X.mg
  gd : X.A.guards = some []
  un : X.A.units + 100 < cLine
  cold : hx = none → X.calm = true ∧ Room (2 * n + 4) X.A
  fn : ∀ key d, p.defs.lookup key = some d → FnG X.prog X.w X.K X.mg X.base (2 * n + 3) (fa key) (fd key) (ps key) (spM p ca X.K n key)
  tk : Takes X W
  exi : ∀ c, p.exs.contains c = true → ∃ (fI : Addr) (fdI : FuncData) (psI : List Str), PySem.W.findIn X.K (.ref (ca c)) "__init__" = some (some (.ref fI)) ∧ PySem.W.typeIn X.K (.ref fI) = some (.type "function") ∧
    FnOk X.prog X.w X.K X.mg X.base (CX X.prog X.w) 1 fI fdI psI (spX X.K) ∧ Binds X.K fdI psI []
  hot : ∀ h, hx = some h → ∃ X0 oe pn, X = Cx.suite X0 h.a ((h.a, oe) :: pn) ∧ Zc h.cls h.d oe ∧ ∃ vs, oe.data = .fields vs
end AM
end

section
set_option maxRecDepth 100000
set_option maxHeartbeats 8000000
namespace AM
open PySem L2 PyProof.Rows

theorem impPE {X : Cx} {e : Expr} {t t' : TE} (h : PE X e t) (k : ∀ σ H Q, t' σ H Q → t σ H Q) : PE X e t' := ⟨fun pins s σ H Q I hw => h.run pins s σ H Q I (k σ H Q hw)⟩
theorem impPT {X : Cx} {e : Expr} {t t' : TT} (h : PT X e t) (k : ∀ σ H Q, t' σ H Q → t σ H Q) : PT X e t' := ⟨fun pins s σ H Q I hw => h.run pins s σ H Q I (k σ H Q hw)⟩
theorem impPW {X : Cx} {e : Expr} {t t' : TT} (h : PW X e t) (k : ∀ σ H Q, t' σ H Q → t σ H Q) : PW X e t' := ⟨fun wh pins s σ H Q I hw => h.run wh pins s σ H Q I (k σ H Q hw)⟩
theorem impPA {X : Cx} {e : List Expr} {t t' : TA} (h : PA X e t) (k : ∀ σ H Q, t' σ H Q → t σ H Q) : PA X e t' := ⟨fun pos pins s σ H Q I hw => h.run pos pins s σ H Q I (k σ H Q hw)⟩
theorem impPO {X : Cx} {e : Option Expr} {t t' : TO} (h : PO X e t) (k : ∀ σ H Q, t' σ H Q → t σ H Q) : PO X e t' := ⟨fun pins s σ H Q I hw => h.run pins s σ H Q I (k σ H Q hw)⟩

section
variable {K : Frg} {ca : Str → Addr} {α β γ δ : Type} {R : List Addr → Hp → α → β → Prop} {ρ ρ' : List Addr} {H H' : Hp} {σ : L2.St} {W : WX}
theorem Fin.imp {r : Res α} {Q Q' : β → Hp → Prop} (h : Fin K ca R r ρ H σ Q W) (k : ∀ b H', Q b H' → Q' b H') : Fin K ca R r ρ H σ Q' W := by
  cases r with
  | ok a st => exact fun ρ' H' b p e hs hr => k b H' (h ρ' H' b p e hs hr)
  | err c v st => exact h
  | stk => exact h
end
theorem Rx.mono {p : Prog} {K : Frg} {ca : Str → Addr} {ρ ρ' : List Addr} {H H' : Hp} {e : Env} {σ : L2.St} {hx : Option Hx} (pr : ρ <+: ρ') (ex : Ext H H') (h : Rx p K ca ρ H e σ hx) : Rx p K ca ρ' H' e σ hx := by
  cases hx with
  | none => exact h
  | some h0 =>
    obtain ⟨c, v, dd, w, e1, e2, e3, e4, e5, e6, e7⟩ := h
    exact ⟨c, v, dd, w, e1, e2, e3, ex dd _ trivial e4, e5.mono pr ex, e6, e7⟩

section
variable (p : Prog) (ca fa : Str → Addr) (fd : Str → FuncData) (ps : Str → List Str)
/-- where a run stands -/
structure At (K : Frg) (ρ : List Addr) (H : Hp) (e : Env) (σ : L2.St) (hx : Option Hx) (st : Store) : Prop where
  st : Rst K ca ρ H st
  env : Renv K ρ H e.s σ
  ex : Rx p K ca ρ H e σ hx
def TEm (X : Cx) (n : Nat) (hx : Option Hx) (W : WX) (a : E) : TE := fun σ H Q => ∃ ρ e st, At p ca X.K ρ H e σ hx st ∧ Fin X.K ca (Rv X.K) (ev p (callF p n) a e st) ρ H σ Q W
def TLm (X : Cx) (n : Nat) (hx : Option Hx) (W : WX) (a : E) : TA := fun σ H Q => ∃ ρ e st, At p ca X.K ρ H e σ hx st ∧ Fin X.K ca (Rvs X.K) (evL p (callF p n) a e st) ρ H σ Q W
def TTm (X : Cx) (n : Nat) (hx : Option Hx) (W : WX) (a : E) : TT := fun σ H Q => ∃ ρ e st, At p ca X.K ρ H e σ hx st ∧ Fin X.K ca (fun _ _ a b => a = b) (evT p (callF p n) a e st) ρ H σ Q W
/-- what an iterator of the heap does, told by the machine's -/
def Wk (K : Frg) (ca : Str → Addr) (J : It) (k : Iter) (ρ : List Addr) (H0 : Hp) : Prop :=
  ∀ i H st ρ1, ρ <+: ρ1 → Ext H0 H → Rst K ca ρ1 H st → (k.next i st = some none → J.stop i H) ∧
    (∀ v, k.next i st = some (some v) → J.go i H ∧ ∀ x H', J.yld i H x H' → Ext H H' ∧ Rst K ca ρ1 H' st ∧ Rv K ρ1 H' v x)
def TIm (X : Cx) (n : Nat) (hx : Option Hx) (W : WX) (a : E) : TI := fun σ H R => ∃ ρ e st, At p ca X.K ρ H e σ hx st ∧ Fin X.K ca (fun ρ' H' k J => Wk X.K ca J k ρ' H') (evI p (callF p n) a e st) ρ H σ R W

variable {p ca fa fd ps}
theorem At.mono {K : Frg} {ρ ρ' : List Addr} {H H' : Hp} {e : Env} {σ : L2.St} {hx : Option Hx} {st st' : Store} (h : At p ca K ρ H e σ hx st) (pr : ρ <+: ρ') (ex : Ext H H') (hs : Rst K ca ρ' H' st') : At p ca K ρ' H' e σ hx st' :=
  ⟨hs, h.env.mono pr ex, h.ex.mono pr ex⟩

section
variable {X : Cx} {n : Nat} {hx : Option Hx} {W : WX} {ρ : List Addr} {H : Hp} {e : Env} {σ : L2.St} {st : Store} {γ δ : Type} {R' : List Addr → Hp → γ → δ → Prop} {Q : δ → Hp → Prop}
theorem goE {a : E} {f : Val → Store → Res γ} (h : At p ca X.K ρ H e σ hx st) (hf : Fin X.K ca R' ((ev p (callF p n) a e st).bind f) ρ H σ Q W) :
    TEm p ca X n hx W a σ H (fun x H1 => ∃ ρ1 v st1, ρ <+: ρ1 ∧ Ext H H1 ∧ At p ca X.K ρ1 H1 e σ hx st1 ∧ Rv X.K ρ1 H1 v x ∧ ev p (callF p n) a e st = .ok v st1 ∧ Fin X.K ca R' (f v st1) ρ1 H1 σ Q W) :=
  ⟨ρ, e, st, h, hf.bind.imp fun x H1 ⟨ρ1, v, st1, pr, ex, hs, hr, eq, hq⟩ => ⟨ρ1, v, st1, pr, ex, h.mono pr ex hs, hr, eq, hq⟩⟩
theorem goL {a : E} {f : List Val → Store → Res γ} (h : At p ca X.K ρ H e σ hx st) (hf : Fin X.K ca R' ((evL p (callF p n) a e st).bind f) ρ H σ Q W) :
    TLm p ca X n hx W a σ H (fun x H1 => ∃ ρ1 v st1, ρ <+: ρ1 ∧ Ext H H1 ∧ At p ca X.K ρ1 H1 e σ hx st1 ∧ Rvs X.K ρ1 H1 v x ∧ evL p (callF p n) a e st = .ok v st1 ∧ Fin X.K ca R' (f v st1) ρ1 H1 σ Q W) :=
  ⟨ρ, e, st, h, hf.bind.imp fun x H1 ⟨ρ1, v, st1, pr, ex, hs, hr, eq, hq⟩ => ⟨ρ1, v, st1, pr, ex, h.mono pr ex hs, hr, eq, hq⟩⟩
theorem goT {a : E} {f : Bool → Store → Res γ} (h : At p ca X.K ρ H e σ hx st) (hf : Fin X.K ca R' ((evT p (callF p n) a e st).bind f) ρ H σ Q W) :
    TTm p ca X n hx W a σ H (fun x H1 => ∃ ρ1 st1, ρ <+: ρ1 ∧ Ext H H1 ∧ At p ca X.K ρ1 H1 e σ hx st1 ∧ evT p (callF p n) a e st = .ok x st1 ∧ Fin X.K ca R' (f x st1) ρ1 H1 σ Q W) :=
  ⟨ρ, e, st, h, hf.bind.imp fun x H1 ⟨ρ1, v, st1, pr, ex, hs, hr, eq, hq⟩ => by subst hr; exact ⟨ρ1, st1, pr, ex, h.mono pr ex hs, eq, hq⟩⟩
/-- nothing more to run -/
theorem Fin.now {α β : Type} {K : Frg} {R : List Addr → Hp → α → β → Prop} {a : α} {b : β} {st : Store} {Q : β → Hp → Prop} {ρ : List Addr} {H : Hp} (h : Fin K ca R (.ok a st) ρ H σ Q W) (hs : Rst K ca ρ H st) (hr : R ρ H a b) : Q b H := h.ok hs hr
end

theorem TEm.imp {X : Cx} {n : Nat} {hx : Option Hx} {W : WX} {a : E} {σ : L2.St} {H : Hp} {Q Q' : VK} (h : TEm p ca X n hx W a σ H Q) (k : ∀ x H1, Q x H1 → Q' x H1) : TEm p ca X n hx W a σ H Q' :=
  let ⟨ρ, e, st, at_, hf⟩ := h; ⟨ρ, e, st, at_, hf.imp k⟩
theorem TLm.imp {X : Cx} {n : Nat} {hx : Option Hx} {W : WX} {a : E} {σ : L2.St} {H : Hp} {Q Q' : List V → Hp → Prop} (h : TLm p ca X n hx W a σ H Q) (k : ∀ x H1, Q x H1 → Q' x H1) : TLm p ca X n hx W a σ H Q' :=
  let ⟨ρ, e, st, at_, hf⟩ := h; ⟨ρ, e, st, at_, hf.imp k⟩
theorem TTm.imp {X : Cx} {n : Nat} {hx : Option Hx} {W : WX} {a : E} {σ : L2.St} {H : Hp} {Q Q' : Bool → Hp → Prop} (h : TTm p ca X n hx W a σ H Q) (k : ∀ x H1, Q x H1 → Q' x H1) : TTm p ca X n hx W a σ H Q' :=
  let ⟨ρ, e, st, at_, hf⟩ := h; ⟨ρ, e, st, at_, hf.imp k⟩
section
variable {N : List Str} {sc : Scope} {hot : Option Nat} {t : Expr} {a b c l : E} {f m : Str}
theorem inv_bin {o : Operator} (h : chkE N sc hot (.bin o a b) t = true) : ∃ l r pos, t = .BinOp l o r pos ∧ chkE N sc hot a l = true ∧ chkE N sc hot b r = true := by
  cases t <;> try simp [chkE] at h
  obtain ⟨⟨rfl, h1⟩, h2⟩ := h
  exact ⟨_, _, _, rfl, h1, h2⟩
theorem inv_var {i : Nat} (h : chkE N sc hot (.var i) t = true) : ∃ x pos, t = .Name x pos ∧ N[i]? = some x ∧ visB sc x = true ∧ okN x = true := by
  cases t <;> try simp [chkE] at h
  exact ⟨_, _, rfl, h.1.1.1, h.1.1.2, h.1.2⟩
theorem inv_con {x : Str} (h : chkE N sc hot (.con x) t = true) : ∃ pos, t = .Name x pos ∧ glB sc x = true ∧ okN x = true := by
  cases t <;> try simp [chkE] at h
  obtain ⟨⟨rfl, h1⟩, h2⟩ := h
  exact ⟨_, rfl, h1, h2⟩
theorem inv_non (h : chkE N sc hot .non t = true) : ∃ k pos, t = .Constant .none k pos := by
  cases t <;> try simp [chkE] at h
  rename_i v k pos
  cases v <;> try simp [chkE] at h
  exact ⟨_, _, rfl⟩
theorem inv_bl {b : Bool} (h : chkE N sc hot (.bl b) t = true) : ∃ k pos, t = .Constant (.bool b) k pos := by
  cases t <;> try simp [chkE] at h
  rename_i v k pos
  cases v <;> try simp [chkE] at h
  subst h
  exact ⟨_, _, rfl⟩
theorem inv_int {b : Int} (h : chkE N sc hot (.int b) t = true) : ∃ k pos, t = .Constant (.int b) k pos := by
  cases t <;> try simp [chkE] at h
  rename_i v k pos
  cases v <;> try simp [chkE] at h
  subst h
  exact ⟨_, _, rfl⟩
theorem inv_str {b : Str} (h : chkE N sc hot (.str b) t = true) : ∃ k pos, t = .Constant (.str b) k pos := by
  cases t <;> try simp [chkE] at h
  rename_i v k pos
  cases v <;> try simp [chkE] at h
  subst h
  exact ⟨_, _, rfl⟩
theorem inv_neg (h : chkE N sc hot (.neg a) t = true) : ∃ r pos, t = .UnaryOp .USub r pos ∧ chkE N sc hot a r = true := by
  cases t <;> try simp [chkE] at h
  rename_i op r pos
  cases op <;> try simp [chkE] at h
  exact ⟨_, _, rfl, h⟩
theorem inv_not (h : chkE N sc hot (.not a) t = true) : ∃ r pos, t = .UnaryOp .Not r pos ∧ chkE N sc hot a r = true := by
  cases t <;> try simp [chkE] at h
  rename_i op r pos
  cases op <;> try simp [chkE] at h
  exact ⟨_, _, rfl, h⟩
theorem inv_cmp {o : CmpOp} (h : chkE N sc hot (.cmp o a b) t = true) : ∃ l r pos, t = .Compare l [o] [r] pos ∧ chkE N sc hot a l = true ∧ chkE N sc hot b r = true ∧ behindInMarks o r = false := by
  cases t <;> try simp [chkE] at h
  rename_i l ops rs pos
  rcases ops with _ | ⟨o1, _ | ⟨o2, os⟩⟩ <;> rcases rs with _ | ⟨r1, _ | ⟨r2, rr⟩⟩ <;> try simp [chkE] at h
  obtain ⟨⟨⟨rfl, h1⟩, h2⟩, h3⟩ := h
  exact ⟨_, _, _, rfl, h1, h2, h3⟩
theorem inv_chn {o q : CmpOp} (h : chkE N sc hot (.chn o q a b c) t = true) : ∃ l m r pos, t = .Compare l [o, q] [m, r] pos ∧ chkE N sc hot a l = true ∧ chkE N sc hot b m = true ∧ chkE N sc hot c r = true ∧ lastMarks [o, q] [m, r] = false := by
  cases t <;> try simp [chkE] at h
  rename_i l ops rs pos
  rcases ops with _ | ⟨o1, _ | ⟨o2, _ | ⟨o3, os⟩⟩⟩ <;> rcases rs with _ | ⟨r1, _ | ⟨r2, _ | ⟨r3, rr⟩⟩⟩ <;> try simp [chkE] at h
  obtain ⟨⟨⟨⟨⟨rfl, rfl⟩, h1⟩, h2⟩, h3⟩, h4⟩ := h
  exact ⟨_, _, _, _, rfl, h1, h2, h3, h4⟩
theorem inv_and (h : chkE N sc hot (.and a b) t = true) : ∃ l m rest pos, t = .BoolOp .And (l :: m :: rest) pos ∧ chkE N sc hot a l = true ∧ ((rest = [] ∧ chkE N sc hot b m = true) ∨ (rest ≠ [] ∧ chkE N sc hot b (.BoolOp .And (m :: rest) pos) = true)) := by
  cases t <;> try simp [chkE] at h
  rename_i op vs pos
  cases op <;> try simp [chkE] at h
  rcases vs with _ | ⟨l, _ | ⟨m, _ | ⟨x, r⟩⟩⟩ <;> simp [chkE] at h
  · exact ⟨l, m, [], pos, rfl, h.1, .inl ⟨rfl, h.2⟩⟩
  · exact ⟨l, m, x :: r, pos, rfl, h.1, .inr ⟨by simp, h.2⟩⟩
theorem inv_or (h : chkE N sc hot (.or a b) t = true) : ∃ l m rest pos, t = .BoolOp .Or (l :: m :: rest) pos ∧ chkE N sc hot a l = true ∧ ((rest = [] ∧ chkE N sc hot b m = true) ∨ (rest ≠ [] ∧ chkE N sc hot b (.BoolOp .Or (m :: rest) pos) = true)) := by
  cases t <;> try simp [chkE] at h
  rename_i op vs pos
  cases op <;> try simp [chkE] at h
  rcases vs with _ | ⟨l, _ | ⟨m, _ | ⟨x, r⟩⟩⟩ <;> simp [chkE] at h
  · exact ⟨l, m, [], pos, rfl, h.1, .inl ⟨rfl, h.2⟩⟩
  · exact ⟨l, m, x :: r, pos, rfl, h.1, .inr ⟨by simp, h.2⟩⟩
theorem inv_ife (h : chkE N sc hot (.ife c a b) t = true) : ∃ x l r pos, t = .IfExp x l r pos ∧ chkE N sc hot c x = true ∧ chkE N sc hot a l = true ∧ chkE N sc hot b r = true := by
  cases t <;> try simp [chkE] at h
  exact ⟨_, _, _, _, rfl, h.1.1, h.1.2, h.2⟩
theorem inv_tup (h : chkE N sc hot (.tup l) t = true) : ∃ es k pos, t = .Tuple es k pos ∧ chkL N sc hot l es = true ∧ es.length ≤ 1000 := by
  cases t <;> try simp [chkE] at h
  exact ⟨_, _, _, rfl, h.1, h.2⟩
theorem inv_lst (h : chkE N sc hot (.lst l) t = true) : ∃ es pos, t = .List es pos ∧ chkL N sc hot l es = true ∧ es.length ≤ 1000 := by
  cases t <;> try simp [chkE] at h
  exact ⟨_, _, rfl, h.1, h.2⟩
theorem inv_call (h : chkE N sc hot (.call f l) t = true) : ∃ q args pos, t = .Call (.Name f q) args [] pos ∧ glB sc f = true ∧ okN f = true ∧ chkL N sc hot l args = true ∧ hot = none := by
  cases t <;> try simp [chkE] at h
  rename_i fn args kw pos
  cases fn <;> try simp [chkE] at h
  cases kw <;> try simp [chkE] at h
  obtain ⟨⟨⟨⟨rfl, h1⟩, h2⟩, h3⟩, h4⟩ := h
  exact ⟨_, _, _, rfl, h1, h2, h3, h4⟩
theorem inv_make (h : chkE N sc hot (.make f l) t = true) : ∃ q x args pos, t = .Call (.Name f q) (x :: args) [] pos ∧ glB sc f = true ∧ okN f = true ∧ chkL N sc hot l (x :: args) = true ∧ hot = none := by
  cases t <;> try simp [chkE] at h
  rename_i fn args kw pos
  cases fn <;> try simp [chkE] at h
  cases kw <;> try simp [chkE] at h
  cases args <;> try simp [chkE] at h
  obtain ⟨⟨⟨⟨rfl, h1⟩, h2⟩, h3⟩, h4⟩ := h
  exact ⟨_, _, _, _, rfl, h1, h2, h3, h4⟩
theorem inv_makek {ks : List Str} {q : List Nat} (h : chkE N sc hot (.makek f ks q l) t = true) : ∃ p kws pos, t = .Call (.Name f p) [] kws pos ∧ glB sc f = true ∧ okN f = true ∧ kws.map (·.arg) = ks.map some ∧ chkL N sc hot l (kws.map (·.value)) = true ∧ hot = none := by
  cases t <;> try simp [chkE] at h
  rename_i fn args kw pos
  cases fn <;> try simp [chkE] at h
  cases args <;> try simp [chkE] at h
  obtain ⟨⟨⟨⟨⟨rfl, h1⟩, h2⟩, h3⟩, h4⟩, h5⟩ := h
  exact ⟨_, _, _, rfl, h1, h2, h3, h4, h5⟩
theorem inv_bi (h : chkE N sc hot (.bi f l) t = true) : ∃ q x args pos, t = .Call (.Name f q) (x :: args) [] pos ∧ glB sc f = true ∧ okN f = true ∧ chkL N sc hot l (x :: args) = true ∧ biNames.contains f = true ∧ (hot = none ∨ calmBi.contains f = false) := by
  cases t <;> try simp [chkE] at h
  rename_i fn args kw pos
  cases fn <;> try simp [chkE] at h
  cases kw <;> try simp [chkE] at h
  cases args <;> try simp [chkE] at h
  obtain ⟨⟨⟨⟨⟨rfl, h1⟩, h2⟩, h3⟩, h4⟩, h5⟩ := h
  exact ⟨_, _, _, _, rfl, h1, h2, h3, by simpa using h4, by simpa using h5⟩
theorem inv_om {o : E} (h : chkE N sc hot (.om o m l) t = true) : ∃ r apos args pos, t = .Call (.Attribute r m apos) args [] pos ∧ chkE N sc hot o r = true ∧ chkL N sc hot l args = true ∧ noSup r = true ∧ hot = none ∧ args.length ≤ 20 ∧ (apos.endLine == pos.line) = true := by
  cases t <;> try simp [chkE] at h
  rename_i fn args kw pos
  cases fn <;> try simp [chkE] at h
  cases kw <;> try simp [chkE] at h
  obtain ⟨⟨⟨⟨⟨⟨rfl, h1⟩, h2⟩, h3⟩, h4⟩, h5⟩, h6⟩ := h
  exact ⟨_, _, _, _, rfl, h1, h2, h3, h4, h5, by simpa using h6⟩
theorem inv_bm {o : E} (h : chkE N sc hot (.bm o m l) t = true) : ∃ r apos args pos, t = .Call (.Attribute r m apos) args [] pos ∧ chkE N sc hot o r = true ∧ chkL N sc hot l args = true ∧ noSup r = true ∧ args.length ≤ 2 ∧ (apos.endLine == pos.line) = true ∧ (bmStr.contains m = true ∨ bmLst.contains m = true) := by
  cases t <;> try simp [chkE] at h
  rename_i fn args kw pos
  cases fn <;> try simp [chkE] at h
  cases kw <;> try simp [chkE] at h
  obtain ⟨⟨⟨⟨⟨⟨rfl, h1⟩, h2⟩, h3⟩, h4⟩, h5⟩, h6⟩ := h
  exact ⟨_, _, _, _, rfl, h1, h2, h3, h4, by simpa using h5, by simpa using h6⟩
theorem inv_attr {o : E} (h : chkE N sc hot (.attr o f) t = true) : ∃ r pos, t = .Attribute r f pos ∧ chkE N sc hot o r = true ∧ noSup r = true ∧ hot = none := by
  cases t <;> try simp [chkE] at h
  obtain ⟨⟨⟨rfl, h1⟩, h2⟩, h3⟩ := h
  exact ⟨_, _, rfl, h1, h2, h3⟩
theorem inv_exv {i : Option Nat} (h : chkE N sc i .exv t = true) : ∃ x q pos j, t = .Attribute (.Name x q) "value" pos ∧ visB sc x = true ∧ okN x = true ∧ i = some j ∧ N[j]? = some x := by
  cases t <;> try simp [chkE] at h
  rename_i v f pos
  cases i with
  | none => cases v <;> simp [chkE] at h
  | some j =>
    cases v <;> try simp [chkE] at h
    obtain ⟨⟨⟨rfl, h1⟩, h2⟩, h3⟩ := h
    exact ⟨_, _, _, j, rfl, h1, h2, rfl, h3⟩
theorem inv_exi {i : Option Nat} {c : Str} (h : chkE N sc i (.exi c) t = true) : ∃ q x q1 q2 pos j, t = .Call (.Name "isinstance" q) [.Name x q1, .Name c q2] [] pos ∧ glB sc "isinstance" = true ∧ visB sc x = true ∧ okN x = true ∧ glB sc c = true ∧ okN c = true ∧ i = some j ∧ N[j]? = some x := by
  cases t <;> try simp [chkE] at h
  rename_i fn args kw pos
  cases fn <;> try simp [chkE] at h
  rcases args with _ | ⟨e1, _ | ⟨e2, _ | ⟨e3, r⟩⟩⟩
  · simp [chkE] at h
  · cases e1 <;> simp [chkE] at h
  · cases e1 <;> try (simp [chkE] at h; done)
    cases e2 <;> try (simp [chkE] at h; done)
    cases kw <;> try (simp [chkE] at h; done)
    cases i with
    | none => simp [chkE] at h
    | some j =>
      simp only [chkE, Bool.and_eq_true, decide_eq_true_eq] at h
      obtain ⟨⟨⟨⟨⟨⟨⟨rfl, h1⟩, h2⟩, h3⟩, rfl⟩, h4⟩, h5⟩, h6⟩ := h
      exact ⟨_, _, _, _, _, j, rfl, h1, h2, h3, h4, h5, rfl, h6⟩
  · cases e1 <;> cases e2 <;> simp [chkE] at h
theorem inv_lc {e it : E} {tg : Tg} {vs : List Nat} (h : chkE N sc hot (.lc e tg it c vs) t = true) : ∃ elt tx iter ifs scope pos, t = .ListComp elt [⟨tx, iter, ifs, 0⟩] scope pos ∧ hot = none ∧ blkC N sc scope (vs.map fun i => ((N[i]?).getD Str.empty, i)) = true ∧ chkI N sc hot it iter = true ∧
    enuOk it tx = true ∧ chkT N (cellB scope) (relS scope sc) tg tx = true ∧ chkE N (relS scope sc) hot e elt = true ∧ (∀ i ∈ tgIx tg, i ∈ vs) ∧ chkC N (relS scope sc) hot c ifs = true := by
  cases t <;> try simp [chkE] at h
  rename_i elt gs scope pos
  rcases gs with _ | ⟨⟨tx, iter, ifs, k⟩, _ | ⟨g2, gr⟩⟩ <;> try simp [chkE] at h
  obtain ⟨⟨⟨⟨⟨⟨⟨⟨rfl, h1⟩, h2⟩, h3⟩, h4⟩, h5⟩, h6⟩, h7⟩, h8⟩ := h
  exact ⟨_, _, _, _, _, _, rfl, by simpa using h1, h2, Bool.and_eq_true_iff.mpr h3, h4, h5, h6, by simpa using h7, h8⟩
theorem inv_bid (h : chkE N sc hot (.bid f l) t = true) : ∃ q x args pos, t = .Call (.Name f q) (x :: args) [] pos ∧ glB sc f = true ∧ okN f = true ∧ chkL N sc hot l (x :: args) = true ∧ bidNames.contains f = true ∧ hot = none := by
  cases t <;> try simp [chkE] at h
  rename_i fn args kw pos
  cases fn <;> try simp [chkE] at h
  cases kw <;> try simp [chkE] at h
  cases args <;> try simp [chkE] at h
  obtain ⟨⟨⟨⟨⟨rfl, h1⟩, h2⟩, h3⟩, h4⟩, h5⟩ := h
  exact ⟨_, _, _, _, rfl, h1, h2, h3, by simpa using h4, by simpa using h5⟩
theorem inv_dgt {o k d : E} (h : chkE N sc hot (.dgt o k d) t = true) : ∃ r apos args pos, t = .Call (.Attribute r "get" apos) args [] pos ∧ chkE N sc hot o r = true ∧ noSup r = true ∧ (apos.endLine == pos.line) = true ∧
    ((∃ a, args = [a] ∧ noneE d = true ∧ chkE N sc hot k a = true) ∨ ∃ a b, args = [a, b] ∧ noneE d = false ∧ chkE N sc hot k a = true ∧ chkE N sc hot d b = true) := by
  cases t <;> try simp [chkE] at h
  rename_i f args kws pos
  cases f <;> try simp [chkE] at h
  rename_i r x apos
  rcases args with _ | ⟨a, _ | ⟨b, _ | ⟨c, cr⟩⟩⟩ <;> rcases kws with _ | ⟨k1, kr⟩ <;> try simp [chkE] at h
  · obtain ⟨⟨⟨⟨⟨rfl, h1⟩, h2⟩, h3⟩, h4⟩, h5⟩ := h
    exact ⟨_, _, _, _, rfl, h2, h3, by simpa using h4, .inl ⟨_, rfl, h1, h5⟩⟩
  · obtain ⟨⟨⟨⟨⟨⟨rfl, h1⟩, h2⟩, h3⟩, h4⟩, h5⟩, h6⟩ := h
    exact ⟨_, _, _, _, rfl, h2, h3, by simpa using h4, .inr ⟨_, _, rfl, h1, h5, h6⟩⟩
theorem inv_d0 (h : chkE N sc hot .d0 t = true) : ∃ pos, t = .Dict [] [] pos := by
  cases t <;> try simp [chkE] at h
  rename_i ks vs pos
  rcases ks with _ | ⟨k, kr⟩ <;> rcases vs with _ | ⟨v, vr⟩ <;> simp [chkE] at h ⊢
theorem inv_d1 {k v : E} (h : chkE N sc hot (.d1 k v) t = true) : ∃ kx vx pos, t = .Dict [some kx] [vx] pos ∧ chkE N sc hot k kx = true ∧ chkE N sc hot v vx = true := by
  cases t <;> try simp [chkE] at h
  rename_i ks vs pos
  rcases ks with _ | ⟨_ | kx, _ | ⟨k2, kr⟩⟩ <;> rcases vs with _ | ⟨vx, _ | ⟨v2, vr⟩⟩ <;> try simp [chkE] at h
  exact ⟨_, _, _, rfl, h.1, h.2⟩
theorem inv_dc {k e it : E} {tg : Tg} {vs : List Nat} (h : chkE N sc hot (.dc k e tg it c vs) t = true) : ∃ kx elt tx iter ifs scope pos, t = .DictComp kx elt [⟨tx, iter, ifs, 0⟩] scope pos ∧ hot = none ∧ blkC N sc scope (vs.map fun i => ((N[i]?).getD Str.empty, i)) = true ∧ chkI N sc hot it iter = true ∧
    enuOk it tx = true ∧ chkT N (cellB scope) (relS scope sc) tg tx = true ∧ chkE N (relS scope sc) hot e elt = true ∧ (∀ i ∈ tgIx tg, i ∈ vs) ∧ chkC N (relS scope sc) hot c ifs = true ∧ chkE N (relS scope sc) hot k kx = true := by
  cases t <;> try simp [chkE] at h
  rename_i kx elt gs scope pos
  rcases gs with _ | ⟨⟨tx, iter, ifs, k⟩, _ | ⟨g2, gr⟩⟩ <;> try simp [chkE] at h
  obtain ⟨⟨⟨⟨⟨⟨⟨⟨⟨rfl, h1⟩, h2⟩, h3⟩, h4⟩, h5⟩, h6⟩, h7⟩, h8⟩, h9⟩ := h
  exact ⟨_, _, _, _, _, _, _, rfl, by simpa using h1, h2, Bool.and_eq_true_iff.mpr h3, h4, h5, h6, by simpa using h7, h8, h9⟩
theorem inv_lc2 {e it it2 c2 : E} {tg tg2 : Tg} {vs vs2 : List Nat} (h : chkE N sc hot (.lc2 e tg it c tg2 it2 c2 vs vs2) t = true) : ∃ elt tx iter ifs tx2 iter2 ifs2 scope pos, t = .ListComp elt [⟨tx, iter, ifs, 0⟩, ⟨tx2, iter2, ifs2, 0⟩] scope pos ∧ hot = none ∧ blkC N sc scope (vs.map fun i => ((N[i]?).getD Str.empty, i)) = true ∧
    chkI N sc hot it iter = true ∧ enuOk it tx = true ∧ chkT N (cellB scope) (relS scope sc) tg tx = true ∧ chkE N (relS scope sc) hot e elt = true ∧ (∀ i ∈ tgIx tg, i ∈ vs) ∧ chkC N (relS scope sc) hot c ifs = true ∧
    chkI N (relS scope sc) hot it2 iter2 = true ∧ enuOk it2 tx2 = true ∧ chkT N (cellB scope) (relS scope sc) tg2 tx2 = true ∧ (∀ i ∈ tgIx tg2, i ∈ vs2) ∧ (∀ i ∈ vs2, i ∈ vs) ∧ chkC N (relS scope sc) hot c2 ifs2 = true := by
  cases t <;> try simp [chkE] at h
  rename_i elt gs scope pos
  rcases gs with _ | ⟨⟨tx, iter, ifs, k⟩, _ | ⟨⟨tx2, iter2, ifs2, k2⟩, _ | ⟨g3, gr⟩⟩⟩ <;> try simp [chkE] at h
  obtain ⟨⟨⟨⟨⟨⟨⟨⟨⟨⟨⟨⟨⟨⟨⟨rfl, rfl⟩, h1⟩, h2⟩, h3⟩, h4⟩, h5⟩, h6⟩, h7⟩, h8⟩, h9⟩, h10⟩, h11⟩, h12⟩, h13⟩, h14⟩ := h
  exact ⟨_, _, _, _, _, _, _, _, _, rfl, by simpa using h1, h2, Bool.and_eq_true_iff.mpr h3, h4, h5, h6, by simpa using h7, h8, Bool.and_eq_true_iff.mpr h9, h10, h11, by simpa using h12, by simpa using h13, h14⟩
theorem inv_cal {o : E} (h : chkE N sc hot (.cal o l) t = true) : ∃ x q e1 es pos, t = .Call (.Name x q) (e1 :: es) [] pos ∧ chkE N sc hot o (.Name x q) = true ∧ chkL N sc hot l (e1 :: es) = true ∧ hot = none := by
  cases t <;> try simp [chkE] at h
  rename_i fn args kw pos
  cases fn <;> try simp [chkE] at h
  cases args <;> try simp [chkE] at h
  cases kw <;> try simp [chkE] at h
  obtain ⟨⟨h1, h2⟩, h3⟩ := h
  exact ⟨_, _, _, _, _, rfl, h1, h2, h3⟩
theorem inv_omk {o : E} {ks : List Str} {q : List Nat} (h : chkE N sc hot (.omk o m ks q l) t = true) : ∃ r apos kws pos, t = .Call (.Attribute r m apos) [] kws pos ∧ chkE N sc hot o r = true ∧ chkL N sc hot l (kws.map (·.value)) = true ∧ kws.map (·.arg) = ks.map some ∧ noSup r = true ∧ hot = none ∧ kws.length ≤ 20 ∧ (apos.endLine == pos.line) = true := by
  cases t <;> try simp [chkE] at h
  rename_i fn args kw pos
  cases fn <;> try simp [chkE] at h
  cases args <;> try simp [chkE] at h
  obtain ⟨⟨⟨⟨⟨⟨⟨rfl, h1⟩, h2⟩, h3⟩, h4⟩, h5⟩, h6⟩, h7⟩ := h
  exact ⟨_, _, _, _, rfl, h1, h2, h3, h4, h5, h6, by simpa using h7⟩
theorem inv_clm {c : Str} (h : chkE N sc hot (.clm c m l) t = true) : ∃ q apos e1 es pos, t = .Call (.Attribute (.Name c q) m apos) (e1 :: es) [] pos ∧ glB sc c = true ∧ okN c = true ∧ chkL N sc hot l (e1 :: es) = true ∧ hot = none ∧ (e1 :: es).length ≤ 20 ∧ (apos.endLine == pos.line) = true := by
  cases t <;> try simp [chkE] at h
  rename_i fn args kw pos
  cases fn <;> try simp [chkE] at h
  rename_i r y apos
  cases r <;> try simp [chkE] at h
  cases args <;> try simp [chkE] at h
  cases kw <;> try simp [chkE] at h
  obtain ⟨⟨⟨⟨⟨⟨⟨rfl, rfl⟩, h1⟩, h2⟩, h3⟩, h4⟩, h5⟩, h6⟩ := h
  exact ⟨_, _, _, _, _, rfl, h1, h2, h3, h4, by simpa using h5, by simpa using h6⟩
theorem inv_isb {x : Str} (h : chkE N sc hot (.isb a x) t = true) : ∃ q e q2 pos, t = .Call (.Name "isinstance" q) [e, .Name x q2] [] pos ∧ glB sc "isinstance" = true ∧ chkE N sc hot a e = true ∧ isbNames.contains x = true ∧ glB sc x = true := by
  cases t <;> try simp [chkE] at h
  rename_i fn args kw pos
  cases fn <;> try simp [chkE] at h
  rcases args with _ | ⟨e, _ | ⟨y, _ | ⟨z, zr⟩⟩⟩ <;> try simp [chkE] at h
  cases kw <;> try simp [chkE] at h
  cases y <;> try simp [chkE] at h
  obtain ⟨⟨⟨⟨⟨rfl, h1⟩, h2⟩, rfl⟩, h3⟩, h4⟩ := h
  exact ⟨_, _, _, _, rfl, h1, h2, by simpa using h3, h4⟩
theorem inv_itm (h : chkE N sc hot (.itm a) t = true) : ∃ r apos pos, t = .Call (.Attribute r "items" apos) [] [] pos ∧ chkE N sc hot a r = true ∧ noSup r = true ∧ (apos.endLine == pos.line) = true := by
  cases t <;> try simp [chkE] at h
  rename_i fn args kw pos
  cases fn <;> try simp [chkE] at h
  cases args <;> try simp [chkE] at h
  cases kw <;> try simp [chkE] at h
  obtain ⟨⟨⟨rfl, h1⟩, h2⟩, h3⟩ := h
  exact ⟨_, _, _, rfl, h1, h2, by simpa using h3⟩
theorem inv_sub (h : chkE N sc hot (.sub a b) t = true) : ∃ v i pos, t = .Subscript v i pos ∧ chkE N sc hot a v = true ∧ chkE N sc hot b i = true ∧ notSlc i = true ∧ hot = none := by
  cases t <;> try simp [chkE] at h
  exact ⟨_, _, _, rfl, h.1.1.1, h.1.1.2, h.1.2, h.2⟩
theorem inv_slc {x y : E} (h : chkE N sc hot (.slc a x y) t = true) : ∃ v lo hi q pos, t = .Subscript v (.Slice lo hi none q) pos ∧ chkE N sc hot a v = true ∧ chkO N sc hot x lo = true ∧ chkO N sc hot y hi = true := by
  cases t <;> try simp [chkE] at h
  rename_i v i pos
  cases i <;> try simp [chkE] at h
  rename_i lo hi stp q
  cases stp <;> try simp [chkE] at h
  exact ⟨_, _, _, _, _, rfl, h.1.1, h.1.2, h.2⟩
end
end
end AM
end

section
set_option maxRecDepth 100000
set_option maxHeartbeats 8000000
namespace AM
open PySem L2 PyProof.Rows
section
variable (p : Prog) (ca fa : Str → Addr) (fd : Str → FuncData) (ps : Str → List Str)
abbrev EvP (a : E) : Prop := ∀ X n W hx, Gd p ca fa fd ps X n W hx → ∀ t, chkE X.N X.env.scope (hx.map Hx.i) a t = true → PE X t (TEm p ca X n hx W a)
abbrev EvL (a : E) : Prop := ∀ X n W hx, Gd p ca fa fd ps X n W hx → ∀ ts, chkL X.N X.env.scope (hx.map Hx.i) a ts = true → PA X ts (TLm p ca X n hx W a)
abbrev EvK (a : E) : Prop := ∀ X n W hx, Gd p ca fa fd ps X n W hx → ∀ kws : List Keyword, chkL X.N X.env.scope (hx.map Hx.i) a (kws.map (·.value)) = true → PK X kws (TLm p ca X n hx W a)
abbrev EvT (a : E) : Prop := ∀ X n W hx, Gd p ca fa fd ps X n W hx → ∀ t, chkE X.N X.env.scope (hx.map Hx.i) a t = true → PT X t (TTm p ca X n hx W a)
abbrev EvI (a : E) : Prop := ∀ X n W hx, Gd p ca fa fd ps X n W hx → hx = none → ∀ tg t, chkI X.N X.env.scope (hx.map Hx.i) a t = true → (∀ b, (a = .enu b ∨ a = .itm b) → ∃ es k q, tg = .Tuple es k q) → PI X tg t (TIm p ca X n hx W a)
end
section
variable {p : Prog} {ca fa : Str → Addr} {fd : Str → FuncData} {ps : Str → List Str} {X : Cx} {n : Nat} {W : WX} {hx : Option Hx}

theorem ok_dbg {x : Str} (h : okN x = true) : (x == ("__debug__" : Str)) = false ∧ (x == ("__classdict__" : Str)) = false ∧ x ≠ "__name__" := by
  simp only [okN, Bool.and_eq_true, Bool.not_eq_true'] at h
  refine ⟨h.1.1, h.1.2, fun z => ?_⟩
  rw [z] at h
  exact absurd h.2 (by decide +kernel)
theorem gl_of {x : Str} (h : glB X.env.scope x = true) : Gl X x := by
  unfold glB at h
  show X.env.scope.names.lookup x = some .globalImplicit
  split at h
  · assumption
  · cases h
theorem vis_of {sc : Scope} {x : Str} (h : visB sc x = true) : Vis sc x := by
  unfold visB at h
  split at h <;> first | exact .inl (by assumption) | exact .inr (.inl (by assumption)) | exact .inr (.inr (by assumption)) | cases h
theorem pe_false {t : Expr} {te : TE} (h : ∀ σ H Q, ¬ te σ H Q) : PE X t te := ⟨fun _ _ σ H Q _ z => absurd z (h σ H Q)⟩

theorem ev_var (i : Nat) : EvP p ca fa fd ps (.var i) := by
  intro X n W hx g t h
  obtain ⟨x, pos, rfl, h1, h2, h3⟩ := inv_var h
  obtain ⟨d1, d2, _⟩ := ok_dbg h3
  refine impPE (pe_var h1 (vis_of h2) d1 d2) fun σ H Q ⟨ρ, e, st, at_, hf⟩ => ?_
  simp only [ev] at hf
  cases e1 : e.s[i]? with
  | none => rw [e1] at hf; exact hf.elim
  | some o =>
    cases o with
    | none => rw [e1] at hf; exact hf.elim
    | some v =>
      rw [e1] at hf
      obtain ⟨y, ey, ry⟩ := at_.env.at_ i v e1
      exact ⟨y, ey, Fin.ok (R := Rv X.K) hf at_.st ry⟩
theorem ev_non : EvP p ca fa fd ps .non := by
  intro X n W hx g t h
  obtain ⟨k, pos, rfl⟩ := inv_non h
  exact impPE pe_non fun σ H Q ⟨ρ, e, st, at_, hf⟩ => Fin.ok (R := Rv X.K) (a := Val.non) (by simpa only [ev] using hf) at_.st .non
theorem ev_bl (b : Bool) : EvP p ca fa fd ps (.bl b) := by
  intro X n W hx g t h
  obtain ⟨k, pos, rfl⟩ := inv_bl h
  exact impPE pe_bl fun σ H Q ⟨ρ, e, st, at_, hf⟩ => Fin.ok (R := Rv X.K) (a := Val.bl b) (by simpa only [ev] using hf) at_.st (.bl b)
theorem ev_int (b : Int) : EvP p ca fa fd ps (.int b) := by
  intro X n W hx g t h
  obtain ⟨k, pos, rfl⟩ := inv_int h
  exact impPE pe_int fun σ H Q ⟨ρ, e, st, at_, hf⟩ => Fin.ok (R := Rv X.K) (a := Val.int b) (by simpa only [ev] using hf) at_.st (.int b)
theorem ev_str (b : Str) : EvP p ca fa fd ps (.str b) := by
  intro X n W hx g t h
  obtain ⟨k, pos, rfl⟩ := inv_str h
  exact impPE pe_str fun σ H Q ⟨ρ, e, st, at_, hf⟩ => Fin.ok (R := Rv X.K) (a := Val.str b) (by simpa only [ev] using hf) at_.st (.str b)
theorem ev_con (x : Str) : EvP p ca fa fd ps (.con x) := by
  intro X n W hx g t h
  obtain ⟨pos, rfl, h1, h2⟩ := inv_con h
  cases e1 : p.cons.lookup x with
  | none =>
    refine pe_false fun σ H Q ⟨ρ, e, st, at_, hf⟩ => ?_
    simp only [ev, e1] at hf
    exact hf
  | some v =>
    obtain ⟨u, xv, m1, m2, m3⟩ := g.fc.con x v e1
    refine impPE (pe_glob (gl_of h1) m1 m2 (ok_dbg h2).1) fun σ H Q ⟨ρ, e, st, at_, hf⟩ => ?_
    simp only [ev, e1] at hf
    exact Fin.ok (R := Rv X.K) hf at_.st (m3 ρ H)
theorem ev_bin {o : Operator} {a b : E} (ha : EvP p ca fa fd ps a) (hb : EvP p ca fa fd ps b) : EvP p ca fa fd ps (.bin o a b) := by
  intro X n W hx g t h
  obtain ⟨l, r, pos, rfl, h1, h2⟩ := inv_bin h
  refine impPE (pe_op (op_binM (ca := ca)) (ha X n W hx g l h1) (hb X n W hx g r h2)) fun σ H Q ⟨ρ, e, st, at_, hf⟩ => ?_
  simp only [ev] at hf
  exact (goE at_ hf).imp fun x H1 ⟨ρ1, v, st1, _, _, at1, rx, _, hf1⟩ => (goE at1 hf1).imp fun y H2 ⟨ρ2, v2, st2, pr, ex, at2, ry, _, hf2⟩ => ⟨ρ2, st2, v, v2, σ, W, at2.st, rx.mono pr ex, ry, hf2⟩
theorem ev_neg {a : E} (ha : EvP p ca fa fd ps a) : EvP p ca fa fd ps (.neg a) := by
  intro X n W hx g t h
  obtain ⟨r, pos, rfl, h1⟩ := inv_neg h
  refine impPE (pe_un un_neg (ha X n W hx g r h1)) fun σ H Q ⟨ρ, e, st, at_, hf⟩ => ?_
  simp only [ev] at hf
  refine (goE at_ hf).imp fun x H1 ⟨ρ1, v, st1, _, _, at1, rx, _, hf1⟩ => ?_
  cases rx <;> first | exact hf1.elim | exact ⟨_, rfl, Fin.ok (R := Rv X.K) hf1 at1.st (.int _)⟩
theorem ev_not {a : E} (ha : EvP p ca fa fd ps a) : EvP p ca fa fd ps (.not a) := by
  intro X n W hx g t h
  obtain ⟨r, pos, rfl, h1⟩ := inv_not h
  refine impPE (pe_not (ha X n W hx g r h1)) fun σ H Q ⟨ρ, e, st, at_, hf⟩ => ?_
  simp only [ev] at hf
  refine (goE at_ hf).imp fun x H1 ⟨ρ1, v, st1, _, _, at1, rx, _, hf1⟩ => ?_
  cases rx <;> first | exact hf1.elim | exact ⟨_, rfl, Fin.ok (R := Rv X.K) hf1 at1.st (.bl _)⟩
theorem res_of {α β : Type} {K : Frg} {R : List Addr → Hp → α → β → Prop} {o : Option α} {st : Store} {ρ : List Addr} {H : Hp} {σ : L2.St} {Q : β → Hp → Prop} {W : WX} (h : Fin K ca R (Res.of o st) ρ H σ Q W) : ∃ a, o = some a ∧ Fin K ca R (.ok a st) ρ H σ Q W := by
  cases o with
  | none => exact h.elim
  | some a => exact ⟨a, rfl, h⟩
theorem cmp_end {K : Frg} {o : CmpOp} {ρ1 ρ2 : List Addr} {H1 H2 : Hp} {st2 : Store} {v v2 : Val} {x y : V} {Q : VK} {σ : L2.St} {W : WX} (hs : Rst K ca ρ2 H2 st2) (rx : Rv K ρ2 H2 v x) (ry : Rv K ρ2 H2 v2 y)
    (hf : Fin K ca (Rv K) (Res.of ((opCmp st2 o v v2).map .bl) st2) ρ2 H2 σ Q W) : rCmpM K ca o x y H2 Q := by
  obtain ⟨a, e1, hf⟩ := res_of hf
  cases e : opCmp st2 o v v2 with
  | none => rw [e] at e1; cases e1
  | some k =>
    rw [e] at e1
    cases e1
    exact ⟨ρ2, st2, v, v2, k, hs, rx, ry, e, Fin.ok (R := Rv K) hf hs (.bl _)⟩
theorem ev_cmp {o : CmpOp} {a b : E} (ha : EvP p ca fa fd ps a) (hb : EvP p ca fa fd ps b) : EvP p ca fa fd ps (.cmp o a b) := by
  intro X n W hx g t h
  obtain ⟨l, r, pos, rfl, h1, h2, h3⟩ := inv_cmp h
  refine impPE (pe_cmpR (op_cmpM (ca := ca) (by have := g.un; omega)) (ha X n W hx g l h1) (hb X n W hx g r h2) h3) fun σ H Q ⟨ρ, e, st, at_, hf⟩ => ?_
  simp only [ev] at hf
  exact (goE at_ hf).imp fun x H1 ⟨ρ1, v, st1, _, _, at1, rx, _, hf1⟩ => (goE at1 hf1).imp fun y H2 ⟨ρ2, v2, st2, pr, ex, at2, ry, _, hf2⟩ => cmp_end (ρ1 := ρ1) (H1 := H1) at2.st (rx.mono pr ex) ry hf2
theorem ev_chn {o q : CmpOp} {a b c : E} (ha : EvP p ca fa fd ps a) (hb : EvP p ca fa fd ps b) (hc : EvP p ca fa fd ps c) : EvP p ca fa fd ps (.chn o q a b c) := by
  intro X n W hx g t h
  obtain ⟨l, m, r, pos, rfl, h1, h2, h3, h4⟩ := inv_chn h
  refine impPE (pe_chain (op_cmpM (ca := ca) (by have := g.un; omega)) (op_cmpM (ca := ca) (by have := g.un; omega)) (ha X n W hx g l h1) (hb X n W hx g m h2) (hc X n W hx g r h3) h4) fun σ H Q ⟨ρ, e, st, at_, hf⟩ => ?_
  simp only [ev] at hf
  refine (goE at_ hf).imp fun x H1 ⟨ρ1, v, st1, _, _, at1, rx, _, hf1⟩ => (goE at1 hf1).imp fun y H2 ⟨ρ2, v2, st2, pr, ex, at2, ry, _, hf2⟩ => ?_
  cases e1 : opCmp st2 o v v2 with
  | none => rw [e1] at hf2; exact hf2.elim
  | some k =>
    rw [e1] at hf2
    refine ⟨ρ2, st2, v, v2, k, at2.st, rx.mono pr ex, ry, e1, k, rfl, ?_⟩
    replace hf2 : Fin X.K ca (Rv X.K) (if k = true then (ev p (callF p n) c e st2).bind fun z s4 => Res.of ((opCmp s4 q v2 z).map .bl) s4 else .ok (.bl false) st2) ρ2 H2 σ Q W := hf2
    cases k with
    | true =>
      rw [if_pos rfl] at hf2 ⊢
      exact (goE at2 hf2).imp fun z H3 ⟨ρ3, v3, st3, pr3, ex3, at3, rz, _, hf3⟩ => cmp_end (ρ1 := ρ1) (H1 := H1) at3.st (ry.mono pr3 ex3) rz hf3
    | false =>
      rw [if_neg (by decide)] at hf2 ⊢
      exact Fin.ok (R := Rv X.K) hf2 at2.st (.bl _)
theorem ev_and {a b : E} (ha : EvP p ca fa fd ps a) (hb : EvP p ca fa fd ps b) : EvP p ca fa fd ps (.and a b) := by
  intro X n W hx g t h
  obtain ⟨l, m, rest, pos, rfl, h1, h2⟩ := inv_and h
  have hB : PE X (.BoolOp .And (m :: rest) pos) (TEm p ca X n hx W b) := by
    rcases h2 with ⟨rfl, h2⟩ | ⟨_, h2⟩
    · exact pe_one (hb X n W hx g m h2)
    · exact hb X n W hx g _ h2
  refine impPE (pe_and (ha X n W hx g l h1) hB) fun σ H Q ⟨ρ, e, st, at_, hf⟩ => ?_
  simp only [ev] at hf
  refine (goE at_ hf).imp fun x H1 ⟨ρ1, v, st1, _, _, at1, rx, _, hf1⟩ => ?_
  cases rx with
  | bl k =>
    refine ⟨k, rfl, ?_⟩
    cases k with
    | true => rw [if_pos rfl]; exact ⟨ρ1, e, st1, at1, hf1⟩
    | false => rw [if_neg (by decide)]; exact Fin.ok (R := Rv X.K) hf1 at1.st (.bl _)
  | _ => exact hf1.elim
theorem ev_or {a b : E} (ha : EvP p ca fa fd ps a) (hb : EvP p ca fa fd ps b) : EvP p ca fa fd ps (.or a b) := by
  intro X n W hx g t h
  obtain ⟨l, m, rest, pos, rfl, h1, h2⟩ := inv_or h
  have hB : PE X (.BoolOp .Or (m :: rest) pos) (TEm p ca X n hx W b) := by
    rcases h2 with ⟨rfl, h2⟩ | ⟨_, h2⟩
    · exact pe_one (hb X n W hx g m h2)
    · exact hb X n W hx g _ h2
  refine impPE (pe_or (ha X n W hx g l h1) hB) fun σ H Q ⟨ρ, e, st, at_, hf⟩ => ?_
  simp only [ev] at hf
  refine (goE at_ hf).imp fun x H1 ⟨ρ1, v, st1, _, _, at1, rx, _, hf1⟩ => ?_
  cases rx with
  | bl k =>
    refine ⟨k, rfl, ?_⟩
    cases k with
    | false => rw [if_neg (by decide)]; exact ⟨ρ1, e, st1, at1, hf1⟩
    | true => rw [if_pos rfl]; exact Fin.ok (R := Rv X.K) hf1 at1.st (.bl _)
  | _ => exact hf1.elim
theorem ev_ife {c a b : E} (hc : EvT p ca fa fd ps c) (ha : EvP p ca fa fd ps a) (hb : EvP p ca fa fd ps b) : EvP p ca fa fd ps (.ife c a b) := by
  intro X n W hx g t h
  obtain ⟨x, l, r, pos, rfl, h1, h2, h3⟩ := inv_ife h
  refine impPE (pe_ifExp (hc X n W hx g x h1) (ha X n W hx g l h2) (hb X n W hx g r h3)) fun σ H Q ⟨ρ, e, st, at_, hf⟩ => ?_
  simp only [ev] at hf
  refine (goT at_ hf).imp fun k H1 ⟨ρ1, st1, _, _, at1, _, hf1⟩ => ?_
  cases k with
  | true => rw [if_pos rfl] at hf1 ⊢; exact ⟨ρ1, e, st1, at1, hf1⟩
  | false => rw [if_neg (by decide)] at hf1 ⊢; exact ⟨ρ1, e, st1, at1, hf1⟩

theorem not_star {a : E} {N : List Str} {sc : Scope} {hot : Option Nat} {t : Expr} (h : chkE N sc hot a t = true) (es : List Expr) (env : PySem.Env) : starEach (t :: es) env = (false, eval t env) :: starEach es env := by
  cases t <;> first | rfl | (cases a <;> simp [chkE] at h)
theorem ev_nilL : EvL p ca fa fd ps .nil := by
  intro X n W hx g ts h
  cases ts with
  | nil => exact impPA pa_nil fun σ H Q ⟨ρ, e, st, at_, hf⟩ => Fin.ok (R := Rvs X.K) (a := []) (by simpa only [evL] using hf) at_.st .nil
  | cons t r => simp [chkL] at h
theorem ev_consL {a r : E} (ha : EvP p ca fa fd ps a) (hr : EvL p ca fa fd ps r) : EvL p ca fa fd ps (.cons a r) := by
  intro X n W hx g ts h
  cases ts with
  | nil => simp [chkL] at h
  | cons t r =>
    simp only [chkL, Bool.and_eq_true] at h
    refine impPA (pa_cons (ha X n W hx g t h.1) (hr X n W hx g _ h.2) (not_star h.1 _ _)) fun σ H Q ⟨ρ, e, st, at_, hf⟩ => ?_
    simp only [evL] at hf
    exact (goE at_ hf).imp fun x H1 ⟨ρ1, v, st1, _, _, at1, rx, _, hf1⟩ => (goL at1 hf1).imp fun y H2 ⟨ρ2, v2, st2, pr, ex, at2, ry, _, hf2⟩ => Fin.ok (R := Rvs X.K) hf2 at2.st (.cons (rx.mono pr ex) ry)
theorem ev_nilK : EvK p ca fa fd ps .nil := by
  intro X n W hx g kws h
  cases kws with
  | nil => exact ⟨fun pos pins s σ H Q I ⟨ρ, e, st, at_, hf⟩ => pk_nil.run pos pins s σ H Q I (Fin.ok (R := Rvs X.K) (a := []) (by simpa only [evL] using hf) at_.st .nil)⟩
  | cons t r => simp [chkL] at h
theorem ev_consK {a r : E} (ha : EvP p ca fa fd ps a) (hr : EvK p ca fa fd ps r) : EvK p ca fa fd ps (.cons a r) := by
  intro X n W hx g kws h
  cases kws with
  | nil => simp [chkL] at h
  | cons t kr =>
    obtain ⟨nm, v, kp⟩ := t
    simp only [List.map_cons, chkL, Bool.and_eq_true] at h
    refine ⟨fun pos pins s σ H Q I ⟨ρ, e, st, at_, hf⟩ => (pk_cons (ha X n W hx g v h.1) (hr X n W hx g kr h.2)).run pos pins s σ H Q I ?_⟩
    simp only [evL] at hf
    exact (goE at_ hf).imp fun x H1 ⟨ρ1, v, st1, _, _, at1, rx, _, hf1⟩ => (goL at1 hf1).imp fun y H2 ⟨ρ2, v2, st2, pr, ex, at2, ry, _, hf2⟩ => Fin.ok (R := Rvs X.K) hf2 at2.st (.cons (rx.mono pr ex) ry)
/-- how many -/
theorem len_of {C : Call} {N : List Str} {sc : Scope} {hot : Option Nat} : ∀ {l : E} {ts : List Expr} {e : Env} {st st' : Store} {vs : List Val}, chkL N sc hot l ts = true → evL p C l e st = .ok vs st' → vs.length = ts.length := by
  intro l
  induction l with
  | nil =>
    intro ts e st st' vs hc h
    cases ts with
    | nil => simp only [evL] at h; cases h; rfl
    | cons _ _ => simp [chkL] at hc
  | cons a r _ ih =>
    intro ts e st st' vs hc h
    cases ts with
    | nil => simp [chkL] at hc
    | cons t ts =>
      simp only [chkL, Bool.and_eq_true] at hc
      simp only [evL] at h
      cases e1 : ev p C a e st with
      | ok v s1 =>
        rw [e1] at h
        cases e2 : evL p C r e s1 with
        | ok ws s2 =>
          simp only [Res.bind, e2] at h
          cases h
          simp [ih hc.2 e2]
        | err c v s => simp only [Res.bind, e2] at h; cases h
        | stk => simp only [Res.bind, e2] at h; cases h
      | err c v s => rw [e1] at h; cases h
      | stk => rw [e1] at h; cases h
  | _ => intro ts e st st' vs hc h; simp [chkL] at hc
theorem ev_tup {l : E} (hl : EvL p ca fa fd ps l) : EvP p ca fa fd ps (.tup l) := by
  intro X n W hx g t h
  obtain ⟨es, k, pos, rfl, h1, h2⟩ := inv_tup h
  refine impPE (pe_tup (hl X n W hx g es h1)) fun σ H Q ⟨ρ, e, st, at_, hf⟩ => ?_
  simp only [ev] at hf
  refine (goL at_ hf).imp fun xs H1 ⟨ρ1, vs, st1, _, _, at1, rx, eq, hf1⟩ => ⟨?_, fun q hq => ?_⟩
  · rw [← rx.length, len_of h1 eq]
    exact Nat.le_trans h2 (by rw [sizeLine_eq]; decide)
  · exact hf1 ρ1 _ _ (List.prefix_refl _) (Ext.new hq) (at1.st.more hq) (.tup (.inl (.inl upd_same)) (rx.mono (List.prefix_refl _) (Ext.new hq)))
theorem new_at {α : Type} {ρ : List α} {st : Store} {q : α} (h : ρ.length = st.length) : (ρ ++ [q])[st.length]? = some q := by
  rw [List.getElem?_append_right (by rw [h]; exact Nat.le_refl _), h]; simp
theorem ev_lst {l : E} (hl : EvL p ca fa fd ps l) : EvP p ca fa fd ps (.lst l) := by
  intro X n W hx g t h
  obtain ⟨es, pos, rfl, h1, h2⟩ := inv_lst h
  refine impPE (pe_lst (hl X n W hx g es h1)) fun σ H Q ⟨ρ, e, st, at_, hf⟩ => ?_
  simp only [ev] at hf
  refine (goL at_ hf).imp fun xs H1 ⟨ρ1, vs, st1, _, _, at1, rx, eq, hf1⟩ => ⟨?_, fun q hq => ?_⟩
  · rw [← rx.length, len_of h1 eq]
    exact Nat.le_trans h2 (by rw [sizeLine_eq]; decide)
  · exact hf1 _ _ _ (List.prefix_append _ _) (Ext.new hq) (at1.st.newU hq (.lst rx)) (.ref (new_at at1.st.len))

theorem ev_d0 : EvP p ca fa fd ps .d0 := by
  intro X n W hx g t h
  obtain ⟨pos, rfl⟩ := inv_d0 h
  refine impPE pe_dnewK fun σ H Q ⟨ρ, e, st, at_, hf⟩ q hq => ?_
  simp only [ev] at hf
  exact hf _ _ _ (List.prefix_append _ _) (Ext.new hq) (at_.st.newU hq (.dct .nil)) (.ref (new_at at_.st.len))
theorem ev_d1 {k v : E} (hk : EvP p ca fa fd ps k) (hv : EvP p ca fa fd ps v) : EvP p ca fa fd ps (.d1 k v) := by
  intro X n W hx g t h
  obtain ⟨kx, vx, pos, rfl, h1, h2⟩ := inv_d1 h
  refine impPE (pe_disp (pps_cons (hk X n W hx g kx h1) (hv X n W hx g vx h2) pps_nil) rfl rfl (by simp) (by simp)) fun σ H Q ⟨ρ, e, st, at_, hf⟩ D hD => ?_
  simp only [ev] at hf
  have hn := at_.st.newU (o := .dct []) hD (.dct .nil)
  have pn : ρ <+: ρ ++ [D] := List.prefix_append _ _
  have hDn : (ρ ++ [D])[st.length]? = some D := new_at at_.st.len
  refine (goE (at_.mono pn (Ext.new hD) hn) (hf.mono pn (Ext.new hD))).imp fun x H1 ⟨ρ1, a, s1, p1, e1, at1, rx, _, hf1⟩ => (goE at1 hf1).imp fun y H2 ⟨ρ2, b, s2, p2, e2, at2, ry, _, hf2⟩ => ?_
  have hD2 : ρ2[st.length]? = some D := by
    obtain ⟨t, rfl⟩ := p1.trans p2
    rw [List.getElem?_append_left (List.getElem?_eq_some_iff.mp hDn).1]; exact hDn
  replace hf2 : Fin X.K ca (Rv X.K) (match s2[st.length]? with
    | some ⟨.dct [], false⟩ => match keyOf a with
      | some k => .ok (.ref st.length) (s2.set st.length ⟨.dct [(k, b)], false⟩)
      | none => .stk
    | _ => .stk) ρ2 H2 σ Q W := hf2
  split at hf2
  · rename_i el
    split at hf2
    · rename_i k ek
      obtain ⟨gs, hd, hr⟩ := at2.st.dctU el hD2
      cases hr
      obtain rfl := keyOf_ok ek rx
      obtain ⟨n1, n2⟩ := at2.st.put el hD2 (o' := .dct [(k, b)]) (.dct (.cons ry .nil))
      exact ⟨hd, [(k, y)], rfl, by simp, hf2 ρ2 _ _ (List.prefix_refl _) n2 n1 (.ref hD2)⟩
    · exact hf2.elim
  · exact hf2.elim

theorem plainIx {i : Expr} (h : notSlc i = true) : PlainIx i := by
  intro o v
  cases i <;> first | rfl | simp [notSlc] at h
end
end AM
end

section
set_option maxRecDepth 100000
set_option maxHeartbeats 8000000
namespace AM
open PySem L2 PyProof.Rows
section
variable {p : Prog} {ca fa : Str → Addr} {fd : Str → FuncData} {ps : Str → List Str}

theorem ins_at {K : Frg} {ρ : List Addr} {H : Hp} {st : Store} (hs : Rst K ca ρ H st) {v : Val} {x : V} {c : Str} {fs : List (Str × Val)} (h : insAt st v = some (c, fs)) (r : Rv K ρ H v x) :
    ∃ a dx gs, x = .ref a ∧ H a = some (.ins (ca c) dx gs) ∧ Rfs K ρ H fs gs := by
  cases r with
  | @ref m a ea =>
    obtain ⟨cl, hc⟩ := hs.lt ea
    obtain ⟨o, k⟩ := cl
    simp only [insAt, hc] at h
    cases o with
    | lst l => simp at h
    | dct l => simp at h
    | ins d f =>
      simp at h
      obtain ⟨rfl, rfl⟩ := h
      obtain ⟨dx, gs, h1, h2⟩ := hs.insK hc ea
      exact ⟨a, dx, gs, rfl, h1, h2⟩
  | _ => simp [insAt] at h

theorem np_of {n : Nat} {key : Str} {vs : List Val} {st : Store} (h : callF p n key vs st ≠ .stk) : ∃ d, p.defs.lookup key = some d ∧ vs.length = d.np := by
  cases n with
  | zero => exact absurd (by simp only [callF]) h
  | succ n =>
    simp only [callF] at h
    cases e : p.defs.lookup key with
    | none => rw [e] at h; exact absurd rfl h
    | some d =>
      refine ⟨d, rfl, ?_⟩
      rw [e] at h
      by_cases hl : vs.length = d.np
      · exact hl
      · simp only [if_neg hl] at h
        exact absurd rfl h
theorem Fin.nstk {α β : Type} {K : Frg} {R : List Addr → Hp → α → β → Prop} {r : Res α} {ρ : List Addr} {H : Hp} {σ : L2.St} {Q : β → Hp → Prop} {W : WX} (h : Fin K ca R r ρ H σ Q W) : r ≠ .stk := by
  intro z; rw [z] at h; exact h

/-- a def's promise, kept at a call -/
theorem sp_of {K : Frg} {n : Nat} {key : Str} {ρ : List Addr} {H : Hp} {st : Store} {vs : List Val} {xs : List V} {σ : L2.St} {Q : VK} {W : WX} (hs : Rst K ca ρ H st) (hv : Rvs K ρ H vs xs) (h : Fin K ca (Rv K) (callF p n key vs st) ρ H σ Q W) :
    spM p ca K n key xs H Q (fun c d H' => W c d σ H') := by
  refine ⟨ρ, st, vs, hs, hv, ?_⟩
  cases e : callF p n key vs st with
  | ok a s1 => rw [e] at h; exact h
  | err c v s1 => rw [e] at h; exact h
  | stk => rw [e] at h; exact h

section
variable {X : Cx} {n : Nat} {W : WX} {hx : Option Hx}
/-- a call of an own def by values -/
theorem call_own_M (g : Gd p ca fa fd ps X n W none) {pins : List (Addr × PySem.Obj)} {σ : L2.St} {H : Hp} {s : Shared} {Q : VK} {us : List Value} {xs : List V} {ρ : List Addr} {st : Store} {vs : List Val} {key : Str} (I : Inv X pins σ H s) (r : Vals xs us) (hs : Rst X.K ca ρ H st)
    (hv : Rvs X.K ρ H vs xs) (h : Fin X.K ca (Rv X.K) (callF p n key vs st) ρ H σ Q W) : wpAny (model X.prog X.w) X.A (call (.ref (fa key)) us) (EP X pins σ Q) X.xe s := by
  obtain ⟨d, hd, _⟩ := np_of h.nstk
  exact run_G (g.fn key d hd) ((g.cold rfl).2.mono (by omega)) g.gd (g.fc.bnd key d hd).1 g.tk I r (sp_of hs hv h)
end

theorem star_all {N : List Str} {sc : Scope} {hot : Option Nat} : ∀ {l : E} {ts : List Expr} (_ : chkL N sc hot l ts = true) (env : PySem.Env) (pos : Pos), (backTo pos (starEach ts env)).any (·.1) = false := by
  intro l
  induction l with
  | nil =>
    intro ts h env pos
    cases ts with
    | nil => rfl
    | cons _ _ => simp [chkL] at h
  | cons a r _ ih =>
    intro ts h env pos
    cases ts with
    | nil => simp [chkL] at h
    | cons t ts =>
      simp only [chkL, Bool.and_eq_true] at h
      rw [not_star h.1]
      show (false || (backTo pos (starEach ts env)).any (·.1)) = false
      rw [Bool.false_or]
      exact ih h.2 env pos
  | _ => intro ts h; simp [chkL] at h

theorem hx_none {hx : Option Hx} (h : hx.map Hx.i = none) : hx = none := by cases hx with
  | none => rfl
  | some _ => cases h

theorem ev_call {f : Str} {l : E} (hl : EvL p ca fa fd ps l) : EvP p ca fa fd ps (.call f l) := by
  intro X n W hx g t h
  obtain ⟨q, args, pos, rfl, h1, h2, h3, h4⟩ := inv_call h
  cases hx_none h4
  by_cases hfn : p.funs.contains f = true
  · obtain ⟨m1, m2⟩ := g.fc.fn f hfn
    refine ⟨fun pins s σ H Q I ⟨ρ, e, st, at_, hf⟩ => ?_⟩
    simp only [ev, if_pos hfn] at hf
    refine wpAny_Call_Name_kw (ld_glob (x := f) I (gl_of h1) m1 ?_ (ok_dbg h2).1)
    cases args with
    | nil =>
      refine PySem.W.callWith_K0 I.kIn m2 ?_
      cases l <;> try simp [chkL] at h3
      simp only [evL, Res.bind] at hf
      exact call_own_M g (us := []) (xs := []) I .nil at_.st .nil hf
    | cons t ts =>
      cases l <;> try simp [chkL] at h3
      rename_i a r
      refine PySem.W.callWith_K (h₀ := X.base) I.ok.mod.kin m2 (thn ((hl X n W none g (t :: ts) (by simp only [chkL, Bool.and_eq_true]; exact h3)).run pos pins s σ H _ I (goL at_ hf)) fun us s1 hh => ?_) (not_star h3.1 _ _) (star_all h3.2 _ _)
      obtain ⟨xs, H1, I1, r1, ρ1, vs, st1, _, _, at1, rv, _, hf1⟩ := hh
      exact ⟨I1.kIn, call_own_M g I1 r1 at1.st rv hf1⟩
  · refine pe_false fun σ H Q ⟨ρ, e, st, at_, hf⟩ => ?_
    simp only [ev, if_neg hfn] at hf
    exact hf

/-- an instance being made: the machine's store, the heap -/
theorem made_ok {K : Frg} {ρ : List Addr} {H : Hp} {st : Store} (hs : Rst K ca ρ H st) {x dx : Addr} (h1 : H x = none) (h2 : H dx = none) (h3 : dx ≠ x) (c : Str) :
    Rst K ca (ρ ++ [x]) (upd (upd H dx (.own x)) x (.ins (ca c) dx [])) (st ++ [⟨.ins c [], false⟩]) ∧ Ext H (upd (upd H dx (.own x)) x (.ins (ca c) dx [])) := by
  have hx : (upd H dx (.own x)) x = none := by rw [upd_ne (Ne.symm h3)]; exact h1
  exact ⟨(hs.more h2).newU hx (.ins .nil), (Ext.new h2).tr (Ext.new hx)⟩
section
variable {X : Cx} {n : Nat} {W : WX}
theorem make_own_M (g : Gd p ca fa fd ps X n W none) {pins : List (Addr × PySem.Obj)} {σ : L2.St} {H : Hp} {s : Shared} {Q : VK} {us : List Value} {xs : List V} {ρ : List Addr} {st : Store} {vs : List Val} {c : Str} (I : Inv X pins σ H s) (r : Vals xs us) (hs : Rst X.K ca ρ H st)
    (hv : Rvs X.K ρ H vs xs) (h : Fin X.K ca (Rv X.K) (opMake p (callF p n) c vs st) ρ H σ Q W) : wpAny (model X.prog X.w) X.A (call (.ref (ca c)) us) (EP X pins σ Q) X.xe s := by
  unfold opMake at h
  cases ec : p.clss.lookup c with
  | none => rw [ec] at h; exact h.elim
  | some i =>
    simp only [ec] at h
    obtain ⟨m1, m2, m3, m4, m5, m6⟩ := g.fc.cls c i ec
    have hns : callF p n i.init (.ref st.length :: vs) (st ++ [⟨.ins c [], false⟩]) ≠ .stk := by
      intro z
      rw [z] at h
      exact h
    obtain ⟨d, hd, _⟩ := np_of hns
    refine make_G m4 (g.fn i.init d hd) ((g.cold rfl).2.mono (by omega)) g.gd (g.fc.bnd i.init d hd).1 g.tk I r fun x dx h1 h2 h3 => ?_
    obtain ⟨n1, n2⟩ := made_ok hs h1 h2 h3 c
    refine sp_of n1 (.cons (.ref (new_at hs.len)) (hv.mono (List.prefix_append _ _) n2)) ?_
    cases e : callF p n i.init (.ref st.length :: vs) (st ++ [⟨.ins c [], false⟩]) with
    | ok a s1 =>
      rw [e] at h
      cases a <;> first | exact h.elim | skip
      intro ρ' H' b pr ex hs' hr
      cases hr
      refine ⟨rfl, h ρ' H' _ ((List.prefix_append _ _).trans pr) (n2.tr ex) hs' (.ref ?_)⟩
      obtain ⟨t, rfl⟩ := pr
      rw [List.getElem?_append_left (by simp [hs.len])]
      exact new_at hs.len
    | err c2 v s1 =>
      rw [e] at h
      exact fun ρ' H' d w pr ex => h ρ' H' d w ((List.prefix_append _ _).trans pr) (n2.tr ex)
    | stk => exact absurd e hns
end
theorem ev_make {c : Str} {l : E} (hl : EvL p ca fa fd ps l) : EvP p ca fa fd ps (.make c l) := by
  intro X n W hx g t h
  obtain ⟨q, t1, args, pos, rfl, h1, h2, h3, h4⟩ := inv_make h
  cases hx_none h4
  cases ec : p.clss.lookup c with
  | none =>
    refine pe_false fun σ H Q ⟨ρ, e, st, at_, hf⟩ => ?_
    simp only [ev, ec] at hf
    exact hf
  | some i =>
    obtain ⟨m1, _, _, m4, _⟩ := g.fc.cls c i ec
    refine ⟨fun pins s σ H Q I ⟨ρ, e, st, at_, hf⟩ => ?_⟩
    simp only [ev, ec, Option.isSome_some, if_true] at hf
    refine wpAny_Call_Name_kw (ld_glob (x := c) I (gl_of h1) m1 ?_ (ok_dbg h2).1)
    cases l <;> try simp [chkL] at h3
    refine PySem.W.callWith_K (h₀ := X.base) I.ok.mod.kin m4.kp (thn ((hl X n W none g (t1 :: args) (by simp only [chkL, Bool.and_eq_true]; exact h3)).run pos pins s σ H _ I (goL at_ hf)) fun us s1 hh => ?_) (not_star h3.1 _ _) (star_all h3.2 _ _)
    obtain ⟨xs, H1, I1, r1, ρ1, vs, st1, _, _, at1, rv, _, hf1⟩ := hh
    exact ⟨I1.kIn, make_own_M g I1 r1 at1.st rv hf1⟩

theorem pick_ok {K : Frg} {ρ : List Addr} {H : Hp} {vs : List Val} {xs : List V} {us : List Value} (r : Rvs K ρ H vs xs) (ru : Vals xs us) : ∀ {q : List Nat} {ws : List Val}, (q.mapM fun j => vs[j]?) = some ws →
    ∃ xw uw, (q.mapM fun j => us[j]?) = some uw ∧ Vals xw uw ∧ Rvs K ρ H ws xw
  | [], ws, h => by
    simp at h
    subst h
    exact ⟨[], [], by simp, .nil, .nil⟩
  | j :: q, ws, h => by
    rw [List.mapM_cons] at h
    cases e1 : vs[j]? with
    | none => rw [e1] at h; simp at h
    | some v =>
      rw [e1] at h
      cases e2 : q.mapM fun j => vs[j]? with
      | none => rw [e2] at h; simp at h
      | some wr =>
        rw [e2] at h
        simp at h
        subst h
        obtain ⟨x, ex, rx⟩ := r.get e1
        obtain ⟨xw, uw, a1, a2, a3⟩ := pick_ok r ru e2
        have hu : ∃ u, us[j]? = some u ∧ RelV x u := by
          clear e2 a1 e1 r rx
          induction ru generalizing j with
          | nil => simp at ex
          | @cons y u ys us' ry _ ih =>
            cases j with
            | zero => simp at ex; subst ex; exact ⟨u, rfl, ry⟩
            | succ j => exact ih j (by simpa using ex)
        obtain ⟨u, eu, ru2⟩ := hu
        exact ⟨x :: xw, u :: uw, by rw [List.mapM_cons, eu, a1]; rfl, .cons ru2 a2, .cons rx a3⟩
section
variable {X : Cx}
theorem kw_all {env : PySem.Env} {pos : Pos} : ∀ {kws : List Keyword} {ks : List Str}, kws.map (·.arg) = ks.map some → (backToKw pos (keywordEach kws env)).all (·.1.isSome) = true ∧ (backToKw pos (keywordEach kws env)).filterMap (·.1) = ks ∧ (backToKw pos (keywordEach kws env)).any (·.1.isNone) = false
  | [], [], _ => ⟨rfl, rfl, rfl⟩
  | [], _ :: _, h => by simp at h
  | _ :: _, [], h => by simp at h
  | ⟨nm, v, kp⟩ :: kws, k :: ks, h => by
    simp only [List.map_cons, List.cons.injEq] at h
    obtain ⟨rfl, h⟩ := h
    obtain ⟨h1, h2, h3⟩ := kw_all (env := env) (pos := pos) h
    refine ⟨?_, ?_, ?_⟩
    · show (true && (backToKw pos (keywordEach kws env)).all (·.1.isSome)) = true
      rw [h1]; rfl
    · show k :: (backToKw pos (keywordEach kws env)).filterMap (·.1) = k :: ks
      rw [h2]
    · show (false || (backToKw pos (keywordEach kws env)).any (·.1.isNone)) = false
      rw [h3]; rfl
end
theorem ev_makek {c : Str} {ks : List Str} {q : List Nat} {l : E} (hl : EvK p ca fa fd ps l) : EvP p ca fa fd ps (.makek c ks q l) := by
  intro X n W hx g t h
  obtain ⟨np, kws, pos, rfl, h1, h2, h3, h4, h5⟩ := inv_makek h
  cases hx_none h5
  cases ec : p.clss.lookup c with
  | none =>
    refine pe_false fun σ H Q ⟨ρ, e, st, at_, hf⟩ => ?_
    simp only [ev, ec] at hf
    exact hf
  | some i =>
    obtain ⟨m1, m2, m3, m4, m5, m6⟩ := g.fc.cls c i ec
    obtain ⟨k1, k2, k3⟩ := kw_all (env := X.env) (pos := pos) h3
    refine ⟨fun pins s σ H Q I ⟨ρ, e, st, at_, hf⟩ => ?_⟩
    simp only [ev, ec, Option.isSome_some, Bool.true_and] at hf
    by_cases hk : p.kws.contains (c, ks, q) = false
    · rw [if_pos hk] at hf; exact hf.elim
    rw [if_neg hk] at hf
    rw [Bool.not_eq_false] at hk
    refine wpAny_Call_Name_kw (ld_glob (x := c) I (gl_of h1) m1 ?_ (ok_dbg h2).1)
    refine PySem.W.callWith_KW0 (h₀ := X.base) I.ok.mod.kin m4.kp k1 (thn ((hl X n W none g kws h4).run pos pins s σ H _ I (goL at_ hf)) fun us s1 hh => ?_) (by show (false || _) = false; rw [k3]; rfl)
    obtain ⟨xs, H1, I1, r1, ρ1, vs, st1, _, _, at1, rv, er, hf1⟩ := hh
    refine ⟨I1.kIn, ?_⟩
    rw [k2]
    cases eq : q.mapM fun j => vs[j]? with
    | none => rw [eq] at hf1; exact hf1.elim
    | some ws =>
      rw [eq] at hf1
      obtain ⟨xw, uw, b1, b2, b3⟩ := pick_ok rv r1 eq
      have hlen : us.length = ks.length := by
        have e1 := len_of h4 er
        have e2 := congrArg List.length h3
        simp only [List.length_map] at e1 e2
        rw [← r1.length, ← rv.length, e1, e2]
      replace hf1 : Fin X.K ca (Rv X.K) (opMake p (callF p n) c ws st1) ρ1 H1 σ Q W := hf1
      unfold opMake at hf1
      simp only [ec] at hf1
      have hns : callF p n i.init (.ref st1.length :: ws) (st1 ++ [⟨.ins c [], false⟩]) ≠ .stk := by
        intro z
        rw [z] at hf1
        exact hf1
      obtain ⟨d, hd, _⟩ := np_of hns
      show wpAny _ _ (call (.ref (ca c)) [] (ks.zip us)) _ _ _
      refine makeK_G m4 (g.fn i.init d hd) ((g.cold rfl).2.mono (by omega)) g.gd (fun s' u0 kin => g.fc.kb c i ks q ec hk d hd s' u0 us uw kin hlen b1) g.tk I1 b2 fun x dx h1 h2 h3 => ?_
      obtain ⟨n1, n2⟩ := made_ok at1.st h1 h2 h3 c
      refine sp_of n1 (.cons (.ref (new_at at1.st.len)) (b3.mono (List.prefix_append _ _) n2)) ?_
      cases e : callF p n i.init (.ref st1.length :: ws) (st1 ++ [⟨.ins c [], false⟩]) with
      | ok a s2 =>
        rw [e] at hf1
        cases a <;> first | exact hf1.elim | skip
        intro ρ' H' b pr ex hs' hr
        cases hr
        refine ⟨rfl, hf1 ρ' H' _ ((List.prefix_append _ _).trans pr) (n2.tr ex) hs' (.ref ?_)⟩
        obtain ⟨t, rfl⟩ := pr
        rw [List.getElem?_append_left (by simp [at1.st.len])]
        exact new_at at1.st.len
      | err c2 v s2 =>
        rw [e] at hf1
        exact fun ρ' H' d w pr ex => hf1 ρ' H' d w ((List.prefix_append _ _).trans pr) (n2.tr ex)
      | stk => exact absurd e hns

theorem base_ok {r : Expr} {nm : Str} {env : PySem.Env} {whole : Sem Value} (h : noSup r = true) : attributeBase r nm env whole = whole := by
  cases r <;> try rfl
  rename_i fn args kw pos
  cases fn <;> try rfl
  cases args <;> try rfl
  cases kw <;> first | rfl | simp [noSup] at h
section
variable {X : Cx} {n : Nat} {W : WX}
/-- what a method's call leans on -/
theorem own_at (fc : Facts p ca fa fd ps X.K X.mg) {ρ : List Addr} {H : Hp} {st : Store} {vo : Val} {x : V} {m key : Str} (hs : Rst X.K ca ρ H st) (hx : Rv X.K ρ H vo x) (h : ownAt p vo m st = some key) :
    ∃ a c dx gs, x = .ref a ∧ H a = some (.ins (ca c) dx gs) ∧ gs.lookup m = none ∧ Cls X.K (ca c) ∧ Meth X.K (ca c) m (fa key) := by
  unfold ownAt at h
  cases ei : insAt st vo with
  | none => rw [ei] at h; cases h
  | some q =>
    obtain ⟨c, fs⟩ := q
    simp only [ei] at h
    obtain ⟨a, dx, gs, rfl, ha, hr⟩ := ins_at hs ei hx
    cases el : fs.lookup m with
    | some v => rw [el] at h; cases h
    | none =>
      simp only [el] at h
      unfold ownKey at h
      cases ec : p.clss.lookup c with
      | none => rw [ec] at h; cases h
      | some i =>
        simp only [ec] at h
        obtain ⟨_, m2, _, _, m5, _⟩ := fc.cls c i ec
        exact ⟨a, c, dx, gs, rfl, ha, hr.none el, m2, m5 m key h⟩
end
theorem all_any {α : Type} {f : α → Bool} : ∀ {l : List α}, l.any f = false → (l.all fun x => !f x) = true
  | [], _ => rfl
  | x :: l, h => by
    simp only [List.any_cons, Bool.or_eq_false_iff] at h
    simp only [List.all_cons, Bool.and_eq_true, Bool.not_eq_true']
    exact ⟨h.1, all_any h.2⟩
theorem form_ok {N : List Str} {sc : Scope} {hot : Option Nat} {l : E} {ts : List Expr} (h : chkL N sc hot l ts = true) (hn : ts.length ≤ 20) (env : PySem.Env) (pos : Pos) : methodCallForm (ts.length + ([] : List Keyword).length) (backTo pos (starEach ts env)) (backToKw pos (keywordEach [] env)) = true := by
  unfold methodCallForm
  rw [all_any (star_all h env pos)]
  show (true && true && decide (ts.length + 0 + 0 < 30)) = true
  simp
  omega
theorem meth_eq {N : List Str} {sc : Scope} {hot : Option Nat} {l : E} {r : Expr} {m : Str} {apos pos : Pos} {ts : List Expr} {env : PySem.Env} (hr : noSup r = true) (h : chkL N sc hot l ts = true) (hn : ts.length ≤ 20) (hl : (apos.endLine == pos.line) = true) :
    eval (.Call (.Attribute r m apos) ts [] pos) env = (do
      let ov ← eval r env
      standAt apos.atName
      let (f, first) ← holding [ov] (getMethod ov m (plainOf r env))
      callWith pos f first (backTo pos (starEach ts env)) (backToKw pos (keywordEach [] env))) := by
  show (do
    let ov ← attributeBase r m env (eval r env)
    standAt apos.atName
    methodCall r m apos pos env ov (ts.length + ([] : List Keyword).length) (backTo pos (starEach ts env)) (backToKw pos (keywordEach [] env))) = _
  rw [base_ok hr]
  congr 1
  funext ov
  congr 1
  funext _
  exact mcall_line (form_ok h hn env pos) hl
theorem ev_om {o l : E} {m : Str} (ho : EvP p ca fa fd ps o) (hl : EvL p ca fa fd ps l) : EvP p ca fa fd ps (.om o m l) := by
  intro X n W hx g t h
  obtain ⟨r, apos, args, pos, rfl, h1, h2, h3, h4, h5, h6⟩ := inv_om h
  cases hx_none h4
  refine ⟨fun pins s σ H Q I ⟨ρ, e, st, at_, hf⟩ => ?_⟩
  simp only [ev] at hf
  refine PySem.W.methodCall_KW (pl := plainOf r X.env) (thn ((ho X n W none g r h1).run pins s σ H _ I (goE at_ hf)) fun u s1 hh => ?_) (meth_eq h3 h2 h5 h6)
  obtain ⟨x, H1, I1, r1, ρ1, vo, st1, _, _, at1, ro, _, hf1⟩ := hh
  cases ei : ownAt p vo m st1 with
  | none => rw [ei] at hf1; exact hf1.elim
  | some key =>
    simp only [ei] at hf1
    obtain ⟨a, c, dx, gs, rfl, ha, hl0, hc, hm⟩ := own_at g.fc at1.st ro ei
    obtain rfl : u = Value.ref a := r1
    refine getmeth_ok I1 ha hc hm hl0 ?_
    cases args with
    | nil =>
      refine PySem.W.callWith_K0 (first := [.ref a]) I1.kIn hm.kp ?_
      cases l <;> try simp [chkL] at h2
      simp only [evL, Res.bind] at hf1
      exact call_own_M g (us := [.ref a]) (xs := [.ref a]) I1 (.cons rfl .nil) at1.st (.cons ro .nil) hf1
    | cons t ts =>
      cases l <;> try simp [chkL] at h2
      rename_i b r2
      refine PySem.W.callWith_K (first := [.ref a]) (h₀ := X.base) I1.ok.mod.kin hm.kp (thn ((hl X n W none g (t :: ts) (by simp only [chkL, Bool.and_eq_true]; exact h2)).run pos pins s1 σ H1 _ I1 (goL at1 hf1)) fun us s2 hh2 => ?_) (not_star h2.1 _ _) (star_all h2.2 _ _)
      obtain ⟨xs, H2, I2, r2, ρ2, vs, st2, pr, ex, at2, rv, _, hf2⟩ := hh2
      exact ⟨I2.kIn, call_own_M g (us := .ref a :: us) (xs := .ref a :: xs) I2 (.cons rfl r2) at2.st (.cons (ro.mono pr ex) rv) hf2⟩

theorem ev_attr {o : E} {f : Str} (ho : EvP p ca fa fd ps o) : EvP p ca fa fd ps (.attr o f) := by
  intro X n W hx g t h
  obtain ⟨r, pos, rfl, h1, h2, h3⟩ := inv_attr h
  cases hx_none h3
  refine ⟨fun pins s σ H Q I ⟨ρ, e, st, at_, hf⟩ => ?_⟩
  simp only [ev] at hf
  refine attr_of (base_ok h2) (thn ((ho X n W none g r h1).run pins s σ H _ I (goE at_ hf)) fun u s1 hh => ?_)
  obtain ⟨x, H1, I1, r1, ρ1, vo, st1, _, _, at1, ro, _, hf1⟩ := hh
  unfold lookAttr at hf1
  cases ei : insAt st1 vo with
  | none => rw [ei] at hf1; exact hf1.elim
  | some q =>
    obtain ⟨c, fs⟩ := q
    simp only [ei] at hf1
    obtain ⟨a, dx, gs, rfl, ha, hr⟩ := ins_at at1.st ei ro
    obtain rfl : u = Value.ref a := r1
    cases ec : p.clss.lookup c with
    | none => rw [ec] at hf1; exact hf1.elim
    | some i =>
      simp only [ec] at hf1
      obtain ⟨_, m2, m3, _, _, m6⟩ := g.fc.cls c i ec
      split at hf1
      · rename_i hfl
        obtain ⟨v, e1, hf2⟩ := res_of hf1
        obtain ⟨y, ey, ry⟩ := hr.look e1
        exact getattr_ok I1 ha m2 (m3 f hfl) ey fun u' s' J ru => ⟨y, H1, J, ru, Fin.ok (R := Rv X.K) hf2 at1.st ry⟩
      · cases ek : i.props.lookup f with
        | none => rw [ek] at hf1; exact hf1.elim
        | some key =>
          simp only [ek] at hf1
          obtain ⟨pa, hp⟩ := m6 f key ek
          cases er : callF p n key [vo] st1 with
          | ok v s2 =>
            rw [er] at hf1
            obtain ⟨d, hd, _⟩ := np_of (n := n) (key := key) (vs := [vo]) (st := st1) (by rw [er]; exact fun z => by cases z)
            refine prop_G I1 ha m2 hp (g.fn key d hd) ((g.cold rfl).2.mono (by omega)) g.gd (g.fc.bnd key d hd).1 ?_
            have q := sp_of (W := fun _ _ _ _ => False) (σ := σ) (Q := Q) at1.st (.cons ro .nil) (n := n) (key := key) (p := p) (by rw [er]; exact hf1)
            exact q
          | err c v s2 => rw [er] at hf1; exact hf1.elim
          | stk => rw [er] at hf1; exact hf1.elim

theorem sub_flag {i : Expr} (h : notSlc i = true) (x : Addr) (v : Value) : subscripted i true (.ref x) v = runValue (.builtin "lifetime.subscript" ⟨[.ref x, v], []⟩) := by
  cases i <;> first | (with_unfolding_all rfl) | simp [notSlc] at h
theorem ev_sub {a b : E} (ha : EvP p ca fa fd ps a) (hb : EvP p ca fa fd ps b) : EvP p ca fa fd ps (.sub a b) := by
  intro X n W hx g t h
  obtain ⟨v, i, pos, rfl, h1, h2, h3, h4⟩ := inv_sub h
  cases hx_none h4
  refine ⟨fun pins s σ H Q I ⟨ρ, e, st, at_, hf⟩ => ?_⟩
  simp only [ev] at hf
  refine Subscript_ (binT (R := fun x y H2 => ∃ ρ2 vx vy st2, Rst X.K ca ρ2 H2 st2 ∧ Rv X.K ρ2 H2 vx x ∧ Rv X.K ρ2 H2 vy y ∧ Fin X.K ca (Rv X.K) (match insAt st2 vx with
      | some _ => callOwn p (callF p n) vx "__getitem__" [vy] st2
      | none => Res.of (opSub st2 vx vy) st2) ρ2 H2 σ Q W) (ha X n W none g v h1) (hb X n W none g i h2) I ?_ fun u1 u2 s2 x y H2 I2 rx ry hh => ?_)
  · exact (goE at_ hf).imp fun x H1 ⟨ρ1, vx, st1, _, _, at1, rx, _, hf1⟩ => (goE at1 hf1).imp fun y H2 ⟨ρ2, vy, st2, pr, ex, at2, ry, _, hf2⟩ => ⟨ρ2, vx, vy, st2, at2.st, rx.mono pr ex, ry, hf2⟩
  · obtain ⟨ρ2, vx, vy, st2, hs, qx, qy, hf2⟩ := hh
    cases ei : insAt st2 vx with
    | none =>
      rw [ei] at hf2
      obtain ⟨k, ek, hf3⟩ := res_of hf2
      exact ix_M (ca := ca) (by have := g.un; omega) v i pins s2 σ H2 x y u1 u2 Q I2 rx ry ⟨ρ2, st2, vx, vy, k, hs, qx, qy, ek, fun z rz => Fin.ok (R := Rv X.K) hf3 hs rz⟩ (plainIx h3 u1 u2)
    | some q =>
      rw [ei] at hf2
      replace hf2 : Fin X.K ca (Rv X.K) (callOwn p (callF p n) vx "__getitem__" [vy] st2) ρ2 H2 σ Q W := hf2
      unfold callOwn at hf2
      cases eo : ownAt p vx "__getitem__" st2 with
      | none => rw [eo] at hf2; exact hf2.elim
      | some key =>
        rw [eo] at hf2
        obtain ⟨a0, c, dx, gs, rfl, hA, hl0, hc, hm⟩ := own_at g.fc hs qx eo
        obtain rfl : u1 = Value.ref a0 := rx
        obtain ⟨m, F⟩ := I2.fr
        obtain ⟨mA, O, _⟩ := ins_get I2.hok hA
        obtain ⟨od, J, _⟩ := O.look
        obtain ⟨d, hd, _⟩ := np_of hf2.nstk
        obtain ⟨b1, b2, b3⟩ := g.fc.bnd key d hd
        exact PySem.W.sub_K F I2.ok.mod.kin J hm.at_ b3 hm.fn (run_G1 (g.fn key d hd) ((g.cold rfl).2.mono (by omega)) g.gd b1 g.tk I2 (us := [.ref a0, u2]) (vs := [.ref a0, y]) (.cons rfl (.cons ry .nil)) (sp_of hs (.cons qx (.cons qy .nil)) hf2)) (sub_flag h3 _ _)

theorem po_ok {a : E} (ha : EvP p ca fa fd ps a) {X : Cx} {n : Nat} {W : WX} {hx : Option Hx} (g : Gd p ca fa fd ps X n W hx) {o : Option Expr} (h : chkO X.N X.env.scope (hx.map Hx.i) a o = true) :
    PO X o (fun σ H Q => ∃ ρ e st, At p ca X.K ρ H e σ hx st ∧ Fin X.K ca (fun ρ' H' (v : Option Val) (x : Option Int) => v = x.map .int) (if noneE a = true then .ok none st else (ev p (callF p n) a e st).bind fun v s => match v with
      | .int i => .ok (some (.int i)) s
      | _ => .stk) ρ H σ Q W) := by
  cases o with
  | none =>
    have hn : noneE a = true := h
    refine impPO po_none fun σ H Q ⟨ρ, e, st, at_, hf⟩ => ?_
    rw [if_pos hn] at hf
    exact Fin.ok (R := fun ρ' H' (v : Option Val) (x : Option Int) => v = x.map .int) hf at_.st rfl
  | some t =>
    have hn : noneE a = false ∧ chkE X.N X.env.scope (hx.map Hx.i) a t = true := by
      simpa [chkO, optB] using h
    refine impPO (po_some (ha X n W hx g t hn.2)) fun σ H Q ⟨ρ, e, st, at_, hf⟩ => ?_
    rw [if_neg (by rw [hn.1]; decide)] at hf
    refine (goE at_ hf).imp fun x H1 ⟨ρ1, v, st1, _, _, at1, rx, _, hf1⟩ => ?_
    cases rx <;> first | exact hf1.elim | exact ⟨_, rfl, Fin.ok (R := fun ρ' H' (v : Option Val) (x : Option Int) => v = x.map .int) hf1 at1.st rfl⟩
theorem ev_slc {a lo hi : E} (ha : EvP p ca fa fd ps a) (hl : EvP p ca fa fd ps lo) (hh : EvP p ca fa fd ps hi) : EvP p ca fa fd ps (.slc a lo hi) := by
  intro X n W hx g t h
  obtain ⟨v, l, u, q, pos, rfl, h1, h2, h3⟩ := inv_slc h
  refine impPE (pe_slice (sl_M (ca := ca)) (ha X n W hx g v h1) (po_ok hl g h2) (po_ok hh g h3)) fun σ H Q ⟨ρ, e, st, at_, hf⟩ => ?_
  simp only [ev] at hf
  refine (goE at_ hf).imp fun x H1 ⟨ρ1, vx, st1, _, _, at1, rx, _, hf1⟩ => ⟨ρ1, e, st1, at1, hf1.bind.imp fun o1 H2 ⟨ρ2, w1, st2, pr, ex, hs2, e1, _, hf2⟩ => ?_⟩
  refine ⟨ρ2, e, st2, at1.mono pr ex hs2, hf2.bind.imp fun o2 H3 ⟨ρ3, w2, st3, pr3, ex3, hs3, e2, _, hf3⟩ => ?_⟩
  subst e1 e2
  exact ⟨ρ3, st3, vx, σ, W, hs3, (rx.mono pr ex).mono pr3 ex3, hf3⟩

section
variable {X : Cx} {n : Nat} {W : WX} {hx : Option Hx}
theorem bi_end {K : Frg} {f : Str} {ρ1 : List Addr} {H1 : Hp} {st1 : Store} {vs : List Val} {xs : List V} {Q : VK} {σ : L2.St} {W : WX} {n : Nat} (hn : f ≠ "len") (hs : Rst K ca ρ1 H1 st1) (rv : Rvs K ρ1 H1 vs xs)
    (hf : Fin K ca (Rv K) (opBiP p (callF p n) f vs st1) ρ1 H1 σ Q W) : rcM K ca (fun st vs => opBi st f vs) xs H1 Q := by
  refine ⟨ρ1, st1, vs, σ, W, hs, rv, ?_⟩
  unfold opBiP at hf
  split at hf
  · split at hf
    · rw [if_neg hn] at hf; exact hf.elim
    · exact hf.elim
  · exact hf
def rlM (p : Prog) (K : Frg) (ca : Str → Addr) (n : Nat) : List V → Hp → VK → Prop := fun xs H Q => ∃ ρ st vs σ W, Rst K ca ρ H st ∧ Rvs K ρ H vs xs ∧ Fin K ca (Rv K) (opBiP p (callF p n) "len" vs st) ρ H σ Q W
theorem bi_lenP (g : Gd p ca fa fd ps X n W none) : CallR X (.builtin "len") (rlM p X.K ca n) := by
  intro pins s σ H xs us Q I r ⟨ρ, st, vs, σ0, W0, hs, hv, hf⟩
  unfold opBiP at hf
  split at hf
  · split at hf
    · rename_i v _
      rw [if_pos rfl] at hf
      unfold callOwn at hf
      cases eo : ownAt p v "__len__" st with
      | none => rw [eo] at hf; exact hf.elim
      | some key =>
        rw [eo] at hf
        replace hf : Fin X.K ca (Rv X.K) (lenOk (callF p n key [v] st)) ρ H σ0 Q W0 := hf
        obtain ⟨x, rfl, rx⟩ := rvs1 hv
        obtain ⟨a0, c, dx, gs, rfl, hA, hl0, hc, hm⟩ := own_at g.fc hs rx eo
        cases er : callF p n key [v] st with
        | stk => rw [er] at hf; exact hf.elim
        | err c w s1 => rw [er] at hf; exact hf.elim
        | ok w s1 =>
          rw [er] at hf
          cases w <;> try exact hf.elim
          rename_i i
          unfold lenOk at hf
          by_cases hi : 0 ≤ i ∧ i < 9223372036854775808
          · simp only [if_pos hi] at hf
            obtain ⟨u1, rfl⟩ : ∃ u1, us = [u1] := by
              cases r with | cons _ rr => cases rr; exact ⟨_, rfl⟩
            have r0 : u1 = Value.ref a0 := by cases r with | cons r0 _ => exact r0
            subst r0
            obtain ⟨m, F⟩ := I.fr
            obtain ⟨mA, O, _⟩ := ins_get I.hok hA
            obtain ⟨od, J, _⟩ := O.look
            obtain ⟨d, hd, _⟩ := np_of (n := n) (key := key) (vs := [v]) (st := st) (by rw [er]; exact fun z => by cases z)
            obtain ⟨b1, b2, b3⟩ := g.fc.bnd key d hd
            refine PySem.W.len_K F I.ok.mod.kin J hm.at_ hm.fn (wpAny_mono (run_G1 (W := W) (Q := fun x H' => x = .int i ∧ Q x H') (g.fn key d hd) ((g.cold rfl).2.mono (by omega)) g.gd b1 g.tk I (us := [.ref a0]) (vs := [.ref a0]) (.cons rfl .nil) (sp_of hs (.cons rx .nil) ?_)) ?_ fun _ _ z => z)
            · rw [er]
              intro ρ' H' b pr ex hs' rb
              cases rb
              exact ⟨rfl, hf ρ' H' _ pr ex hs' (.int i)⟩
            · rintro u s' ⟨y, H', I', ry, rfl, q⟩
              obtain ⟨t, rfl⟩ := ry
              exact ⟨⟨hi.1, by have := hi.2; omega⟩, .int i, H', I'.tok _, ⟨_, rfl⟩, q⟩
          · simp only [if_neg hi] at hf
            exact hf.elim
    · exact hf.elim
  · exact bi_len (ca := ca) pins s σ H xs us Q I r ⟨ρ, st, vs, σ0, W0, hs, hv, hf⟩
theorem bi_go {f : Str} {l : E} {v : Value} {r : List V → Hp → VK → Prop} (hl : EvL p ca fa fd ps l) (g : Gd p ca fa fd ps X n W hx) {t1 : Expr} {args : List Expr} {q pos : Pos} (h1 : glB X.env.scope f = true) (h2 : okN f = true) (h3 : chkL X.N X.env.scope (hx.map Hx.i) l (t1 :: args) = true)
    (hm : X.mg f = none) (hR : (∃ id, v = .builtin id ∧ bootBuiltins f = some (.builtin id)) ∨ ∃ T, v = .type T ∧ bootBuiltins f = some (.type T)) (hc : CallR X v r)
    (hr : ∀ ρ1 st1 vs xs H1 σ Q, Rst X.K ca ρ1 H1 st1 → Rvs X.K ρ1 H1 vs xs → Fin X.K ca (Rv X.K) (opBiP p (callF p n) f vs st1) ρ1 H1 σ Q W → r xs H1 Q) : PE X (.Call (.Name f q) (t1 :: args) [] pos) (TEm p ca X n hx W (.bi f l)) := by
  cases l <;> try simp [chkL] at h3
  rename_i a r
  have hP := hl X n W hx g (t1 :: args) (by simp only [chkL, Bool.and_eq_true]; exact h3)
  have hk : ∀ σ H Q, TEm p ca X n hx W (.bi f (.cons a r)) σ H Q → tCB _ (TLm p ca X n hx W (.cons a r)) σ H Q := fun σ H Q ⟨ρ, e, st, at_, hf⟩ => by
    simp only [ev] at hf
    exact (goL at_ hf).imp fun xs H1 ⟨ρ1, vs, st1, _, _, at1, rv, _, hf1⟩ => hr ρ1 st1 vs xs H1 σ Q at1.st rv hf1
  rcases hR with ⟨id, rfl, hb⟩ | ⟨T, rfl, hb⟩
  · exact impPE (pe_callB hc (gl_of h1) hm hb hP (ok_dbg h2).2.2 (ok_dbg h2).1 (not_star h3.1 _ _) (star_all h3.2 _ _)) hk
  · exact impPE (pe_callTy hc (gl_of h1) hm hb hP (ok_dbg h2).2.2 (ok_dbg h2).1 (not_star h3.1 _ _) (star_all h3.2 _ _)) hk
end
theorem calm_of {X : Cx} {n : Nat} {W : WX} {hx : Option Hx} (g : Gd p ca fa fd ps X n W hx) {f : Str} (h : hx.map Hx.i = none ∨ calmBi.contains f = false) (hf : calmBi.contains f = true) : X.calm = true := by
  rcases h with h | h
  · exact (g.cold (hx_none h)).1
  · rw [hf] at h; cases h
theorem std_of : ∀ f, biNames.contains f = true → stdNames.contains f = true := by
  intro f h
  have mem : f ∈ biNames := by simpa using h
  have : f ∈ stdNames := by
    simp only [biNames, stdNames, List.mem_cons, List.not_mem_nil, or_false] at mem ⊢
    rcases mem with h | h | h | h | h | h | h | h | h | h <;> simp [h]
  simpa using this
theorem ev_bi {f : Str} {l : E} (hl : EvL p ca fa fd ps l) : EvP p ca fa fd ps (.bi f l) := by
  intro X n W hx g t h
  obtain ⟨q, t1, args, pos, rfl, h1, h2, h3, h4, h5⟩ := inv_bi h
  have hm := g.fc.bi f (std_of f h4)
  have mem : f ∈ biNames := by simpa using h4
  have go : ∀ {v : Value}, f ≠ "len" → ((∃ id, v = .builtin id ∧ bootBuiltins f = some (.builtin id)) ∨ ∃ T, v = .type T ∧ bootBuiltins f = some (.type T)) → CallR X v (rcM X.K ca fun st vs => opBi st f vs) → PE X (.Call (.Name f q) (t1 :: args) [] pos) (TEm p ca X n hx W (.bi f l)) :=
    fun hn hR hc => bi_go hl g h1 h2 h3 hm hR hc fun ρ1 st1 vs xs H1 σ Q hs rv hf => bi_end hn hs rv hf
  simp only [biNames, List.mem_cons, List.not_mem_nil, or_false] at mem
  rcases mem with rfl | rfl | rfl | rfl | rfl | rfl | rfl | rfl | rfl | rfl
  · have hz : hx = none := by
      rcases h5 with h5 | h5
      · exact hx_none h5
      · exact absurd h5 (by decide +kernel)
    subst hz
    exact bi_go (v := .builtin "len") hl g h1 h2 h3 hm (.inl ⟨_, rfl, by decide +kernel⟩) (bi_lenP g) fun ρ1 st1 vs xs H1 σ Q hs rv hf => ⟨ρ1, st1, vs, σ, W, hs, rv, hf⟩
  · exact go (v := .type "int") (by decide +kernel) (.inr ⟨_, rfl, by decide +kernel⟩) bi_int
  · exact go (v := .builtin "abs") (by decide +kernel) (.inl ⟨_, rfl, by decide +kernel⟩) bi_abs
  · exact go (v := .type "list") (by decide +kernel) (.inr ⟨_, rfl, by decide +kernel⟩) bi_list
  · exact go (v := .type "str") (by decide +kernel) (.inr ⟨_, rfl, by decide +kernel⟩) bi_str
  · exact go (v := .builtin "repr") (by decide +kernel) (.inl ⟨_, rfl, by decide +kernel⟩) (bi_repr g.gd g.un)
  · exact go (v := .builtin "all") (by decide +kernel) (.inl ⟨_, rfl, by decide +kernel⟩) (bi_all (calm_of g h5 (by decide +kernel)))
  · exact go (v := .builtin "any") (by decide +kernel) (.inl ⟨_, rfl, by decide +kernel⟩) (bi_any (calm_of g h5 (by decide +kernel)))
  · exact go (v := .builtin "max") (by decide +kernel) (.inl ⟨_, rfl, by decide +kernel⟩) (bi_max (calm_of g h5 (by decide +kernel)))
  · exact go (v := .builtin "min") (by decide +kernel) (.inl ⟨_, rfl, by decide +kernel⟩) (bi_min (calm_of g h5 (by decide +kernel)))
end
end AM
end

section
set_option maxRecDepth 100000
set_option maxHeartbeats 8000000
namespace AN
open PySem L2 PySem.Spec PyProof.Rows
/-- a clause: its class, its name's slot, what its suite does -/
abbrev Clause := Value × Nat × (Addr → Value → Option Addr → TS)
/-- the ends of a named clause's suite: the name is gone -/
def endsNo (D : Ends) (i : Nat) : Ends := { nx := fun σ H => D.nx (σ.set i none) H, rt := D.rt, bk := fun σ H => D.bk (σ.set i none) H, ct := fun σ H => D.ct (σ.set i none) H }
def wCl (K : PySem.W.Frag) (W0 : WX) (D : Ends) : List Clause → WX
  | [] => W0
  | (c, i, ts) :: r => fun cls d σ H => ∃ b, PySem.W.exmOne K cls c = some b ∧ (b = true → ∀ a, H a = none → ts a cls d (endsNo D i) (σ.set i (some (.ref a))) H) ∧ (b = false → wCl K W0 D r cls d σ H)
inductive Cls (X : Cx) : List ExceptHandler → List Clause → Prop
  | nil : Cls X [] []
  | cons {x n : Str} {c : Value} {i : Nat} {ts : Addr → Value → Option Addr → TS} {s0 : Stmt} {ss : List Stmt} {q q' : Pos} {hs : List ExceptHandler} {l : List Clause}
      (slot : X.N[i]? = some n) (loc : X.env.kindOf n = some .local) (cl : Names X x c)
      (go : ∀ (a : Addr) (o : Obj) (k : Value) (d : Option Addr) (pn : List (Addr × Obj)), Zc k d o → (∃ vs, o.data = .fields vs) → PSs (X.suite a ((a, o) :: pn)) (s0 :: ss) (ts a k d))
      (rest : Cls X hs l) : Cls X (.ExceptHandler (some (.Name x q)) (some n) (s0 :: ss) q' :: hs) ((c, i, ts) :: l)

section
variable {X : Cx} {body : List Stmt} {hs : List ExceptHandler} {l : List Clause} {h0 : ExceptHandler} {pos : Pos} {tb : WX → TS} {W0 : WX}
/-- the frames' cells are no instance's -/
theorem no_frame {B h : Heap} {o : Obj} {vs : Array Value} {a : Addr} (ff : h.FunFrames B (X.env :: X.outer)) (e : h.get? a = some o) (dd : o.data = .fields vs) : a ∉ frs (X.env :: X.outer) := by
  intro hm
  obtain ⟨_, o', e', no⟩ := ff.mem hm
  cases e.symm.trans e'
  exact no _ dd

theorem try_clauses (st : X.stack = X.env :: X.outer) (fr : X.env.frame = some X.env.locals) (nd : X.N.Nodup) (tk : Takes X W0)
    (bd : ∀ (W : WX) (pn : List (Addr × Obj)) (xe : Value → Shared → Prop), Takes (X.tr pn xe) W → PassesOwn (model X.prog X.w) X.A X.env xe → PSs (X.tr pn xe) body (tb W))
    (cs : Cls X (h0 :: hs) l) : PS X (.Try body (h0 :: hs) [] [] pos) (fun D σ H => tb (wCl X.K W0 D l) D σ H) := by
  refine ⟨fun pins s σ H D I w0 => ?_⟩
  have okI := I.ok
  have frm : X.A.frames = some (X.env :: X.outer) := by
    rw [okI.frames, st]
  refine wpAny_Try_except ?_
  have bR := (bd (wCl X.K W0 D l) (X.pn ++ pins) (fun e t1 => wpAny (model X.prog X.w) X.A (noteFrame e X.env) (fun _ t2 => wpAny (model X.prog X.w) X.A (setFlight e none) (fun _ t3 => wpAny (model X.prog X.w) X.A (handleBy e X.env (h0 :: hs)) (SP X pins D) X.xe t3) X.xe t2) X.xe t1) (fun u s' ex => ?caught) PassesOwn.looking).run [] s σ H D (I.toTry _) w0
  case caught =>
    obtain ⟨a, B, sI, pins', σ', H', k, d, rfl, J0, nb, up, sky, na, os, ag, w⟩ := ex
    have J : Inv X pins σ' H' sI := J0.ofTry okI
    have sk : Sky B (X.env :: X.outer) a (Zc k d) X.env.locals s'.heap := by
      rw [← st]
      exact sky
    show wpAny _ X.A (noteFrame (.ref a) X.env) _ _ _
    refine Sky.land Zc.steady frm fr sk fun h3 fl3 up3 => ?_
    have J3 : Inv X pins σ' H' { s' with heap := h3 } := J.landed nb fl3.1 (up.trans up3) os ag
    obtain ⟨o3, vs3, ge3, z3, da3⟩ := fl3.there
    have nof := no_frame fl3.2.2.1 ge3 da3
    have nl : a ≠ X.env.locals := by
      intro z
      refine nof (List.mem_filterMap.mpr ⟨X.env, List.mem_cons_self, ?_⟩)
      rw [fr, z]
    have nfs : a ∉ X.fs := by
      intro hm
      obtain ⟨e, he, q⟩ := List.mem_filterMap.mp hm
      exact nof (List.mem_filterMap.mpr ⟨e, List.mem_cons_of_mem _ he, q⟩)
    have S3 := J3.suite ge3 da3 na nl nfs
    have walk : ∀ {hs' : List ExceptHandler} {l' : List Clause}, Cls X hs' l' → wCl X.K W0 D l' k d σ' H' → wpAny (model X.prog X.w) X.A (handleBy (.ref a) X.env hs') (SP X pins D) X.xe { s' with heap := h3 } := by
      intro hs' l' kk
      induction kk with
      | nil =>
        intro w
        refine wpAny_handleBy_nil ?_
        obtain ⟨_, _, _, o, vs, T, oT, ts', he, hz, hd, h1, hr⟩ := id fl3
        unfold PySem.passOn
        refine wpAny_bind (wpAny_field he hd h1 ?_)
        rw [if_neg (by simp)]
        have fin : wpAny (model X.prog X.w) X.A (setFlight (.ref a) X.env.frame) (fun _ t4 => wpAny (model X.prog X.w) X.A (throw (.ref a) : Sem Flow) (SP X pins D) X.xe t4) X.xe { s' with heap := h3 } := by
          rw [fr]
          refine HandSPX.setFlight_upZ fl3 fun h4 hh4 up4 => wpAny_throw (tk _ _ ?_)
          refine ⟨a, B, sI, pins, σ', H', k, d, rfl, J, nb, (up.trans up3).trans up4, .inr (.inr ?_), na, os, ag, w⟩
          rw [st]
          exact hh4
        first
          | exact wpAny_bind (wpAny_pure (wpAny_bind fin))
          | exact wpAny_bind fin
      | @cons x n c i ts s0 ss q q' hs2 l2 slot loc cl go rest ih =>
        intro w
        obtain ⟨b, eb, yes, no⟩ := w
        refine wpAny_handleBy_cons (codeAny_handlers_test ?_) (by intro z; cases z)
        have lt : PySem.W.Looks (model X.prog X.w) h3 (typeOf (.ref a)) k := fun A Q E s kk q => wpAny_typeOf_ref (kk _ _ ge3) (by rw [z3.1]; exact q)
        have lm := PySem.W.exm_one (M := model X.prog X.w) (J3.kIn) lt eb
        have test : ∀ {Q E : Value → Shared → Prop}, Q c { s' with heap := h3 } → wpAny (model X.prog X.w) (X.A.mark (some (.ref a))) (eval (.Name x q) X.env) Q E { s' with heap := h3 } := by
          intro Q E qq
          obtain ⟨hg, hdb, hm | ⟨hm, hv, hnn⟩⟩ := cl
          · exact ld_glob (X := X.suite a ((a, o3) :: (X.pn ++ pins))) S3 hg hm qq hdb
          · exact ld_blt (X := X.suite a ((a, o3) :: (X.pn ++ pins))) S3 hg hm hv qq hnn hdb
        refine test (lm.here ?_)
        cases b with
        | true =>
          refine codeAny_handlers_suite_as ?_
          refine HandSPX.lands_againZ fl3 fun h4 fl4 up4 => ?_
          have J4 : Inv X pins σ' H' { s' with heap := h4 } := J.landed nb fl4.1 ((up.trans up3).trans up4) os ag
          obtain ⟨o4, vs4, ge4, z4, da4⟩ := fl4.there
          refine store_ok (X := X.suite a ((a, o4) :: (X.pn ++ pins))) (v := .ref a) (J4.suite ge4 da4 na nl nfs) nd slot (.inl loc) rfl (fun s5 S5 => ?_) (.inr loc)
          have goes := (go a o4 k d (X.pn ++ pins) z4 ⟨_, da4⟩).run [] s5 _ H' _ S5 (yes rfl a na)
          have over : ∀ {σ6 : L2.St} {H6 : Hp} {s6 : Shared} {Q : Shared → Prop}, Inv (X.suite a ((a, o4) :: (X.pn ++ pins))) [] σ6 H6 s6 → (∀ s7, Inv X pins (σ6.set i none) H6 s7 → Q s7) → wpAny (model X.prog X.w) X.A (do bindName X.env n .none; unbindBehindTheSuite X.env n q') (fun _ s7 => Q s7) X.xe s6 :=
            fun S6 hq => gone_ok (S6.unsuite okI) nd slot loc hq
          refine wpAny_mono goes (fun f s6 sp => ?_) (fun _ _ z => z.elim)
          rcases f with _ | _ | _ | u
          · obtain ⟨σ6, H6, S6, q6⟩ := sp
            exact over S6 fun s7 J7 => ⟨_, _, J7, q6⟩
          · obtain ⟨σ6, H6, S6, q6⟩ := sp
            exact over S6 fun s7 J7 => ⟨_, _, J7, q6⟩
          · obtain ⟨σ6, H6, S6, q6⟩ := sp
            exact over S6 fun s7 J7 => ⟨_, _, J7, q6⟩
          · obtain ⟨v6, σ6, H6, S6, r6, q6⟩ := sp
            exact over S6 fun s7 J7 => ⟨_, _, _, J7, r6, q6⟩
        | false =>
          show wpAny _ X.A (handleBy (.ref a) X.env hs2) _ _ _
          exact ih (no rfl)
    exact walk cs w
  refine wpAny_mono bR (fun f s1 sp => ?_) (fun _ _ he => he)
  rcases f with _ | _ | _ | u
  · obtain ⟨σ', H', J', q⟩ := sp
    exact wpAny_execs_nil ⟨σ', H', J'.ofTry okI, q⟩
  · obtain ⟨σ', H', J', q⟩ := sp
    exact ⟨σ', H', J'.ofTry okI, q⟩
  · obtain ⟨σ', H', J', q⟩ := sp
    exact ⟨σ', H', J'.ofTry okI, q⟩
  · obtain ⟨v, σ', H', J', r, q⟩ := sp
    exact ⟨v, σ', H', J'.ofTry okI, r, q⟩
end
end AN
end

section
set_option maxRecDepth 100000
set_option maxHeartbeats 8000000
namespace AN
open PySem PySem.Spec PySem.Calls PyProof.Rows PySem.W
section
variable {prog : Program} {w : World} {A : Around} {E : Value → Shared → Prop} {s : Shared} {K : Frag} {x D : Addr} {ox : PySem.Obj} {od : Option PySem.Obj}
/-- a data descriptor is found, whatever the dict says -/
theorem find_data {C : Addr} {name : PySem.Str} {a g : Value} (hc : (clsIn K C).isSome = true) (h1 : findIn K (.ref C) name = some (some a)) (h2 : specialIn K a "__get__" = some (some g)) (h3 : takesIn K a = some true) (od : Option PySem.Obj) : findObj K C od name = some (.bind g a) := by
  obtain ⟨cd, e⟩ := Option.isSome_iff_exists.mp hc
  simp [findObj, e, h1, h2, h3]

/-- what a class of errors says, of the ways to its instances' class -/
abbrev ExD (K : Frag) (D : Addr) : Prop := L2.ExcC K D

theorem class_of (c : ExD K D) (X : K.In s.heap) (I : W.InstAt s.heap x ox D od) {Q : Option Value → Shared → Prop} (h : Q (some (.ref D)) { s with toks := s.toks + 1 }) : wpAny (model prog w) A (getAttr? (.ref x) "__class__") Q E s := by
  have isC : (clsIn K D).isSome = true := by
    obtain ⟨cd, hc⟩ := any_some c.hd
    rw [hc.1]; rfl
  obtain ⟨hp, g, dr, t, os⟩ := s
  have t0 := I.type (M := model prog w)
  have t1 := looks_findIn (M := model prog w) X c.hg
  have t2 := looks_findIn (M := model prog w) X c.hk
  have t3 := looks_find (M := model prog w) X I (find_data isC c.ha c.hn c.ht od)
  have isB : Looks (model prog w) hp (isInstance (.ref x) (.type "BaseException")) true := t0.andThen (looks_subIn X c.hs)
  have n1 : (onTheHeap (Value.ref D) && Value.builtin "BaseException.__getattribute__" == Value.builtin "object.__getattribute__") = false := by
    rw [show (Value.builtin "BaseException.__getattribute__" == Value.builtin "object.__getattribute__") = false from by decide +kernel]; rfl
  unfold getAttr? getAttrBy? getAttrBy
  refine wpAny_bind (wpAny_mkText (wpAny_bind (wpAny_attempt (wpAny_holding (wpAny_bind (t0.at (wpAny_bind (t1.at ?_))))))))
  show wpAny _ _ (if (onTheHeap (Value.ref D) && Value.builtin "BaseException.__getattribute__" == Value.builtin "object.__getattribute__") = true then _ else _) _ _ _
  rw [n1, if_neg (by decide)]
  unfold getAttrByItsOwn hookBefore
  refine wpAny_bind ?_
  rw [if_pos (show onTheHeap (Value.ref D) = true from rfl)]
  refine t2.at (wpAny_bind (wpAny_attempt (wpAny_holding ?_)))
  unfold callGetattribute
  rw [show (false && onTheHeap (Value.builtin "BaseException.__getattribute__")) = false from rfl, if_neg (by decide)]
  unfold boundAndCalled
  rw [PySem.F.excAttr_ValueError.ga.bind (.ref x)]
  refine wpAny_bind (wpAny_pure ?_)
  show wpAny _ _ (call (.builtin "BaseException.__getattribute__") [.ref x, .str "__class__" t]) _ _ _
  refine wpAny_call (codeAny_call_builtin PySem.F.excAttr_ValueError.ga.plain PySem.F.entry_bexc_ga ?_)
  refine @check_slot (model prog w) _ _ ⟨hp, g, dr, t + 1, os⟩ "BaseException.__getattribute__" "BaseException" "__getattribute__" (.ref x) [.str "__class__" t] [] _ (by decide +kernel) (by decide +kernel) isB (PySem.F.args_bexc_ga (.ref x) (.str "__class__" t)) ?_
  unfold Builtin.«object.__getattribute__»
  refine wpAny_bind (wpAny_of_eq (a := ((Value.ref x : Value), [Value.str "__class__" t])) (by first | rfl | (simp only [slotArgs]; rfl)) ?_)
  refine wpAny_bind (wpAny_pure (wpAny_bind (t0.at (wpAny_bind (t3.at ?_)))))
  show wpAny _ _ (holding [Value.builtin "object.__class__"] (call (.builtin "getset_descriptor.__get__") [.builtin "object.__class__", .ref x, .ref D]) >>= ret) _ _ _
  refine wpAny_bind (wpAny_holding (wpAny_call (class_get (s := ⟨hp, g, dr, t + 1, os⟩) (ox := ox) (od := od) X I c.hm ?_)))
  refine wpAny_pure ?_
  show wpAny _ _ (handedOut (.ref D)) _ _ _
  rw [handedOut_of (v := .ref D) rfl]
  first
    | exact wpAny_pure (wpAny_pure h)
    | exact wpAny_pure h
    | exact wpAny_pure (wpAny_bind (wpAny_pure (wpAny_pure h)))
theorem kit_of (c : ExD K D) : KitX K (.ref x) (.ref D) (fun h => W.InstAt h x ox D od) where
  ty := fun _ _ _ I => I.type
  it := fun _ _ X _ => by
    obtain ⟨cd, hc, _⟩ := any_some c.hd
    unfold clsIn at hc
    split at hc
    · rename_i c' d' cd' sl' ho
      intro A' Q' E' s' k q
      unfold isType loadHead
      exact wpAny_bind (wpAny_loadPart (k _ _ (X _ _ ho)) (wpAny_pure q))
    · cases hc
  ne := fun h tp dd its n sl X htp => by
    obtain ⟨cd, hc, _⟩ := any_some c.hd
    rw [Bool.eq_false_iff]
    intro q
    obtain rfl : D = tp := Value.ref.inj (beq_iff_eq.mp q)
    unfold clsIn at hc
    split at hc
    · rename_i c' d' cd' sl' ho
      cases (X _ _ ho).symm.trans htp
    · cases hc
  ca := fun X I k => class_of c X I k
end
/-- isinstance(e, c) of the error that the suite holds, whose dict stands at dd -/
def rIsX (K : Frag) (D a dd : Addr) : List L2.V → L2.Hp → L2.VK → Prop := fun xs H Q => ∃ (c : L2.V) (cv : Value) (b : Bool) (fs : List (PySem.Str × L2.V)), xs = [.ref a, c] ∧ (∀ u, L2.RelV c u → u = cv) ∧ kitOne K (.ref D) cv = some b ∧ H dd = some (.xd fs) ∧ Q (.bl b) H
theorem call_isX {X : L2.Cx} {a D dd : Addr} {oe : PySem.Obj} {pn : List (Addr × PySem.Obj)} (C : ExD X.K D) (hz : L2.Zc (.ref D) (some dd) oe) (hf : ∃ vs, oe.data = .fields vs) : L2.CallR (X.suite a ((a, oe) :: pn)) (.builtin "isinstance") (rIsX X.K D a dd) := by
  intro pins s σ H xs us Q I r h
  obtain ⟨c, cv, b, fs, rfl, hcv, e, hd, q⟩ := h
  cases r with
  | cons rx rr =>
    cases rr with
    | cons rt rr =>
      cases rr
      cases rx
      cases hcv _ rt
      obtain ⟨hget, _⟩ := I.pin (a, oe) (List.mem_append.mpr (.inl List.mem_cons_self))
      obtain ⟨vs, hv⟩ := hf
      have hx : L2.ObjOk X.prog X.w H s.heap dd (.xd fs) := I.hok dd _ hd
      obtain ⟨mA, hns, _⟩ := hx
      obtain ⟨od, ho, _⟩ := L2.lookIn_ns hns
      have J : W.InstAt s.heap a oe D (some od) := by
        obtain ⟨oc, odi, oda, osl⟩ := oe
        obtain ⟨h1, h2⟩ := hz
        dsimp only at h1 h2 hv
        subst h1 h2 hv
        exact ⟨hget, rfl, rfl, ho⟩
      exact kia_one (kit_of C) I.kIn J e (fun z => nomatch z) fun tk => ⟨.bl b, H, I.kept (t' := tk) fun _ _ z => z, rfl, q⟩
end AN
end

section
set_option maxRecDepth 100000
set_option maxHeartbeats 8000000
namespace AM
open PySem L2 PyProof.Rows
section
variable {p : Prog} {ca fa : Str → Addr} {fd : Str → FuncData} {ps : Str → List Str}

theorem bmOk_str {K : Frg} {ρ : List Addr} {H : Hp} {st : Store} {v : Val} {x : V} {m : Str} (hs : Rst K ca ρ H st) (r : Rv K ρ H v x) (h : bmOk st v m = true) (hm : bmLst.contains m = false) : ∃ z, x = .str z := by
  cases r with
  | str z => exact ⟨z, rfl⟩
  | @ref n a ea =>
    simp only [bmOk] at h
    split at h
    · rw [hm] at h; cases h
    · cases h
  | _ => cases h
theorem bmOk_lst {K : Frg} {ρ : List Addr} {H : Hp} {st : Store} {v : Val} {x : V} {m : Str} (hs : Rst K ca ρ H st) (r : Rv K ρ H v x) (h : bmOk st v m = true) (hm : bmStr.contains m = false) : ∃ a xs, x = .ref a ∧ SqL K H a xs := by
  cases r with
  | str z => simp only [bmOk] at h; rw [hm] at h; cases h
  | @ref n a ea =>
    simp only [bmOk] at h
    split at h
    · rename_i e
      obtain ⟨xs, hq, _⟩ := hs.list e ea
      exact ⟨a, xs, rfl, hq⟩
    · cases h
  | _ => cases h
theorem few_ok {N : List Str} {sc : Scope} {hot : Option Nat} {l : E} {ts : List Expr} (h : chkL N sc hot l ts = true) (hn : ts.length ≤ 2) (env : PySem.Env) (pos : Pos) : ((backTo pos (starEach ts env)).all (fun x => !x.1) && (backToKw pos (keywordEach [] env)).all (fun x => x.1.isSome)
      && decide (ts.length + ([] : List Keyword).length + (if ([] : List Keyword).isEmpty then 0 else 1) < 30)) = true := by
  rw [all_any (star_all h env pos)]
  show (true && true && decide (ts.length + 0 + 0 < 30)) = true
  simp
  omega
section
variable {X : Cx} {n : Nat} {W : WX} {hx : Option Hx}
theorem bm_go {o l : E} {m : Str} {r : Expr} {apos pos : Pos} {args : List Expr} {T id : String} {rr : V → List V → Hp → VK → Prop} (ho : EvP p ca fa fd ps o) (hl : EvL p ca fa fd ps l) (g : Gd p ca fa fd ps X n W hx) (h1 : chkE X.N X.env.scope (hx.map Hx.i) o r = true) (h2 : chkL X.N X.env.scope (hx.map Hx.i) l args = true)
    (h3 : noSup r = true) (h4 : args.length ≤ 2) (h5 : (apos.endLine == pos.line) = true) (pa : PlainAttrs T) (slot : Slot T m id) (hty : typeOf (.builtin id) = pure (.type "method_descriptor")) (hm : MtR X id rr)
    (hk : ∀ ρ st v x H, Rst X.K ca ρ H st → Rv X.K ρ H v x → bmOk st v m = true → tyV X.K T x H) (hk2 : ∀ ρ st v x H, Rst X.K ca ρ H st → Rv X.K ρ H v x → bmOk st v m = true → ∀ xs H2 Q, rmM X.K ca m x xs H2 Q → rr x xs H2 Q) :
    PE X (.Call (.Attribute r m apos) args [] pos) (TEm p ca X n hx W (.bm o m l)) := by
  have hk0 : ∀ σ H Q, TEm p ca X n hx W (.bm o m l) σ H Q → TEm p ca X n hx W o σ H fun x H1 => tyV X.K T x H1 ∧ TLm p ca X n hx W l σ H1 fun xs H2 => rr x xs H2 Q := fun σ H Q ⟨ρ, e, st, at_, hf⟩ => by
    simp only [ev] at hf
    refine (goE at_ hf).imp fun x H1 ⟨ρ1, v, st1, _, _, at1, rx, _, hf1⟩ => ?_
    by_cases hb : bmOk st1 v m = true
    · rw [if_pos hb] at hf1
      exact ⟨hk ρ1 st1 v x H1 at1.st rx hb, (goL at1 hf1).imp fun xs H2 ⟨ρ2, vs, st2, pr, ex, at2, rv, _, hf2⟩ => hk2 ρ1 st1 v x H1 at1.st rx hb xs H2 Q ⟨ρ2, st2, v, vs, σ, W, at2.st, rx.mono pr ex, rv, hf2⟩⟩
    · rw [if_neg hb] at hf1; exact hf1.elim
  cases args with
  | nil =>
    refine impPE (pe_bm0 pa slot hty hm (ho X n W hx g r h1) (base_ok h3) h5) fun σ H Q h => (hk0 σ H Q h).imp fun x H1 ⟨h6, ρ, e, st, at_, hf⟩ => ⟨h6, ?_⟩
    cases l <;> try simp [chkL] at h2
    exact Fin.ok (R := Rvs X.K) (a := []) (by simpa only [evL] using hf) at_.st .nil
  | cons t ts =>
    have hP := hl X n W hx g (t :: ts) h2
    have hf := few_ok h2 h4 X.env pos
    have hs := star_all h2
    cases l <;> try simp [chkL] at h2
    exact impPE (pe_bm pa slot hty hm (ho X n W hx g r h1) hP (base_ok h3) hf h5 (not_star h2.1 _ _) (star_all h2.2 _ _)) hk0
end
theorem ev_bm {o l : E} {m : Str} (ho : EvP p ca fa fd ps o) (hl : EvL p ca fa fd ps l) : EvP p ca fa fd ps (.bm o m l) := by
  intro X n W hx g t h
  obtain ⟨r, apos, args, pos, rfl, h1, h2, h3, h4, h5, h6⟩ := inv_bm h
  have mem : m ∈ bmStr ∨ m ∈ bmLst := by simpa using h6
  have tyS : bmLst.contains m = false → ∀ ρ st v x H, Rst X.K ca ρ H st → Rv X.K ρ H v x → bmOk st v m = true → tyV X.K "str" x H := fun hz ρ st v x H hs r hb => by
    obtain ⟨z, rfl⟩ := bmOk_str hs r hb hz
    exact (rfl : "str" = "str")
  have tyL : bmStr.contains m = false → ∀ ρ st v x H, Rst X.K ca ρ H st → Rv X.K ρ H v x → bmOk st v m = true → tyV X.K "list" x H := fun hz ρ st v x H hs r hb => by
    obtain ⟨a, xs, rfl, hq⟩ := bmOk_lst hs r hb hz
    exact .inl ⟨rfl, xs, hq⟩
  have kS : bmLst.contains m = false → ∀ ρ st v x H, Rst X.K ca ρ H st → Rv X.K ρ H v x → bmOk st v m = true → ∃ z, x = .str z := fun hz ρ st v x H hs r hb => bmOk_str hs r hb hz
  have kL : bmStr.contains m = false → ∀ ρ st v x H, Rst X.K ca ρ H st → Rv X.K ρ H v x → bmOk st v m = true → ∃ a, x = .ref a := fun hz ρ st v x H hs r hb => (bmOk_lst hs r hb hz).imp fun a ⟨_, e, _⟩ => e
  simp only [bmStr, bmLst, List.mem_cons, List.not_mem_nil, or_false] at mem
  rcases mem with (rfl | rfl) | rfl | rfl | rfl | rfl | rfl | rfl
  · exact bm_go ho hl g h1 h2 h3 h4 h5 PySem.F.plainAttrs_str PySem.F.slot_str_join PySem.F.type_str_join m_join (tyS (by decide +kernel)) fun ρ st v x H hs r hb xs H2 Q q => ⟨kS (by decide +kernel) ρ st v x H hs r hb, q⟩
  · exact bm_go ho hl g h1 h2 h3 h4 h5 PySem.F.plainAttrs_str PySem.F.slot_str_upper PySem.F.type_str_upper m_upper (tyS (by decide +kernel)) fun ρ st v x H hs r hb xs H2 Q q => ⟨kS (by decide +kernel) ρ st v x H hs r hb, q⟩
  · exact bm_go ho hl g h1 h2 h3 h4 h5 PySem.F.plainAttrs_list PySem.F.slot_list_append PySem.F.type_list_append m_append (tyL (by decide +kernel)) fun ρ st v x H hs r hb xs H2 Q q => ⟨kL (by decide +kernel) ρ st v x H hs r hb, q⟩
  · exact bm_go ho hl g h1 h2 h3 h4 h5 PySem.F.plainAttrs_list PySem.F.slot_list_pop PySem.F.type_list_pop m_pop (tyL (by decide +kernel)) fun ρ st v x H hs r hb xs H2 Q q => ⟨kL (by decide +kernel) ρ st v x H hs r hb, q⟩
  · exact bm_go ho hl g h1 h2 h3 h4 h5 PySem.F.plainAttrs_list PySem.F.slot_list_insert PySem.F.type_list_insert m_insert (tyL (by decide +kernel)) fun ρ st v x H hs r hb xs H2 Q q => ⟨kL (by decide +kernel) ρ st v x H hs r hb, q⟩
  · exact bm_go ho hl g h1 h2 h3 h4 h5 PySem.F.plainAttrs_list PySem.F.slot_list_clear PySem.F.type_list_clear m_clear (tyL (by decide +kernel)) fun ρ st v x H hs r hb xs H2 Q q => ⟨kL (by decide +kernel) ρ st v x H hs r hb, q⟩
  · exact bm_go ho hl g h1 h2 h3 h4 h5 PySem.F.plainAttrs_list PySem.F.slot_list_index PySem.F.type_list_index m_index (tyL (by decide +kernel)) fun ρ st v x H hs r hb xs H2 Q q => ⟨kL (by decide +kernel) ρ st v x H hs r hb, q⟩
  · exact bm_go ho hl g h1 h2 h3 h4 h5 PySem.F.plainAttrs_list PySem.F.slot_list_reverse PySem.F.type_list_reverse m_reverse (tyL (by decide +kernel)) fun ρ st v x H hs r hb xs H2 Q q => ⟨kL (by decide +kernel) ρ st v x H hs r hb, q⟩

/-- d.get(k), d.get(k, z) -/
theorem dctAt_ok {K : Frg} {ρ : List Addr} {H : Hp} {st : Store} {v : Val} {x : V} {l : List (Sum Int Str × Val)} (hs : Rst K ca ρ H st) (r : Rv K ρ H v x) (h : dctAt st v = some l) : ∃ a gs, x = .ref a ∧ Rd H a (.dK gs) ∧ Rks K ρ H l gs := by
  cases r with
  | @ref n a ea =>
    simp only [dctAt] at h
    split at h
    · rename_i l' k e
      cases h
      obtain ⟨gs, h1, h2⟩ := hs.dct e ea
      exact ⟨a, gs, rfl, h1, h2⟩
    · cases h
  | _ => cases h
theorem callR_or {X : Cx} {v : Value} {r1 r2 : List V → Hp → VK → Prop} (h1 : CallR X v r1) (h2 : CallR X v r2) : CallR X v (fun xs H Q => r1 xs H Q ∨ r2 xs H Q) :=
  fun pins s σ H xs us Q I r h => h.elim (h1 pins s σ H xs us Q I r) (h2 pins s σ H xs us Q I r)
/-- dict(d), list(d), dict(pairs) -/
theorem lab_end {K : Frg} {ρ : List Addr} {H : Hp} {st : Store} {o : Obj} {u : HO} {σ : L2.St} {Q : VK} {W : WX} (hs : Rst K ca ρ H st) (hf : Fin K ca (Rv K) (.ok (.ref st.length) (st ++ [⟨o, false⟩])) ρ H σ Q W) (hr : Ro K ca ρ H o u) (q : Addr) (hq : H q = none) : Q (.ref q) (upd H q u) :=
  hf _ _ _ (List.prefix_append _ _) (Ext.new hq) (hs.newU hq hr) (.ref (new_at hs.len))
theorem keys_rv {K : Frg} {ρ : List Addr} {H : Hp} : ∀ {l : List (Sum Int Str × Val)} {gs : List (Key × V)}, Rks K ρ H l gs → Rvs K ρ H (l.map fun kv => keyV kv.1) (gs.map fun kv => kV kv.1)
  | _, _, .nil => .nil
  | _, _, .cons (k := k) _ t => .cons (by cases k with
    | inl i => exact .int i
    | inr z => exact .str z) (keys_rv t)
theorem Rks.merge {K : Frg} {ρ : List Addr} {H : Hp} {more : List (Sum Int Str × Val)} {gs : List (Key × V)} (h0 : Rks K ρ H more gs) : ∀ {l : List (Sum Int Str × Val)} {hs : List (Key × V)}, Rks K ρ H l hs → Rks K ρ H (dmerge l more) (mergeK hs gs) := by
  induction h0 with
  | nil => exact fun h => h
  | cons r t ih => exact fun h => ih (h.put r)
theorem pairs_rv {K : Frg} {ρ : List Addr} {H : Hp} : ∀ {l : List Val} {ys : List V} {kvs : List (Sum Int Str × Val)}, Rvs K ρ H l ys → pairsOf l = some kvs → ∃ (ps : List Addr) (gs : List (Key × V)), ys = ps.map V.ref ∧ Paired (fun p kv => SqT K H p [kV kv.1, kv.2]) ps gs ∧ Rks K ρ H kvs gs
  | [], _, _, r, h => by
    cases r
    cases h
    exact ⟨[], [], rfl, .nil, .nil⟩
  | v :: l, _, _, r, h => by
    cases r with
    | cons rv rt =>
      unfold pairsOf at h
      split at h
      · rename_i e0; cases e0
      · rename_i k w r' e0
        cases e0
        split at h
        · rename_i k' l' ek el
          cases h
          obtain ⟨ps, gs, rfl, hp, hr⟩ := pairs_rv rt el
          cases rv with
          | tup hq hr2 =>
            obtain ⟨x, y, rfl, rx, ry⟩ := rvs2 hr2
            obtain rfl := keyOf_ok ek rx
            exact ⟨_ :: ps, (k', y) :: gs, rfl, .cons hq hp, .cons ry hr⟩
        · cases h
      · cases h
theorem ev_bid {f : Str} {l : E} (hl : EvL p ca fa fd ps l) : EvP p ca fa fd ps (.bid f l) := by
  intro X n W hx g t h
  obtain ⟨q, t1, args, pos, rfl, h1, h2, h3, h4, h5⟩ := inv_bid h
  cases hx_none h5
  have calm := (g.cold rfl).1
  have mem : f ∈ bidNames := by simpa using h4
  have hm : X.mg f = none := g.fc.bi f (by
    simp only [bidNames, List.mem_cons, List.not_mem_nil, or_false] at mem
    rcases mem with rfl | rfl <;> decide +kernel)
  cases l <;> try simp [chkL] at h3
  rename_i a r
  have hP := hl X n W none g (t1 :: args) (by simp only [chkL, Bool.and_eq_true]; exact h3)
  have go : ∀ {T : String} {rr : List V → Hp → VK → Prop}, bootBuiltins f = some (.type T) → CallR X (.type T) rr → (∀ ρ st vs xs H σ Q, Rst X.K ca ρ H st → Rvs X.K ρ H vs xs → Fin X.K ca (Rv X.K) (opBid st f vs) ρ H σ Q W → rr xs H Q) → PE X (.Call (.Name f q) (t1 :: args) [] pos) (TEm p ca X n none W (.bid f (.cons a r))) :=
    fun hb hc hr => impPE (pe_callTy hc (gl_of h1) hm hb hP (ok_dbg h2).2.2 (ok_dbg h2).1 (not_star h3.1 _ _) (star_all h3.2 _ _)) fun σ H Q ⟨ρ, e, st, at_, hf⟩ => by
      simp only [ev] at hf
      exact (goL at_ hf).imp fun xs H1 ⟨ρ1, vs, st1, _, _, at1, rv, _, hf1⟩ => hr ρ1 st1 vs xs H1 σ Q at1.st rv hf1
  simp only [bidNames, List.mem_cons, List.not_mem_nil, or_false] at mem
  rcases mem with rfl | rfl
  · refine go (T := "dict") (by decide +kernel) (callR_or call_dictD (call_dictP calm)) fun ρ st vs xs H σ Q hs hv hf => ?_
    unfold opBid at hf
    split at hf
    · rename_i v
      obtain ⟨x, rfl, rx⟩ := rvs1 hv
      split at hf
      · rename_i l el
        rw [if_pos rfl] at hf
        obtain ⟨a, gs, rfl, h6, h7⟩ := dctAt_ok hs rx el
        exact .inl ⟨a, gs, rfl, h6, lab_end hs hf (.dct h7)⟩
      · rw [if_pos rfl] at hf
        split at hf
        · rename_i l el
          cases e2 : lstAt st v with
          | none => rw [e2] at el; cases el
          | some l0 =>
            rw [e2] at el
            obtain ⟨a, ys, rfl, hq, hr⟩ := lstAt_ok hs e2 rx
            obtain ⟨ps', gs, rfl, hp, hr2⟩ := pairs_rv hr el
            exact .inr ⟨a, ps', gs, rfl, hq, hp, lab_end hs hf (.dct (Rks.merge hr2 .nil))⟩
        · exact hf.elim
    · exact hf.elim
  · refine go (T := "list") (by decide +kernel) (call_listD calm) fun ρ st vs xs H σ Q hs hv hf => ?_
    unfold opBid at hf
    split at hf
    · rename_i v
      obtain ⟨x, rfl, rx⟩ := rvs1 hv
      split at hf
      · rename_i l el
        rw [if_neg (by decide +kernel), if_pos rfl] at hf
        obtain ⟨a, gs, rfl, h6, h7⟩ := dctAt_ok hs rx el
        exact ⟨a, gs, rfl, h6, lab_end hs hf (.lst (keys_rv h7))⟩
      · rw [if_neg (by decide +kernel)] at hf
        exact hf.elim
    · exact hf.elim
theorem opGet_ok {K : Frg} {ρ : List Addr} {H : Hp} {st : Store} {u v w r : Val} {x y z : V} (hs : Rst K ca ρ H st) (rx : Rv K ρ H u x) (ry : Rv K ρ H v y) (rz : Rv K ρ H w z) (h : opGet st u v w = some r) : ∃ a o, x = .ref a ∧ DGet H a y o ∧ Rv K ρ H r (o.getD z) := by
  simp only [opGet] at h
  split at h
  · rename_i l k el ek
    cases h
    obtain ⟨a, gs, rfl, h1, h2⟩ := dctAt_ok hs rx el
    obtain rfl := keyOf_ok ek ry
    refine ⟨a, valV gs k, rfl, dget_rd h1, ?_⟩
    obtain ⟨q1, q2⟩ := h2.look (k := k)
    cases eg : dget l k with
    | none => rw [q2 eg]; exact rz
    | some v0 =>
      obtain ⟨x0, e0, r0⟩ := q1 v0 eg
      rw [e0]; exact r0
  · cases h
theorem ev_dgt {o k d : E} (ho : EvP p ca fa fd ps o) (hk : EvP p ca fa fd ps k) (hd : EvP p ca fa fd ps d) : EvP p ca fa fd ps (.dgt o k d) := by
  intro X n W hx g t h
  obtain ⟨r, apos, args, pos, rfl, h1, h2, h3, h4⟩ := inv_dgt h
  have hu : X.A.units + 1 < cLine := by have := g.un; omega
  rcases h4 with ⟨a, rfl, hn, h5⟩ | ⟨a, b, rfl, hn, h5, h6⟩
  · refine impPE (pe_dget1 hu (ho X n W hx g r h1) (hk X n W hx g a h5) ⟨base_ok h2, by rw [not_star h5]; rfl, h3, by rw [not_star h5]; rfl⟩) fun σ H Q ⟨ρ, e, st, at_, hf⟩ => ?_
    simp only [ev, if_pos hn] at hf
    refine (goE at_ hf).imp fun x H1 ⟨ρ1, v, s1, _, _, at1, rx, _, hf1⟩ => ?_
    cases ed : dctAt s1 v with
    | none => rw [ed] at hf1; exact hf1.elim
    | some l =>
      rw [ed] at hf1
      obtain ⟨c, gs, rfl, hc, _⟩ := dctAt_ok at1.st rx ed
      refine ⟨c, rfl, .inl ⟨gs, hc⟩, (goE at1 hf1).imp fun y H2 ⟨ρ2, w, s2, p2, e2, at2, ry, _, hf2⟩ => ?_⟩
      obtain ⟨z, ez, hf3⟩ := res_of hf2
      obtain ⟨c', oo, ec, hg, rz⟩ := opGet_ok at2.st (rx.mono p2 e2) ry .non ez
      cases ec
      exact ⟨oo, hg, Fin.ok (R := Rv X.K) hf3 at2.st rz⟩
  · refine impPE (pe_dget2 hu (ho X n W hx g r h1) (hk X n W hx g a h5) (hd X n W hx g b h6) ⟨base_ok h2, by rw [not_star h5, not_star h6]; rfl, h3, by rw [not_star h5, not_star h6]; rfl⟩) fun σ H Q ⟨ρ, e, st, at_, hf⟩ => ?_
    have hn' : ¬ noneE d = true := by rw [hn]; decide
    simp only [ev, if_neg hn'] at hf
    refine (goE at_ hf).imp fun x H1 ⟨ρ1, v, s1, _, _, at1, rx, _, hf1⟩ => ?_
    cases ed : dctAt s1 v with
    | none => rw [ed] at hf1; exact hf1.elim
    | some l =>
      rw [ed] at hf1
      obtain ⟨c, gs, rfl, hc, _⟩ := dctAt_ok at1.st rx ed
      refine ⟨c, rfl, .inl ⟨gs, hc⟩, (goE at1 hf1).imp fun y H2 ⟨ρ2, w, s2, p2, e2, at2, ry, _, hf2⟩ => (goE at2 hf2).imp fun z H3 ⟨ρ3, w3, s3, p3, e3, at3, rz, _, hf3⟩ => ?_⟩
      obtain ⟨z', ez, hf4⟩ := res_of hf3
      obtain ⟨c', oo, ec, hg, rz'⟩ := opGet_ok at3.st ((rx.mono p2 e2).mono p3 e3) (ry.mono p3 e3) rz ez
      cases ec
      exact ⟨oo, hg, Fin.ok (R := Rv X.K) hf4 at3.st rz'⟩

theorem ev_exv : EvP p ca fa fd ps .exv := by
  intro X n W hx g t h
  obtain ⟨x, q, pos, j, rfl, h1, h2, h3, h4⟩ := inv_exv h
  cases hx with
  | none => cases h3
  | some h0 =>
    cases h3
    obtain ⟨X0, oe, pn, rfl, hz, hd⟩ := g.hot h0 rfl
    refine ⟨fun pins s σ H Q I ⟨ρ, e, st, at_, hf⟩ => ?_⟩
    obtain ⟨c, v, dd, w, e1, e2, e3, e4, e5, e6, e7⟩ := at_.ex
    obtain ⟨_, _, m3, m4⟩ := g.fc.exc c e6
    refine (pe_xf (X := X0) (C := ca c) m3 m4 hz hd (pe_var h4 (vis_of h1) (ok_dbg h2).1 (ok_dbg h2).2.1) (base_ok rfl)).run pins s σ H Q I ⟨_, e7, rfl, e2, dd, _, w, e3, e4, rfl, ?_⟩
    simp only [ev, e1] at hf
    exact Fin.ok (R := Rv X0.K) hf at_.st e5

/-- isinstance(e, c) -/
theorem ev_exi {c0 : Str} : EvP p ca fa fd ps (.exi c0) := by
  intro X n W hx g t h
  obtain ⟨q, x, q1, q2, pos, j, rfl, k1, k2, k3, k4, k5, k6, k7⟩ := inv_exi h
  cases hx with
  | none => cases k6
  | some h0 =>
    cases k6
    obtain ⟨X0, oe, pn, rfl, hz, hd⟩ := g.hot h0 rfl
    refine ⟨fun pins s σ H Q I ⟨ρ, e, st, at_, hf⟩ => ?_⟩
    obtain ⟨c, v, dd, w, e1, e2, e3, e4, e5, e6, e7⟩ := at_.ex
    simp only [ev, e1] at hf
    by_cases hc : p.exs.contains c0 = true
    · rw [if_pos hc] at hf
      rw [e2, e3] at hz
      obtain ⟨m1, _⟩ := g.fc.exc c0 hc
      have hP := pa_cons (pe_var (pos := q1) k7 (vis_of k2) (ok_dbg k3).1 (ok_dbg k3).2.1) (pa_cons (X := X0.suite h0.a ((h0.a, oe) :: pn)) (pe_glob (v := V.ref (ca c0)) (pos := q2) (gl_of k4) m1 rfl (ok_dbg k5).1) pa_nil (by rfl)) (by rfl)
      refine (pe_callB (p := q) (pos := pos) (AN.call_isX (g.fc.exd c e6) hz hd) (gl_of k1) (g.fc.bi _ (by decide +kernel)) (by decide +kernel) hP (by decide +kernel) (by decide +kernel) (by rfl) (by rfl)).run pins s σ H Q I ?_
      refine ⟨_, e7, ?_⟩
      exact ⟨.ref (ca c0), .ref (ca c0), isaP p c c0, _, rfl, fun u hu => hu, g.fc.exk c0 c hc e6, e4, Fin.ok (R := Rv X0.K) hf at_.st (.bl _)⟩
    · rw [if_neg hc] at hf
      exact hf.elim

theorem t_plain {a : E} (ha : EvP p ca fa fd ps a) (he : ∀ e st n, evT p (callF p n) a e st = (ev p (callF p n) a e st).bind fun v s1 => Res.of (truthy s1 v) s1)
    (hk : ∀ (N : List Str) (sc : Scope) hot t, chkE N sc hot a t = true → ∀ (env : PySem.Env) (whole : Sem Value), isTrue t env whole = (do let v ← whole; standAt t.pos; holding [v] (PySem.truthy v))) : EvT p ca fa fd ps a := by
  intro X n W hx g t h
  refine impPT (pt_truth (ha X n W hx g t h) (hk _ _ _ t h X.env)) fun σ H Q ⟨ρ, e, st, at_, hf⟩ => ?_
  rw [he] at hf
  refine (goE at_ hf).imp fun x H1 ⟨ρ1, v, st1, _, _, at1, rx, _, hf1⟩ => ?_
  obtain ⟨k, ek, hf2⟩ := res_of hf1
  exact ⟨k, tru_M at1.st ek rx, Fin.ok hf2 at1.st rfl⟩
theorem pw_bool {X : Cx} {op : PySem.BoolOp} {vs : List Expr} {pos : Pos} {t : TT} (h : PT X (.BoolOp op vs pos) t) : PW X (.BoolOp op vs pos) t :=
  ⟨fun wh pins s σ H Q I q => by
    have z := h.run pins s σ H Q I q
    have e : isTrue (.BoolOp op vs pos) X.env wh = isTrue (.BoolOp op vs pos) X.env (eval (.BoolOp op vs pos) X.env) := by rfl
    rw [e]; exact z⟩
theorem t_and {a b : E} (ha : EvT p ca fa fd ps a) (hb : EvT p ca fa fd ps b) : EvT p ca fa fd ps (.and a b) := by
  intro X n W hx g t h
  obtain ⟨l, m, rest, pos, rfl, h1, h2⟩ := inv_and h
  have hB : PW X (.BoolOp .And (m :: rest) pos) (TTm p ca X n hx W b) := by
    rcases h2 with ⟨rfl, h2⟩ | ⟨_, h2⟩
    · exact pw_and1 (hb X n W hx g m h2)
    · exact pw_bool (hb X n W hx g _ h2)
  refine impPT (pw_and (ha X n W hx g l h1) hB).pt fun σ H Q ⟨ρ, e, st, at_, hf⟩ => ?_
  simp only [evT] at hf
  refine (goT at_ hf).imp fun k H1 ⟨ρ1, st1, _, _, at1, _, hf1⟩ => ?_
  cases k with
  | true => rw [if_pos rfl] at hf1 ⊢; exact ⟨ρ1, e, st1, at1, hf1⟩
  | false => rw [if_neg (by decide)] at hf1 ⊢; exact Fin.ok hf1 at1.st rfl
theorem t_or {a b : E} (ha : EvT p ca fa fd ps a) (hb : EvT p ca fa fd ps b) : EvT p ca fa fd ps (.or a b) := by
  intro X n W hx g t h
  obtain ⟨l, m, rest, pos, rfl, h1, h2⟩ := inv_or h
  have hB : PW X (.BoolOp .Or (m :: rest) pos) (TTm p ca X n hx W b) := by
    rcases h2 with ⟨rfl, h2⟩ | ⟨_, h2⟩
    · exact pw_or1 (hb X n W hx g m h2)
    · exact pw_bool (hb X n W hx g _ h2)
  refine impPT (pw_or (ha X n W hx g l h1) hB).pt fun σ H Q ⟨ρ, e, st, at_, hf⟩ => ?_
  simp only [evT] at hf
  refine (goT at_ hf).imp fun k H1 ⟨ρ1, st1, _, _, at1, _, hf1⟩ => ?_
  cases k with
  | false => rw [if_neg (by decide)] at hf1 ⊢; exact ⟨ρ1, e, st1, at1, hf1⟩
  | true => rw [if_pos rfl] at hf1 ⊢; exact Fin.ok hf1 at1.st rfl
theorem t_not {a : E} (ha : EvT p ca fa fd ps a) : EvT p ca fa fd ps (.not a) := by
  intro X n W hx g t h
  obtain ⟨r, pos, rfl, h1⟩ := inv_not h
  refine impPT (pt_not (ha X n W hx g r h1)) fun σ H Q ⟨ρ, e, st, at_, hf⟩ => ?_
  simp only [evT] at hf
  exact (goT at_ hf).imp fun k H1 ⟨ρ1, st1, _, _, at1, _, hf1⟩ => Fin.ok hf1 at1.st rfl
theorem t_ife {a b c : E} : EvT p ca fa fd ps (.ife c a b) := by
  intro X n W hx g t h
  exact ⟨fun pins s σ H Q I ⟨ρ, e, st, at_, hf⟩ => by simp only [evT] at hf; exact hf.elim⟩
/-- a comparison's end, as a test -/
theorem cmp_endT {K : Frg} {o : CmpOp} {ρ1 ρ2 : List Addr} {H1 H2 : Hp} {st2 : Store} {v v2 : Val} {x y : V} {Q : Bool → Hp → Prop} {σ : L2.St} {W : WX} (hs : Rst K ca ρ2 H2 st2) (rx : Rv K ρ2 H2 v x) (ry : Rv K ρ2 H2 v2 y)
    (hf : Fin K ca (fun _ _ a b => a = b) ((Res.of ((opCmp st2 o v v2).map Val.bl) st2).bind fun v s1 => Res.of (truthy s1 v) s1) ρ2 H2 σ Q W) : rCmpM K ca o x y H2 fun z H3 => ∃ k, z = .bl k ∧ Q k H3 := by
  cases e : opCmp st2 o v v2 with
  | none => rw [e] at hf; exact hf.elim
  | some k =>
    rw [e] at hf
    exact ⟨ρ2, st2, v, v2, k, hs, rx, ry, e, k, rfl, Fin.ok (a := k) hf hs rfl⟩
theorem t_cmp {o : CmpOp} {a b : E} (ha : EvP p ca fa fd ps a) (hb : EvP p ca fa fd ps b) : EvT p ca fa fd ps (.cmp o a b) := by
  intro X n W hx g t h
  obtain ⟨l, r, pos, rfl, h1, h2, h3⟩ := inv_cmp h
  refine impPT (pt_cmpR (op_cmpM (ca := ca) (by have := g.un; omega)) (ha X n W hx g l h1) (hb X n W hx g r h2) h3) fun σ H Q ⟨ρ, e, st, at_, hf⟩ => ?_
  simp only [evT, ev] at hf
  rw [show ∀ (r : Res Val) (f g), ((r.bind f).bind g : Res Bool) = r.bind fun x s => (f x s).bind g from fun r f g => by cases r <;> rfl] at hf
  refine (goE at_ hf).imp fun x H1 ⟨ρ1, v, st1, _, _, at1, rx, _, hf1⟩ => ?_
  rw [show ∀ (r : Res Val) (f g), ((r.bind f).bind g : Res Bool) = r.bind fun x s => (f x s).bind g from fun r f g => by cases r <;> rfl] at hf1
  exact (goE at1 hf1).imp fun y H2 ⟨ρ2, v2, st2, pr, ex, at2, ry, _, hf2⟩ => cmp_endT (ρ1 := ρ1) (H1 := H1) at2.st (rx.mono pr ex) ry hf2
theorem t_chn {o q : CmpOp} {a b c : E} (ha : EvP p ca fa fd ps a) (hb : EvP p ca fa fd ps b) (hc : EvP p ca fa fd ps c) : EvT p ca fa fd ps (.chn o q a b c) := by
  intro X n W hx g t h
  obtain ⟨l, m, r, pos, rfl, h1, h2, h3, h4⟩ := inv_chn h
  refine impPT (pt_chain (op_cmpM (ca := ca) (by have := g.un; omega)) (op_cmpM (ca := ca) (by have := g.un; omega)) (ha X n W hx g l h1) (hb X n W hx g m h2) (hc X n W hx g r h3) h4) fun σ H Q ⟨ρ, e, st, at_, hf⟩ => ?_
  simp only [evT, ev] at hf
  rw [show ∀ (r : Res Val) (f g), ((r.bind f).bind g : Res Bool) = r.bind fun x s => (f x s).bind g from fun r f g => by cases r <;> rfl] at hf
  refine (goE at_ hf).imp fun x H1 ⟨ρ1, v, st1, _, _, at1, rx, _, hf1⟩ => ?_
  rw [show ∀ (r : Res Val) (f g), ((r.bind f).bind g : Res Bool) = r.bind fun x s => (f x s).bind g from fun r f g => by cases r <;> rfl] at hf1
  refine (goE at1 hf1).imp fun y H2 ⟨ρ2, v2, st2, pr, ex, at2, ry, _, hf2⟩ => ?_
  cases e1 : opCmp st2 o v v2 with
  | none => rw [e1] at hf2; exact hf2.elim
  | some k =>
    rw [e1] at hf2
    refine ⟨ρ2, st2, v, v2, k, at2.st, rx.mono pr ex, ry, e1, k, rfl, ?_⟩
    replace hf2 : Fin X.K ca (fun _ _ a b => a = b) ((if k = true then (ev p (callF p n) c e st2).bind fun z s4 => Res.of ((opCmp s4 q v2 z).map .bl) s4 else .ok (.bl false) st2).bind fun v s1 => Res.of (truthy s1 v) s1) ρ2 H2 σ Q W := hf2
    cases k with
    | true =>
      rw [if_pos rfl] at hf2 ⊢
      rw [show ∀ (r : Res Val) (f g), ((r.bind f).bind g : Res Bool) = r.bind fun x s => (f x s).bind g from fun r f g => by cases r <;> rfl] at hf2
      exact (goE at2 hf2).imp fun z H3 ⟨ρ3, v3, st3, pr3, ex3, at3, rz, _, hf3⟩ => cmp_endT (ρ1 := ρ1) (H1 := H1) at3.st (ry.mono pr3 ex3) rz hf3
    | false =>
      rw [if_neg (by decide)] at hf2 ⊢
      exact ⟨false, rfl, Fin.ok (a := false) hf2 at2.st rfl⟩
end
end AM
end

section
set_option maxRecDepth 100000
set_option maxHeartbeats 8000000
namespace AM
open PySem L2 PyProof.Rows
section
variable {p : Prog} {ca fa : Str → Addr} {fd : Str → FuncData} {ps : Str → List Str}

/-- a call as code, and with any arguments -/
theorem run_GC {X : Cx} {k : Nat} {f : Addr} {fd : FuncData} {ps : List Str} {sp : Sp} {W : WX} {pins : List (Addr × PySem.Obj)} {σ : L2.St} {H : Hp} {s : Shared} {Q : VK} {args : Args} {us : List Value} {vs : List V} (F : FnG X.prog X.w X.K X.mg X.base k f fd ps sp) (hr : Room k X.A) (hg : X.A.guards = some [])
    (hb : BindsTo s fd args (ps.zip us)) (tk : Takes X W) (I : Inv X pins σ H s) (r : Vals vs us) (h : sp vs H Q (fun c d H' => W c d σ H')) :
    codeAny (model X.prog X.w) X.A (.call (.ref f) args) (fun r s' => match r with | .ok (.ret v) => EP X pins σ Q v s' | .ok _ => False | .error e => X.xe e s') s := by
  refine codeAny_mono (F.run X.A X.stack s H args us vs Q _ hr hg I.env0 hb r h) fun r2 s' hq => ?_
  match r2, hq with
  | .error e, hq => exact tk e s' (XE.of_call I (fun _ _ _ z => z) hq)
  | .ok (.ret u), hq => exact I.after hq
  | .ok .next, hq => exact hq.elim
  | .ok .brk, hq => exact hq.elim
  | .ok .cont, hq => exact hq.elim
section
variable {X : Cx} {n : Nat} {W : WX}
theorem call_own_C (g : Gd p ca fa fd ps X n W none) {pins : List (Addr × PySem.Obj)} {σ : L2.St} {H : Hp} {s : Shared} {Q : VK} {us : List Value} {xs : List V} {ρ : List Addr} {st : Store} {vs : List Val} {key : Str} (I : Inv X pins σ H s) (r : Vals xs us) (hs : Rst X.K ca ρ H st)
    (hv : Rvs X.K ρ H vs xs) (h : Fin X.K ca (Rv X.K) (callF p n key vs st) ρ H σ Q W) : codeAny (model X.prog X.w) X.A (.call (.ref (fa key)) ⟨us, []⟩) (fun r s' => match r with | .ok (.ret v) => EP X pins σ Q v s' | .ok _ => False | .error e => X.xe e s') s := by
  obtain ⟨d, hd, hl⟩ := np_of h.nstk
  obtain ⟨b1, b2, b3⟩ := g.fc.bnd key d hd
  have hl2 : us.length = (ps key).length := by rw [← r.length, ← hv.length, hl, b2]
  have hb' := b1 s us I.kIn (by simpa using hl2)
  rw [List.append_nil] at hb'
  exact run_GC (g.fn key d hd) ((g.cold rfl).2.mono (by omega)) g.gd hb' g.tk I r (sp_of hs hv h)
end

theorem ev_cal {o l : E} (ho : EvP p ca fa fd ps o) (hl : EvL p ca fa fd ps l) : EvP p ca fa fd ps (.cal o l) := by
  intro X n W hx g t h
  obtain ⟨x, q, e1, es, pos, rfl, h1, h2, h3⟩ := inv_cal h
  cases hx_none h3
  refine ⟨fun pins s σ H Q I ⟨ρ, e, st, at_, hf⟩ => ?_⟩
  simp only [ev] at hf
  refine Call_ (thn ((ho X n W none g _ h1).run pins s σ H _ I (goE at_ hf)) fun u s1 hh => ?_) rfl
  obtain ⟨x, H1, I1, r1, ρ1, vo, st1, _, _, at1, ro, _, hf1⟩ := hh
  cases ei : ownAt p vo "__call__" st1 with
  | none => rw [ei] at hf1; exact hf1.elim
  | some k0 =>
    simp only [ei] at hf1
    obtain ⟨a, c, dx, gs, rfl, ha, hl0, hc, hm⟩ := own_at g.fc at1.st ro ei
    obtain rfl : u = Value.ref a := r1
    cases l <;> try simp [chkL] at h2
    rename_i b r2
    refine StX.callO_with (thn ((hl X n W none g (e1 :: es) (by simp only [chkL, Bool.and_eq_true]; exact h2)).run pos pins s1 σ H1 _ I1 (goL at1 hf1)) fun us s2 hh2 => ?_) (not_star h2.1 _ _) (star_all h2.2 _ _)
    obtain ⟨xs, H2, I2, r2, ρ2, vs, st2, pr, ex, at2, rv, _, hf2⟩ := hh2
    cases ej : ownAt p vo "__call__" st2 with
    | none => rw [ej] at hf2; exact hf2.elim
    | some key =>
      simp only [ej] at hf2
      obtain ⟨a2, c2, dx2, gs2, e2, ha2, hl2, hc2, hm2⟩ := own_at g.fc at2.st (ro.mono pr ex) ej
      cases e2
      obtain ⟨ox, od, J, hd⟩ := StX.insC_at I2 (.inr ⟨_, _, ha2⟩)
      obtain ⟨d, hdd, _⟩ := np_of (Fin.nstk hf2)
      refine ⟨⟨_, ox, od, J, hd⟩, wpAny_call (PySem.W.kco_code I2.kIn J hd hm2.at_ hm2.fn (g.fc.bnd key d hdd).2.2 ?_)⟩
      exact call_own_C g (us := .ref a :: us) (xs := .ref a :: xs) I2 (.cons rfl r2) at2.st (.cons (ro.mono pr ex) rv) hf2

theorem form_okK {kws : List Keyword} {ks : List Str} (h : kws.map (·.arg) = ks.map some) (hn : kws.length ≤ 20) (env : PySem.Env) (pos : Pos) : methodCallForm (([] : List Expr).length + kws.length) (backTo pos (starEach [] env)) (backToKw pos (keywordEach kws env)) = true := by
  unfold methodCallForm
  rw [(kw_all (env := env) (pos := pos) h).1]
  show (true && true && decide (0 + kws.length + _ < 30)) = true
  simp only [Bool.and_self, Bool.true_and, decide_eq_true_eq]
  split <;> omega
theorem meth_eqK {r : Expr} {m : Str} {apos pos : Pos} {kws : List Keyword} {ks : List Str} {env : PySem.Env} (hr : noSup r = true) (h : kws.map (·.arg) = ks.map some) (hn : kws.length ≤ 20) (hl : (apos.endLine == pos.line) = true) :
    eval (.Call (.Attribute r m apos) [] kws pos) env = (do
      let ov ← eval r env
      standAt apos.atName
      let (f, first) ← holding [ov] (getMethod ov m (plainOf r env))
      callWith pos f first (backTo pos (starEach [] env)) (backToKw pos (keywordEach kws env))) := by
  show (do
    let ov ← attributeBase r m env (eval r env)
    standAt apos.atName
    methodCall r m apos pos env ov (([] : List Expr).length + kws.length) (backTo pos (starEach [] env)) (backToKw pos (keywordEach kws env))) = _
  rw [base_ok hr]
  congr 1
  funext ov
  congr 1
  funext _
  exact mcall_line (form_okK h hn env pos) hl
theorem ev_omk {o l : E} {m : Str} {ks : List Str} {q : List Nat} (ho : EvP p ca fa fd ps o) (hl : EvK p ca fa fd ps l) : EvP p ca fa fd ps (.omk o m ks q l) := by
  intro X n W hx g t h
  obtain ⟨r, apos, kws, pos, rfl, h1, h2, h3, h4, h5, h6, h7⟩ := inv_omk h
  cases hx_none h5
  refine ⟨fun pins s σ H Q I ⟨ρ, e, st, at_, hf⟩ => ?_⟩
  simp only [ev] at hf
  refine PySem.W.methodCall_KW (pl := plainOf r X.env) (thn ((ho X n W none g r h1).run pins s σ H _ I (goE at_ hf)) fun u s1 hh => ?_) (meth_eqK h4 h3 h6 h7)
  obtain ⟨x, H1, I1, r1, ρ1, vo, st1, _, _, at1, ro, _, hf1⟩ := hh
  cases ei : ownAt p vo m st1 with
  | none => rw [ei] at hf1; exact hf1.elim
  | some key =>
    simp only [ei] at hf1
    by_cases hk0 : ¬ p.kwm.contains (key, ks, q) = true
    · rw [if_neg hk0] at hf1; exact hf1.elim
    have hk : p.kwm.contains (key, ks, q) = true := Classical.not_not.mp hk0
    rw [if_pos hk] at hf1
    obtain ⟨a, c, dx, gs, rfl, ha, hl0, hc, hm⟩ := own_at g.fc at1.st ro ei
    obtain rfl : u = Value.ref a := r1
    refine getmeth_ok I1 ha hc hm hl0 ?_
    obtain ⟨k1, k2, k3⟩ := kw_all (env := X.env) (pos := pos) h3
    refine PySem.W.callWith_KW0 (first := [.ref a]) (h₀ := X.base) I1.ok.mod.kin hm.kp k1 (thn ((hl X n W none g kws h2).run pos pins s1 σ H1 _ I1 (goL at1 hf1)) fun us s2 hh2 => ?_) (by show (false || _) = false; rw [k3]; rfl)
    obtain ⟨xs, H2, I2, r2, ρ2, vs, st2, pr, ex, at2, rv, er, hf2⟩ := hh2
    refine ⟨I2.kIn, ?_⟩
    rw [k2]
    cases eq : q.mapM fun j => vs[j]? with
    | none => rw [eq] at hf2; exact hf2.elim
    | some ws =>
      rw [eq] at hf2
      replace hf2 : Fin X.K ca (Rv X.K) (callF p n key (vo :: ws) st2) ρ2 H2 σ Q W := hf2
      obtain ⟨xw, uw, b1, b2, b3⟩ := pick_ok rv r2 eq
      have hlen : us.length = ks.length := by
        have e1 := len_of h2 er
        have e2 := congrArg List.length h3
        simp only [List.length_map] at e1 e2
        rw [← r2.length, ← rv.length, e1, e2]
      obtain ⟨d, hd, hl2⟩ := np_of hf2.nstk
      show wpAny _ _ (call (.ref (fa key)) [.ref a] (ks.zip us)) _ _ _
      exact wpAny_call (run_GC (g.fn key d hd) ((g.cold rfl).2.mono (by omega)) g.gd (g.fc.kbm key ks q hk d hd s2 (.ref a) us uw I2.kIn hlen b1) g.tk I2 (.cons (show RelV (V.ref a) (Value.ref a) from rfl) b2) (sp_of at2.st (.cons (ro.mono pr ex) b3) hf2))

theorem ev_clm {c m : Str} {l : E} (hl : EvL p ca fa fd ps l) : EvP p ca fa fd ps (.clm c m l) := by
  intro X n W hx g t h
  obtain ⟨q, apos, e1, es, pos, rfl, h1, h2, h3, h4, h5, h6⟩ := inv_clm h
  cases hx_none h4
  refine ⟨fun pins s σ H Q I ⟨ρ, e, st, at_, hf⟩ => ?_⟩
  simp only [ev] at hf
  cases es' : p.stt.find? (fun q => decide (q.1 = c) && decide (q.2.1 = m)) with
  | none => rw [es'] at hf; exact hf.elim
  | some r =>
    obtain ⟨c', m', key⟩ := r
    have h8 := List.find?_some es'
    simp only [Bool.and_eq_true, decide_eq_true_eq] at h8
    obtain ⟨rfl, rfl⟩ := h8
    have hm : p.stt.contains (c', m', key) = true := by simpa using List.mem_of_find?_eq_some es'
    simp only [es'] at hf
    obtain ⟨s1, s2, s3, s4, s5⟩ := g.fc.stt _ _ _ hm
    refine PySem.W.methodCall_KW (pl := plainOf (.Name c' q) X.env) (ld_glob (x := c') I (gl_of h1) s1 ?_ (ok_dbg h2).1) (meth_eq (r := .Name c' q) rfl h3 h5 h6)
    refine PySem.W.method_cls I.kIn s3 (PySem.W.cls_value I.kIn s2 s4 rfl ?_)
    cases l <;> try simp [chkL] at h3
    rename_i b r2
    have I0 := I.tok (s.toks + 1)
    refine PySem.W.callWith_K (first := []) (h₀ := X.base) I0.ok.mod.kin s5 (thn ((hl X n W none g (e1 :: es) (by simp only [chkL, Bool.and_eq_true]; exact h3)).run pos pins _ σ H _ I0 (goL at_ hf)) fun us s2 hh2 => ?_) (not_star h3.1 _ _) (star_all h3.2 _ _)
    obtain ⟨xs, H2, I2, r2, ρ2, vs, st2, pr, ex, at2, rv, _, hf2⟩ := hh2
    exact ⟨I2.kIn, call_own_M g (us := us) (xs := xs) I2 r2 at2.st rv hf2⟩

/-- the kind of a value -/
theorem ty_ok {K : Frg} {ρ : List Addr} {H : Hp} {st : Store} (hs : Rst K ca ρ H st) {v : Val} {x : V} {u : String} (h : tyName st v = some u) (r : Rv K ρ H v x) : TyX K H x (.type u) := by
  cases r with
  | non => cases h; exact .base .non
  | bl b => cases h; exact .base (.bl b)
  | int i => cases h; exact .base (.int i)
  | str z => cases h; exact .base (.str z)
  | tup hq _ =>
    cases h
    rcases hq with hq | ⟨o, its, n, hk, hc, hd, _⟩
    · rcases hq with hq | ⟨o, hq⟩
      · exact .base (.tup hq)
      · exact .fTuple hq
    · exact .kTuple hk hc
  | @ref n a ea =>
    simp only [tyName] at h
    split at h
    · rename_i l e
      cases h
      obtain ⟨ho, hh, ro⟩ := hs.obj e ea
      cases ro with
      | lst _ => exact .base (.lst hh)
    · rename_i l e
      cases h
      obtain ⟨gs, hh, _⟩ := hs.dctU e ea
      exact .base (.dK hh)
    · cases h
theorem kit_isb {K : Frg} {v : Val} {st : Store} {u : String} {t : Str} (h : tyName st v = some u) (ht : isbNames.contains t = true) : ∃ T : String, bootBuiltins t = some (.type T) ∧ PySem.W.kitOne K (.type u) (.type T) = some (PySem.Str.ofString u == t) := by
  have hu : u ∈ ["NoneType", "bool", "int", "str", "tuple", "list", "dict"] := by
    unfold tyName at h
    split at h <;> try (cases h; simp; done)
    split at h <;> first | (cases h; simp; done) | cases h
  have hm : t ∈ isbNames := by simpa using ht
  simp only [isbNames, List.mem_cons, List.not_mem_nil, or_false] at hm hu
  rcases hm with rfl | rfl
  · refine ⟨"tuple", by decide +kernel, kit_ty ?_⟩
    rcases hu with rfl | rfl | rfl | rfl | rfl | rfl | rfl <;> decide +kernel
  · refine ⟨"list", by decide +kernel, kit_ty ?_⟩
    rcases hu with rfl | rfl | rfl | rfl | rfl | rfl | rfl <;> decide +kernel
theorem ev_isb {a : E} {t0 : Str} (ha : EvP p ca fa fd ps a) : EvP p ca fa fd ps (.isb a t0) := by
  intro X n W hx g t h
  obtain ⟨q, e, q2, pos, rfl, h1, h2, h3, h4⟩ := inv_isb h
  have hm : t0 ∈ isbNames := by simpa using h3
  have hmg : X.mg t0 = none := g.fc.bi _ (by
    simp only [isbNames, List.mem_cons, List.not_mem_nil, or_false] at hm
    rcases hm with rfl | rfl <;> decide +kernel)
  have hnm : t0 ≠ "__name__" ∧ (t0 == ("__debug__" : Str)) = false := by
    simp only [isbNames, List.mem_cons, List.not_mem_nil, or_false] at hm
    rcases hm with rfl | rfl <;> decide +kernel
  obtain ⟨T, hT, _⟩ := kit_isb (K := X.K) (v := .non) (st := []) (u := "NoneType") rfl h3
  have hP := pa_cons (ha X n W hx g e h2) (pa_cons (pe_bltn (v := .ty T) (pos := q2) (gl_of h4) hmg hT rfl hnm.1 hnm.2) pa_nil (by rfl)) (not_star h2 _ _)
  refine impPE (pe_callB (p := q) (pos := pos) call_isi (gl_of h1) (g.fc.bi _ (by decide +kernel)) (by decide +kernel) hP (by decide +kernel) (by decide +kernel) (not_star h2 _ _) (by rfl)) fun σ H Q ⟨ρ, e, st, at_, hf⟩ => ?_
  simp only [ev, if_pos h3] at hf
  refine (goE at_ hf).imp fun x H1 ⟨ρ1, v, st1, _, _, at1, rx, _, hf1⟩ => ?_
  obtain ⟨w, ew, hf2⟩ := res_of hf1
  cases et : tyName st1 v with
  | none => rw [et] at ew; cases ew
  | some u =>
    rw [et] at ew
    cases ew
    obtain ⟨T', hT', hk⟩ := kit_isb (K := X.K) et h3
    rw [hT] at hT'
    cases hT'
    exact ⟨x, .ty T, .type u, .type T, _, rfl, .ty T, ty_ok at1.st et rx, hk, Fin.ok (R := Rv X.K) hf2 at1.st (.bl _)⟩
end
end AM
end

section
set_option maxRecDepth 100000
set_option maxHeartbeats 8000000
namespace AM
open PySem L2 PyProof.Rows
section
variable {p : Prog} {ca fa : Str → Addr} {fd : Str → FuncData} {ps : Str → List Str}

theorem wipe_get {σ : L2.St} : ∀ {vs : List Nat} {i : Nat}, (L2.wipe σ vs)[i]? = if i ∈ vs then (σ[i]?).map (fun _ => none) else σ[i]?
  | [], i => by simp [L2.wipe]
  | v :: vs, i => by
    have hl := L2.wipe_length σ vs
    simp only [L2.wipe, List.mem_cons]
    by_cases h : i = v
    · subst h
      rw [if_pos (.inl rfl)]
      by_cases hlt : i < σ.length
      · rw [List.getElem?_set_self (by rw [hl]; exact hlt), List.getElem?_eq_getElem hlt]; rfl
      · rw [List.getElem?_eq_none (by simp [hl]; omega), List.getElem?_eq_none (by omega)]; rfl
    · rw [List.getElem?_set_ne (Ne.symm h), wipe_get]
      by_cases hm : i ∈ vs
      · rw [if_pos hm, if_pos (.inr hm)]
      · rw [if_neg hm, if_neg fun z => z.elim h hm]
theorem wipe_set {σ : L2.St} {vs : List Nat} {i : Nat} {o : Option V} (h : i ∈ vs) : L2.wipe (σ.set i o) vs = L2.wipe σ vs := by
  refine List.ext_getElem? fun j => ?_
  rw [wipe_get, wipe_get]
  by_cases hm : j ∈ vs
  · rw [if_pos hm, if_pos hm]
    by_cases hj : j < σ.length
    · rw [List.getElem?_eq_getElem hj, List.getElem?_eq_getElem (l := σ.set i o) (by simpa using hj)]; rfl
    · rw [List.getElem?_eq_none (l := σ) (by omega), List.getElem?_eq_none (l := σ.set i o) (by rw [List.length_set]; omega)]
  · have hne : i ≠ j := fun z => hm (by rw [← z]; exact h)
    rw [if_neg hm, if_neg hm, List.getElem?_set_ne hne]
theorem wipe_idem {σ : L2.St} {vs : List Nat} : L2.wipe (L2.wipe σ vs) vs = L2.wipe σ vs := by
  refine List.ext_getElem? fun j => ?_
  rw [wipe_get, wipe_get]
  by_cases hm : j ∈ vs
  · rw [if_pos hm, if_pos hm]; cases σ[j]? <;> rfl
  · rw [if_neg hm, if_neg hm]
theorem Renv.wipe {K : Frg} {ρ : List Addr} {H : Hp} {e : Env} {σ : L2.St} (h : Renv K ρ H e.s σ) : ∀ (vs : List Nat), Renv K ρ H (AM.wipe vs e).s (L2.wipe σ vs)
  | [] => h
  | v :: vs => (Renv.wipe h vs).unset v

def fset {α : Type} (l : List Nat) (vs : List α) (s : List (Option α)) : List (Option α) := (l.zip vs).foldl (fun s p => s.set p.1 (some p.2)) s
def gNames : List Nat → TGs
  | [] => gNil
  | i :: l => gCons (gName i) (gNames l)
theorem gNames_of {H : Hp} {Q : L2.St → Hp → Prop} : ∀ {l : List Nat} {xs : List V} {σ : L2.St}, xs.length = l.length → Q (fset l xs σ) H → gNames l xs σ H Q
  | [], [], σ, _, h => ⟨rfl, h⟩
  | [], _ :: _, _, h, _ => by simp at h
  | _ :: _, [], _, h, _ => by simp at h
  | i :: l, x :: xs, σ, hl, h => ⟨x, xs, rfl, gNames_of (l := l) (xs := xs) (σ := σ.set i (some x)) (by simpa using hl) h⟩
theorem Renv.fset {K : Frg} {ρ : List Addr} {H : Hp} : ∀ {l : List Nat} {vs : List Val} {xs : List V} {s : List (Option Val)} {σ : L2.St}, Rvs K ρ H vs xs → Renv K ρ H s σ → Renv K ρ H (AM.fset l vs s) (AM.fset l xs σ)
  | [], _, _, _, _, _, h => h
  | _ :: _, _, _, _, _, .nil, h => h
  | i :: l, _, _, _, _, .cons r t, h => Renv.fset (l := l) t (h.set r i)
theorem fset_wipe {vs : List Nat} : ∀ {l : List Nat} {xs : List V} {σ : L2.St}, (∀ i ∈ l, i ∈ vs) → L2.wipe (fset l xs σ) vs = L2.wipe σ vs
  | [], _, _, _ => rfl
  | _ :: _, [], _, _ => rfl
  | i :: l, x :: xs, σ, h => (fset_wipe (l := l) (xs := xs) (σ := σ.set i (some x)) fun j hj => h j (List.mem_cons_of_mem _ hj)).trans (wipe_set (h i List.mem_cons_self))
/-- a target served by the machine's assignment -/
def TGm (K : Frg) (ca : Str → Addr) (t : Tg) : TG := fun v σ H Q => ∃ ρ st mv e e1, Rst K ca ρ H st ∧ Rv K ρ H mv v ∧ Renv K ρ H e.s σ ∧ assign t mv e = some e1 ∧ ∀ σ', Renv K ρ H e1.s σ' → (∀ vs, (∀ i ∈ tgIx t, i ∈ vs) → L2.wipe σ' vs = L2.wipe σ vs) → Q σ' H
theorem sto_of {fnb : Str → Bool} {sc : Scope} {x : Str} (h : stoB fnb sc x = true) : sc.names.lookup x = some .local ∨ (sc.names.lookup x = some .cell ∧ fnb x = true) := by
  unfold stoB at h
  split at h
  · exact .inl (by assumption)
  · exact .inr ⟨by assumption, h⟩
  · cases h
theorem sto_loc {sc : Scope} {x : Str} {b : Bool} (h : sc.names.lookup x = some .local ∨ (sc.names.lookup x = some .cell ∧ b = true)) : Loc sc x := h.imp id And.left
theorem names_ok {X : Cx} {fnb : Str → Bool} (hF : ∀ x, fnb x = true → X.fn x = true) (hN : X.N.Nodup) : ∀ {l : List Nat} {es : List Expr}, l.length = es.length → ((l.zip es).all fun q => match q.2 with
    | .Name x _ => decide (X.N[q.1]? = some x) && stoB fnb X.env.scope x
    | _ => false) = true → PGs X es (gNames l) ∧ (assignEach es X.env).length = l.length ∧ (assignEach es X.env).findIdx? (·.1) = none
  | [], [], _, _ => ⟨pgs_nil, rfl, rfl⟩
  | [], _ :: _, h, _ => by simp at h
  | _ :: _, [], h, _ => by simp at h
  | i :: l, e :: es, hl, h => by
    simp only [List.zip_cons_cons, List.all_cons, Bool.and_eq_true] at h
    obtain ⟨h1, h2, h3⟩ := names_ok hF hN (l := l) (es := es) (by simpa using hl) h.2
    cases e with
    | Name x pos =>
      simp only [Bool.and_eq_true, decide_eq_true_eq] at h
      have hx := sto_of h.1.2
      refine ⟨pgs_cons (pg_name hN h.1.1 (sto_loc hx) (hx.elim .inr fun z => .inl (hF x z.2))) h1 rfl, ?_, ?_⟩
      · show (_ :: assignEach es X.env).length = _
        simp [h2]
      · show ((false, _) :: assignEach es X.env).findIdx? (·.1) = none
        simp [List.findIdx?_cons, h3]
    | _ => simp at h
theorem tg_ok {X : Cx} {fnb : Str → Bool} (hF : ∀ x, fnb x = true → X.fn x = true) (hN : X.N.Nodup) {t : Tg} (hc : (∀ i, t ≠ .nm i) → X.calm = true) {tx : Expr} (h : chkT X.N fnb X.env.scope t tx = true) : PG X tx (TGm X.K ca t) := by
  cases t with
  | nm i =>
    cases tx <;> try simp [chkT] at h
    rename_i x pos
    have hx := sto_of h.2
    refine ⟨fun pins s σ H v u Q I r ⟨ρ, st, mv, e, e1, hs, rv, re, ea, q⟩ => (pg_name hN h.1 (sto_loc hx) (hx.elim .inr fun z => .inl (hF x z.2))).run pins s σ H v u Q I r ?_⟩
    cases ea
    exact q _ (re.set rv i) fun vs hv => wipe_set (hv i (by simp [tgIx]))
  | tp l =>
    cases tx <;> try simp [chkT] at h
    rename_i es k pos
    have h' := h
    obtain ⟨h1, h2, h3⟩ := names_ok hF hN (X := X) h.1 (by
      have z := h.2
      rw [List.all_eq_true]
      rintro ⟨a, b⟩ hm
      have := z a b hm
      cases b <;> simpa using this)
    refine ⟨fun pins s σ H v u Q I r ⟨ρ, st, mv, e, e1, hs, rv, re, ea, q⟩ => (pg_tup (hc fun i z => by cases z) h1 h2 h3).run pins s σ H v u Q I r ?_⟩
    simp only [assign] at ea
    split at ea
    · split at ea
      · rename_i hl
        cases ea
        cases rv with
        | tup hq hr =>
          refine ⟨_, _, rfl, hq, by rw [← hr.length]; exact hl, gNames_of (by rw [← hr.length]; exact hl) (q _ (re.fset hr) fun vs hv => fset_wipe hv)⟩
      · cases ea
    · cases ea

theorem key_rv {K : Frg} {ρ : List Addr} {H : Hp} (k : Sum Int Str) : Rv K ρ H (keyV k) (kV k) := by
  cases k with
  | inl i => exact .int i
  | inr z => exact .str z
theorem Rks.get {K : Frg} {ρ : List Addr} {H : Hp} : ∀ {fs : List (Sum Int Str × Val)} {gs : List (Key × V)} {i : Nat} {kv : Sum Int Str × Val}, Rks K ρ H fs gs → fs[i]? = some kv → ∃ x, gs[i]? = some (kv.1, x) ∧ Rv K ρ H kv.2 x
  | _, _, _, _, .nil, h => by simp at h
  | _, _, 0, _, .cons r _, h => by simp at h; subst h; exact ⟨_, rfl, r⟩
  | _, _, i + 1, _, .cons _ t, h => by
    obtain ⟨x, h1, h2⟩ := Rks.get (i := i) t (by simpa using h)
    exact ⟨x, by simpa using h1, h2⟩
/-- a locked dict by its keys -/
theorem wk_keys {K : Frg} {ρ : List Addr} {H0 : Hp} {r : Nat} {a : Addr} {od : PySem.Obj} {gs : List (Key × V)} (ea : ρ[r]? = some a) (hd : H0 a = some (.frz od (.dK gs))) : Wk K ca (Itk a od gs) (.keys r false) ρ H0 := by
  intro i H st ρ1 pr ex hs
  have ea1 : ρ1[r]? = some a := by
    obtain ⟨t, rfl⟩ := pr
    rw [List.getElem?_append_left (List.getElem?_eq_some_iff.mp ea).1]; exact ea
  have hd1 := ex a (.frz od (.dK gs)) trivial hd
  unfold Iter.next
  dsimp only
  split
  · rename_i l e
    obtain ⟨od2, gs2, h2, hr⟩ := hs.dctL e ea1
    rw [hd1] at h2
    cases h2
    split
    · rename_i kv ew
      obtain ⟨x, ey, ry⟩ := hr.get ew
      refine ⟨fun z => by simp at z, fun v z => ?_⟩
      simp at z
      subst z
      refine ⟨⟨hd1, (List.getElem?_eq_some_iff.mp ey).1⟩, ?_⟩
      rintro y H' ⟨rfl, k', v', ek, rfl⟩
      rw [ey] at ek
      cases ek
      exact ⟨Ext.rf, hs, key_rv _⟩
    · rename_i ew
      refine ⟨fun _ => ⟨hd1, by rw [← hr.length]; exact List.getElem?_eq_none_iff.mp ew⟩, fun v z => by simp at z⟩
  · exact ⟨fun z => by simp at z, fun v z => by simp at z⟩
/-- .. by its pairs -/
theorem wk_items {K : Frg} {ρ : List Addr} {H0 : Hp} {r : Nat} {a : Addr} {od : PySem.Obj} {gs : List (Key × V)} (ea : ρ[r]? = some a) (hd : H0 a = some (.frz od (.dK gs))) : Wk K ca (Iti a od gs) (.keys r true) ρ H0 := by
  intro i H st ρ1 pr ex hs
  have ea1 : ρ1[r]? = some a := by
    obtain ⟨t, rfl⟩ := pr
    rw [List.getElem?_append_left (List.getElem?_eq_some_iff.mp ea).1]; exact ea
  have hd1 := ex a (.frz od (.dK gs)) trivial hd
  unfold Iter.next
  dsimp only
  split
  · rename_i l e
    obtain ⟨od2, gs2, h2, hr⟩ := hs.dctL e ea1
    rw [hd1] at h2
    cases h2
    split
    · rename_i kv ew
      obtain ⟨x, ey, ry⟩ := hr.get ew
      refine ⟨fun z => by simp at z, fun v z => ?_⟩
      simp at z
      subst z
      refine ⟨⟨hd1, (List.getElem?_eq_some_iff.mp ey).1⟩, ?_⟩
      rintro y H' ⟨T, k', v', ek, rfl, hT, rfl⟩
      rw [ey] at ek
      cases ek
      have e2 : Ext H (upd H T (.tup [kV kv.1, x])) := Ext.new hT
      exact ⟨e2, hs.more hT, .tup (.inl (.inl upd_same)) (.cons (key_rv _) (.one (ry.mono (List.prefix_refl _) e2)))⟩
    · rename_i ew
      refine ⟨fun _ => ⟨hd1, by rw [← hr.length]; exact List.getElem?_eq_none_iff.mp ew⟩, fun v z => by simp at z⟩
  · exact ⟨fun z => by simp at z, fun v z => by simp at z⟩
theorem wk_list {K : Frg} {ρ : List Addr} {H0 : Hp} {r : Nat} {a : Addr} (ea : ρ[r]? = some a) : Wk K ca (Itl K a) (.live r false) ρ H0 := by
  intro i H st ρ1 pr ex hs
  have ea1 : ρ1[r]? = some a := by
    obtain ⟨t, rfl⟩ := pr
    rw [List.getElem?_append_left (List.getElem?_eq_some_iff.mp ea).1]; exact ea
  unfold Iter.next
  dsimp only
  split
  · rename_i l k e
    obtain ⟨xs, hq, hr⟩ := hs.list e ea1
    split
    · rename_i w ew
      refine ⟨fun z => by simp at z, fun v z => ?_⟩
      simp at z
      subst z
      obtain ⟨y, ey, ry⟩ := hr.get ew
      refine ⟨⟨xs, y, hq, ey⟩, ?_⟩
      rintro x H' ⟨rfl, hall⟩
      have := hall xs hq
      rw [ey] at this
      cases this
      exact ⟨Ext.rf, hs, ry⟩
    · rename_i ew
      refine ⟨fun _ => ⟨xs, hq, by rw [← hr.length]; exact List.getElem?_eq_none_iff.mp ew⟩, fun v z => by simp at z⟩
  · exact ⟨fun z => by simp at z, fun v z => by simp at z⟩
theorem wk_enum {K : Frg} {ρ : List Addr} {H0 : Hp} {r : Nat} {a : Addr} (ea : ρ[r]? = some a) : Wk K ca (Ite K a) (.live r true) ρ H0 := by
  intro i H st ρ1 pr ex hs
  have ea1 : ρ1[r]? = some a := by
    obtain ⟨t, rfl⟩ := pr
    rw [List.getElem?_append_left (List.getElem?_eq_some_iff.mp ea).1]; exact ea
  unfold Iter.next
  dsimp only
  split
  · rename_i l k e
    obtain ⟨xs, hq, hr⟩ := hs.list e ea1
    split
    · rename_i w ew
      refine ⟨fun z => by simp at z, fun v z => ?_⟩
      simp at z
      subst z
      obtain ⟨y, ey, ry⟩ := hr.get ew
      refine ⟨⟨xs, y, hq, ey⟩, ?_⟩
      rintro x H' ⟨T, x', rfl, hT, rfl, hall⟩
      have := hall xs hq
      rw [ey] at this
      cases this
      have e2 : Ext H (upd H T (.tup [.int (i : Nat), y])) := Ext.new hT
      exact ⟨e2, hs.more hT, .tup (.inl (.inl upd_same)) (.cons (.int _) (.one (ry.mono (List.prefix_refl _) e2)))⟩
    · rename_i ew
      refine ⟨fun _ => ⟨xs, hq, by rw [← hr.length]; exact List.getElem?_eq_none_iff.mp ew⟩, fun v z => by simp at z⟩
  · exact ⟨fun z => by simp at z, fun v z => by simp at z⟩
theorem wk_tup {K : Frg} {ρ : List Addr} {H0 : Hp} {l : List Val} {xs : List V} {a : Addr} (hq : SqT K H0 a xs) (hr : Rvs K ρ H0 l xs) : Wk K ca (Itt K a) (.snap l) ρ H0 := by
  intro i H st ρ1 pr ex hs
  have hq1 := sqT_mono ex hq
  have hr1 := hr.mono pr ex
  refine ⟨fun z => ⟨xs, hq1, ?_⟩, fun v z => ?_⟩
  · simp only [Iter.next] at z
    rw [← hr.length]
    exact List.getElem?_eq_none_iff.mp (by simpa using z)
  · simp only [Iter.next] at z
    obtain ⟨y, ey, ry⟩ := hr1.get (by simpa using z)
    refine ⟨⟨xs, y, hq1, ey⟩, ?_⟩
    rintro x H' ⟨rfl, hall⟩
    have := hall xs hq1
    rw [ey] at this
    cases this
    exact ⟨Ext.rf, hs, ry⟩
theorem wk_range {K : Frg} {ρ : List Addr} {H0 : Hp} {lo : Int} {m : Nat} : Wk K ca (Itr lo m) (.snap (rangeL lo m)) ρ H0 := by
  intro i H st ρ1 pr ex hs
  by_cases hi : i < m
  · have e : (rangeL lo m)[i]? = some (.int (lo + (i : Int))) := by simp [rangeL, hi]
    simp only [Iter.next, e]
    refine ⟨fun z => by simp at z, fun v z => ⟨hi, ?_⟩⟩
    simp at z
    subst z
    rintro x H' ⟨rfl, rfl⟩
    exact ⟨Ext.rf, hs, .int _⟩
  · have e : (rangeL lo m)[i]? = none := by simp [rangeL]; omega
    simp only [Iter.next, e]
    exact ⟨fun _ => Nat.le_of_not_lt hi, fun v z => by simp at z⟩
theorem wk_str {K : Frg} {ρ : List Addr} {H0 : Hp} {x : Str} : Wk K ca (Its x) (.snap (chars x)) ρ H0 := by
  intro i H st ρ1 pr ex hs
  cases e : x.cps[i]? with
  | none =>
    have e2 : (chars x)[i]? = none := by
      have := Array.getElem?_eq_none_iff.mp e
      simp [chars]
      omega
    simp only [Iter.next, e2]
    exact ⟨fun _ => Array.getElem?_eq_none_iff.mp e, fun v z => by simp at z⟩
  | some c =>
    have e2 : (chars x)[i]? = some (.str ⟨#[c]⟩) := by simp [chars, e]
    simp only [Iter.next, e2]
    refine ⟨fun z => by simp at z, fun v z => ⟨(Array.getElem?_eq_some_iff.mp e).1, ?_⟩⟩
    simp at z
    subst z
    rintro y H' ⟨rfl, c', ec, rfl⟩
    rw [e] at ec
    cases ec
    exact ⟨Ext.rf, hs, .str _⟩
theorem iter_set {N : List Str} {sc : Scope} {hot : Option Nat} {a : E} {t : Expr} (h : chkI N sc hot a t = true) : notSet t = true := by
  exact (Bool.and_eq_true_iff.mp h).2
theorem fold_set {t : Expr} (h : notSet t = true) (env : PySem.Env) (x : Value) : foldedSetIterable t env x = pure x := by
  cases t <;> first | rfl | simp [notSet] at h
/-- a list, or a locked dict -/
theorem pi_both {X : Cx} {tg l : Expr} {tl : TE} (hl : PE X l tl) {pins : List (Addr × PySem.Obj)} {s : Shared} {σ : L2.St} {H : Hp} {R : It → Hp → Prop} (I : Inv X pins σ H s)
    (h : tl σ H fun x H1 => (∃ a, x = .ref a ∧ (∃ xs, SqL X.K H1 a xs) ∧ R (Itl X.K a) H1) ∨ ∃ d o, x = .ref d ∧ ((∃ kvs, H1 d = some (.frz o (.dK kvs)) ∧ R (Itk d o kvs) H1) ∨ ∃ kvs, H1 d = some (.frz o (.dT kvs)) ∧ R (Itkt d o kvs) H1)) :
    wpAny (model X.prog X.w) X.A (eval l X.env) (fun v s1 => wpAny (model X.prog X.w) X.A (pyIter v) (PIE X pins σ tg R) X.xe s1) X.xe s := by
  refine thn (hl.run pins s σ H _ I h) fun v s1 ⟨x, H1, I1, r1, q1⟩ => ?_
  rcases q1 with ⟨a, e, ⟨xs, hq⟩, q⟩ | ⟨d, o, ex, q⟩
  · subst e
    cases r1
    obtain ⟨its, rv, p, hz⟩ := I1.list hq
    refine wpAny_pyIter_list p.isList ?_
    refine ⟨s1.heap.objs.size, [s1.heap.objs.size], _, _, H1, rfl, I1.kept (t' := s1.toks) fun b o e => Heap.get?_push_of_some _ e, turn_list a _, ⟨_, Heap.get?_push_size _ rfl, rfl, rfl⟩, fun b hb => ?_, q⟩
    have e : b = s1.heap.objs.size := by simpa using hb
    subst e
    exact I1.fpOk (Nat.le_refl _) (I1.hok.fresh (Nat.le_refl _))
  · subst ex
    obtain rfl : v = Value.ref d := r1
    rcases q with ⟨kvs, hd, q⟩ | ⟨kvs, hd, q⟩
    · obtain ⟨hs, hgd, hx, es, ep, vs, hdt, hsz, kv, hm⟩ := I1.frzK hd
      refine iter_keys hs hgd hx hdt (pi_one (tk := s1.toks) I1 _ (turn_keys _ hdt) ⟨_, Heap.get?_push_size _ rfl, rfl, ?_⟩ q)
      rw [hsz] <;> rfl
    · obtain ⟨hs, hgd, hx, es, ep, hdt, hsz, ent⟩ := I1.frzT hd
      refine iter_keys hs hgd hx hdt (pi_one (tk := s1.toks) I1 _ (turn_keysT _ hdt) ⟨_, Heap.get?_push_size _ rfl, rfl, ?_⟩ q)
      rw [hsz] <;> rfl
theorem i_plain {a : E} (ha : EvP p ca fa fd ps a) (he : ∀ e st n, evI p (callF p n) a e st = (ev p (callF p n) a e st).bind fun v s1 => Res.of (iterV s1 v) s1)
    (hk : ∀ (N : List Str) (sc : Scope) hot t, chkI N sc hot a t = true → chkE N sc hot a t = true) : EvI p ca fa fd ps a := by
  intro X n W hx g hz tg t h _
  have hP := ha X n W hx g t (hk _ _ _ t h)
  refine ⟨fun pins s σ H R I ⟨ρ, e, st, at_, hf⟩ => ?_⟩
  rw [he] at hf
  cases ev_ : ev p (callF p n) a e st with
  | stk => rw [ev_] at hf; exact hf.elim
  | err c v s1 =>
    refine (pi_list (tg := tg) hP).run pins s σ H R I ⟨ρ, e, st, at_, ?_⟩
    rw [ev_] at hf ⊢
    exact hf
  | ok v s1 =>
    have hf' := hf
    rw [ev_] at hf'
    obtain ⟨k, ek, _⟩ := res_of hf'
    clear hf'
    cases v with
    | tup l =>
      refine (pi_tup (tg := tg) hP).run pins s σ H R I ((goE at_ hf).imp fun x H1 ⟨ρ1, v, st1, _, _, at1, rx, e2, hf1⟩ => ?_)
      rw [ev_] at e2
      cases e2
      cases rx with
      | tup hq hr => exact ⟨_, rfl, ⟨_, hq⟩, Fin.ok (R := fun ρ' H' k J => Wk X.K ca J k ρ' H') (a := .snap l) hf1 at1.st (wk_tup hq hr)⟩
    | str z =>
      refine (pi_str (tg := tg) hP).run pins s σ H R I ((goE at_ hf).imp fun x H1 ⟨ρ1, v, st1, _, _, at1, rx, e2, hf1⟩ => ?_)
      rw [ev_] at e2
      cases e2
      cases rx with
      | str => exact ⟨_, rfl, Fin.ok (R := fun ρ' H' k J => Wk X.K ca J k ρ' H') (a := .snap (chars z)) hf1 at1.st wk_str⟩
    | ref r =>
      refine pi_both hP I ((goE at_ hf).imp fun x H1 ⟨ρ1, v, st1, _, _, at1, rx, e2, hf1⟩ => ?_)
      rw [ev_] at e2
      cases e2
      cases rx with
      | @ref _ a ea =>
        obtain ⟨k', ek', hf2⟩ := res_of hf1
        simp only [iterV] at ek'
        split at ek'
        · rename_i l lk ec
          cases ek'
          obtain ⟨xs, hq, _⟩ := at1.st.list ec ea
          exact .inl ⟨a, rfl, ⟨xs, hq⟩, Fin.ok (R := fun ρ' H' k J => Wk X.K ca J k ρ' H') hf2 at1.st (wk_list ea)⟩
        · rename_i l ec
          cases ek'
          obtain ⟨od, gs, hd, _⟩ := at1.st.dctL ec ea
          exact .inr ⟨a, od, rfl, .inl ⟨gs, hd, Fin.ok (R := fun ρ' H' k J => Wk X.K ca J k ρ' H') hf2 at1.st (wk_keys ea hd)⟩⟩
        · cases ek'
    | _ => cases ek
theorem inv_rng1 {N : List Str} {sc : Scope} {hot : Option Nat} {a : E} {t : Expr} (h : chkI N sc hot (.rng1 a) t = true) : ∃ e q pos, t = .Call (.Name "range" q) [e] [] pos ∧ glB sc "range" = true ∧ chkE N sc hot a e = true := by
  cases t <;> try simp [chkI, chkE] at h
  rename_i fn args kw pos
  cases fn <;> try simp [chkI, chkE] at h
  rcases args with _ | ⟨e, _ | ⟨e2, er⟩⟩ <;> cases kw <;> try simp [chkI, chkE] at h
  obtain ⟨⟨⟨rfl, h1⟩, h2⟩, _⟩ := h
  exact ⟨_, _, _, rfl, h1, h2⟩
theorem inv_rng2 {N : List Str} {sc : Scope} {hot : Option Nat} {a b : E} {t : Expr} (h : chkI N sc hot (.rng2 a b) t = true) : ∃ e e2 q pos, t = .Call (.Name "range" q) [e, e2] [] pos ∧ glB sc "range" = true ∧ chkE N sc hot a e = true ∧ chkE N sc hot b e2 = true := by
  cases t <;> try simp [chkI, chkE] at h
  rename_i fn args kw pos
  cases fn <;> try simp [chkI, chkE] at h
  rcases args with _ | ⟨e, _ | ⟨e2, _ | ⟨e3, er⟩⟩⟩ <;> cases kw <;> try simp [chkI, chkE] at h
  obtain ⟨⟨⟨⟨rfl, h1⟩, h2⟩, h3⟩, _⟩ := h
  exact ⟨_, _, _, _, rfl, h1, h2, h3⟩
theorem inv_enu {N : List Str} {sc : Scope} {hot : Option Nat} {a : E} {t : Expr} (h : chkI N sc hot (.enu a) t = true) : ∃ e q pos, t = .Call (.Name "enumerate" q) [e] [] pos ∧ glB sc "enumerate" = true ∧ chkE N sc hot a e = true := by
  cases t <;> try simp [chkI, chkE] at h
  rename_i fn args kw pos
  cases fn <;> try simp [chkI, chkE] at h
  rcases args with _ | ⟨e, _ | ⟨e2, er⟩⟩ <;> cases kw <;> try simp [chkI, chkE] at h
  obtain ⟨⟨⟨rfl, h1⟩, h2⟩, _⟩ := h
  exact ⟨_, _, _, rfl, h1, h2⟩
theorem i_rng1 {a : E} (ha : EvP p ca fa fd ps a) : EvI p ca fa fd ps (.rng1 a) := by
  intro X n W hx g hz tg t h _
  obtain ⟨e, q, pos, rfl, h1, h2⟩ := inv_rng1 h
  have hP := ha X n W hx g e h2
  refine ⟨fun pins s σ H R I ⟨ρ, env, st, at_, hf⟩ => (pi_range1 (tg := tg) (gl_of h1) (g.fc.bi _ (by decide +kernel)) (pa_cons hP pa_nil (not_star h2 _ _)) (not_star h2 _ _)).run pins s σ H R I ?_⟩
  simp only [evI] at hf
  refine (goE at_ hf).imp fun x H1 ⟨ρ1, v, st1, _, _, at1, rx, _, hf1⟩ => ?_
  cases rx with
  | int j =>
    replace hf1 : Fin X.K ca (fun ρ' H' k J => Wk X.K ca J k ρ' H') (if -4611686018427387904 ≤ j ∧ j < 4611686018427387904 then .ok (.snap (rangeL 0 j.toNat)) st1 else .stk) ρ1 H1 σ R W := hf1
    by_cases hj : -4611686018427387904 ≤ j ∧ j < 4611686018427387904
    · rw [if_pos hj] at hf1
      exact ⟨j, rfl, by omega, by omega, Fin.ok (R := fun ρ' H' k J => Wk X.K ca J k ρ' H') hf1 at1.st wk_range⟩
    · rw [if_neg hj] at hf1; exact hf1.elim
  | _ => exact hf1.elim
theorem i_rng2 {a b : E} (ha : EvP p ca fa fd ps a) (hb : EvP p ca fa fd ps b) : EvI p ca fa fd ps (.rng2 a b) := by
  intro X n W hx g hz tg t h _
  obtain ⟨e, e2, q, pos, rfl, h1, h2, h3⟩ := inv_rng2 h
  have hP := ha X n W hx g e h2
  have hP2 := hb X n W hx g e2 h3
  refine ⟨fun pins s σ H R I ⟨ρ, env, st, at_, hf⟩ => (pi_range2 (tg := tg) (gl_of h1) (g.fc.bi _ (by decide +kernel)) (pa_cons hP (pa_cons hP2 pa_nil (not_star h3 _ _)) (not_star h2 _ _)) ((not_star h2 _ _).trans (by rw [not_star h3]; rfl)) (not_star h3 _ _)).run pins s σ H R I ?_⟩
  simp only [evI] at hf
  refine (goE at_ hf).imp fun x H1 ⟨ρ1, v, st1, _, _, at1, rx, _, hf1⟩ => (goE at1 hf1).imp fun y H2 ⟨ρ2, w, st2, pr, ex, at2, ry, _, hf2⟩ => ?_
  cases rx with
  | int i => cases ry with
    | int j =>
      replace hf2 : Fin X.K ca (fun ρ' H' k J => Wk X.K ca J k ρ' H') (if (-4611686018427387904 ≤ i ∧ i < 4611686018427387904) ∧ -4611686018427387904 ≤ j ∧ j < 4611686018427387904 then .ok (.snap (rangeL i (j - i).toNat)) st2 else .stk) ρ2 H2 σ R W := hf2
      by_cases hj : (-4611686018427387904 ≤ i ∧ i < 4611686018427387904) ∧ -4611686018427387904 ≤ j ∧ j < 4611686018427387904
      · rw [if_pos hj] at hf2
        exact ⟨i, j, rfl, ⟨by omega, by omega, by omega, by omega⟩, Fin.ok (R := fun ρ' H' k J => Wk X.K ca J k ρ' H') hf2 at2.st wk_range⟩
      · rw [if_neg hj] at hf2; exact hf2.elim
    | _ => exact hf2.elim
  | _ => exact hf2.elim
theorem i_enu {a : E} (ha : EvP p ca fa fd ps a) : EvI p ca fa fd ps (.enu a) := by
  intro X n W hx g hz tg t h ht
  obtain ⟨e, q, pos, rfl, h1, h2⟩ := inv_enu h
  obtain ⟨es, k, q2, rfl⟩ := ht a (.inl rfl)
  have hP := ha X n W hx g e h2
  refine ⟨fun pins s σ H R I ⟨ρ, env, st, at_, hf⟩ => (pi_enum (gl_of h1) (g.fc.bi _ (by decide +kernel)) (pa_cons hP pa_nil (not_star h2 _ _)) (not_star h2 _ _)).run pins s σ H R I ?_⟩
  simp only [evI] at hf
  refine (goE at_ hf).imp fun x H1 ⟨ρ1, v, st1, _, _, at1, rx, _, hf1⟩ => ?_
  cases rx with
  | @ref r a' ea =>
    dsimp only at hf1
    split at hf1
    · rename_i l lk ec
      obtain ⟨xs, hq, _⟩ := at1.st.list ec ea
      exact ⟨a', xs, rfl, hq, Fin.ok (R := fun ρ' H' k J => Wk X.K ca J k ρ' H') hf1 at1.st (wk_enum ea)⟩
    · exact hf1.elim
  | _ => exact hf1.elim
theorem i_itm {a : E} (ha : EvP p ca fa fd ps a) : EvI p ca fa fd ps (.itm a) := by
  intro X n W hx g hz tg t h ht
  obtain ⟨r, apos, pos, rfl, h1, h2, h3⟩ := inv_itm (Bool.and_eq_true_iff.mp h).1
  obtain ⟨es, k, q2, rfl⟩ := ht a (.inr rfl)
  have hP := ha X n W hx g r h1
  refine ⟨fun pins s σ H R I ⟨ρ, env, st, at_, hf⟩ => (pi_items hP (base_ok h2) h3).run pins s σ H R I ?_⟩
  simp only [evI] at hf
  refine (goE at_ hf).imp fun x H1 ⟨ρ1, v, st1, _, _, at1, rx, _, hf1⟩ => ?_
  cases rx with
  | @ref r a' ea =>
    dsimp only at hf1
    split at hf1
    · rename_i l ec
      obtain ⟨od, gs, hd, _⟩ := at1.st.dctL ec ea
      exact ⟨a', od, gs, rfl, hd, Fin.ok (R := fun ρ' H' k J => Wk X.K ca J k ρ' H') hf1 at1.st (wk_items ea hd)⟩
    · exact hf1.elim
  | _ => exact hf1.elim
end
end AM
end

section
set_option maxRecDepth 100000
set_option maxHeartbeats 8000000
namespace AM
open PySem L2 PyProof.Rows
section
variable {p : Prog} {ca fa : Str → Addr} {fd : Str → FuncData} {ps : Str → List Str}

theorem goI {X : Cx} {n : Nat} {hx : Option Hx} {W : WX} {ρ : List Addr} {H : Hp} {e : Env} {σ : L2.St} {st : Store} {γ δ : Type} {R' : List Addr → Hp → γ → δ → Prop} {Q : δ → Hp → Prop} {a : E} {f : Iter → Store → Res γ} (h : At p ca X.K ρ H e σ hx st) (hf : Fin X.K ca R' ((evI p (callF p n) a e st).bind f) ρ H σ Q W) :
    TIm p ca X n hx W a σ H (fun J H1 => ∃ ρ1 k st1, ρ <+: ρ1 ∧ Ext H H1 ∧ At p ca X.K ρ1 H1 e σ hx st1 ∧ Wk X.K ca J k ρ1 H1 ∧ evI p (callF p n) a e st = .ok k st1 ∧ Fin X.K ca R' (f k st1) ρ1 H1 σ Q W) :=
  ⟨ρ, e, st, h, (Fin.bind (R := fun ρ' H' k J => Wk X.K ca J k ρ' H') hf).imp fun x H1 ⟨ρ1, v, st1, pr, ex, hs, hr, eq, hq⟩ => ⟨ρ1, v, st1, pr, ex, h.mono pr ex hs, hr, eq, hq⟩⟩
theorem TIm.imp {X : Cx} {n : Nat} {hx : Option Hx} {W : WX} {a : E} {σ : L2.St} {H : Hp} {Q Q' : It → Hp → Prop} (h : TIm p ca X n hx W a σ H Q) (k : ∀ x H1, Q x H1 → Q' x H1) : TIm p ca X n hx W a σ H Q' :=
  let ⟨ρ, e, st, at_, hf⟩ := h; ⟨ρ, e, st, at_, hf.imp k⟩
def noW : WX := fun _ _ _ _ => False
theorem gd_blk {X : Cx} {n : Nat} {W : WX} (g : Gd p ca fa fd ps X n W none) (s : Shared) (H : Hp) (scope : Scope) (cenv : PySem.Env) (fp : List Addr) : Gd p ca fa fd ps (X.blk s H scope cenv fp) n noW none :=
  ⟨g.nd, g.fc, g.gd, g.un, g.cold, g.fn, takes_none5, g.exi, fun h z => by cases z⟩

/-- a turn's standing: the store from which the turns left come to s3 -/
def Wt (K : Frg) (ca : Str → Addr) (pre : List Addr) (Hb : Hp) (k : Iter) (t : Tg) (e : Env) (el : Env → Store → Option Store) (s3 : Store) : Nat → Nat → Hp → Prop :=
  fun i m H => ∃ ρ st, pre <+: ρ ∧ Ext Hb H ∧ Rst K ca ρ H st ∧ turns k t e el m i st = some s3
theorem turn_step {K : Frg} {J : It} {k : Iter} {ρ1 pre : List Addr} {H1 Hb : Hp} {t : Tg} {e : Env} {el : Env → Store → Option Store} {s3 : Store} {σ : L2.St} {vs : List Nat} {En : Hp → Prop} {G : L2.St → Hp → (Hp → Prop) → Prop}
    (wk : Wk K ca J k ρ1 H1) (p1 : ρ1 <+: pre) (x1 : Ext H1 Hb) (re : Renv K pre Hb e.s σ) (hv : ∀ i ∈ tgIx t, i ∈ vs)
    (hend : ∀ ρ H, pre <+: ρ → Ext Hb H → Rst K ca ρ H s3 → En H)
    (body : ∀ ρ H st mv e1 σ2 st1, pre <+: ρ → Ext Hb H → Rst K ca ρ H st → assign t mv e = some e1 → Renv K ρ H e1.s σ2 → el e1 st = some st1 → ∀ Nx : Hp → Prop, (∀ ρ' H', ρ <+: ρ' → Ext H H' → Rst K ca ρ' H' st1 → Nx H') → G σ2 H Nx) :
    ∀ i m H, Wt K ca pre Hb k t e el s3 i m H → (J.stop i H ∧ En H) ∨ (J.go i H ∧ ∃ Nx : Hp → Prop, (∀ H', Nx H' → ∃ m', m' < m ∧ Wt K ca pre Hb k t e el s3 (i + 1) m' H') ∧
      ∀ x H', J.yld i H x H' → TGm K ca t x σ H' fun σ2 H2 => L2.wipe σ2 vs = L2.wipe σ vs ∧ G σ2 H2 Nx) := by
  rintro i m H ⟨ρ, st, pr, ex, hs, ht⟩
  cases m with
  | zero => simp [turns] at ht
  | succ m =>
    obtain ⟨w1, w2⟩ := wk i H st ρ (p1.trans pr) (x1.tr ex) hs
    rw [turns] at ht
    split at ht
    · cases ht
    · rename_i en
      cases ht
      exact .inl ⟨w1 en, hend ρ H pr ex hs⟩
    · rename_i mv en
      obtain ⟨go, yl⟩ := w2 mv en
      split at ht
      · cases ht
      · rename_i e1 ea
        split at ht
        · cases ht
        · rename_i st1 es
          refine .inr ⟨go, fun H' => Wt K ca pre Hb k t e el s3 (i + 1) m H', fun H' q => ⟨m, Nat.lt_succ_self _, q⟩, fun x H' y => ?_⟩
          obtain ⟨y1, y2, y3⟩ := yl x H' y
          refine ⟨ρ, st, mv, e, e1, y2, y3, re.mono pr (ex.tr y1), ea, fun σ' re' hw => ⟨hw vs hv, ?_⟩⟩
          exact body ρ H' st mv e1 σ' st1 pr (ex.tr y1) y2 ea re' es _ fun ρ' H2 p2 x2 hs2 => ⟨ρ', st1, pr.trans p2, (ex.tr y1).tr x2, hs2, ht⟩

theorem assign_x {t : Tg} {v : Val} {e e1 : Env} (h : assign t v e = some e1) : e1.x = e.x := by
  cases t with
  | nm i => cases h; rfl
  | tp l =>
    simp only [assign] at h
    split at h
    · split at h
      · cases h; rfl
      · cases h
    · cases h

/-- an element put behind the list at n -/
theorem push_ok {X : Cx} {n0 n : Nat} {el : E} {ρ : List Addr} {H : Hp} {e : Env} {σ : L2.St} {st st1 : Store} {D : Addr} {Nx : Hp → Prop} (at_ : At p ca X.K ρ H e σ none st) (hD : ρ[n0]? = some D) (h : pushTo n0 (ev p (callF p n) el e st) = some st1)
    (hN : ∀ ρ' H', ρ <+: ρ' → Ext H H' → Rst X.K ca ρ' H' st1 → Nx H') : TEm p ca X n none noW el σ H fun y H4 => ∃ acc, H4 D = some (.lst acc) ∧ acc.length < sizeLine ∧ Nx (upd H4 D (.lst (acc ++ [y]))) := by
  refine ⟨ρ, e, st, at_, ?_⟩
  cases er : ev p (callF p n) el e st with
  | stk => rw [er] at h; simp [pushTo] at h
  | err c v s => rw [er] at h; simp [pushTo] at h
  | ok v s =>
    rw [er] at h
    simp only [pushTo] at h
    split at h
    · rename_i l el
      split at h
      · rename_i hl
        cases h
        intro ρ' H' b pr ex hs rb
        have hD' : ρ'[n0]? = some D := by
          obtain ⟨t, rfl⟩ := pr
          rw [List.getElem?_append_left (List.getElem?_eq_some_iff.mp hD).1]; exact hD
        obtain ⟨ho, h1, r1⟩ := hs.obj el hD'
        cases r1 with
        | lst q =>
          obtain ⟨n1, n2⟩ := hs.put el hD' (.lst (q.app (.one rb)))
          exact ⟨_, h1, by rw [← q.length]; exact lt_line hl, hN ρ' _ pr (ex.tr n2) n1⟩
      · cases h
    · cases h

/-- a pair put into the dict at n -/
theorem pair_ok {X : Cx} {n0 n : Nat} {kx el : E} {ρ : List Addr} {H : Hp} {e : Env} {σ : L2.St} {st st1 : Store} {D : Addr} {Nx : Hp → Prop} (at_ : At p ca X.K ρ H e σ none st) (hD : ρ[n0]? = some D)
    (h : pairTo n0 ((ev p (callF p n) kx e st).bind fun a s' => (ev p (callF p n) el e s').bind fun b s' => Res.ok (a, b) s') = some st1)
    (hN : ∀ ρ' H', ρ <+: ρ' → Ext H H' → Rst X.K ca ρ' H' st1 → Nx H') : TEm p ca X n none noW kx σ H fun y H4 => TEm p ca X n none noW el σ H4 fun z H5 => ∃ kvs k, y = kV k ∧ H5 D = some (.dK kvs) ∧ kvs.length < sizeLine ∧ Nx (upd H5 D (.dK (putK kvs k z))) := by
  refine ⟨ρ, e, st, at_, ?_⟩
  cases ek : ev p (callF p n) kx e st with
  | stk => rw [ek] at h; simp [Res.bind, pairTo] at h
  | err c v s => rw [ek] at h; simp [Res.bind, pairTo] at h
  | ok u s0 =>
    rw [ek] at h
    simp only [Res.bind] at h
    intro ρ1 H1 y pr1 ex1 hs1 rk
    refine ⟨ρ1, e, s0, at_.mono pr1 ex1 hs1, ?_⟩
    cases er : ev p (callF p n) el e s0 with
    | stk => rw [er] at h; simp [pairTo] at h
    | err c v s => rw [er] at h; simp [pairTo] at h
    | ok v s =>
      rw [er] at h
      simp only [pairTo] at h
      split at h
      · rename_i l el
        split at h
        · rename_i k hk
          split at h
          · rename_i hl
            cases h
            intro ρ' H' b pr ex hs rb
            have hD' : ρ'[n0]? = some D := by
              obtain ⟨t, rfl⟩ := pr1.trans pr
              rw [List.getElem?_append_left (List.getElem?_eq_some_iff.mp hD).1]; exact hD
            obtain ⟨gs, h1, q⟩ := hs.dctU el hD'
            obtain ⟨n1, n2⟩ := hs.put el hD' (.dct (q.put (k := k) rb))
            exact ⟨_, k, keyOf_ok hk rk, h1, by rw [← q.length]; exact lt_line hl, hN ρ' _ (pr1.trans pr) ((ex1.tr ex).tr n2) n1⟩
          · cases h
        · cases h
      · cases h

/-- a clause's tests -/
def TCm (p : Prog) (ca : Str → Addr) (X : Cx) (n : Nat) (c : E) : TT := fun σ H Q => if noneE c = true then Q true H else TTm p ca X n none noW c σ H Q
theorem chkC_ok {X : Cx} {n : Nat} (g : Gd p ca fa fd ps X n noW none) {c : E} (hc : EvT p ca fa fd ps c) {ifs : List Expr} (h : chkC X.N X.env.scope none c ifs = true) : PTs X ifs (TCm p ca X n c) := by
  have one : ∀ {t : Expr}, ifs = [t] → noneE c = false → chkE X.N X.env.scope none c t = true → PTs X ifs (TCm p ca X n c) := by
    rintro t rfl h1 h2
    refine ⟨fun pins s σ H Q I q => (pts_one (hc X n noW none g t h2)).run pins s σ H Q I ?_⟩
    unfold TCm at q
    rw [if_neg (by rw [h1]; decide)] at q
    exact q
  rcases ifs with _ | ⟨t, _ | ⟨t2, tr⟩⟩
  · have hn : noneE c = true := h
    refine ⟨fun pins s σ H Q I q => pts_nil.run pins s σ H Q I ?_⟩
    unfold TCm at q
    rw [if_pos hn] at q
    exact q
  · have h2 : noneE c = false ∧ chkE X.N X.env.scope none c t = true := by simpa [chkC, ifsB] using h
    exact one rfl h2.1 h2.2
  · simp [chkC, ifsB] at h
theorem tests_ok {X : Cx} {n : Nat} {c : E} {ρ : List Addr} {H : Hp} {e : Env} {σ : L2.St} {st : Store} {α : Type} {F : Store → Option α} {F2 : Store → Option α} {r : α} {Q : Bool → Hp → Prop} (at_ : At p ca X.K ρ H e σ none st)
    (h : (if noneE c = true then F st else match evT p (callF p n) c e st with
      | .ok true s' => F s'
      | .ok false s' => F2 s'
      | _ => none) = some r)
    (h1 : ∀ ρ' H' s', ρ <+: ρ' → Ext H H' → At p ca X.K ρ' H' e σ none s' → F s' = some r → Q true H') (h2 : ∀ ρ' H' s', ρ <+: ρ' → Ext H H' → At p ca X.K ρ' H' e σ none s' → F2 s' = some r → Q false H') : TCm p ca X n c σ H Q := by
  unfold TCm
  by_cases hn : noneE c = true
  · rw [if_pos hn] at h ⊢
    exact h1 ρ H st (List.prefix_refl _) Ext.rf at_ h
  · rw [if_neg hn] at h ⊢
    refine ⟨ρ, e, st, at_, ?_⟩
    split at h
    · rename_i s' ec
      rw [ec]
      rintro ρ' H' b pr ex hs rfl
      exact h1 ρ' H' s' pr ex (at_.mono pr ex hs) h
    · rename_i s' ec
      rw [ec]
      rintro ρ' H' b pr ex hs rfl
      exact h2 ρ' H' s' pr ex (at_.mono pr ex hs) h
    · cases h

theorem own_ix {vs : List Nat} {f : Nat → Str} : (vs.map fun i => (f i, i)).map (·.2) = vs := by
  rw [List.map_map]
  induction vs with
  | nil => rfl
  | cons a r ih => exact congrArg (a :: ·) ih
theorem enu_tg {a : E} {tx : Expr} (h : enuOk a tx = true) : ∀ b, (a = .enu b ∨ a = .itm b) → ∃ es k q, tx = .Tuple es k q := by
  intro b e
  rcases e with rfl | rfl <;> cases tx <;> first | exact ⟨_, _, _, rfl⟩ | simp [enuOk] at h
theorem lc_imp {X : Cx} {n : Nat} {W : WX} {el it c : E} {t : Tg} {vs : List Nat} (h7 : ∀ i ∈ tgIx t, i ∈ vs) (σ : L2.St) (H : Hp) (Q : VK) (h : TEm p ca X n none W (.lc el t it c vs) σ H Q) :
    tLc (TIm p ca X n none W it) (TGm X.K ca t) (TCm p ca X n c) (TEm p ca X n none noW el) vs σ H Q := by
  obtain ⟨ρ, e, st, at_, hf⟩ := h
  unfold tLc
  simp only [ev] at hf
  refine (goI at_ hf).imp fun J H1 ⟨ρ1, k, s2, pr, ex, at1, wk, _, hf1⟩ D hD => ?_
  have hs := at1.st
  generalize htr : turns k t (wipe vs e) (fun e1 s => if noneE c = true then pushTo s2.length (ev p (callF p n) el e1 s) else match evT p (callF p n) c e1 s with
        | .ok true s' => pushTo s2.length (ev p (callF p n) el e1 s')
        | .ok false s' => some s'
        | _ => none) (k.fuel s2) 0 (s2 ++ [⟨.lst [], false⟩]) = o at hf1
  cases o with
  | none => exact hf1.elim
  | some s3 =>
    have hn := hs.newU (o := .lst []) hD (.lst .nil)
    have xn : Ext H1 (upd H1 D (.lst [])) := Ext.new hD
    have pn : ρ1 <+: ρ1 ++ [D] := List.prefix_append _ _
    have hDn : (ρ1 ++ [D])[s2.length]? = some D := new_at hs.len
    refine ⟨Wt X.K ca (ρ1 ++ [D]) (upd H1 D (.lst [])) k t (wipe vs e) _ s3, ⟨k.fuel s2, ρ1 ++ [D], _, List.prefix_refl _, Ext.rf, hn, htr⟩, ?_⟩
    have step := turn_step (En := Q (.ref D)) (σ := L2.wipe σ vs) (vs := vs) (s3 := s3) (t := t) (e := wipe vs e) (el := fun e1 s => if noneE c = true then pushTo s2.length (ev p (callF p n) el e1 s) else match evT p (callF p n) c e1 s with
        | .ok true s' => pushTo s2.length (ev p (callF p n) el e1 s')
        | .ok false s' => some s'
        | _ => none) (G := fun σ2 H2 Nx => TCm p ca X n c σ2 H2 fun b H3 => if b = true then TEm p ca X n none noW el σ2 H3 fun y H4 => ∃ acc, H4 D = some (.lst acc) ∧ acc.length < sizeLine ∧ Nx (upd H4 D (.lst (acc ++ [y]))) else Nx H3)
      wk pn xn ((at_.env.wipe vs).mono (pr.trans pn) (ex.tr xn)) h7 (fun ρ' H' p2 x2 hs2 => hf1 ρ' H' _ (pn.trans p2) (xn.tr x2) hs2 (.ref (by
        obtain ⟨tt, rfl⟩ := p2
        rw [List.getElem?_append_left (by simp [hs.len])]; exact hDn)))
      (fun ρ' H' st' mv e1 σ2 st1 p2 x2 hs2 ea re es Nx hNx => by
        have hD2 : ρ'[s2.length]? = some D := by
          obtain ⟨tt, rfl⟩ := p2
          rw [List.getElem?_append_left (by simp [hs.len])]; exact hDn
        refine tests_ok (X := X) (n := n) (c := c) (st := st') (e := e1) (F := fun s' => pushTo s2.length (ev p (callF p n) el e1 s')) (F2 := fun s' => some s') (r := st1) ⟨hs2, re, trivial⟩ es (fun ρ3 H3 s' p3 x3 at3 e3 => ?_) (fun ρ3 H3 s' p3 x3 at3 e3 => ?_)
        · rw [if_pos rfl]
          refine push_ok (n0 := s2.length) at3 ?_ e3 fun ρ4 H4 p4 x4 hs4 => hNx ρ4 H4 (p3.trans p4) (x3.tr x4) hs4
          obtain ⟨tt, rfl⟩ := p3
          rw [List.getElem?_append_left (List.getElem?_eq_some_iff.mp hD2).1]; exact hD2
        · rw [if_neg (by decide)]
          cases e3
          exact hNx ρ3 H3 p3 x3 at3.st)
    intro i m H' hw
    rcases step i m H' hw with h | ⟨go, Nx, n1, n2⟩
    · exact .inl h
    · refine .inr ⟨go, Nx, n1, fun x H2 y => ?_⟩
      obtain ⟨ρ5, st5, mv, e5, e6, a1, a2, a3, a4, a5⟩ := n2 x H2 y
      refine ⟨ρ5, st5, mv, e5, e6, a1, a2, a3, a4, fun σ' r1 r2 => ?_⟩
      obtain ⟨b1, b2⟩ := a5 σ' r1 r2
      exact ⟨b1.trans wipe_idem, b2⟩
theorem ev_lc {el it c : E} {t : Tg} {vs : List Nat} (he : EvP p ca fa fd ps el) (hi : EvI p ca fa fd ps it) (hc : EvT p ca fa fd ps c) : EvP p ca fa fd ps (.lc el t it c vs) := by
  intro X n W hx g tx h
  obtain ⟨elt, tg, iter, ifs, scope, pos, rfl, h1, h2, h3, h4, h5, h6, h7, h8⟩ := inv_lc h
  cases hx_none h1
  have hb := blkOk_by h2
  have calm := (g.cold rfl).1
  refine impPE (pe_lc (g := TGm X.K ca t) (te := TEm p ca X n none noW el) (tt := TCm p ca X n c) calm g.nd (hi X n W none g rfl tg iter h3 (enu_tg h4)) hb
    (fun s H C cl fp => tg_ok (ca := ca) (X := X.blk s H scope (compEnvC scope cl C X.env) fp) (fnb := cellB scope) (fun x z => z) g.nd (fun _ => calm) h5)
    (fun s H C cl fp => chkC_ok (gd_blk g s H scope _ fp) hc h8)
    (fun s H C cl fp => he _ n noW none (gd_blk g s H scope _ fp) elt h6) (fold_set (iter_set h3) _)) fun σ H Q h => ?_
  rw [own_ix]
  exact lc_imp h7 σ H Q h
theorem dc_imp {X : Cx} {n : Nat} {W : WX} {kx el it c : E} {t : Tg} {vs : List Nat} (h7 : ∀ i ∈ tgIx t, i ∈ vs) (σ : L2.St) (H : Hp) (Q : VK) (h : TEm p ca X n none W (.dc kx el t it c vs) σ H Q) :
    tDc (TIm p ca X n none W it) (TGm X.K ca t) (TCm p ca X n c) (TEm p ca X n none noW kx) (TEm p ca X n none noW el) vs σ H Q := by
  obtain ⟨ρ, e, st, at_, hf⟩ := h
  unfold tDc
  simp only [ev] at hf
  refine (goI at_ hf).imp fun J H1 ⟨ρ1, k, s2, pr, ex, at1, wk, _, hf1⟩ D hD => ?_
  have hs := at1.st
  generalize htr : turns k t (wipe vs e) (fun e1 s => if noneE c = true then pairTo s2.length ((ev p (callF p n) kx e1 s).bind fun a s' => (ev p (callF p n) el e1 s').bind fun b s' => Res.ok (a, b) s') else match evT p (callF p n) c e1 s with
        | .ok true s' => pairTo s2.length ((ev p (callF p n) kx e1 s').bind fun a s' => (ev p (callF p n) el e1 s').bind fun b s' => Res.ok (a, b) s')
        | .ok false s' => some s'
        | _ => none) (k.fuel s2) 0 (s2 ++ [⟨.dct [], false⟩]) = o at hf1
  cases o with
  | none => exact hf1.elim
  | some s3 =>
    have hn := hs.newU (o := .dct []) hD (.dct .nil)
    have xn : Ext H1 (upd H1 D (.dK [])) := Ext.new hD
    have pn : ρ1 <+: ρ1 ++ [D] := List.prefix_append _ _
    have hDn : (ρ1 ++ [D])[s2.length]? = some D := new_at hs.len
    refine ⟨Wt X.K ca (ρ1 ++ [D]) (upd H1 D (.dK [])) k t (wipe vs e) _ s3, ⟨k.fuel s2, ρ1 ++ [D], _, List.prefix_refl _, Ext.rf, hn, htr⟩, ?_⟩
    have step := turn_step (En := Q (.ref D)) (σ := L2.wipe σ vs) (vs := vs) (s3 := s3) (t := t) (e := wipe vs e) (el := fun e1 s => if noneE c = true then pairTo s2.length ((ev p (callF p n) kx e1 s).bind fun a s' => (ev p (callF p n) el e1 s').bind fun b s' => Res.ok (a, b) s') else match evT p (callF p n) c e1 s with
        | .ok true s' => pairTo s2.length ((ev p (callF p n) kx e1 s').bind fun a s' => (ev p (callF p n) el e1 s').bind fun b s' => Res.ok (a, b) s')
        | .ok false s' => some s'
        | _ => none) (G := fun σ2 H2 Nx => TCm p ca X n c σ2 H2 fun b H3 => if b = true then TEm p ca X n none noW kx σ2 H3 fun y H4 => TEm p ca X n none noW el σ2 H4 fun z H5 => ∃ kvs k, y = kV k ∧ H5 D = some (.dK kvs) ∧ kvs.length < sizeLine ∧ Nx (upd H5 D (.dK (putK kvs k z))) else Nx H3)
      wk pn xn ((at_.env.wipe vs).mono (pr.trans pn) (ex.tr xn)) h7 (fun ρ' H' p2 x2 hs2 => hf1 ρ' H' _ (pn.trans p2) (xn.tr x2) hs2 (.ref (by
        obtain ⟨tt, rfl⟩ := p2
        rw [List.getElem?_append_left (by simp [hs.len])]; exact hDn)))
      (fun ρ' H' st' mv e1 σ2 st1 p2 x2 hs2 ea re es Nx hNx => by
        have hD2 : ρ'[s2.length]? = some D := by
          obtain ⟨tt, rfl⟩ := p2
          rw [List.getElem?_append_left (by simp [hs.len])]; exact hDn
        refine tests_ok (X := X) (n := n) (c := c) (st := st') (e := e1) (F := fun s' => pairTo s2.length ((ev p (callF p n) kx e1 s').bind fun a s' => (ev p (callF p n) el e1 s').bind fun b s' => Res.ok (a, b) s')) (F2 := fun s' => some s') (r := st1) ⟨hs2, re, trivial⟩ es (fun ρ3 H3 s' p3 x3 at3 e3 => ?_) (fun ρ3 H3 s' p3 x3 at3 e3 => ?_)
        · rw [if_pos rfl]
          refine pair_ok (n0 := s2.length) at3 ?_ e3 fun ρ4 H4 p4 x4 hs4 => hNx ρ4 H4 (p3.trans p4) (x3.tr x4) hs4
          obtain ⟨tt, rfl⟩ := p3
          rw [List.getElem?_append_left (List.getElem?_eq_some_iff.mp hD2).1]; exact hD2
        · rw [if_neg (by decide)]
          cases e3
          exact hNx ρ3 H3 p3 x3 at3.st)
    intro i m H' hw
    rcases step i m H' hw with h | ⟨go, Nx, n1, n2⟩
    · exact .inl h
    · refine .inr ⟨go, Nx, n1, fun x H2 y => ?_⟩
      obtain ⟨ρ5, st5, mv, e5, e6, a1, a2, a3, a4, a5⟩ := n2 x H2 y
      refine ⟨ρ5, st5, mv, e5, e6, a1, a2, a3, a4, fun σ' r1 r2 => ?_⟩
      obtain ⟨b1, b2⟩ := a5 σ' r1 r2
      exact ⟨b1.trans wipe_idem, b2⟩
theorem ev_dc {kx el it c : E} {t : Tg} {vs : List Nat} (hk : EvP p ca fa fd ps kx) (he : EvP p ca fa fd ps el) (hi : EvI p ca fa fd ps it) (hc : EvT p ca fa fd ps c) : EvP p ca fa fd ps (.dc kx el t it c vs) := by
  intro X n W hx g tx h
  obtain ⟨kxe, elt, tg, iter, ifs, scope, pos, rfl, h1, h2, h3, h4, h5, h6, h7, h8, h9⟩ := inv_dc h
  cases hx_none h1
  have hb := blkOk_by h2
  have calm := (g.cold rfl).1
  refine impPE (pe_dc (g := TGm X.K ca t) (tk := TEm p ca X n none noW kx) (tv := TEm p ca X n none noW el) (tt := TCm p ca X n c) calm g.nd (hi X n W none g rfl tg iter h3 (enu_tg h4)) hb
    (fun s H C cl fp => tg_ok (ca := ca) (X := X.blk s H scope (compEnvC scope cl C X.env) fp) (fnb := cellB scope) (fun x z => z) g.nd (fun _ => calm) h5)
    (fun s H C cl fp => chkC_ok (gd_blk g s H scope _ fp) hc h8)
    (fun s H C cl fp => hk _ n noW none (gd_blk g s H scope _ fp) kxe h9)
    (fun s H C cl fp => he _ n noW none (gd_blk g s H scope _ fp) elt h6) (fold_set (iter_set h3) _)) fun σ H Q h => ?_
  rw [own_ix]
  exact dc_imp h7 σ H Q h
theorem lc2_imp {X : Cx} {n : Nat} {W : WX} {el it c it2 c2 : E} {t t2 : Tg} {vs vs2 : List Nat} (h7 : ∀ i ∈ tgIx t, i ∈ vs) (h12 : ∀ i ∈ tgIx t2, i ∈ vs2) (σ : L2.St) (H : Hp) (Q : VK) (h : TEm p ca X n none W (.lc2 el t it c t2 it2 c2 vs vs2) σ H Q) :
    tLc2 (TIm p ca X n none W it) (TGm X.K ca t) (TCm p ca X n c) (TIm p ca X n none noW it2) (TGm X.K ca t2) (TCm p ca X n c2) (TEm p ca X n none noW el) vs vs2 σ H Q := by
  obtain ⟨ρ, e, st, at_, hf⟩ := h
  unfold tLc2
  simp only [ev] at hf
  refine (goI at_ hf).imp fun J H1 ⟨ρ1, k, s2, pr, ex, at1, wk, _, hf1⟩ D hD => ?_
  have hs := at1.st
  generalize hinn : (fun e2 s6 => if noneE c2 = true then pushTo s2.length (ev p (callF p n) el e2 s6) else match evT p (callF p n) c2 e2 s6 with
              | .ok true s' => pushTo s2.length (ev p (callF p n) el e2 s')
              | .ok false s' => some s'
              | _ => none : Env → Store → Option Store) = inn at hf1
  generalize hout : (fun e1 s => match (if noneE c = true then .ok true s else evT p (callF p n) c e1 s) with
        | .ok true s' => match evI p (callF p n) it2 e1 s' with
          | .ok k2 s5 => turns k2 t2 (wipe vs2 e1) inn (k2.fuel s5) 0 s5
          | _ => none
        | .ok false s' => some s'
        | _ => none : Env → Store → Option Store) = out at hf1
  generalize htr : turns k t (wipe vs e) out (k.fuel s2) 0 (s2 ++ [⟨.lst [], false⟩]) = o at hf1
  cases o with
  | none => exact hf1.elim
  | some s3 =>
    have hn := hs.newU (o := .lst []) hD (.lst .nil)
    have xn : Ext H1 (upd H1 D (.lst [])) := Ext.new hD
    have pn : ρ1 <+: ρ1 ++ [D] := List.prefix_append _ _
    have hDn : (ρ1 ++ [D])[s2.length]? = some D := new_at hs.len
    have keepD : ∀ {ρ' : List Addr}, ρ1 ++ [D] <+: ρ' → ρ'[s2.length]? = some D := fun {ρ'} p2 => by
      obtain ⟨tt, rfl⟩ := p2
      rw [List.getElem?_append_left (by simp [hs.len])]; exact hDn
    refine ⟨Wt X.K ca (ρ1 ++ [D]) (upd H1 D (.lst [])) k t (wipe vs e) out s3, ⟨k.fuel s2, ρ1 ++ [D], _, List.prefix_refl _, Ext.rf, hn, htr⟩, ?_⟩
    have step := turn_step (En := Q (.ref D)) (σ := L2.wipe σ vs) (vs := vs) (s3 := s3) (t := t) (e := wipe vs e) (el := out) (G := fun σ2 H2 Nx => TCm p ca X n c σ2 H2 fun b H3 => if b = true then TIm p ca X n none noW it2 σ2 H3 (fun J1 H4 => ∃ W1 : Nat → Nat → Hp → Prop, (∃ m, W1 0 m H4) ∧ ∀ j k H, W1 j k H →
          (J1.stop j H ∧ Nx H) ∨ (J1.go j H ∧ ∃ Nx1 : Hp → Prop, (∀ H', Nx1 H' → ∃ k', k' < k ∧ W1 (j + 1) k' H') ∧ ∀ x H', J1.yld j H x H' → TGm X.K ca t2 x (L2.wipe σ2 vs2) H' fun σ3 H5 => L2.wipe σ3 vs2 = L2.wipe σ2 vs2 ∧ TCm p ca X n c2 σ3 H5 fun b H6 =>
            if b = true then TEm p ca X n none noW el σ3 H6 fun y H7 => ∃ acc, H7 D = some (.lst acc) ∧ acc.length < sizeLine ∧ Nx1 (upd H7 D (.lst (acc ++ [y]))) else Nx1 H6)) else Nx H3)
      wk pn xn ((at_.env.wipe vs).mono (pr.trans pn) (ex.tr xn)) h7 (fun ρ' H' p2 x2 hs2 => hf1 ρ' H' _ (pn.trans p2) (xn.tr x2) hs2 (.ref (keepD p2)))
      (fun ρ' H' st' mv e1 σ2 st1 p2 x2 hs2 ea re es Nx hNx => by
        have es' : (if noneE c = true then (match evI p (callF p n) it2 e1 st' with
              | .ok k2 s5 => turns k2 t2 (wipe vs2 e1) inn (k2.fuel s5) 0 s5
              | _ => none) else match evT p (callF p n) c e1 st' with
            | .ok true s' => (match evI p (callF p n) it2 e1 s' with
              | .ok k2 s5 => turns k2 t2 (wipe vs2 e1) inn (k2.fuel s5) 0 s5
              | _ => none)
            | .ok false s' => some s'
            | _ => none) = some st1 := by
          rw [← hout] at es
          by_cases hnn : noneE c = true
          · simp only [if_pos hnn] at es ⊢; exact es
          · simp only [if_neg hnn] at es ⊢; exact es
        refine tests_ok (X := X) (n := n) (c := c) (st := st') (e := e1) (F := fun s' => (match evI p (callF p n) it2 e1 s' with
              | .ok k2 s5 => turns k2 t2 (wipe vs2 e1) inn (k2.fuel s5) 0 s5
              | _ => none)) (F2 := fun s' => some s') (r := st1) ⟨hs2, re, trivial⟩ es' (fun ρ3 H3 s' p3 x3 at3 e3 => ?_) (fun ρ3 H3 s' p3 x3 at3 e3 => ?_)
        · rw [if_pos rfl]
          refine ⟨ρ3, e1, s', at3, ?_⟩
          split at e3
          · rename_i k2 s5 e5
            rw [e5]
            intro ρ4 H4 J1 p4 x4 hs4 wk4
            refine ⟨Wt X.K ca ρ4 H4 k2 t2 (wipe vs2 e1) inn st1, ⟨k2.fuel s5, ρ4, s5, List.prefix_refl _, Ext.rf, hs4, e3⟩, ?_⟩
            have step2 := turn_step (En := Nx) (σ := L2.wipe σ2 vs2) (vs := vs2) (s3 := st1) (t := t2) (e := wipe vs2 e1) (el := inn) (G := fun σ3 H5 Nx1 => TCm p ca X n c2 σ3 H5 fun b H6 =>
                if b = true then TEm p ca X n none noW el σ3 H6 fun y H7 => ∃ acc, H7 D = some (.lst acc) ∧ acc.length < sizeLine ∧ Nx1 (upd H7 D (.lst (acc ++ [y]))) else Nx1 H6)
              wk4 (List.prefix_refl _) Ext.rf ((at3.env.wipe vs2).mono p4 x4) h12 (fun ρ6 H6 p6 x6 hs6 => hNx ρ6 H6 ((p3.trans p4).trans p6) ((x3.tr x4).tr x6) hs6)
              (fun ρ6 H6 st6 mv6 e6 σ6 st7 p6 x6 hs6 ea6 re6 es6 Nx1 hN1 => by
                rw [← hinn] at es6
                refine tests_ok (X := X) (n := n) (c := c2) (st := st6) (e := e6) (F := fun s' => pushTo s2.length (ev p (callF p n) el e6 s')) (F2 := fun s' => some s') (r := st7) ⟨hs6, re6, trivial⟩ es6 (fun ρ7 H7 s7 p7 x7 at7 e7 => ?_) (fun ρ7 H7 s7 p7 x7 at7 e7 => ?_)
                · rw [if_pos rfl]
                  exact push_ok (n0 := s2.length) at7 (keepD ((((p2.trans p3).trans p4).trans p6).trans p7)) e7 fun ρ8 H8 p8 x8 hs8 => hN1 ρ8 H8 (p7.trans p8) (x7.tr x8) hs8
                · rw [if_neg (by decide)]
                  cases e7
                  exact hN1 ρ7 H7 p7 x7 at7.st)
            intro j m H' hw
            rcases step2 j m H' hw with h | ⟨go, Nx1, n1, n2⟩
            · exact .inl h
            · refine .inr ⟨go, Nx1, n1, fun x H2 y => ?_⟩
              obtain ⟨ρ5, st5, mv, e5, e6, a1, a2, a3, a4, a5⟩ := n2 x H2 y
              refine ⟨ρ5, st5, mv, e5, e6, a1, a2, a3, a4, fun σ' r1 r2 => ?_⟩
              obtain ⟨b1, b2⟩ := a5 σ' r1 r2
              exact ⟨b1.trans wipe_idem, b2⟩
          · cases e3
        · rw [if_neg (by decide)]
          cases e3
          exact hNx ρ3 H3 p3 x3 at3.st)
    intro i m H' hw
    rcases step i m H' hw with h | ⟨go, Nx, n1, n2⟩
    · exact .inl h
    · refine .inr ⟨go, Nx, n1, fun x H2 y => ?_⟩
      obtain ⟨ρ5, st5, mv, e5, e6, a1, a2, a3, a4, a5⟩ := n2 x H2 y
      refine ⟨ρ5, st5, mv, e5, e6, a1, a2, a3, a4, fun σ' r1 r2 => ?_⟩
      obtain ⟨b1, b2⟩ := a5 σ' r1 r2
      exact ⟨b1.trans wipe_idem, b2⟩
theorem ev_lc2 {el it c it2 c2 : E} {t t2 : Tg} {vs vs2 : List Nat} (he : EvP p ca fa fd ps el) (hi : EvI p ca fa fd ps it) (hc : EvT p ca fa fd ps c) (hi2 : EvI p ca fa fd ps it2) (hc2 : EvT p ca fa fd ps c2) : EvP p ca fa fd ps (.lc2 el t it c t2 it2 c2 vs vs2) := by
  intro X n W hx g tx h
  obtain ⟨elt, tg, iter, ifs, tg2, iter2, ifs2, scope, pos, rfl, h1, h2, h3, h4, h5, h6, h7, h8, h9, h10, h11, h12, h13, h14⟩ := inv_lc2 h
  cases hx_none h1
  have hb := blkOk_by h2
  have calm := (g.cold rfl).1
  refine impPE (pe_lc2 (g := TGm X.K ca t) (g1 := TGm X.K ca t2) (te := TEm p ca X n none noW el) (tt := TCm p ca X n c) (tt1 := TCm p ca X n c2) (wi1 := TIm p ca X n none noW it2) (vs1 := vs2) calm g.nd (hi X n W none g rfl tg iter h3 (enu_tg h4)) hb (by rw [own_ix]; exact h13)
    (fun s H C cl fp => tg_ok (ca := ca) (X := X.blk s H scope (compEnvC scope cl C X.env) fp) (fnb := cellB scope) (fun x z => z) g.nd (fun _ => calm) h5)
    (fun s H C cl fp => chkC_ok (gd_blk g s H scope _ fp) hc h8)
    (fun s H C cl fp => hi2 _ n noW none (gd_blk g s H scope _ fp) rfl tg2 iter2 h9 (enu_tg h10))
    (fun s H C cl fp => tg_ok (ca := ca) (X := X.blk s H scope (compEnvC scope cl C X.env) fp) (fnb := cellB scope) (fun x z => z) g.nd (fun _ => calm) h11)
    (fun s H C cl fp => chkC_ok (gd_blk g s H scope _ fp) hc2 h14)
    (fun s H C cl fp => he _ n noW none (gd_blk g s H scope _ fp) elt h6) (fold_set (iter_set h3) _) (fun env => fold_set (iter_set h9) env)) fun σ H Q h => ?_
  rw [own_ix]
  exact lc2_imp h7 h12 σ H Q h
end
end AM
end

section
set_option maxRecDepth 100000
set_option maxHeartbeats 8000000
namespace AM
open PySem L2 PyProof.Rows
section
variable {p : Prog} {ca fa : Str → Addr} {fd : Str → FuncData} {ps : Str → List Str}
theorem bad_e {a : E} (h : ∀ N sc hot t, chkE N sc hot a t = false) : EvP p ca fa fd ps a := fun X n W hx g t ht => by rw [h] at ht; cases ht
theorem bad_l {a : E} (h : ∀ N sc hot t, chkL N sc hot a t = false) : EvL p ca fa fd ps a := fun X n W hx g t ht => by rw [h] at ht; cases ht
theorem bad_t {a : E} (h : ∀ N sc hot t, chkE N sc hot a t = false) : EvT p ca fa fd ps a := fun X n W hx g t ht => by rw [h] at ht; cases ht
theorem bad_i {a : E} (h : ∀ N sc hot t, chkI N sc hot a t = false) : EvI p ca fa fd ps a := fun X n W hx g hz tg t ht => by rw [h] at ht; cases ht
abbrev Four (p : Prog) (ca fa : Str → Addr) (fd : Str → FuncData) (ps : Str → List Str) (a : E) : Prop := EvP p ca fa fd ps a ∧ EvL p ca fa fd ps a ∧ EvT p ca fa fd ps a ∧ EvI p ca fa fd ps a
theorem chkI_E {a : E} (h : ∀ N sc hot t, chkI N sc hot a t = (chkE N sc hot a t && notSet t)) (N : List Str) (sc : Scope) (hot : Option Nat) (t : Expr) (hi : chkI N sc hot a t = true) : chkE N sc hot a t = true := by
  rw [h, Bool.and_eq_true] at hi; exact hi.1
/-- the usual: a value, its truth, a walk over it -/
theorem four {a : E} (hp : EvP p ca fa fd ps a) (hl : ∀ N sc hot t, chkL N sc hot a t = false) (ht : EvT p ca fa fd ps a) (hi : ∀ N sc hot t, chkI N sc hot a t = (chkE N sc hot a t && notSet t))
    (he : ∀ e st n, evI p (callF p n) a e st = (ev p (callF p n) a e st).bind fun v s1 => Res.of (iterV s1 v) s1) : Four p ca fa fd ps a :=
  ⟨hp, bad_l hl, ht, i_plain hp he (chkI_E hi)⟩
theorem four' {a : E} (hp : EvP p ca fa fd ps a) (hl : ∀ N sc hot t, chkL N sc hot a t = false) (hT : ∀ e st n, evT p (callF p n) a e st = (ev p (callF p n) a e st).bind fun v s1 => Res.of (truthy s1 v) s1)
    (hk : ∀ (N : List Str) (sc : Scope) hot t, chkE N sc hot a t = true → ∀ (env : PySem.Env) (whole : Sem Value), isTrue t env whole = (do let v ← whole; standAt t.pos; holding [v] (PySem.truthy v))) (hi : ∀ N sc hot t, chkI N sc hot a t = (chkE N sc hot a t && notSet t))
    (he : ∀ e st n, evI p (callF p n) a e st = (ev p (callF p n) a e st).bind fun v s1 => Res.of (iterV s1 v) s1) : Four p ca fa fd ps a :=
  four hp hl (t_plain hp hT hk) hi he
theorem fourBad {a : E} (h1 : ∀ N sc hot t, chkE N sc hot a t = false) (h2 : ∀ N sc hot t, chkL N sc hot a t = false) (h3 : ∀ N sc hot t, chkI N sc hot a t = false) : Four p ca fa fd ps a := ⟨bad_e h1, bad_l h2, bad_t h1, bad_i h3⟩
theorem stk_e {a : E} (h : ∀ e st n, ev p (callF p n) a e st = .stk) : EvP p ca fa fd ps a := fun X n W hx g t ht => pe_false fun σ H Q ⟨ρ, e, st, at_, hf⟩ => by rw [h] at hf; exact hf
theorem stk_t {a : E} (h : ∀ e st n, evT p (callF p n) a e st = .stk) : EvT p ca fa fd ps a := fun X n W hx g t ht => ⟨fun pins s σ H Q I ⟨ρ, e, st, at_, hf⟩ => by rw [h] at hf; exact hf.elim⟩
theorem bad_k {a : E} (h : ∀ N sc hot t, chkL N sc hot a t = false) : EvK p ca fa fd ps a := fun X n W hx g t ht => by rw [h] at ht; cases ht
theorem all_aux (a : E) : Four p ca fa fd ps a ∧ EvK p ca fa fd ps a := by
  induction a with
  | nil => exact ⟨⟨bad_e (by ((intro N sc hot t; cases t <;> simp [chkE, chkI, chkL]))), ev_nilL, bad_t (by ((intro N sc hot t; cases t <;> simp [chkE, chkI, chkL]))), bad_i (by ((intro N sc hot t; cases t <;> simp [chkE, chkI, chkL])))⟩, ev_nilK⟩
  | cons a r ha hr => exact ⟨⟨bad_e (by ((intro N sc hot t; cases t <;> simp [chkE, chkI, chkL]))), ev_consL ha.1.1 hr.1.2.1, bad_t (by ((intro N sc hot t; cases t <;> simp [chkE, chkI, chkL]))), bad_i (by ((intro N sc hot t; cases t <;> simp [chkE, chkI, chkL])))⟩, ev_consK ha.1.1 hr.2⟩
  | var i => exact ⟨four' (ev_var i) (by ((intro N sc hot t; rcases t with _ | ⟨_, _⟩ <;> simp [chkL]))) (by ((intro e st n; simp only [evT]))) (by ((intro N sc hot t h env whole; cases t <;> first | rfl | (simp [chkE] at h)))) (by ((intro N sc hot t; simp [chkI]))) (by ((intro e st n; simp only [evI]))), bad_k (by ((intro N sc hot t; rcases t with _ | ⟨_, _⟩ <;> simp [chkL])))⟩
  | non => exact ⟨four' ev_non (by ((intro N sc hot t; rcases t with _ | ⟨_, _⟩ <;> simp [chkL]))) (by ((intro e st n; simp only [evT]))) (by ((intro N sc hot t h env whole; cases t <;> first | rfl | (simp [chkE] at h)))) (by ((intro N sc hot t; simp [chkI]))) (by ((intro e st n; simp only [evI]))), bad_k (by ((intro N sc hot t; rcases t with _ | ⟨_, _⟩ <;> simp [chkL])))⟩
  | bl b => exact ⟨four' (ev_bl b) (by ((intro N sc hot t; rcases t with _ | ⟨_, _⟩ <;> simp [chkL]))) (by ((intro e st n; simp only [evT]))) (by ((intro N sc hot t h env whole; cases t <;> first | rfl | (simp [chkE] at h)))) (by ((intro N sc hot t; simp [chkI]))) (by ((intro e st n; simp only [evI]))), bad_k (by ((intro N sc hot t; rcases t with _ | ⟨_, _⟩ <;> simp [chkL])))⟩
  | int i => exact ⟨four' (ev_int i) (by ((intro N sc hot t; rcases t with _ | ⟨_, _⟩ <;> simp [chkL]))) (by ((intro e st n; simp only [evT]))) (by ((intro N sc hot t h env whole; cases t <;> first | rfl | (simp [chkE] at h)))) (by ((intro N sc hot t; simp [chkI]))) (by ((intro e st n; simp only [evI]))), bad_k (by ((intro N sc hot t; rcases t with _ | ⟨_, _⟩ <;> simp [chkL])))⟩
  | str s => exact ⟨four' (ev_str s) (by ((intro N sc hot t; rcases t with _ | ⟨_, _⟩ <;> simp [chkL]))) (by ((intro e st n; simp only [evT]))) (by ((intro N sc hot t h env whole; cases t <;> first | rfl | (simp [chkE] at h)))) (by ((intro N sc hot t; simp [chkI]))) (by ((intro e st n; simp only [evI]))), bad_k (by ((intro N sc hot t; rcases t with _ | ⟨_, _⟩ <;> simp [chkL])))⟩
  | con x => exact ⟨four' (ev_con x) (by ((intro N sc hot t; rcases t with _ | ⟨_, _⟩ <;> simp [chkL]))) (by ((intro e st n; simp only [evT]))) (by ((intro N sc hot t h env whole; cases t <;> first | rfl | (simp [chkE] at h)))) (by ((intro N sc hot t; simp [chkI]))) (by ((intro e st n; simp only [evI]))), bad_k (by ((intro N sc hot t; rcases t with _ | ⟨_, _⟩ <;> simp [chkL])))⟩
  | bin o a b ha hb => exact ⟨four' (ev_bin ha.1.1 hb.1.1) (by ((intro N sc hot t; rcases t with _ | ⟨_, _⟩ <;> simp [chkL]))) (by ((intro e st n; simp only [evT]))) (by ((intro N sc hot t h env whole; cases t <;> first | rfl | (simp [chkE] at h)))) (by ((intro N sc hot t; simp [chkI]))) (by ((intro e st n; simp only [evI]))), bad_k (by ((intro N sc hot t; rcases t with _ | ⟨_, _⟩ <;> simp [chkL])))⟩
  | neg a ha => exact ⟨four' (ev_neg ha.1.1) (by ((intro N sc hot t; rcases t with _ | ⟨_, _⟩ <;> simp [chkL]))) (by ((intro e st n; simp only [evT]))) (by intro N sc hot t h env whole; obtain ⟨r, pos, rfl, _⟩ := inv_neg h; rfl) (by ((intro N sc hot t; simp [chkI]))) (by ((intro e st n; simp only [evI]))), bad_k (by ((intro N sc hot t; rcases t with _ | ⟨_, _⟩ <;> simp [chkL])))⟩
  | not a ha => exact ⟨four (ev_not ha.1.1) (by ((intro N sc hot t; rcases t with _ | ⟨_, _⟩ <;> simp [chkL]))) (t_not ha.1.2.2.1) (by ((intro N sc hot t; simp [chkI]))) (by ((intro e st n; simp only [evI]))), bad_k (by ((intro N sc hot t; rcases t with _ | ⟨_, _⟩ <;> simp [chkL])))⟩
  | cmp o a b ha hb => exact ⟨four (ev_cmp ha.1.1 hb.1.1) (by ((intro N sc hot t; rcases t with _ | ⟨_, _⟩ <;> simp [chkL]))) (t_cmp ha.1.1 hb.1.1) (by ((intro N sc hot t; simp [chkI]))) (by ((intro e st n; simp only [evI]))), bad_k (by ((intro N sc hot t; rcases t with _ | ⟨_, _⟩ <;> simp [chkL])))⟩
  | chn o q a b c ha hb hc => exact ⟨four (ev_chn ha.1.1 hb.1.1 hc.1.1) (by ((intro N sc hot t; rcases t with _ | ⟨_, _⟩ <;> simp [chkL]))) (t_chn ha.1.1 hb.1.1 hc.1.1) (by ((intro N sc hot t; simp [chkI]))) (by ((intro e st n; simp only [evI]))), bad_k (by ((intro N sc hot t; rcases t with _ | ⟨_, _⟩ <;> simp [chkL])))⟩
  | and a b ha hb => exact ⟨four (ev_and ha.1.1 hb.1.1) (by ((intro N sc hot t; rcases t with _ | ⟨_, _⟩ <;> simp [chkL]))) (t_and ha.1.2.2.1 hb.1.2.2.1) (by ((intro N sc hot t; simp [chkI]))) (by ((intro e st n; simp only [evI]))), bad_k (by ((intro N sc hot t; rcases t with _ | ⟨_, _⟩ <;> simp [chkL])))⟩
  | or a b ha hb => exact ⟨four (ev_or ha.1.1 hb.1.1) (by ((intro N sc hot t; rcases t with _ | ⟨_, _⟩ <;> simp [chkL]))) (t_or ha.1.2.2.1 hb.1.2.2.1) (by ((intro N sc hot t; simp [chkI]))) (by ((intro e st n; simp only [evI]))), bad_k (by ((intro N sc hot t; rcases t with _ | ⟨_, _⟩ <;> simp [chkL])))⟩
  | ife c a b hc ha hb => exact ⟨four (ev_ife hc.1.2.2.1 ha.1.1 hb.1.1) (by ((intro N sc hot t; rcases t with _ | ⟨_, _⟩ <;> simp [chkL]))) t_ife (by ((intro N sc hot t; simp [chkI]))) (by ((intro e st n; simp only [evI]))), bad_k (by ((intro N sc hot t; rcases t with _ | ⟨_, _⟩ <;> simp [chkL])))⟩
  | tup l hl => exact ⟨four' (ev_tup hl.1.2.1) (by ((intro N sc hot t; rcases t with _ | ⟨_, _⟩ <;> simp [chkL]))) (by ((intro e st n; simp only [evT]))) (by ((intro N sc hot t h env whole; cases t <;> first | rfl | (simp [chkE] at h)))) (by ((intro N sc hot t; simp [chkI]))) (by ((intro e st n; simp only [evI]))), bad_k (by ((intro N sc hot t; rcases t with _ | ⟨_, _⟩ <;> simp [chkL])))⟩
  | lst l hl => exact ⟨four' (ev_lst hl.1.2.1) (by ((intro N sc hot t; rcases t with _ | ⟨_, _⟩ <;> simp [chkL]))) (by ((intro e st n; simp only [evT]))) (by ((intro N sc hot t h env whole; cases t <;> first | rfl | (simp [chkE] at h)))) (by ((intro N sc hot t; simp [chkI]))) (by ((intro e st n; simp only [evI]))), bad_k (by ((intro N sc hot t; rcases t with _ | ⟨_, _⟩ <;> simp [chkL])))⟩
  | call f l hl => exact ⟨four' (ev_call hl.1.2.1) (by ((intro N sc hot t; rcases t with _ | ⟨_, _⟩ <;> simp [chkL]))) (by ((intro e st n; simp only [evT]))) (by ((intro N sc hot t h env whole; cases t <;> first | rfl | (simp [chkE] at h)))) (by ((intro N sc hot t; simp [chkI]))) (by ((intro e st n; simp only [evI]))), bad_k (by ((intro N sc hot t; rcases t with _ | ⟨_, _⟩ <;> simp [chkL])))⟩
  | make c l hl => exact ⟨four' (ev_make hl.1.2.1) (by ((intro N sc hot t; rcases t with _ | ⟨_, _⟩ <;> simp [chkL]))) (by ((intro e st n; simp only [evT]))) (by ((intro N sc hot t h env whole; cases t <;> first | rfl | (simp [chkE] at h)))) (by ((intro N sc hot t; simp [chkI]))) (by ((intro e st n; simp only [evI]))), bad_k (by ((intro N sc hot t; rcases t with _ | ⟨_, _⟩ <;> simp [chkL])))⟩
  | bi f l hl => exact ⟨four' (ev_bi hl.1.2.1) (by ((intro N sc hot t; rcases t with _ | ⟨_, _⟩ <;> simp [chkL]))) (by ((intro e st n; simp only [evT]))) (by ((intro N sc hot t h env whole; cases t <;> first | rfl | (simp [chkE] at h)))) (by ((intro N sc hot t; simp [chkI]))) (by ((intro e st n; simp only [evI]))), bad_k (by ((intro N sc hot t; rcases t with _ | ⟨_, _⟩ <;> simp [chkL])))⟩
  | om o m l ho hl => exact ⟨four' (ev_om ho.1.1 hl.1.2.1) (by ((intro N sc hot t; rcases t with _ | ⟨_, _⟩ <;> simp [chkL]))) (by ((intro e st n; simp only [evT]))) (by ((intro N sc hot t h env whole; cases t <;> first | rfl | (simp [chkE] at h)))) (by ((intro N sc hot t; simp [chkI]))) (by ((intro e st n; simp only [evI]))), bad_k (by ((intro N sc hot t; rcases t with _ | ⟨_, _⟩ <;> simp [chkL])))⟩
  | bm o m l ho hl => exact ⟨four' (ev_bm ho.1.1 hl.1.2.1) (by ((intro N sc hot t; rcases t with _ | ⟨_, _⟩ <;> simp [chkL]))) (by ((intro e st n; simp only [evT]))) (by ((intro N sc hot t h env whole; cases t <;> first | rfl | (simp [chkE] at h)))) (by ((intro N sc hot t; simp [chkI]))) (by ((intro e st n; simp only [evI]))), bad_k (by ((intro N sc hot t; rcases t with _ | ⟨_, _⟩ <;> simp [chkL])))⟩
  | attr o f ho => exact ⟨four' (ev_attr ho.1.1) (by ((intro N sc hot t; rcases t with _ | ⟨_, _⟩ <;> simp [chkL]))) (by ((intro e st n; simp only [evT]))) (by ((intro N sc hot t h env whole; cases t <;> first | rfl | (simp [chkE] at h)))) (by ((intro N sc hot t; simp [chkI]))) (by ((intro e st n; simp only [evI]))), bad_k (by ((intro N sc hot t; rcases t with _ | ⟨_, _⟩ <;> simp [chkL])))⟩
  | sub a b ha hb => exact ⟨four' (ev_sub ha.1.1 hb.1.1) (by ((intro N sc hot t; rcases t with _ | ⟨_, _⟩ <;> simp [chkL]))) (by ((intro e st n; simp only [evT]))) (by ((intro N sc hot t h env whole; cases t <;> first | rfl | (simp [chkE] at h)))) (by ((intro N sc hot t; simp [chkI]))) (by ((intro e st n; simp only [evI]))), bad_k (by ((intro N sc hot t; rcases t with _ | ⟨_, _⟩ <;> simp [chkL])))⟩
  | slc a lo hi ha hl hh => exact ⟨four' (ev_slc ha.1.1 hl.1.1 hh.1.1) (by ((intro N sc hot t; rcases t with _ | ⟨_, _⟩ <;> simp [chkL]))) (by ((intro e st n; simp only [evT]))) (by ((intro N sc hot t h env whole; cases t <;> first | rfl | (simp [chkE] at h)))) (by ((intro N sc hot t; simp [chkI]))) (by ((intro e st n; simp only [evI]))), bad_k (by ((intro N sc hot t; rcases t with _ | ⟨_, _⟩ <;> simp [chkL])))⟩
  | lc el t it c vs hel hit hc => exact ⟨four' (ev_lc hel.1.1 hit.1.2.2.2 hc.1.2.2.1) (by ((intro N sc hot t; rcases t with _ | ⟨_, _⟩ <;> simp [chkL]))) (by ((intro e st n; simp only [evT]))) (by ((intro N sc hot t h env whole; cases t <;> first | rfl | (simp [chkE] at h)))) (by ((intro N sc hot t; simp [chkI]))) (by ((intro e st n; simp only [evI]))), bad_k (by ((intro N sc hot t; rcases t with _ | ⟨_, _⟩ <;> simp [chkL])))⟩
  | bid f l hl => exact ⟨four' (ev_bid hl.1.2.1) (by ((intro N sc hot t; rcases t with _ | ⟨_, _⟩ <;> simp [chkL]))) (by ((intro e st n; simp only [evT]))) (by ((intro N sc hot t h env whole; cases t <;> first | rfl | (simp [chkE] at h)))) (by ((intro N sc hot t; simp [chkI]))) (by ((intro e st n; simp only [evI]))), bad_k (by ((intro N sc hot t; rcases t with _ | ⟨_, _⟩ <;> simp [chkL])))⟩
  | dgt o k d ho hk hd => exact ⟨four' (ev_dgt ho.1.1 hk.1.1 hd.1.1) (by ((intro N sc hot t; rcases t with _ | ⟨_, _⟩ <;> simp [chkL]))) (by ((intro e st n; simp only [evT]))) (by ((intro N sc hot t h env whole; cases t <;> first | rfl | (simp [chkE] at h)))) (by ((intro N sc hot t; simp [chkI]))) (by ((intro e st n; simp only [evI]))), bad_k (by ((intro N sc hot t; rcases t with _ | ⟨_, _⟩ <;> simp [chkL])))⟩
  | d0 => exact ⟨four' ev_d0 (by ((intro N sc hot t; rcases t with _ | ⟨_, _⟩ <;> simp [chkL]))) (by ((intro e st n; simp only [evT]))) (by ((intro N sc hot t h env whole; cases t <;> first | rfl | (simp [chkE] at h)))) (by ((intro N sc hot t; simp [chkI]))) (by ((intro e st n; simp only [evI]))), bad_k (by ((intro N sc hot t; rcases t with _ | ⟨_, _⟩ <;> simp [chkL])))⟩
  | d1 k v hk hv => exact ⟨four' (ev_d1 hk.1.1 hv.1.1) (by ((intro N sc hot t; rcases t with _ | ⟨_, _⟩ <;> simp [chkL]))) (by ((intro e st n; simp only [evT]))) (by ((intro N sc hot t h env whole; cases t <;> first | rfl | (simp [chkE] at h)))) (by ((intro N sc hot t; simp [chkI]))) (by ((intro e st n; simp only [evI]))), bad_k (by ((intro N sc hot t; rcases t with _ | ⟨_, _⟩ <;> simp [chkL])))⟩
  | dc kx el t it c vs hk hel hit hc => exact ⟨four' (ev_dc hk.1.1 hel.1.1 hit.1.2.2.2 hc.1.2.2.1) (by ((intro N sc hot t; rcases t with _ | ⟨_, _⟩ <;> simp [chkL]))) (by ((intro e st n; simp only [evT]))) (by ((intro N sc hot t h env whole; cases t <;> first | rfl | (simp [chkE] at h)))) (by ((intro N sc hot t; simp [chkI]))) (by ((intro e st n; simp only [evI]))), bad_k (by ((intro N sc hot t; rcases t with _ | ⟨_, _⟩ <;> simp [chkL])))⟩
  | lc2 el t it c t2 it2 c2 vs vs2 hel hit hc hit2 hc2 => exact ⟨four' (ev_lc2 hel.1.1 hit.1.2.2.2 hc.1.2.2.1 hit2.1.2.2.2 hc2.1.2.2.1) (by ((intro N sc hot t; rcases t with _ | ⟨_, _⟩ <;> simp [chkL]))) (by ((intro e st n; simp only [evT]))) (by ((intro N sc hot t h env whole; cases t <;> first | rfl | (simp [chkE] at h)))) (by ((intro N sc hot t; simp [chkI]))) (by ((intro e st n; simp only [evI]))), bad_k (by ((intro N sc hot t; rcases t with _ | ⟨_, _⟩ <;> simp [chkL])))⟩
  | exv => exact ⟨four' ev_exv (by ((intro N sc hot t; rcases t with _ | ⟨_, _⟩ <;> simp [chkL]))) (by ((intro e st n; simp only [evT]))) (by ((intro N sc hot t h env whole; cases t <;> first | rfl | (simp [chkE] at h)))) (by ((intro N sc hot t; simp [chkI]))) (by ((intro e st n; simp only [evI]))), bad_k (by ((intro N sc hot t; rcases t with _ | ⟨_, _⟩ <;> simp [chkL])))⟩
  | exi c => exact ⟨four' ev_exi (by ((intro N sc hot t; rcases t with _ | ⟨_, _⟩ <;> simp [chkL]))) (by ((intro e st n; simp only [evT]))) (by intro N sc hot t h env whole; obtain ⟨q, x, q1, q2, pos, j, rfl, _⟩ := inv_exi h; rfl) (by ((intro N sc hot t; simp [chkI]))) (by ((intro e st n; simp only [evI]))), bad_k (by ((intro N sc hot t; rcases t with _ | ⟨_, _⟩ <;> simp [chkL])))⟩
  | isi a c ha => exact ⟨fourBad (by ((intro N sc hot t; cases t <;> simp [chkE, chkI, chkL]))) (by ((intro N sc hot t; cases t <;> simp [chkE, chkI, chkL]))) (by ((intro N sc hot t; cases t <;> simp [chkE, chkI, chkL]))), bad_k (by ((intro N sc hot t; rcases t with _ | ⟨_, _⟩ <;> simp [chkL])))⟩
  | makek c ks q l hl => exact ⟨four' (ev_makek hl.2) (by ((intro N sc hot t; rcases t with _ | ⟨_, _⟩ <;> simp [chkL]))) (by ((intro e st n; simp only [evT]))) (by ((intro N sc hot t h env whole; cases t <;> first | rfl | (simp [chkE] at h)))) (by ((intro N sc hot t; simp [chkI]))) (by ((intro e st n; simp only [evI]))), bad_k (by ((intro N sc hot t; rcases t with _ | ⟨_, _⟩ <;> simp [chkL])))⟩
  | rng1 a ha => exact ⟨⟨stk_e (by intro e st n; simp only [ev]), bad_l (by ((intro N sc hot t; rcases t with _ | ⟨_, _⟩ <;> simp [chkL]))), stk_t (by intro e st n; simp only [evT, ev]; rfl), i_rng1 ha.1.1⟩, bad_k (by ((intro N sc hot t; rcases t with _ | ⟨_, _⟩ <;> simp [chkL])))⟩
  | rng2 a b ha hb => exact ⟨⟨stk_e (by intro e st n; simp only [ev]), bad_l (by ((intro N sc hot t; rcases t with _ | ⟨_, _⟩ <;> simp [chkL]))), stk_t (by intro e st n; simp only [evT, ev]; rfl), i_rng2 ha.1.1 hb.1.1⟩, bad_k (by ((intro N sc hot t; rcases t with _ | ⟨_, _⟩ <;> simp [chkL])))⟩
  | enu a ha => exact ⟨⟨stk_e (by intro e st n; simp only [ev]), bad_l (by ((intro N sc hot t; rcases t with _ | ⟨_, _⟩ <;> simp [chkL]))), stk_t (by intro e st n; simp only [evT, ev]; rfl), i_enu ha.1.1⟩, bad_k (by ((intro N sc hot t; rcases t with _ | ⟨_, _⟩ <;> simp [chkL])))⟩
  | itm a ha => exact ⟨⟨stk_e (by intro e st n; simp only [ev]), bad_l (by ((intro N sc hot t; rcases t with _ | ⟨_, _⟩ <;> simp [chkL]))), stk_t (by intro e st n; simp only [evT, ev]; rfl), i_itm ha.1.1⟩, bad_k (by ((intro N sc hot t; rcases t with _ | ⟨_, _⟩ <;> simp [chkL])))⟩
  | cal o l ho hl => exact ⟨four' (ev_cal ho.1.1 hl.1.2.1) (by ((intro N sc hot t; rcases t with _ | ⟨_, _⟩ <;> simp [chkL]))) (by ((intro e st n; simp only [evT]))) (by ((intro N sc hot t h env whole; cases t <;> first | rfl | (simp [chkE] at h)))) (by ((intro N sc hot t; simp [chkI]))) (by ((intro e st n; simp only [evI]))), bad_k (by ((intro N sc hot t; rcases t with _ | ⟨_, _⟩ <;> simp [chkL])))⟩
  | omk o m ks q l ho hl => exact ⟨four' (ev_omk ho.1.1 hl.2) (by ((intro N sc hot t; rcases t with _ | ⟨_, _⟩ <;> simp [chkL]))) (by ((intro e st n; simp only [evT]))) (by ((intro N sc hot t h env whole; cases t <;> first | rfl | (simp [chkE] at h)))) (by ((intro N sc hot t; simp [chkI]))) (by ((intro e st n; simp only [evI]))), bad_k (by ((intro N sc hot t; rcases t with _ | ⟨_, _⟩ <;> simp [chkL])))⟩
  | clm c m l hl => exact ⟨four' (ev_clm hl.1.2.1) (by ((intro N sc hot t; rcases t with _ | ⟨_, _⟩ <;> simp [chkL]))) (by ((intro e st n; simp only [evT]))) (by ((intro N sc hot t h env whole; cases t <;> first | rfl | (simp [chkE] at h)))) (by ((intro N sc hot t; simp [chkI]))) (by ((intro e st n; simp only [evI]))), bad_k (by ((intro N sc hot t; rcases t with _ | ⟨_, _⟩ <;> simp [chkL])))⟩
  | isb a x ha => exact ⟨four' (ev_isb ha.1.1) (by ((intro N sc hot t; rcases t with _ | ⟨_, _⟩ <;> simp [chkL]))) (by ((intro e st n; simp only [evT]))) (by intro N sc hot t h env whole; obtain ⟨q, e, q2, pos, rfl, _⟩ := inv_isb h; rfl) (by ((intro N sc hot t; simp [chkI]))) (by ((intro e st n; simp only [evI]))), bad_k (by ((intro N sc hot t; rcases t with _ | ⟨_, _⟩ <;> simp [chkL])))⟩
theorem all_ok (a : E) : Four p ca fa fd ps a := (all_aux a).1
end
end AM
end

section
set_option maxRecDepth 100000
set_option maxHeartbeats 8000000
namespace AM
open PySem L2 PyProof.Rows

def swNames (sc : Scope) (ts : List Expr) : List Str := ts.filterMap fun
  | .Name id pos => if sc.names.lookup id == some .local && pos.line == ((ts.head?.map (·.pos.line)).getD 0) then some id else none
  | _ => none
def swNone (sc : Scope) (ts vs : List Expr) : Bool :=
  !(ts.length == 2 || ts.length == 3) || vs.length != ts.length || (vs.any fun | .Starred .. => true | _ => false) || (swNames sc ts).length != ts.length || (swNames sc ts).eraseDups.length != (swNames sc ts).length || vs.all (foldedForSure 8)
def asgOk (sc : Scope) : Expr → Expr → Bool
  | .Tuple ts _ _, .Tuple vs _ _ => swNone sc ts vs || !vs.all (constantsAlone 8)
  | _, _ => true
def notComp : Expr → Bool
  | .ListComp .. => false
  | .SetComp .. => false
  | .DictComp .. => false
  | _ => true
def notIn (hot : Option Nat) (t : Tg) : Bool :=
  match hot with
  | none => true
  | some i => match t with
    | .nm j => i != j
    | .tp _ => false
section
variable (N : List Str)
mutual
def chkS (sc : Scope) (hot : Option Nat) : S → List Stmt → Bool
  | .skip, [] => true
  | .skip, [.Pass _] => true
  | .seq a b, st :: s2 :: rest => chkS sc hot a [st] && chkS sc hot b (s2 :: rest)
  | .asg t e, [.Assign [tg] v _] => chkE N sc hot e v && chkT N (fun _ => true) sc t tg && notIn hot t && asgOk sc tg v
  | .asgA o f e, [.Assign [.Attribute ox x _] v _] => decide (f = x) && chkE N sc hot e v && chkE N sc hot o ox && hot.isNone
  | .asgS o i e, [.Assign [.Subscript ox ix _] v _] => chkE N sc hot e v && chkE N sc hot o ox && chkE N sc hot i ix && notSlc ix && hot.isNone
  | .drop e, [.Expr v _] => chkE N sc hot e v && notComp v
  | .ret e, [.Return (some v) _] => chkE N sc hot e v
  | .retN, [.Return none _] => true
  | .ifs c a b, [.If t p q _] => chkE N sc hot c t && chkS sc hot a p && chkS sc hot b q
  | .for t it b, [.For tg iter body [] _] => hot.isNone && chkI N sc hot it iter && enuOk it tg && chkT N (fun _ => true) sc t tg && chkS sc hot b body
  | .rais c l, [.Raise (some (.Call (.Name x _) (e1 :: es) [] _)) none _] => decide (c = x) && glB sc x && okN x && chkL N sc hot l (e1 :: es) && hot.isNone
  | .lkS _ _ b, [st] => hot.isNone && chkS sc hot b [st]
  | .tri b h, [.Try body (hd :: hds) [] [] _] => hot.isNone && chkS sc none b body && chkH sc h (hd :: hds)
  | _, _ => false
/-- the clauses of a try -/
def chkH (sc : Scope) : S → List ExceptHandler → Bool
  | .hnd c (some i) bs r, .ExceptHandler (some (.Name x _)) (some nm) (s0 :: ss) _ :: hs => decide (c = x) && glB sc x && okN x && decide (N[i]? = some nm) && locB sc nm && chkS sc (some i) bs (s0 :: ss) && chkH sc r hs
  | .noh, [] => true
  | _, _ => false
end
end

section
variable (p : Prog) (ca fa : Str → Addr) (fd : Str → FuncData) (ps : Str → List Str)
def FinS (K : Frg) (hx : Option Hx) (o : Out) (ρ : List Addr) (H : Hp) (D : Ends) (W : WX) : Prop :=
  match o with
  | .nx e st => ∀ ρ' H' σ', ρ <+: ρ' → Ext H H' → At p ca K ρ' H' e σ' hx st → D.nx σ' H'
  | .rt v st => ∀ ρ' H' x, ρ <+: ρ' → Ext H H' → Rst K ca ρ' H' st → Rv K ρ' H' v x → D.rt x H'
  | .er c v e st => ∀ ρ' H' σ' d w, ρ <+: ρ' → Ext H H' → At p ca K ρ' H' e σ' hx st → H' d = some (.xd [(("value" : Str), w)]) → Rv K ρ' H' v w → W (.ref (ca c)) (some d) σ' H'
  | .stk => False
def TSm (X : Cx) (n : Nat) (hx : Option Hx) (W : WX) (a : S) : TS := fun D σ H => ∃ ρ e st, At p ca X.K ρ H e σ hx st ∧ FinS p ca X.K hx (exec p (callF p n) a e st) ρ H D W

/-- where statements run -/
structure Gs (X : Cx) (n : Nat) (W : WX) (hx : Option Hx) : Prop where
  g : Gd p ca fa fd ps X n W hx
  fnb : ∀ x, X.fn x = true
  kind : X.env.scope.kind = .function
  po : hx = none → PassesOwn (model X.prog X.w) X.A X.env X.xe
  stk : hx = none → X.stack = X.env :: X.outer ∧ X.env.frame = some X.env.locals
variable {p ca fa fd ps}
section
variable {X : Cx} {n : Nat} {hx : Option Hx} {W : WX} {ρ ρ' : List Addr} {H H' : Hp} {e : Env} {σ : L2.St} {st : Store} {D : Ends}
theorem FinS.mono {K : Frg} {o : Out} (pr : ρ <+: ρ') (ex : Ext H H') (h : FinS p ca K hx o ρ H D W) : FinS p ca K hx o ρ' H' D W := by
  cases o with
  | nx e st => exact fun ρ2 H2 σ' p2 e2 => h ρ2 H2 σ' (pr.trans p2) (ex.tr e2)
  | rt v st => exact fun ρ2 H2 x p2 e2 => h ρ2 H2 x (pr.trans p2) (ex.tr e2)
  | er c v e st => exact fun ρ2 H2 σ' d w p2 e2 => h ρ2 H2 σ' d w (pr.trans p2) (ex.tr e2)
  | stk => exact h
theorem FinS.to {K : Frg} {o : Out} {D' : Ends} {W' : WX} (h : FinS p ca K hx o ρ H D W) (h1 : ∀ e s, o = .nx e s → ∀ ρ' H' σ', ρ <+: ρ' → Ext H H' → At p ca K ρ' H' e σ' hx s → D.nx σ' H' → D'.nx σ' H') (h2 : ∀ x H', D.rt x H' → D'.rt x H') (h3 : ∀ c d σ' H', W c d σ' H' → W' c d σ' H') : FinS p ca K hx o ρ H D' W' := by
  cases o with
  | nx e st => exact fun ρ2 H2 σ' p2 e2 a => h1 e st rfl ρ2 H2 σ' p2 e2 a (h ρ2 H2 σ' p2 e2 a)
  | rt v st => exact fun ρ2 H2 x p2 e2 a b => h2 _ _ (h ρ2 H2 x p2 e2 a b)
  | er c v e st => exact fun ρ2 H2 σ' d w p2 e2 a b c => h3 _ _ _ _ (h ρ2 H2 σ' d w p2 e2 a b c)
  | stk => exact h
theorem sE {a : E} {f : Val → Store → Out} (h : At p ca X.K ρ H e σ hx st) (hf : FinS p ca X.K hx (Out.of e (ev p (callF p n) a e st) f) ρ H D W) :
    TEm p ca X n hx W a σ H (fun x H1 => ∃ ρ1 v st1, ρ <+: ρ1 ∧ Ext H H1 ∧ At p ca X.K ρ1 H1 e σ hx st1 ∧ Rv X.K ρ1 H1 v x ∧ ev p (callF p n) a e st = .ok v st1 ∧ FinS p ca X.K hx (f v st1) ρ1 H1 D W) := by
  refine ⟨ρ, e, st, h, ?_⟩
  cases er : ev p (callF p n) a e st with
  | ok v s1 => rw [er] at hf; exact fun ρ1 H1 x pr ex hs hr => ⟨ρ1, v, s1, pr, ex, h.mono pr ex hs, hr, rfl, hf.mono pr ex⟩
  | err c v s1 => rw [er] at hf; exact fun ρ1 H1 d w pr ex hs hd hr => hf ρ1 H1 σ d w pr ex (h.mono pr ex hs) hd hr
  | stk => rw [er] at hf; exact hf.elim
theorem sT {a : E} {f : Bool → Store → Out} (h : At p ca X.K ρ H e σ hx st) (hf : FinS p ca X.K hx (Out.ofT e (evT p (callF p n) a e st) f) ρ H D W) :
    TTm p ca X n hx W a σ H (fun x H1 => ∃ ρ1 st1, ρ <+: ρ1 ∧ Ext H H1 ∧ At p ca X.K ρ1 H1 e σ hx st1 ∧ FinS p ca X.K hx (f x st1) ρ1 H1 D W) := by
  refine ⟨ρ, e, st, h, ?_⟩
  cases er : evT p (callF p n) a e st with
  | ok v s1 => rw [er] at hf; exact fun ρ1 H1 x pr ex hs hr => by subst hr; exact ⟨ρ1, s1, pr, ex, h.mono pr ex hs, hf.mono pr ex⟩
  | err c v s1 => rw [er] at hf; exact fun ρ1 H1 d w pr ex hs hd hr => hf ρ1 H1 σ d w pr ex (h.mono pr ex hs) hd hr
  | stk => rw [er] at hf; exact hf.elim
/-- an assignment's end -/
theorem rx_assign {K : Frg} {t : Tg} {v : Val} {e1 : Env} {σ' : L2.St} (h : Rx p K ca ρ H e σ hx) (ea : assign t v e = some e1) (hn : notIn (hx.map Hx.i) t = true) (hw : ∀ vs, (∀ i ∈ tgIx t, i ∈ vs) → L2.wipe σ' vs = L2.wipe σ vs) : Rx p K ca ρ H e1 σ' hx := by
  cases hx with
  | none => trivial
  | some h0 =>
    obtain ⟨c, v, dd, w, e1', e2, e3, e4, e5, e6, e7⟩ := h
    refine ⟨c, v, dd, w, by rw [assign_x ea]; exact e1', e2, e3, e4, e5, e6, ?_⟩
    cases t with
    | tp l => simp [notIn] at hn
    | nm j =>
      have hne : h0.i ≠ j := by simpa [notIn] using hn
      have z := congrArg (fun l => l[h0.i]?) (hw [j] (by simp [tgIx]))
      simp only [wipe_get, List.mem_singleton, if_neg hne] at z
      rw [z]; exact e7
theorem asg_end {t : Tg} {v : Val} {x : V} (h : At p ca X.K ρ H e σ hx st) (rx : Rv X.K ρ H v x) (hn : notIn (hx.map Hx.i) t = true) (hf : FinS p ca X.K hx (match assign t v e with
      | some e1 => .nx e1 st
      | none => .stk) ρ H D W) : TGm X.K ca t x σ H D.nx := by
  cases ea : assign t v e with
  | none => rw [ea] at hf; exact hf.elim
  | some e1 =>
    rw [ea] at hf
    exact ⟨ρ, st, v, e, e1, h.st, rx, h.env, ea, fun σ' re hw => hf ρ H σ' (List.prefix_refl _) Ext.rf ⟨h.st, re, rx_assign h.ex ea hn hw⟩⟩
theorem asg_endN {i : Nat} {v : Val} {x : V} (h : At p ca X.K ρ H e σ hx st) (rx : Rv X.K ρ H v x) (hn : notIn (hx.map Hx.i) (.nm i) = true) (hf : FinS p ca X.K hx (match assign (.nm i) v e with
      | some e1 => .nx e1 st
      | none => .stk) ρ H D W) : gName i x σ H D.nx :=
  hf ρ H _ (List.prefix_refl _) Ext.rf ⟨h.st, h.env.set rx i, rx_assign h.ex (t := .nm i) rfl hn fun vs hv => wipe_set (hv i (by simp [tgIx]))⟩
end
theorem impPS {X : Cx} {s : Stmt} {t t' : TS} (h : PS X s t) (k : ∀ D σ H, t' D σ H → t D σ H) : PS X s t' := ⟨fun pins s σ H D I hw => h.run pins s σ H D I (k D σ H hw)⟩
theorem impPSs {X : Cx} {s : List Stmt} {t t' : TS} (h : PSs X s t) (k : ∀ D σ H, t' D σ H → t D σ H) : PSs X s t' := ⟨fun pins s σ H D I hw => h.run pins s σ H D I (k D σ H hw)⟩

theorem block_fn {env : PySem.Env} (hk : env.scope.kind = .function) : env.blockKind = .function := by
  unfold PySem.Env.blockKind; rw [hk]; rfl
theorem sw_val {env : PySem.Env} {ts vs : List Expr} {k k2 : Nat} {q q2 : Pos} (hk : env.scope.kind = .function) : (swNone env.scope ts vs = true → swappedStores [.Tuple ts k q] (.Tuple vs k2 q2) env = pure none) ∧
    (swNone env.scope ts vs = false → vs.all (constantsAlone 8) = false → swappedStores [.Tuple ts k q] (.Tuple vs k2 q2) env = pure (some (swNames env.scope ts))) := by
  have hb := block_fn hk
  have e : swappedStores [.Tuple ts k q] (.Tuple vs k2 q2) env = (if !(ts.length == 2 || ts.length == 3) || vs.length != ts.length || env.blockKind != .function then pure none else if (vs.any fun | .Starred .. => true | _ => false) then pure none else
      if (swNames env.scope ts).length != ts.length || (swNames env.scope ts).eraseDups.length != (swNames env.scope ts).length then pure none else if vs.all (foldedForSure 8) then pure none else if vs.all (constantsAlone 8) then unsupported "assign.tuple-of-constant-expressions:order-of-the-stores" else pure (some (swNames env.scope ts))) := by
    unfold swappedStores
    rfl
  rw [e, hb]
  unfold swNone
  rw [show (ScopeKind.function != ScopeKind.function) = false from rfl]
  generalize (!(ts.length == 2 || ts.length == 3)) = b1
  generalize (vs.length != ts.length) = b2
  generalize (vs.any fun | .Starred .. => true | _ => false) = b3
  generalize ((swNames env.scope ts).length != ts.length) = b4
  generalize ((swNames env.scope ts).eraseDups.length != (swNames env.scope ts).length) = b5
  generalize vs.all (foldedForSure 8) = b6
  generalize vs.all (constantsAlone 8) = b7
  cases b1 <;> cases b2 <;> cases b3 <;> cases b4 <;> cases b5 <;> cases b6 <;> cases b7 <;> simp

theorem swaps_no {v : Expr} {tg : Expr} {l : Nat} {env : PySem.Env} (h : notComp v = true) : swapsWithSole [tg] v l env = pure false := by
  cases v <;> first | rfl | simp [notComp] at h
theorem swaps_fld {v o : Expr} {f : Str} {q : Pos} {l : Nat} {env : PySem.Env} : swapsWith v (some (.Attribute o f q)) l env = pure false := by
  cases v <;> rfl
theorem swaps_sub {v o i : Expr} {q : Pos} {l : Nat} {env : PySem.Env} : swapsWithSole [.Subscript o i q] v l env = pure false := by
  cases v <;> rfl
theorem swaps_tup {v : Expr} {es : List Expr} {k : Nat} {q : Pos} {l : Nat} {env : PySem.Env} : swapsWithSole [.Tuple es k q] v l env = pure false := by
  cases v <;> rfl
theorem swaps_drop {v : Expr} {l : Nat} {env : PySem.Env} (h : notComp v = true) : swapsWith v none l env = pure false := by
  cases v <;> first | rfl | simp [notComp] at h
theorem store_name {v : Expr} {y : Str} {q : Pos} {env : PySem.Env} : swappedStores [.Name y q] v env = pure none := by
  cases v <;> rfl
theorem store_sub {v o i : Expr} {q : Pos} {env : PySem.Env} : swappedStores [.Subscript o i q] v env = pure none := by
  cases v <;> rfl
theorem store_tup {v : Expr} {es : List Expr} {k : Nat} {q : Pos} {env : PySem.Env} (h : ∀ vs k2 q2, v ≠ .Tuple vs k2 q2) : swappedStores [.Tuple es k q] v env = pure none := by
  cases v <;> first | rfl | exact absurd rfl (h _ _ _)
/-- name = a comprehension, on one line -/
theorem set_lc {X : Cx} {n : Nat} {W : WX} (g : Gs p ca fa fd ps X n W none) {e : E} {elt : Expr} {gs : List Comprehension} {scope : Scope} {cpos py pos : Pos} {y : Str} {i : Nat} (h : chkE X.N X.env.scope none e (.ListComp elt gs scope cpos) = true) (hi : X.N[i]? = some y) (hy : X.env.scope.names.lookup y = some .local)
    (hsw : swapsWith (.ListComp elt gs scope cpos) (some (.Name y py)) pos.line X.env = pure true) : PS X (.Assign [.Name y py] (.ListComp elt gs scope cpos) pos) (tAsg (TEm p ca X n none W e) (gName i)) := by
  have calm := (g.g.cold rfl).1
  cases e <;> try (simp [chkE] at h; done)
  · rename_i el t it c vs
    obtain ⟨elt', tg, iter, ifs, scope', pos', e1, h1, h2, h3, h4, h5, h6, h7, h8⟩ := inv_lc h
    cases e1
    refine impPS (ps_setLc (own := vs.map fun i => ((X.N[i]?).getD Str.empty, i)) (g := TGm X.K ca t) (te := TEm p ca X n none noW el) (tt := TCm p ca X n c) calm g.g.nd hi hy hsw ((all_ok it).2.2.2 X n W none g.g rfl tg iter h3 (enu_tg h4)) (blkOk_by h2)
      (fun s H C cl fp => tg_ok (ca := ca) (X := X.blk s H scope (compEnvC scope cl C X.env) fp) (fnb := cellB scope) (fun x z => z) g.g.nd (fun _ => calm) h5)
      (fun s H C cl fp => chkC_ok (gd_blk g.g s H scope _ fp) (all_ok c).2.2.1 h8)
      (fun s H C cl fp => (all_ok el).1 _ n noW none (gd_blk g.g s H scope _ fp) elt h6) (fold_set (iter_set h3) _)) fun D σ H q => ?_
    unfold tAsg at q ⊢
    rw [own_ix]
    exact lc_imp h7 σ H _ q
  · rename_i el t it c t2 it2 c2 vs vs2
    obtain ⟨elt', tg, iter, ifs, tg2, iter2, ifs2, scope', pos', e1, h1, h2, h3, h4, h5, h6, h7, h8, h9, h10, h11, h12, h13, h14⟩ := inv_lc2 h
    cases e1
    refine impPS (ps_setLc2 (own := vs.map fun i => ((X.N[i]?).getD Str.empty, i)) (g := TGm X.K ca t) (g1 := TGm X.K ca t2) (te := TEm p ca X n none noW el) (tt := TCm p ca X n c) (tt1 := TCm p ca X n c2) (wi1 := TIm p ca X n none noW it2) (vs1 := vs2) calm g.g.nd hi hy hsw ((all_ok it).2.2.2 X n W none g.g rfl tg iter h3 (enu_tg h4)) (blkOk_by h2) (by rw [own_ix]; exact h13)
      (fun s H C cl fp => tg_ok (ca := ca) (X := X.blk s H scope (compEnvC scope cl C X.env) fp) (fnb := cellB scope) (fun x z => z) g.g.nd (fun _ => calm) h5)
      (fun s H C cl fp => chkC_ok (gd_blk g.g s H scope _ fp) (all_ok c).2.2.1 h8)
      (fun s H C cl fp => (all_ok it2).2.2.2 _ n noW none (gd_blk g.g s H scope _ fp) rfl tg2 iter2 h9 (enu_tg h10))
      (fun s H C cl fp => tg_ok (ca := ca) (X := X.blk s H scope (compEnvC scope cl C X.env) fp) (fnb := cellB scope) (fun x z => z) g.g.nd (fun _ => calm) h11)
      (fun s H C cl fp => chkC_ok (gd_blk g.g s H scope _ fp) (all_ok c2).2.2.1 h14)
      (fun s H C cl fp => (all_ok el).1 _ n noW none (gd_blk g.g s H scope _ fp) elt h6) (fold_set (iter_set h3) _) (fun env => fold_set (iter_set h9) env)) fun D σ H q => ?_
    unfold tAsg at q ⊢
    rw [own_ix]
    exact lc2_imp h7 h12 σ H _ q
/-- name = {..} on one line, the name a local -/
theorem ps_setDc {i : Nat} {y : Str} {py : Pos} {kx vx tg iter : Expr} {ifs : List Expr} {scope : Scope} {own : List (Str × Nat)} {pos spos : Pos} {X : Cx} {wi : TI} {g : TG} {tt : TT} {tk tv : TE} (hc : X.calm = true) (hN : X.N.Nodup) (hy : X.N[i]? = some y) (hyl : X.env.scope.names.lookup y = some .local)
    (hsw : swapsWith (.DictComp kx vx [⟨tg, iter, ifs, 0⟩] scope pos) (some (.Name y py)) spos.line X.env = pure true) (hi : PI X tg iter wi) (ok : BlkOk X.N X.env.scope scope own)
    (hg : ∀ (s : Shared) (H : Hp) (C : Addr) (cl : List (Str × Addr)) (fp : List Addr), PG (X.blk s H scope (compEnvC scope cl C X.env) fp) tg g) (ht : ∀ (s : Shared) (H : Hp) (C : Addr) (cl : List (Str × Addr)) (fp : List Addr), PTs (X.blk s H scope (compEnvC scope cl C X.env) fp) ifs tt)
    (hk : ∀ (s : Shared) (H : Hp) (C : Addr) (cl : List (Str × Addr)) (fp : List Addr), PE (X.blk s H scope (compEnvC scope cl C X.env) fp) kx tk)
    (he : ∀ (s : Shared) (H : Hp) (C : Addr) (cl : List (Str × Addr)) (fp : List Addr), PE (X.blk s H scope (compEnvC scope cl C X.env) fp) vx tv) (hs : ∀ x, foldedSetIterable iter X.env x = pure x) :
    PS X (.Assign [.Name y py] (.DictComp kx vx [⟨tg, iter, ifs, 0⟩] scope pos) spos) (tAsg (tDc wi g tt tk tv (own.map (·.2))) (gName i)) := by
  refine ⟨fun pins s σ H D I h => ?_⟩
  rw [exec_Assign_Name_used _ _ _ _ hsw]
  refine wpAny_bind (wpAny_standAt (wpAny_bind ?_))
  show wpAny _ X.A (do let _ ← comprehension (.DictComp kx vx [⟨tg, iter, ifs, 0⟩] scope pos) scope X.env (firstIterPos [⟨tg, iter, ifs, 0⟩] pos) newDict false (eval iter X.env) (some (PySem.assign (.Name y py) X.env))) _ _ s
  have h : tDc wi g tt tk tv (own.map (·.2)) σ H (fun x H1 => gName i x σ H1 D.nx) := h
  refine wpAny_bind (thn (dc_core (Qf := fun _ s' => SP X pins D .next s') hc hN I hi ok hg ht hk he hs h fun L C s' m H' I' q hn f => ?_) fun _ s' hq => wpAny_pure (wpAny_pure hq))
  show wpAny _ _ (PySem.assign (.Name y py) X.env (.ref L)) _ _ _
  refine wpAny_assign_Name (store_ok2 (v := V.ref L) I' hN hy (.inl hyl) rfl (fun s2 I2 ⟨a, sb, ha⟩ => ?_) (.inr hyl))
  obtain ⟨f0, f1, f2, f3, f4, f5⟩ := f
  have haC : C ≠ a := by
    rcases ha with z | z
    · rw [z]; exact f1
    · exact fun e => f4 y a z e.symm
  refine ⟨m, hn.sameBut sb haC, fun h3 sb3 => ?_⟩
  exact ⟨_, H', I2.turned (t' := s2.toks) (fun b o hb e => (sb3.2 b hb).trans e) f0 f1 f3 f4 f5, q⟩
theorem set_dc {X : Cx} {n : Nat} {W : WX} (g : Gs p ca fa fd ps X n W none) {e : E} {kx vx : Expr} {gs : List Comprehension} {scope : Scope} {cpos py pos : Pos} {y : Str} {i : Nat} (h : chkE X.N X.env.scope none e (.DictComp kx vx gs scope cpos) = true) (hi : X.N[i]? = some y) (hy : X.env.scope.names.lookup y = some .local)
    (hsw : swapsWith (.DictComp kx vx gs scope cpos) (some (.Name y py)) pos.line X.env = pure true) : PS X (.Assign [.Name y py] (.DictComp kx vx gs scope cpos) pos) (tAsg (TEm p ca X n none W e) (gName i)) := by
  have calm := (g.g.cold rfl).1
  cases e <;> try (simp [chkE] at h; done)
  rename_i ke el t it c vs
  obtain ⟨kx', elt', tg, iter, ifs, scope', pos', e1, h1, h2, h3, h4, h5, h6, h7, h8, h9⟩ := inv_dc h
  cases e1
  refine impPS (ps_setDc (own := vs.map fun i => ((X.N[i]?).getD Str.empty, i)) (g := TGm X.K ca t) (tk := TEm p ca X n none noW ke) (tv := TEm p ca X n none noW el) (tt := TCm p ca X n c) calm g.g.nd hi hy hsw ((all_ok it).2.2.2 X n W none g.g rfl tg iter h3 (enu_tg h4)) (blkOk_by h2)
    (fun s H C cl fp => tg_ok (ca := ca) (X := X.blk s H scope (compEnvC scope cl C X.env) fp) (fnb := cellB scope) (fun x z => z) g.g.nd (fun _ => calm) h5)
    (fun s H C cl fp => chkC_ok (gd_blk g.g s H scope _ fp) (all_ok c).2.2.1 h8)
    (fun s H C cl fp => (all_ok ke).1 _ n noW none (gd_blk g.g s H scope _ fp) kx h9)
    (fun s H C cl fp => (all_ok el).1 _ n noW none (gd_blk g.g s H scope _ fp) vx h6) (fold_set (iter_set h3) _)) fun D σ H q => ?_
  unfold tAsg at q ⊢
  rw [own_ix]
  exact dc_imp h7 σ H _ q
abbrev St1 (p : Prog) (ca fa : Str → Addr) (fd : Str → FuncData) (ps : Str → List Str) (a : S) : Prop := ∀ X n W hx, Gs p ca fa fd ps X n W hx → ∀ s, chkS X.N X.env.scope (hx.map Hx.i) a [s] = true → PS X s (TSm p ca X n hx W a)
abbrev StP (p : Prog) (ca fa : Str → Addr) (fd : Str → FuncData) (ps : Str → List Str) (a : S) : Prop := ∀ X n W hx, Gs p ca fa fd ps X n W hx → ∀ ts, chkS X.N X.env.scope (hx.map Hx.i) a ts = true → PSs X ts (TSm p ca X n hx W a)
section
variable {X : Cx} {n : Nat} {W : WX} {hx : Option Hx}
theorem calm_tg (g : Gd p ca fa fd ps X n W hx) {t : Tg} (h : notIn (hx.map Hx.i) t = true) (hz : ∀ i, t ≠ .nm i) : X.calm = true := by
  cases hx with
  | none => exact (g.cold rfl).1
  | some h0 =>
    cases t with
    | nm i => exact absurd rfl (hz i)
    | tp l => simp [notIn] at h
theorem st_asg {t : Tg} {e : E} : St1 p ca fa fd ps (.asg t e) := by
  intro X n W hx g s h
  cases s <;> try (simp [chkS] at h; done)
  rename_i tgs v pos
  rcases tgs with _ | ⟨tg, _ | ⟨tg2, tr⟩⟩ <;> try (simp [chkS] at h; done)
  simp only [chkS, Bool.and_eq_true] at h
  obtain ⟨⟨⟨h1, h2⟩, h3⟩, h4⟩ := h
  have hE := (all_ok (p := p) (ca := ca) (fa := fa) (fd := fd) (ps := ps) e).1 X n W hx g.g v h1
  have hT := tg_ok (ca := ca) (X := X) (fnb := fun _ => true) (fun x _ => g.fnb x) g.g.nd (fun hz => calm_tg g.g h3 hz) h2
  have gen : swapsWithSole [tg] v pos.line X.env = pure false → swappedStores [tg] v X.env = pure none → (assignEach [tg] X.env).map (·.2) = [PySem.assign tg X.env] → PS X (.Assign [tg] v pos) (TSm p ca X n hx W (.asg t e)) := fun a1 a2 a3 =>
    impPS (ps_asg hE hT a1 a2 a3) fun D σ H ⟨ρ, en, st, at_, hf⟩ => by
      simp only [exec] at hf
      exact (sE at_ hf).imp fun x H1 ⟨ρ1, w, st1, _, _, at1, rx, _, hf1⟩ => asg_end at1 rx h3 hf1
  cases t with
  | nm i =>
    cases tg <;> try (simp [chkT] at h2; done)
    rename_i y py
    by_cases hc : notComp v = true
    · exact gen (swaps_no hc) store_name rfl
    · cases v <;> try (exact absurd rfl hc)
      · rename_i elt gs scope cpos
        have hb : swapsWith (.ListComp elt gs scope cpos) (some (.Name y py)) pos.line X.env = pure (X.env.blockKind == .function && X.env.kindOf y == some .local && py.line == cpos.line && !(scope.names.any fun (n, k) => n == y && (k == .local || k == .cell))) := rfl
        cases eb : (X.env.blockKind == .function && X.env.kindOf y == some .local && py.line == cpos.line && !(scope.names.any fun (n, k) => n == y && (k == .local || k == .cell))) with
        | false => rw [eb] at hb; exact gen hb store_name rfl
        | true =>
          rw [eb] at hb
          have hz : hx = none := by
            cases e <;> try (simp [chkE] at h1; done)
            · obtain ⟨_, _, _, _, _, _, _, h0, _⟩ := inv_lc h1; exact hx_none h0
            · obtain ⟨_, _, _, _, _, _, _, _, _, _, h0, _⟩ := inv_lc2 h1; exact hx_none h0
          subst hz
          simp only [Bool.and_eq_true] at eb
          have hy : X.env.scope.names.lookup y = some .local := by
            have z := eb.1.1.2
            exact eq_of_beq z
          refine impPS (set_lc (i := i) g h1 (by simp [chkT] at h2; exact h2.1) hy hb) fun D σ H ⟨ρ, en, st, at_, hf⟩ => ?_
          simp only [exec] at hf
          exact (sE at_ hf).imp fun x H1 ⟨ρ1, w, st1, _, _, at1, rx, _, hf1⟩ => asg_endN at1 rx h3 hf1
      · cases e <;> simp [chkE] at h1
      · rename_i kx vx gs scope cpos
        have hb : swapsWith (.DictComp kx vx gs scope cpos) (some (.Name y py)) pos.line X.env = pure (X.env.blockKind == .function && X.env.kindOf y == some .local && py.line == cpos.line && !(scope.names.any fun (n, k) => n == y && (k == .local || k == .cell))) := rfl
        cases eb : (X.env.blockKind == .function && X.env.kindOf y == some .local && py.line == cpos.line && !(scope.names.any fun (n, k) => n == y && (k == .local || k == .cell))) with
        | false => rw [eb] at hb; exact gen hb store_name rfl
        | true =>
          rw [eb] at hb
          have hz : hx = none := by
            cases e <;> try (simp [chkE] at h1; done)
            obtain ⟨_, _, _, _, _, _, _, _, h0, _⟩ := inv_dc h1; exact hx_none h0
          subst hz
          simp only [Bool.and_eq_true] at eb
          have hy : X.env.scope.names.lookup y = some .local := by
            have z := eb.1.1.2
            exact eq_of_beq z
          refine impPS (set_dc (i := i) g h1 (by simp [chkT] at h2; exact h2.1) hy hb) fun D σ H ⟨ρ, en, st, at_, hf⟩ => ?_
          simp only [exec] at hf
          exact (sE at_ hf).imp fun x H1 ⟨ρ1, w, st1, _, _, at1, rx, _, hf1⟩ => asg_endN at1 rx h3 hf1
  | tp l =>
    cases tg <;> try (simp [chkT] at h2; done)
    rename_i es k q
    by_cases hv : ∃ vs k2 q2, v = .Tuple vs k2 q2
    · obtain ⟨vs, k2, q2, rfl⟩ := hv
      obtain ⟨s1, s2⟩ := sw_val (ts := es) (vs := vs) (k := k) (k2 := k2) (q := q) (q2 := q2) g.kind
      cases es_ : swNone X.env.scope es vs with
      | true => exact gen swaps_tup (s1 es_) rfl
      | false =>
        have hz : hx = none := by
          cases hx with
          | none => rfl
          | some h0 => simp [notIn] at h3
        subst hz
        have calm := (g.g.cold rfl).1
        simp only [asgOk, es_, Bool.false_or, Bool.not_eq_true'] at h4
        have sw := s2 es_ h4
        have hL : ∃ l', e = .tup l' ∧ chkL X.N X.env.scope none l' vs = true := by
          cases e <;> try (simp [chkE] at h1; done)
          rename_i l'
          simp only [chkE, Bool.and_eq_true] at h1
          exact ⟨l', rfl, h1.1⟩
        obtain ⟨l', rfl, hL⟩ := hL
        have hA := (all_ok (p := p) (ca := ca) (fa := fa) (fd := fd) (ps := ps) l').2.1 X n W none g.g vs hL
        simp only [swNone, Bool.or_eq_false_iff, Bool.not_eq_false', Bool.or_eq_true, beq_iff_eq, bne_eq_false_iff_eq] at es_
        obtain ⟨⟨⟨⟨⟨b1, b2⟩, b3⟩, b4⟩, b5⟩, b6⟩ := es_
        simp only [chkT, Bool.and_eq_true, beq_iff_eq] at h2
        obtain ⟨c1, c2⟩ := h2
        rcases b1 with b1 | b1
        · rcases es with _ | ⟨a, _ | ⟨b, _ | ⟨c, er⟩⟩⟩ <;> try (simp at b1; done)
          rcases vs with _ | ⟨va, _ | ⟨vb, _ | ⟨vc, vr⟩⟩⟩ <;> try (simp at b2; done)
          rcases l with _ | ⟨i, _ | ⟨j, _ | ⟨m, lr⟩⟩⟩ <;> try (simp at c1; done)
          simp only [List.zip_cons_cons, List.zip_nil_left, List.all_cons, List.all_nil, Bool.and_true, Bool.and_eq_true] at c2
          cases a <;> try (simp at c2; done)
          cases b <;> try (simp at c2; done)
          rename_i x px y py
          simp only [Bool.and_eq_true, decide_eq_true_eq] at c2
          have nm : X.env.scope.names.lookup x = some .local ∧ X.env.scope.names.lookup y = some .local ∧ swNames X.env.scope [.Name x px, .Name y py] = [x, y] := by
            cases hcx : (X.env.scope.names.lookup x == some .local && px.line == (([Expr.Name x px, .Name y py].head?.map (·.pos.line)).getD 0)) <;> cases hcy : (X.env.scope.names.lookup y == some .local && py.line == (([Expr.Name x px, .Name y py].head?.map (·.pos.line)).getD 0)) <;> simp only [swNames, List.filterMap_cons, hcx, hcy, List.filterMap_nil] at b4 ⊢ <;> try (simp at b4; done)
            simp only [Bool.and_eq_true] at hcx hcy
            exact ⟨eq_of_beq hcx.1, eq_of_beq hcy.1, by simp⟩
          obtain ⟨n1, n2, n3⟩ := nm
          rw [n3] at sw b5
          have hne : i ≠ j := by
            rintro rfl
            have hxy := c2.1.1.symm.trans c2.2.1
            cases hxy
            simp [List.eraseDups, List.eraseDupsBy, List.eraseDupsBy.loop] at b5
          refine impPS (ps_par calm g.g.nd c2.1.1 c2.2.1 hne n1 n2 hA sw swaps_tup) fun D σ H ⟨ρ, en, st, at_, hf⟩ => ?_
          simp only [exec, ev] at hf
          rw [show ∀ (r : Res (List Val)) (f) (g), Out.of en (r.bind f) g = (match r with
              | .ok v s => Out.of en (f v s) g
              | .err c v s => .er c v en s
              | .stk => .stk) from fun r f g => by cases r <;> rfl] at hf
          refine ⟨ρ, en, st, at_, ?_⟩
          cases er : evL p (callF p n) l' en st with
          | stk => rw [er] at hf; exact hf.elim
          | err c w s1 => rw [er] at hf; exact fun ρ1 H1 d w pr ex hs hd hr => hf ρ1 H1 σ d w pr ex (at_.mono pr ex hs) hd hr
          | ok ws s1 =>
            rw [er] at hf
            intro ρ1 H1 xs pr ex hs hr
            have hl := len_of hL er
            rcases ws with _ | ⟨w1, _ | ⟨w2, _ | ⟨w3, wr⟩⟩⟩ <;> try (simp at hl; done)
            cases hr with
            | cons r1 hr => cases hr with
              | cons r2 hr =>
                cases hr
                have at1 := at_.mono pr ex hs
                exact ⟨_, _, rfl, hf ρ1 H1 _ pr ex ⟨hs, (at1.env.set r1 i).set r2 j, trivial⟩⟩
        · rcases es with _ | ⟨a, _ | ⟨b, _ | ⟨c, _ | ⟨d, er⟩⟩⟩⟩ <;> try (simp at b1; done)
          rcases vs with _ | ⟨va, _ | ⟨vb, _ | ⟨vc, _ | ⟨vd, vr⟩⟩⟩⟩ <;> try (simp at b2; done)
          rcases l with _ | ⟨i, _ | ⟨j, _ | ⟨m, _ | ⟨m2, lr⟩⟩⟩⟩ <;> try (simp at c1; done)
          simp only [List.zip_cons_cons, List.zip_nil_left, List.all_cons, List.all_nil, Bool.and_true, Bool.and_eq_true] at c2
          cases a <;> try (simp at c2; done)
          cases b <;> try (simp at c2; done)
          cases c <;> try (simp at c2; done)
          rename_i x px y py z pz
          simp only [Bool.and_eq_true, decide_eq_true_eq] at c2
          have nm : X.env.scope.names.lookup x = some .local ∧ X.env.scope.names.lookup y = some .local ∧ X.env.scope.names.lookup z = some .local ∧ swNames X.env.scope [.Name x px, .Name y py, .Name z pz] = [x, y, z] := by
            cases hcx : (X.env.scope.names.lookup x == some .local && px.line == (([Expr.Name x px, .Name y py, .Name z pz].head?.map (·.pos.line)).getD 0)) <;> cases hcy : (X.env.scope.names.lookup y == some .local && py.line == (([Expr.Name x px, .Name y py, .Name z pz].head?.map (·.pos.line)).getD 0)) <;> cases hcz : (X.env.scope.names.lookup z == some .local && pz.line == (([Expr.Name x px, .Name y py, .Name z pz].head?.map (·.pos.line)).getD 0)) <;> simp only [swNames, List.filterMap_cons, hcx, hcy, hcz, List.filterMap_nil] at b4 ⊢ <;> try (simp at b4; done)
            simp only [Bool.and_eq_true] at hcx hcy hcz
            exact ⟨eq_of_beq hcx.1, eq_of_beq hcy.1, eq_of_beq hcz.1, by simp⟩
          obtain ⟨n1, n2, n3, n4⟩ := nm
          rw [n4] at sw b5
          have apart : x ≠ y ∧ x ≠ z ∧ y ≠ z := by
            refine ⟨?_, ?_, ?_⟩ <;> rintro rfl <;> simp [List.eraseDups, List.eraseDupsBy, List.eraseDupsBy.loop] at b5
            all_goals (split at b5 <;> simp at b5)
          have hij : i ≠ j := by rintro rfl; exact apart.1 (Option.some.inj (c2.1.1.symm.trans c2.2.1.1))
          have hil : i ≠ m := by rintro rfl; exact apart.2.1 (Option.some.inj (c2.1.1.symm.trans c2.2.2.1))
          have hjl : j ≠ m := by rintro rfl; exact apart.2.2 (Option.some.inj (c2.2.1.1.symm.trans c2.2.2.1))
          refine impPS (ps_par3 calm g.g.nd c2.1.1 c2.2.1.1 c2.2.2.1 hij hil hjl n1 n2 n3 hA sw swaps_tup) fun D σ H ⟨ρ, en, st, at_, hf⟩ => ?_
          simp only [exec, ev] at hf
          rw [show ∀ (r : Res (List Val)) (f) (g), Out.of en (r.bind f) g = (match r with
              | .ok v s => Out.of en (f v s) g
              | .err c v s => .er c v en s
              | .stk => .stk) from fun r f g => by cases r <;> rfl] at hf
          refine ⟨ρ, en, st, at_, ?_⟩
          cases er : evL p (callF p n) l' en st with
          | stk => rw [er] at hf; exact hf.elim
          | err c w s1 => rw [er] at hf; exact fun ρ1 H1 d w pr ex hs hd hr => hf ρ1 H1 σ d w pr ex (at_.mono pr ex hs) hd hr
          | ok ws s1 =>
            rw [er] at hf
            intro ρ1 H1 xs pr ex hs hr
            have hl := len_of hL er
            rcases ws with _ | ⟨w1, _ | ⟨w2, _ | ⟨w3, _ | ⟨w4, wr⟩⟩⟩⟩ <;> try (simp at hl; done)
            cases hr with
            | cons r1 hr => cases hr with
              | cons r2 hr => cases hr with
                | cons r3 hr =>
                  cases hr
                  have at1 := at_.mono pr ex hs
                  exact ⟨_, _, _, rfl, hf ρ1 H1 _ pr ex ⟨hs, ((at1.env.set r1 i).set r2 j).set r3 m, trivial⟩⟩
    · exact gen swaps_tup (store_tup fun vs k2 q2 z => hv ⟨vs, k2, q2, z⟩) rfl
theorem skip_nx {X : Cx} {n : Nat} {W : WX} {hx : Option Hx} : ∀ D σ H, TSm p ca X n hx W .skip D σ H → D.nx σ H := fun D σ H ⟨ρ, en, st, at_, hf⟩ => by
  simp only [exec] at hf
  exact hf ρ H σ (List.prefix_refl _) Ext.rf at_
theorem st_skip : St1 p ca fa fd ps .skip := by
  intro X n W hx g s h
  cases s <;> try (simp [chkS] at h; done)
  exact impPS ps_pass skip_nx
theorem st_seq {a b : S} : St1 p ca fa fd ps (.seq a b) := by
  intro X n W hx g s h
  simp [chkS] at h
theorem sts_seq {a b : S} (ha : St1 p ca fa fd ps a) (hb : StP p ca fa fd ps b) : StP p ca fa fd ps (.seq a b) := by
  intro X n W hx g ts h
  rcases ts with _ | ⟨s, _ | ⟨s2, rest⟩⟩ <;> try (simp [chkS] at h; done)
  simp only [chkS, Bool.and_eq_true] at h
  refine impPSs (pss_cons (ha X n W hx g s h.1) (hb X n W hx g _ h.2)) fun D σ H ⟨ρ, en, st, at_, hf⟩ => ?_
  simp only [exec] at hf
  refine ⟨ρ, en, st, at_, ?_⟩
  cases er : exec p (callF p n) a en st with
  | nx e1 s1 => rw [er] at hf; exact fun ρ' H' σ' pr ex at1 => ⟨ρ', e1, s1, at1, hf.mono pr ex⟩
  | rt v s1 => rw [er] at hf; exact hf
  | er c v e1 s1 => rw [er] at hf; exact hf
  | stk => rw [er] at hf; exact hf.elim
theorem sts_of {a : S} (h : St1 p ca fa fd ps a) (h0 : ∀ N sc hot ts, chkS N sc hot a ts = true → ∃ s, ts = [s]) : StP p ca fa fd ps a := by
  intro X n W hx g ts hc
  obtain ⟨s, rfl⟩ := h0 _ _ _ _ hc
  exact pss_one (h X n W hx g s hc)
theorem sts_skip : StP p ca fa fd ps .skip := by
  intro X n W hx g ts h
  rcases ts with _ | ⟨s, _ | ⟨s2, rest⟩⟩
  · exact impPSs pss_nil skip_nx
  · exact pss_one (st_skip X n W hx g s h)
  · simp [chkS] at h
theorem st_drop {e : E} : St1 p ca fa fd ps (.drop e) := by
  intro X n W hx g s h
  cases s <;> try (simp [chkS] at h; done)
  simp only [chkS, Bool.and_eq_true] at h
  refine impPS (ps_expr ((all_ok e).1 X n W hx g.g _ h.1) (swaps_drop h.2)) fun D σ H ⟨ρ, en, st, at_, hf⟩ => ?_
  simp only [exec] at hf
  exact (sE at_ hf).imp fun x H1 ⟨ρ1, w, st1, _, _, at1, rx, _, hf1⟩ => hf1 ρ1 H1 σ (List.prefix_refl _) Ext.rf at1
theorem st_ret {e : E} : St1 p ca fa fd ps (.ret e) := by
  intro X n W hx g s h
  cases s <;> try (simp [chkS] at h; done)
  rename_i v pos
  cases v <;> try (simp [chkS] at h; done)
  simp only [chkS] at h
  refine impPS (ps_ret ((all_ok e).1 X n W hx g.g _ h)) fun D σ H ⟨ρ, en, st, at_, hf⟩ => ?_
  simp only [exec] at hf
  exact (sE at_ hf).imp fun x H1 ⟨ρ1, w, st1, _, _, at1, rx, _, hf1⟩ => hf1 ρ1 H1 x (List.prefix_refl _) Ext.rf at1.st rx
theorem st_retN : St1 p ca fa fd ps .retN := by
  intro X n W hx g s h
  cases s <;> try (simp [chkS] at h; done)
  rename_i v pos
  cases v <;> try (simp [chkS] at h; done)
  refine impPS ps_retN fun D σ H ⟨ρ, en, st, at_, hf⟩ => ?_
  simp only [exec] at hf
  exact hf ρ H _ (List.prefix_refl _) Ext.rf at_.st .non
theorem st_ifs {c : E} {a b : S} (ha : StP p ca fa fd ps a) (hb : StP p ca fa fd ps b) : St1 p ca fa fd ps (.ifs c a b) := by
  intro X n W hx g s h
  cases s <;> try (simp [chkS] at h; done)
  simp only [chkS, Bool.and_eq_true] at h
  refine impPS (ps_if ((all_ok c).2.2.1 X n W hx g.g _ h.1.1) (ha X n W hx g _ h.1.2) (hb X n W hx g _ h.2)) fun D σ H ⟨ρ, en, st, at_, hf⟩ => ?_
  simp only [exec] at hf
  refine (sT at_ hf).imp fun k H1 ⟨ρ1, st1, _, _, at1, hf1⟩ => ?_
  cases k with
  | true => rw [if_pos rfl] at hf1 ⊢; exact ⟨ρ1, en, st1, at1, hf1⟩
  | false => rw [if_neg (by decide)] at hf1 ⊢; exact ⟨ρ1, en, st1, at1, hf1⟩
theorem st_asgA {o e : E} {f : Str} : St1 p ca fa fd ps (.asgA o f e) := by
  intro X n W hx g s h
  cases s <;> try (simp [chkS] at h; done)
  rename_i tgs v pos
  rcases tgs with _ | ⟨tg, _ | ⟨tg2, tr⟩⟩ <;> try (simp [chkS] at h; done)
  cases tg <;> try (simp [chkS] at h; done)
  simp only [chkS, Bool.and_eq_true, decide_eq_true_eq] at h
  obtain ⟨⟨⟨rfl, h1⟩, h2⟩, h3⟩ := h
  cases hx_none (Option.isNone_iff_eq_none.mp h3)
  refine impPS (ps_fld ((all_ok o).1 X n W none g.g _ h2) ((all_ok e).1 X n W none g.g _ h1) swaps_fld) fun D σ H ⟨ρ, en, st, at_, hf⟩ => ?_
  simp only [exec] at hf
  refine (sE at_ hf).imp fun y H1 ⟨ρ1, v, st1, _, _, at1, ry, _, hf1⟩ => (sE at1 hf1).imp fun x H2 ⟨ρ2, vo, st2, pr, ex, at2, rx, _, hf2⟩ => ?_
  have ry2 := ry.mono pr ex
  unfold opSetA at hf2
  cases rx with
  | @ref r a ea =>
    dsimp only at hf2
    split at hf2
    · rename_i s3 e3
      split at e3
      · rename_i c fs ec
        split at e3
        · rename_i i ei
          split at e3
          · rename_i hl
            cases e3
            obtain ⟨ho, h4, r4⟩ := at2.st.obj ec ea
            cases r4 with
            | ins q =>
              obtain ⟨_, m2, m3, _⟩ := g.g.fc.cls c i ei
              obtain ⟨n1, n2⟩ := at2.st.put ec ea (.ins (q.put ry2))
              exact ⟨a, ca c, _, _, rfl, h4, m2, m3 _ hl.2, by rw [← q.length]; omega, hf2 ρ2 _ σ (List.prefix_refl _) n2 ⟨n1, at2.env.mono (List.prefix_refl _) n2, trivial⟩⟩
          · cases e3
        · cases e3
      · cases e3
    · exact hf2.elim
  | _ => exact hf2.elim
theorem st_asgS {o i e : E} : St1 p ca fa fd ps (.asgS o i e) := by
  intro X n W hx g s h
  cases s <;> try (simp [chkS] at h; done)
  rename_i tgs v pos
  rcases tgs with _ | ⟨tg, _ | ⟨tg2, tr⟩⟩ <;> try (simp [chkS] at h; done)
  cases tg <;> try (simp [chkS] at h; done)
  simp only [chkS, Bool.and_eq_true] at h
  obtain ⟨⟨⟨⟨h1, h2⟩, h3⟩, h4⟩, h5⟩ := h
  cases hx_none (Option.isNone_iff_eq_none.mp h5)
  rename_i ox ix q
  refine impPS (ps_asg ((all_ok e).1 X n W none g.g _ h1) (pg_sub ((all_ok o).1 X n W none g.g _ h2) ((all_ok i).1 X n W none g.g _ h3) (set_M (ca := ca) (by have := g.g.un; omega)) (by intro v; cases ix <;> first | rfl | simp [notSlc] at h4)) swaps_sub store_sub) fun D σ H ⟨ρ, en, st, at_, hf⟩ => ?_
  simp only [exec] at hf
  refine (sE at_ hf).imp fun y H1 ⟨ρ1, v, st1, _, _, at1, ry, _, hf1⟩ => (sE at1 hf1).imp fun x H2 ⟨ρ2, vo, st2, pr, ex, at2, rx, _, hf2⟩ => (sE at2 hf2).imp fun z H3 ⟨ρ3, vi, st3, pr3, ex3, at3, rz, _, hf3⟩ => ?_
  cases e4 : opSetS vo vi v st3 with
  | none => rw [e4] at hf3; exact hf3.elim
  | some s4 =>
    rw [e4] at hf3
    exact ⟨ρ3, st3, vo, vi, v, s4, at3.st, rx.mono pr3 ex3, rz, (ry.mono pr ex).mono pr3 ex3, e4, fun H' x4 hs4 => hf3 ρ3 H' σ (List.prefix_refl _) x4 ⟨hs4, at3.env.mono (List.prefix_refl _) x4, trivial⟩⟩
theorem st_for {tg : Tg} {it : E} {b : S} (hb : StP p ca fa fd ps b) : St1 p ca fa fd ps (.for tg it b) := by
  intro X n W hx g s h
  cases s <;> try (simp [chkS] at h; done)
  rename_i tx iter body orelse pos
  cases orelse <;> try (simp [chkS] at h; done)
  simp only [chkS, Bool.and_eq_true] at h
  obtain ⟨⟨⟨⟨h1, h2⟩, h3⟩, h4⟩, h5⟩ := h
  cases hx_none (Option.isNone_iff_eq_none.mp h1)
  have calm := (g.g.cold rfl).1
  refine impPS (ps_for (g.po rfl) calm ((all_ok it).2.2.2 X n W none g.g rfl tx iter h2 (enu_tg h3)) (tg_ok (ca := ca) (X := X) (fnb := fun _ => true) (fun x _ => g.fnb x) g.g.nd (fun _ => calm) h4) (hb X n W none g body h5) (fold_set (iter_set h2) _)) fun D σ H ⟨ρ, en, st, at_, hf⟩ => ?_
  simp only [exec] at hf
  refine ⟨ρ, en, st, at_, ?_⟩
  cases er : evI p (callF p n) it en st with
  | stk => rw [er] at hf; exact hf.elim
  | err c w s1 => rw [er] at hf; exact fun ρ1 H1 d w pr ex hs hd hr => hf ρ1 H1 σ d w pr ex (at_.mono pr ex hs) hd hr
  | ok k s1 =>
    rw [er] at hf
    intro ρ1 H1 J pr ex hs wk
    refine ⟨fun i m σ2 H2 => ∃ ρ2 e2 s2, ρ1 <+: ρ2 ∧ Ext H1 H2 ∧ At p ca X.K ρ2 H2 e2 σ2 none s2 ∧ FinS p ca X.K none (goes k tg (exec p (callF p n) b) m i e2 s2) ρ2 H2 D W, ⟨k.fuel s1, ρ1, en, s1, List.prefix_refl _, Ext.rf, at_.mono pr ex hs, hf.mono pr ex⟩, ?_⟩
    rintro i m σ2 H2 ⟨ρ2, e2, s2, p2, x2, at2, hf2⟩
    cases m with
    | zero => simp only [goes] at hf2; exact hf2.elim
    | succ m =>
      rw [goes] at hf2
      obtain ⟨w1, w2⟩ := wk i H2 s2 ρ2 p2 x2 at2.st
      split at hf2
      · exact hf2.elim
      · rename_i en2
        exact .inl ⟨w1 en2, hf2 ρ2 H2 σ2 (List.prefix_refl _) Ext.rf at2⟩
      · rename_i v en2
        obtain ⟨go, yl⟩ := w2 v en2
        split at hf2
        · exact hf2.elim
        · rename_i e3 ea
          refine .inr ⟨go, fun σ' H' => ∃ ρ2 e2 s2, ρ1 <+: ρ2 ∧ Ext H1 H' ∧ At p ca X.K ρ2 H' e2 σ' none s2 ∧ FinS p ca X.K none (goes k tg (exec p (callF p n) b) m (i + 1) e2 s2) ρ2 H' D W, fun σ' H' q => ⟨m, Nat.lt_succ_self _, q⟩, fun x H3 y => ?_⟩
          obtain ⟨y1, y2, y3⟩ := yl x H3 y
          refine ⟨ρ2, s2, v, e2, e3, y2, y3, at2.env.mono (List.prefix_refl _) y1, ea, fun σ' re _ => ⟨ρ2, e3, s2, ⟨y2, re, trivial⟩, ?_⟩⟩
          cases eb : exec p (callF p n) b e3 s2 with
          | nx e4 s4 => rw [eb] at hf2; exact fun ρ' H' σ4 p4 x4 at4 => ⟨ρ', e4, s4, p2.trans p4, (x2.tr y1).tr x4, at4, hf2.mono p4 (y1.tr x4)⟩
          | rt v s4 => rw [eb] at hf2; exact fun ρ' H' x p4 x4 => hf2 ρ' H' x p4 (y1.tr x4)
          | er c v e4 s4 => rw [eb] at hf2; exact fun ρ' H' σ4 d w p4 x4 => hf2 ρ' H' σ4 d w p4 (y1.tr x4)
          | stk => rw [eb] at hf2; exact hf2.elim
theorem unlk_at {m : Nat} {s s2 : Store} (h : unlk m s = some s2) : ∃ l, s[m]? = some ⟨.dct l, true⟩ ∧ s2 = s.set m ⟨.dct l, false⟩ := by
  unfold unlk at h
  split at h
  · rename_i l e
    cases h
    exact ⟨l, e, rfl⟩
  · cases h
theorem lockAt_at {st : Store} {v : Option (Option Val)} {fs : List Str} {m : Nat} {l : List (Sum Int Str × Val)} (h : lockAt st v fs = some (m, l)) : st[m]? = some ⟨.dct l, false⟩ := by
  unfold lockAt at h
  split at h
  · split at h
    · split at h
      · rename_i e
        cases h
        exact e
      · cases h
    · cases h
  · cases h
theorem st_lkS {i : Nat} {fs : List Str} {b : S} (hb : St1 p ca fa fd ps b) : St1 p ca fa fd ps (.lkS i fs b) := by
  intro X n W hx g s h
  simp only [chkS, Bool.and_eq_true] at h
  cases hx_none (Option.isNone_iff_eq_none.mp h.1)
  have hP := hb X n W none g s h.2
  refine ⟨fun pins s0 σ H D I ⟨ρ, en, st, at_, hf⟩ => ?_⟩
  simp only [exec] at hf
  cases el : lockAt st (en.s[i]?) fs with
  | none =>
    rw [el] at hf
    exact hP.run pins s0 σ H D I ⟨ρ, en, st, at_, hf⟩
  | some q =>
    obtain ⟨m, l⟩ := q
    simp only [el] at hf
    have em := lockAt_at el
    obtain ⟨a, ea, _⟩ := at_.st.cell m _ em
    obtain ⟨gs, ha, hr⟩ := at_.st.dctU em ea
    refine (ps_lock hP).run pins s0 σ H D I ⟨a, .dK gs, ha, trivial, fun od => ?_⟩
    obtain ⟨n1, ex⟩ := at_.st.lock em ea ha hr od
    refine ⟨ρ, en, st.set m ⟨.dct l, true⟩, ⟨n1, at_.env.mono (List.prefix_refl _) ex, trivial⟩, ?_⟩
    have back : ∀ {ρ' : List Addr} {H' : Hp} {s1 s2 : Store}, ρ <+: ρ' → Ext (upd H a (.frz od (.dK gs))) H' → Rst X.K ca ρ' H' s1 → unlk m s1 = some s2 → H' a = some (.frz od (.dK gs)) ∧ Ext H (upd H' a (.dK gs)) ∧ Rst X.K ca ρ' (upd H' a (.dK gs)) s2 ∧ ∀ v x, Rv X.K ρ' H' v x → Rv X.K ρ' (upd H' a (.dK gs)) v x := fun {ρ' H' s1 s2} pr ex' hs hu => by
      obtain ⟨l', e1, rfl⟩ := unlk_at hu
      have ha' := ex' a (.frz od (.dK gs)) trivial upd_same
      have ea' : ρ'[m]? = some a := by
        obtain ⟨t, rfl⟩ := pr
        rw [List.getElem?_append_left (List.getElem?_eq_some_iff.mp ea).1]; exact ea
      obtain ⟨r1, r2⟩ := hs.unlock e1 ea' ha'
      refine ⟨ha', fun b o po hb' => ?_, r1, r2⟩
      have hne : b ≠ a := fun z => by
        subst z
        rw [ha] at hb'
        cases hb'
        exact po
      rw [upd_ne hne]
      exact ex' b o po (by rw [upd_ne hne]; exact hb')
    cases eb : exec p (callF p n) b en (st.set m ⟨.dct l, true⟩) with
    | nx e1 s1 =>
      rw [eb] at hf
      dsimp only at hf
      cases eu : unlk m s1 with
      | none => rw [eu] at hf; exact hf.elim
      | some s2 =>
        rw [eu] at hf
        intro ρ' H' σ' pr ex' at1
        obtain ⟨b1, b2, b3, b4⟩ := back pr ex' at1.st eu
        exact ⟨b1, hf ρ' _ σ' pr b2 ⟨b3, ⟨at1.env.len, fun j v hv => let ⟨x, h1, h2⟩ := at1.env.at_ j v hv; ⟨x, h1, b4 v x h2⟩⟩, trivial⟩⟩
    | rt v s1 =>
      rw [eb] at hf
      dsimp only at hf
      cases eu : unlk m s1 with
      | none => rw [eu] at hf; exact hf.elim
      | some s2 =>
        rw [eu] at hf
        intro ρ' H' x pr ex' hs rx
        obtain ⟨b1, b2, b3, b4⟩ := back pr ex' hs eu
        exact ⟨b1, hf ρ' _ x pr b2 b3 (b4 v x rx)⟩
    | er c v e1 s1 =>
      rw [eb] at hf
      exact fun ρ' H' σ' d w pr ex' => hf ρ' H' σ' d w pr (ex.tr ex')
    | stk => rw [eb] at hf; exact hf.elim
end
end
end AM
end

section
set_option maxRecDepth 100000
set_option maxHeartbeats 8000000
namespace AM
open PySem L2 PyProof.Rows
section
variable {p : Prog} {ca fa : Str → Addr} {fd : Str → FuncData} {ps : Str → List Str}
theorem Rst.keep {K : Frg} {ρ : List Addr} {H H' : Hp} {st : Store} (h : Rst K ca ρ H st) (ex : Ext H H') (k : ∀ a u, Mut (some u) → H a = some u → H' a = some u) : Rst K ca ρ H' st := by
  refine ⟨h.len, fun m c hc => ?_, h.inj⟩
  obtain ⟨a, ea, rc⟩ := h.cell m c hc
  exact ⟨a, ea, rc.mono (List.prefix_refl _) ex fun u hu mu => k a u mu hu⟩
theorem st_rais {c : Str} {l : E} : St1 p ca fa fd ps (.rais c l) := by
  intro X n W hx g s h
  cases s <;> try (simp [chkS] at h; done)
  rename_i exc cause pos
  cases cause <;> cases exc <;> try (simp [chkS] at h; done)
  rename_i exc
  cases exc <;> try (simp [chkS] at h; done)
  rename_i fn args kw cpos
  cases fn <;> try (simp [chkS] at h; done)
  cases args <;> cases kw <;> try (simp [chkS] at h; done)
  rename_i x q e1 es
  simp only [chkS, Bool.and_eq_true, decide_eq_true_eq] at h
  obtain ⟨⟨⟨⟨rfl, h1⟩, h2⟩, h3⟩, h4⟩ := h
  cases hx_none (Option.isNone_iff_eq_none.mp h4)
  by_cases hc : p.exs.contains c = true
  · have calm := (g.g.cold rfl).1
    obtain ⟨m1, m2, m3, m4⟩ := g.g.fc.exc c hc
    obtain ⟨fI, fdI, psI, x1, x2, x3, x4⟩ := g.g.exi c hc
    have hP := (all_ok (p := p) (ca := ca) (fa := fa) (fd := fd) (ps := ps) l).2.1 X n W none g.g _ h3
    have ns : starEach (e1 :: es) X.env = (false, eval e1 X.env) :: starEach es X.env := by
      cases l <;> try (simp [chkL] at h3; done)
      simp only [chkL, Bool.and_eq_true] at h3
      exact not_star h3.1 _ _
    have sa : (backTo cpos (starEach es X.env)).any (·.1) = false := by
      cases l <;> try (simp [chkL] at h3; done)
      simp only [chkL, Bool.and_eq_true] at h3
      exact star_all h3.2 _ _
    refine impPS (ps_raise calm g.g.tk (pmk_oex (dvs := []) m2 x1 x2 x3 ((g.g.cold rfl).2.mono (by omega)) x4 .nil (passes_call (X := X) takes_none5 fun _ _ _ _ z => z) (gl_of h1) m1 hP (ok_dbg h2).1 ns sa)) fun D σ H ⟨ρ, en, st, at_, hf⟩ => ?_
    simp only [exec] at hf
    rw [if_neg (by rw [hc]; decide)] at hf
    refine ⟨ρ, en, st, at_, ?_⟩
    cases er : evL p (callF p n) l en st with
    | stk => rw [er] at hf; exact hf.elim
    | err d w s1 => rw [er] at hf; exact fun ρ1 H1 d w pr ex hs hd hr => hf ρ1 H1 σ d w pr ex (at_.mono pr ex hs) hd hr
    | ok ws s1 =>
      rw [er] at hf
      rcases ws with _ | ⟨w, _ | ⟨w2, wr⟩⟩
      · exact hf.elim
      · intro ρ1 H1 xs pr ex hs hr
        obtain ⟨x, rfl, rx⟩ := rvs1 hr
        refine ⟨by simp, fun a ha => ⟨a, ca c, x, rfl, m2, m4, upd_same, fun dx hdx hne => ?_⟩⟩
        have hdx1 : H1 dx = none := by rw [upd_ne hne] at hdx; exact hdx
        refine ⟨rfl, dx, _, upd_same, by rw [upd_ne hne, upd_same], hdx1, ?_⟩
        have same : ∀ b u, H1 b = some u → (upd (del (upd (upd (upd H1 a (exo a (ca c) none)) dx (exd dx [(("value" : Str), x)])) a (exo a (ca c) (some dx))) a) dx (.xd [(("value" : Str), x)])) b = some u := fun b u hb => by
          have hba : b ≠ a := fun z => by rw [z, ha] at hb; cases hb
          have hbd : b ≠ dx := fun z => by rw [z, hdx1] at hb; cases hb
          rw [upd_ne hbd, del_ne hba, upd_ne hba, upd_ne hbd, upd_ne hba]; exact hb
        have xn : Ext H1 (upd (del (upd (upd (upd H1 a (exo a (ca c) none)) dx (exd dx [(("value" : Str), x)])) a (exo a (ca c) (some dx))) a) dx (.xd [(("value" : Str), x)])) := fun b u _ hb => same b u hb
        have at1 := at_.mono pr ex hs
        exact hf ρ1 _ σ dx x pr (ex.tr xn) ⟨hs.keep xn fun b u _ hb => same b u hb, at1.env.mono (List.prefix_refl _) xn, trivial⟩ upd_same (rx.mono (List.prefix_refl _) xn)
      · exact hf.elim
  · refine ⟨fun pins s0 σ H D I ⟨ρ, en, st, at_, hf⟩ => ?_⟩
    simp only [exec, Bool.not_eq_true] at hf hc
    rw [if_pos hc] at hf
    exact hf.elim
/-- the suites of a chain of clauses are sound -/
def HsP (p : Prog) (ca fa : Str → Addr) (fd : Str → FuncData) (ps : Str → List Str) : S → Prop
  | .hnd _ _ bs r => StP p ca fa fd ps bs ∧ HsP p ca fa fd ps r
  | _ => True
def clOf (p : Prog) (ca : Str → Addr) (X : Cx) (n : Nat) : S → List AN.Clause
  | .hnd c (some i) bs r => (.ref (ca c), i, fun a cls d => TSm p ca X n (some ⟨i, a, cls, d⟩) noW bs) :: clOf p ca X n r
  | _ => []
theorem cls_of {X : Cx} {n : Nat} {W : WX} (g : Gs p ca fa fd ps X n W none) : ∀ (h : S) (hds : List ExceptHandler), chkH X.N X.env.scope h hds = true → hsOk p h = true → HsP p ca fa fd ps h → AN.Cls X hds (clOf p ca X n h) := by
  intro h
  induction h with
  | hnd c x bs r _ ih =>
    intro hds hc ho hp
    cases x with
    | none => cases hds <;> simp [chkH] at hc
    | some i =>
      rcases hds with _ | ⟨⟨ty, nm, suite, hpos⟩, hr⟩
      · simp [chkH] at hc
      · cases ty <;> cases nm <;> cases suite <;> try (simp [chkH] at hc; done)
        rename_i ty nm s0 ss
        cases ty <;> try (simp [chkH] at hc; done)
        rename_i x xpos
        simp only [chkH, Bool.and_eq_true, decide_eq_true_eq] at hc
        obtain ⟨⟨⟨⟨⟨⟨rfl, h3⟩, h4⟩, h5⟩, h6⟩, h7⟩, h8⟩ := hc
        simp only [hsOk, Bool.and_eq_true] at ho
        obtain ⟨m1, _⟩ := g.g.fc.exc c ho.1
        have hl : X.env.scope.names.lookup nm = some .local := by
          unfold locB at h6
          split at h6
          · assumption
          · cases h6
        exact .cons h5 hl ⟨gl_of h3, (ok_dbg h4).1, .inl m1⟩
          (fun a oe cls d pn hz hd => hp.1 (X.suite a ((a, oe) :: pn)) n noW (some ⟨i, a, cls, d⟩) ⟨⟨g.g.nd, g.g.fc, g.g.gd, g.g.un, (fun z => nomatch z), g.g.fn, takes_none5, g.g.exi, (fun h z => by cases z; exact ⟨X, oe, pn, rfl, hz, hd⟩)⟩, g.fnb, g.kind, (fun z => nomatch z), (fun z => nomatch z)⟩ (s0 :: ss) h7)
          (ih hr h8 ho.2 hp.2)
  | noh =>
    intro hds hc _ _
    cases hds with
    | nil => exact .nil
    | cons _ _ => simp [chkH] at hc
  | _ =>
    intro hds hc
    cases hds <;> simp [chkH] at hc
/-- an error of the body walks down the chain -/
theorem walk_cl {X : Cx} {n : Nat} {W : WX} (g : Gs p ca fa fd ps X n W none) {D : Ends} {ρ : List Addr} {H : Hp} {d : Str} {v : Val} {dd : Addr} {w : V} {ρ' : List Addr} {H' : Hp} {σ' : L2.St} {e1 : Env} {s1 : Store} (hd0 : p.exs.contains d = true)
    (pr : ρ <+: ρ') (ex : Ext H H') (at1 : At p ca X.K ρ' H' e1 σ' none s1) (hd : H' dd = some (.xd [(("value" : Str), w)])) (rv : Rv X.K ρ' H' v w) : ∀ (h : S), hsOk p h = true → (∃ hds, chkH X.N X.env.scope h hds = true) → FinS p ca X.K none (exec p (callF p n) h { e1 with x := some (d, v) } s1) ρ H D W → AN.wCl X.K W D (clOf p ca X n h) (.ref (ca d)) (some dd) σ' H' := by
  intro h
  induction h with
  | hnd c x bs r _ ih =>
    intro ho hch hf
    obtain ⟨hds, hch⟩ := hch
    cases x with
    | none => cases hds <;> simp [chkH] at hch
    | some i =>
      have hr : ∃ hds, chkH X.N X.env.scope r hds = true := by
        rcases hds with _ | ⟨⟨ty, nm, suite, hpos⟩, hr⟩
        · simp [chkH] at hch
        · cases ty <;> cases nm <;> cases suite <;> try (simp [chkH] at hch; done)
          rename_i ty nm s0 ss
          cases ty <;> try (simp [chkH] at hch; done)
          simp only [chkH, Bool.and_eq_true] at hch
          exact ⟨_, hch.2⟩
      simp only [hsOk, Bool.and_eq_true] at ho
      simp only [exec] at hf
      by_cases he : (p.exs.contains d && hndOk (some i) { e1 with x := some (d, v) }) = false
      · rw [if_pos he] at hf; exact hf.elim
      · rw [if_neg he] at hf
        simp only [Bool.not_eq_false, Bool.and_eq_true, hndOk, decide_eq_true_eq] at he
        refine ⟨isaP p d c, g.g.fc.exm c d ho.1 he.1, fun hi a ha => ?_, fun hi => ?_⟩
        · rw [if_pos hi] at hf
          refine ⟨ρ', { s := e1.s.set i none, x := some (d, v) }, s1, ⟨at1.st, ?_, d, v, dd, w, rfl, rfl, rfl, hd, rv, he.1, ?_⟩, ?_⟩
          · refine ⟨by simp [at1.env.len], fun j u hj => ?_⟩
            by_cases hji : j = i
            · subst hji
              by_cases hlt : j < e1.s.length
              · rw [List.getElem?_set_self hlt] at hj; cases hj
              · rw [List.getElem?_eq_none (by simpa using hlt)] at hj; cases hj
            · rw [List.getElem?_set_ne (Ne.symm hji)] at hj ⊢
              exact at1.env.at_ j u hj
          · have hlt : i < σ'.length := by rw [← at1.env.len]; exact he.2
            exact List.getElem?_set_self hlt
          · cases es : exec p (callF p n) bs { s := e1.s.set i none, x := some (d, v) } s1 with
            | nx e3 s3 =>
              rw [es] at hf
              exact fun ρ2 H2 σ2 p2 x2 at2 => hf ρ2 H2 _ (pr.trans p2) (ex.tr x2) ⟨at2.st, at2.env.unset i, trivial⟩
            | rt u s3 =>
              rw [es] at hf
              exact fun ρ2 H2 x p2 x2 => hf ρ2 H2 x (pr.trans p2) (ex.tr x2)
            | er d2 v2 e3 s3 => rw [es] at hf; exact hf.elim
            | stk => rw [es] at hf; exact hf.elim
        · rw [if_neg (by rw [hi]; decide)] at hf
          exact ih ho.2 hr hf
  | noh =>
    intro _ _ hf
    exact hf ρ' H' σ' dd w pr ex ⟨at1.st, at1.env, trivial⟩ hd rv
  | _ =>
    intro _ hch
    obtain ⟨hds, hch⟩ := hch
    cases hds <;> simp [chkH] at hch
theorem st_tri {b h : S} (hb : StP p ca fa fd ps b) (hh : HsP p ca fa fd ps h) : St1 p ca fa fd ps (.tri b h) := by
  intro X n W hx g s hc
  cases s <;> try (simp [chkS] at hc; done)
  rename_i body hds orelse fin pos
  rcases hds with _ | ⟨hd1, hds⟩ <;> cases orelse <;> cases fin <;> try (simp [chkS] at hc; done)
  simp only [chkS, Bool.and_eq_true] at hc
  obtain ⟨⟨h1, h2⟩, h3⟩ := hc
  cases hx_none (Option.isNone_iff_eq_none.mp h1)
  by_cases ho : hsOk p h = true
  · obtain ⟨k1, k2⟩ := g.stk rfl
    refine impPS (AN.try_clauses (l := clOf p ca X n h) (tb := fun W' => TSm p ca X n none W' b) k1 k2 g.g.nd g.g.tk
      (fun W' pn xe tk po => hb (X.tr pn xe) n W' none ⟨⟨g.g.nd, g.g.fc, g.g.gd, g.g.un, g.g.cold, g.g.fn, tk, g.g.exi, fun h z => nomatch z⟩, g.fnb, g.kind, fun _ => po, fun _ => ⟨k1, k2⟩⟩ body h2)
      (cls_of g h _ h3 ho hh)) fun D σ H ⟨ρ, en, st, at_, hf⟩ => ?_
    refine ⟨ρ, en, st, at_, ?_⟩
    simp only [exec] at hf
    rw [ho, if_neg (by decide)] at hf
    cases eb : exec p (callF p n) b en st with
    | nx e1 s1 => rw [eb] at hf; exact hf
    | rt v s1 => rw [eb] at hf; exact hf
    | stk => rw [eb] at hf; exact hf.elim
    | er d v e1 s1 =>
      rw [eb] at hf
      dsimp only at hf
      intro ρ' H' σ' dd w pr ex at1 hd rv
      by_cases hd0 : p.exs.contains d = true
      · exact walk_cl g hd0 pr ex at1 hd rv h ho ⟨_, h3⟩ hf
      · cases h with
        | hnd c x bs r =>
          simp only [exec] at hf
          rw [Bool.not_eq_true] at hd0
          rw [if_pos (by rw [hd0]; rfl)] at hf
          exact hf.elim
        | _ => simp [chkH] at h3
  · refine ⟨fun pins s0 σ H D I ⟨ρ, en, st, at_, hf⟩ => ?_⟩
    simp only [exec] at hf
    rw [Bool.not_eq_true] at ho
    rw [ho, if_pos rfl] at hf
    exact hf.elim
abbrev Sall (p : Prog) (ca fa : Str → Addr) (fd : Str → FuncData) (ps : Str → List Str) (a : S) : Prop := St1 p ca fa fd ps a ∧ StP p ca fa fd ps a ∧ HsP p ca fa fd ps a
theorem sall {a : S} (h : St1 p ca fa fd ps a) (h0 : ∀ N sc hot ts, chkS N sc hot a ts = true → ∃ s, ts = [s]) (h1 : HsP p ca fa fd ps a) : Sall p ca fa fd ps a := ⟨h, sts_of h h0, h1⟩
theorem no1 {a : S} (h : ∀ N sc hot ts, chkS N sc hot a ts = false) : St1 p ca fa fd ps a := fun X n W hx g s hc => by rw [h] at hc; cases hc
theorem noP {a : S} (h : ∀ N sc hot ts, chkS N sc hot a ts = false) : StP p ca fa fd ps a := fun X n W hx g s hc => by rw [h] at hc; cases hc
theorem all_st (a : S) : Sall p ca fa fd ps a := by
  induction a with
  | skip => exact ⟨st_skip, sts_skip, trivial⟩
  | seq a b ha hb => exact ⟨st_seq, sts_seq ha.1 hb.2.1, trivial⟩
  | asg t e => exact sall st_asg (by ((intro N sc hot ts h; rcases ts with _ | ⟨s, _ | ⟨s2, r⟩⟩ <;> first | exact ⟨_, rfl⟩ | (simp [chkS] at h)))) trivial
  | asgA o f e => exact sall st_asgA (by ((intro N sc hot ts h; rcases ts with _ | ⟨s, _ | ⟨s2, r⟩⟩ <;> first | exact ⟨_, rfl⟩ | (simp [chkS] at h)))) trivial
  | asgS o i e => exact sall st_asgS (by ((intro N sc hot ts h; rcases ts with _ | ⟨s, _ | ⟨s2, r⟩⟩ <;> first | exact ⟨_, rfl⟩ | (simp [chkS] at h)))) trivial
  | drop e => exact sall st_drop (by ((intro N sc hot ts h; rcases ts with _ | ⟨s, _ | ⟨s2, r⟩⟩ <;> first | exact ⟨_, rfl⟩ | (simp [chkS] at h)))) trivial
  | ret e => exact sall st_ret (by ((intro N sc hot ts h; rcases ts with _ | ⟨s, _ | ⟨s2, r⟩⟩ <;> first | exact ⟨_, rfl⟩ | (simp [chkS] at h)))) trivial
  | retN => exact sall st_retN (by ((intro N sc hot ts h; rcases ts with _ | ⟨s, _ | ⟨s2, r⟩⟩ <;> first | exact ⟨_, rfl⟩ | (simp [chkS] at h)))) trivial
  | ifs c a b ha hb => exact sall (st_ifs ha.2.1 hb.2.1) (by ((intro N sc hot ts h; rcases ts with _ | ⟨s, _ | ⟨s2, r⟩⟩ <;> first | exact ⟨_, rfl⟩ | (simp [chkS] at h)))) trivial
  | «for» t it b hb => exact sall (st_for hb.2.1) (by ((intro N sc hot ts h; rcases ts with _ | ⟨s, _ | ⟨s2, r⟩⟩ <;> first | exact ⟨_, rfl⟩ | (simp [chkS] at h)))) trivial
  | rais c l => exact sall st_rais (by ((intro N sc hot ts h; rcases ts with _ | ⟨s, _ | ⟨s2, r⟩⟩ <;> first | exact ⟨_, rfl⟩ | (simp [chkS] at h)))) trivial
  | lkS i fs b hb => exact sall (st_lkS hb.1) (by ((intro N sc hot ts h; rcases ts with _ | ⟨s, _ | ⟨s2, r⟩⟩ <;> first | exact ⟨_, rfl⟩ | (simp [chkS] at h)))) trivial
  | tri b h hb hh => exact sall (st_tri hb.2.1 hh.2.2) (by ((intro N sc hot ts h; rcases ts with _ | ⟨s, _ | ⟨s2, r⟩⟩ <;> first | exact ⟨_, rfl⟩ | (simp [chkS] at h)))) trivial
  | hnd c x b r hb hr => exact ⟨no1 (by intro N sc hot ts; rcases ts with _ | ⟨s, _ | ⟨s2, r2⟩⟩ <;> simp [chkS]), noP (by intro N sc hot ts; rcases ts with _ | ⟨s, _ | ⟨s2, r2⟩⟩ <;> simp [chkS]), hb.2.1, hr.2.2⟩
  | noh => exact ⟨no1 (by intro N sc hot ts; rcases ts with _ | ⟨s, _ | ⟨s2, r2⟩⟩ <;> simp [chkS]), noP (by intro N sc hot ts; rcases ts with _ | ⟨s, _ | ⟨s2, r2⟩⟩ <;> simp [chkS]), trivial⟩
end
end AM
end

section
set_option maxRecDepth 100000
set_option maxHeartbeats 8000000
namespace AM
open PySem L2 PyProof.Rows
section
variable {p : Prog} {ca fa : Str → Addr} {fd : Str → FuncData} {ps : Str → List Str}
theorem start_ok {K : Frg} {ρ : List Addr} {H : Hp} {N : List Str} : ∀ {vs : List Val} {xs : List V}, Rvs K ρ H vs xs → Renv K ρ H (startE N.length vs).s (L2.start N xs) := by
  intro vs xs h
  have hm : ∀ {vs : List Val} {xs : List V}, Rvs K ρ H vs xs → ∀ (i : Nat) (v : Val), (vs.map some)[i]? = some (some v) → ∃ x, (xs.map some)[i]? = some (some x) ∧ Rv K ρ H v x := fun {vs xs} h i v hv => by
    rw [List.getElem?_map] at hv
    cases e : vs[i]? with
    | none => rw [e] at hv; cases hv
    | some w =>
      rw [e] at hv
      cases hv
      obtain ⟨x, ex, rx⟩ := h.get e
      exact ⟨x, by rw [List.getElem?_map, ex]; rfl, rx⟩
  have hl := h.length
  refine ⟨by simp [startE, L2.start, hl], fun i v hv => ?_⟩
  unfold startE at hv
  unfold L2.start
  dsimp only at hv
  by_cases hi : i < vs.length
  · rw [List.getElem?_append_left (by simpa using hi)] at hv
    rw [List.getElem?_append_left (by simp; omega)]
    exact hm h i v hv
  · rw [List.getElem?_append_right (by simp; omega)] at hv
    rw [List.getElem?_replicate] at hv
    split at hv <;> cases hv
/-- what the top must have written for the defs -/
structure Top (p : Prog) (ca fa : Str → Addr) (fd : Str → FuncData) (ps : Str → List Str) (P : Program) (w : World) (K : Frg) (mg : Str → Option Value) (base : Heap) : Prop where
  ent : ∀ key d, p.defs.lookup key = some d → Ent ca fa fd ps K (fun N sc a ts => chkS N sc none a ts) key d
  fc : Facts p ca fa fd ps K mg
  exi : ∀ c, p.exs.contains c = true → ∃ (fI : Addr) (fdI : FuncData) (psI : List Str), PySem.W.findIn K (.ref (ca c)) "__init__" = some (some (.ref fI)) ∧ PySem.W.typeIn K (.ref fI) = some (.type "function") ∧
    FnOk P w K mg base (CX P w) 1 fI fdI psI (spX K) ∧ Binds K fdI psI []
theorem defs_ok {P : Program} {w : World} {K : Frg} {mg : Str → Option Value} {base : Heap} (T : Top p ca fa fd ps P w K mg base) : ∀ n key d, p.defs.lookup key = some d → FnG P w K mg base (2 * n + 3) (fa key) (fd key) (ps key) (spM p ca K n key) := by
  intro n
  induction n with
  | zero =>
    intro key d hd
    have no : ∀ vs H Q E, ¬ spM p ca K 0 key vs H Q E := fun vs H Q E ⟨ρ, st, mvs, hs, hv, hf⟩ => by simp only [callF] at hf; exact hf.elim
    exact ⟨fun vs H Q E z => absurd z (no vs H Q E), fun A outer s H args us vs Q E _ _ _ _ _ z => absurd z (no vs H Q E)⟩
  | succ n ih =>
    intro key d hd
    obtain ⟨⟨x, qual, params, body, scope, N, F, S, hc, hN⟩, hnp, _⟩ := T.ent key d hd
    have hlen : ∀ vs H Q E, spM p ca K (n + 1) key vs H Q E → vs.length = (ps key).length := fun vs H Q E ⟨ρ, st, mvs, hs, hv, hf⟩ => by
      obtain ⟨d', h1, h2⟩ := np_of hf.nstk
      rw [hd] at h1
      cases h1
      rw [← hv.length, h2, hnp]
    refine fnG_of (k := 2 * n + 4) F S hlen fun cdv A outer s H vs Q E hr hg hsp => ?_
    have st1 := (all_st (p := p) (ca := ca) (fa := fa) (fd := fd) (ps := ps) d.body).2.1 (cxOf (CX P w) P w K mg base N qual scope (fa key) cdv A outer s H E) n (fun cls d _ H' => E cls d H') none
      ⟨⟨S.nd, T.fc, guards_deeper hg, by have := hr.un; show _ + 100 < _; simp only [cxOf]; omega, fun _ => ⟨rfl, hr⟩, ih, takes_of (X := cxOf (CX P w) P w K mg base N qual scope (fa key) cdv A outer s H E) rfl rfl rfl rfl, T.exi, fun h z => nomatch z⟩, fun _ => rfl, S.kind, fun _ => passes_of (X := cxOf (CX P w) P w K mg base N qual scope (fa key) cdv A outer s H E) (K := fun e s'' => CX P w outer H s E e s'') rfl, fun _ => ⟨rfl, rfl⟩⟩ body hc
    refine ⟨_, st1, ?_⟩
    obtain ⟨ρ, st, mvs, hs, hv, hf⟩ := hsp
    refine ⟨ρ, startE d.nv mvs, st, ⟨hs, by rw [← hN]; exact start_ok hv, trivial⟩, ?_⟩
    have hl : mvs.length = d.np := by
      obtain ⟨d', h1, h2⟩ := np_of hf.nstk
      rw [hd] at h1
      cases h1
      exact h2
    simp only [callF, hd, if_pos hl] at hf
    cases eb : exec p (callF p n) d.body (startE d.nv mvs) st with
    | nx e1 s1 => rw [eb] at hf; exact fun ρ' H' σ' pr ex at_ => hf ρ' H' .non pr ex at_.st .non
    | rt v s1 => rw [eb] at hf; exact fun ρ' H' x pr ex hs' rx => hf ρ' H' x pr ex hs' rx
    | er c v e1 s1 => rw [eb] at hf; exact fun ρ' H' σ' dd w pr ex at_ hd rx => hf ρ' H' dd w pr ex at_.st hd rx
    | stk => rw [eb] at hf; exact hf.elim
end
end AM
end

section
set_option maxRecDepth 100000
set_option maxHeartbeats 8000000
namespace AM
open PySem L2 PyProof.Rows

/-- a property of a class: the object, its getter -/
def prA (K : Frg) (C : Addr) (f : Str) : Addr × Addr :=
  match PySem.W.findIn K (.ref C) f with
  | some (some (.ref q)) => (match PySem.W.recIn K q "property" with
    | some (.ref g :: _) => (q, g)
    | _ => (q, 0))
  | _ => (0, 0)
def inCls (K : Frg) (key : Str) : List (Str × Cinfo) → Addr
  | [] => 0
  | (c, i) :: r => match i.meths.find? (fun q => q.2 == key) with
    | some q => He.ma K (He.ga K c) q.1
    | none => match i.props.find? (fun q => q.2 == key) with
      | some q => (prA K (He.ga K c) q.1).2
      | none => inCls K key r
/-- where a def stands -/
def keyA (p : Prog) (K : Frg) (key : Str) : Addr := if p.funs.contains key then He.ga K key else inCls K key p.clss

def oexB (K : Frg) (C : Addr) : Bool :=
  (match K.lookup C with
    | some ⟨.type t, _, .cls cd, sl⟩ => t == "type" && (match cd.mro with
      | .ref C' :: bm => decide (C' = C) && PySem.HandSPX.refsVE bm && cd.hasDict && !cd.hasDel
      | _ => false) && (match sl.toList with
      | [_, _, _, _, some (.builtin n), _] => n == "ValueError.__new__"
      | _ => false)
    | _ => false) && decide (PySem.W.findIn K (.ref C) "__setattr__" = some (some (.builtin "object.__setattr__"))) && decide (PySem.W.subIn K (.ref C) (.type "BaseException") = some true) && decide (PySem.W.typeIn K (.ref C) = some (.type "type")) && PySem.W.keepIn K (.ref C)
theorem oexB_ok {K : Frg} {C : Addr} (h : oexB K C = true) : OexC K C := by
  unfold oexB at h
  simp only [Bool.and_eq_true, decide_eq_true_eq] at h
  obtain ⟨⟨⟨⟨h1, h2⟩, h3⟩, h4⟩, h5⟩ := h
  refine ⟨?_, h2, h3, h4, h5⟩
  split at h1
  · rename_i t dd cd sl e
    simp only [Bool.and_eq_true] at h1
    obtain ⟨⟨k1, k2⟩, k3⟩ := h1
    split at k2
    · rename_i C' bm em
      simp only [Bool.and_eq_true, decide_eq_true_eq, Bool.not_eq_true'] at k2
      obtain ⟨⟨⟨rfl, k4⟩, k5⟩, k6⟩ := k2
      split at k3
      · rename_i s0 s1 s2 s3 n s5 es
        obtain ⟨nm, bs, mro, ns, qn, hd, sn, sb, ab, col, del⟩ := cd
        dsimp only at em k5 k6
        subst em k5 k6
        have e1 : t = "type" := eq_of_beq k1
        have e2 : n = "ValueError.__new__" := eq_of_beq k3
        subst e1 e2
        refine ⟨nm, qn, ns, bs, bm, sn, sb, ab, col, dd, s0, s1, s2, s3, s5, ?_, k4⟩
        rw [e]
        have e3 : sl = #[s0, s1, s2, s3, some (.builtin "ValueError.__new__"), s5] := by
          rw [← es]
        rw [e3]
      · cases k3
    · cases k2
  · cases h1
def propB (K : Frg) (C : Addr) (f : Str) : Bool :=
  decide (PySem.W.findIn K (.ref C) f = some (some (.ref (prA K C f).1))) && decide (PySem.W.specialIn K (.ref (prA K C f).1) "__get__" = some (some (.builtin "property.__get__"))) && decide (PySem.W.takesIn K (.ref (prA K C f).1) = some true) &&
    (match PySem.W.recIn K (prA K C f).1 "property" with
      | some (.ref g :: _) => decide (g = (prA K C f).2)
      | _ => false)
theorem propB_ok {K : Frg} {C : Addr} {f : Str} (h : propB K C f = true) : PropOf K C f (prA K C f).1 (prA K C f).2 := by
  unfold propB at h
  simp only [Bool.and_eq_true, decide_eq_true_eq] at h
  obtain ⟨⟨⟨h1, h2⟩, h3⟩, h4⟩ := h
  refine ⟨h1, h2, h3, ?_⟩
  split at h4
  · rename_i g rest e
    have e2 := of_decide_eq_true h4
    exact ⟨rest, by rw [e, e2]⟩
  · cases h4
/-- what isinstance asks of a class of errors -/
def excDB (K : Frg) (D : Addr) : Bool :=
  decide (PySem.W.findIn K (.ref D) "__getattribute__" = some (some (.builtin "BaseException.__getattribute__"))) && decide (PySem.W.findIn K (.ref D) "__getattr__" = some none) && decide (PySem.W.subIn K (.ref D) (.type "BaseException") = some true) && PySem.W.hasDictIn K D &&
    decide (PySem.W.findIn K (.ref D) "__class__" = some (some (.builtin "object.__class__"))) && decide (PySem.W.specialIn K (.builtin "object.__class__") "__get__" = some (some (.builtin "getset_descriptor.__get__"))) &&
    decide (PySem.W.takesIn K (.builtin "object.__class__") = some true) && decide (PySem.W.mroIn K D (.type "object") = some true)
theorem excDB_ok {K : Frg} {D : Addr} (h : excDB K D = true) : L2.ExcC K D := by
  unfold excDB at h
  simp only [Bool.and_eq_true, decide_eq_true_eq] at h
  obtain ⟨⟨⟨⟨⟨⟨⟨h1, h2⟩, h3⟩, h4⟩, h5⟩, h6⟩, h7⟩, h8⟩ := h
  exact ⟨h1, h2, h3, h4, h5, h6, h7, h8⟩
/-- a constant of the module -/
def atomB : Val → Value → Bool
  | .non, .none => true
  | .bl b, .bool c => b == c
  | .int i, .int j _ => decide (i = j)
  | .str x, .str y _ => decide (x = y)
  | _, _ => false
def atomV : Val → V
  | .bl b => .bl b
  | .int i => .int i
  | .str s => .str s
  | _ => .non
theorem atomB_ok {v : Val} {u : Value} (h : atomB v u = true) : RelV (atomV v) u ∧ ∀ K ρ H, Rv K ρ H v (atomV v) := by
  cases v <;> cases u <;> try (simp [atomB] at h; done)
  · exact ⟨rfl, fun _ _ _ => .non⟩
  · have e := eq_of_beq (show (_ == _) = true from h)
    subst e
    exact ⟨rfl, fun _ _ _ => .bl _⟩
  · have e := of_decide_eq_true (show decide _ = true from h)
    subst e
    exact ⟨⟨_, rfl⟩, fun _ _ _ => .int _⟩
  · have e := of_decide_eq_true (show decide _ = true from h)
    subst e
    exact ⟨⟨_, rfl⟩, fun _ _ _ => .str _⟩
def atomsB : List Val → List Value → Bool
  | [], [] => true
  | v :: vs, u :: us => atomB v u && atomsB vs us
  | _, _ => false
theorem atomsB_ok : ∀ {vs : List Val} {us : List Value}, atomsB vs us = true → Vals (vs.map atomV) us ∧ ∀ K ρ H, Rvs K ρ H vs (vs.map atomV)
  | [], [], _ => ⟨.nil, fun _ _ _ => .nil⟩
  | [], _ :: _, h => by cases h
  | _ :: _, [], h => by cases h
  | v :: vs, u :: us, h => by
    simp only [atomsB, Bool.and_eq_true] at h
    obtain ⟨h1, h2⟩ := atomB_ok h.1
    obtain ⟨h3, h4⟩ := atomsB_ok h.2
    exact ⟨.cons h1 h3, fun K ρ H => .cons (h2 K ρ H) (h4 K ρ H)⟩
def conB (K : Frg) (x : Str) (v : Val) : Bool :=
  match PySem.W.nsIn K mainGlobals x with
  | some (some u) => (match v, u with
    | .tup vs, .ref a => (match K.lookup a with
      | some ⟨.type c, _, .seq its _, _⟩ => decide (c = "tuple") && decide (its.size ≤ sizeLine) && atomsB vs its.toList
      | _ => false)
    | _, _ => atomB v u)
  | _ => false
theorem conB_ok {K : Frg} {h : Heap} {mg : Str → Option Value} {x : Str} {v : Val} (X : K.In h) (G : h.Ns mainGlobals mg) (c : conB K x v = true) : ∃ u xv, mg x = some u ∧ RelV xv u ∧ ∀ ρ H, Rv K ρ H v xv := by
  unfold conB at c
  split at c
  · rename_i u e
    have hm := PySem.W.mg_of X G e
    split at c
    · rename_i vs a
      split at c
      · rename_i t od its n osl q
        simp only [Bool.and_eq_true, decide_eq_true_eq] at c
        obtain ⟨⟨rfl, c2⟩, c3⟩ := c
        obtain ⟨k1, k2⟩ := atomsB_ok c3
        refine ⟨_, .ref a, hm, rfl, fun ρ H => .tup (xs := vs.map atomV) (.inr ⟨_, its, n, q, rfl, rfl, c2, k1⟩) (k2 K ρ H)⟩
      · cases c
    · obtain ⟨k1, k2⟩ := atomB_ok c
      exact ⟨u, atomV v, hm, k1, fun ρ H => k2 K ρ H⟩
  · cases c

abbrev FnO : Type := Option (Str × Str × Arguments × FuncBody × Scope × Addr × List (Str × Addr) × Addr)
def fnAt (K : Frg) (a : Addr) : FnO :=
  match K.lookup a with
  | some ⟨_, _, .func fd, _⟩ => some (fd.name, fd.qualname, fd.params, fd.body, fd.scope, fd.globals, fd.closure, fd.builtins)
  | _ => none
def fnGood (K : Frg) (a : Addr) (qual : Str) : Bool :=
  PySem.W.keepIn K (.ref a) && PySem.W.fnIn K a && (match K.lookup a with
    | some ⟨_, _, .func fd, _⟩ => PySem.W.codeIn K fd.code qual && (match fd.defaults with
      | .none => true
      | _ => false)
    | _ => false)
def fdOf (K : Frg) (a : Addr) : FuncData :=
  match K.lookup a with
  | some ⟨_, _, .func fd, _⟩ => fd
  | _ => default
theorem fnD_ok {K : Frg} {a : Addr} {x qual : Str} {params : Arguments} {body : List Stmt} {scope : Scope} (e : fnAt K a = some (x, qual, params, .stmts body, scope, mainGlobals, [], builtinsNs)) (c : fnGood K a qual = true) :
    FunD K x qual params body scope [] [] a (fdOf K a) ∧ PySem.W.fnIn K a = true := by
  unfold fnGood at c
  simp only [Bool.and_eq_true] at c
  obtain ⟨⟨kp, kf⟩, c2⟩ := c
  refine ⟨⟨?_, kp⟩, kf⟩
  unfold fnAt at e
  unfold fdOf
  cases q : K.lookup a with
  | none => rw [q] at e; cases e
  | some o =>
    obtain ⟨oc, od, dt, osl⟩ := o
    cases dt <;> rw [q] at e <;> try (cases e; done)
    rename_i fd
    rw [q] at c2
    obtain ⟨g1, g2, g3, g4, g5, g6, g7, g8, g9, g10, g11, g12, g13, g14, g15⟩ := fd
    simp only [Option.some.injEq, Prod.mk.injEq] at e
    obtain ⟨rfl, rfl, rfl, rfl, rfl, rfl, rfl, rfl⟩ := e
    simp only [Bool.and_eq_true] at c2
    obtain ⟨c3, c4⟩ := c2
    cases g8 <;> try (cases c4; done)
    exact ⟨oc, od, .none, g9, g10, g11, g12, g13, g14, osl, rfl, rfl, c3, .inl ⟨rfl, rfl⟩, .inl rfl⟩
end AM
end

section
set_option maxRecDepth 100000
set_option maxHeartbeats 8000000
namespace AM
open PySem L2 PyProof.Rows

structure DefA where
  key : Str
  name : Str
  qual : Str
  params : Arguments
  body : List Stmt
  scope : Scope
  N : List Str
  ps : List Str
def DefA.val (d : DefA) : FnO := some (d.name, d.qual, d.params, .stmts d.body, d.scope, mainGlobals, [], builtinsNs)
/-- p the machine's program, l its defs' text, x the __init__ of the own exceptions -/
structure Text where
  p : Prog
  l : List DefA
  x : DefA
def scB (d : DefA) : Bool :=
  (match d.scope.kind with
    | .function => true
    | _ => false) && !d.scope.isCoroutine && !d.scope.isGenerator && decide d.N.Nodup && decide (d.N.take d.ps.length = d.ps) &&
    (d.ps.all fun x => decide (d.scope.names.lookup x = some .local) || decide (d.scope.names.lookup x = some .cell)) && d.scope.names.all fun y => match y.2 with
      | .free => false
      | _ => true
theorem scB_ok {d : DefA} (h : scB d = true) : FnScope d.N d.ps d.scope := by
  unfold scB at h
  simp only [Bool.and_eq_true, Bool.not_eq_true', decide_eq_true_eq, List.all_eq_true, Bool.or_eq_true] at h
  obtain ⟨⟨⟨⟨⟨⟨h1, h2⟩, h3⟩, h4⟩, h5⟩, h6⟩, h7⟩ := h
  refine ⟨?_, h2, h3, h4, h5, h6, fun y hy e => ?_⟩
  · split at h1
    · assumption
    · cases h1
  · have := h7 y hy
    rw [e] at this
    cases this
def Text.at (t : Text) (key : Str) : Option DefA := t.l.find? fun d => d.key == key
def staticB (t : Text) : Bool := (t.p.defs.all fun q => match t.at q.1 with
  | some d => chkS d.N d.scope none q.2.body d.body && decide (d.N.length = q.2.nv) && decide (d.ps.length = q.2.np) && scB d
  | none => false) && scB t.x && decide (t.x.N = [("self" : Str), ("value" : Str)]) && decide (t.x.ps = [("self" : Str), ("value" : Str)]) && (match t.x.body with
    | [.Assign [.Attribute (.Name a _) b _] (.Name c _) _] => decide (a = ("self" : Str)) && decide (b = ("value" : Str)) && decide (c = ("value" : Str))
    | _ => false)
def DefA.binds (d : DefA) : Prop := ∀ (kV doc pm : Value) (an : Option Addr) (cdv ct : Value) (us : List Value), us.length = d.ps.length → bindArgs (PySem.W.fnOf d.name d.qual d.params d.body d.scope .none kV doc pm an cdv ct) ⟨us, []⟩ = pure (d.ps.zip us)
def DefA.kbinds (d : DefA) (ks : List Str) (q : List Nat) : Prop := ∀ (kV doc pm : Value) (an : Option Addr) (cdv ct u0 : Value) (us uws : List Value), us.length = ks.length → (q.mapM fun j => us[j]?) = some uws → bindArgs (PySem.W.fnOf d.name d.qual d.params d.body d.scope .none kV doc pm an cdv ct) ⟨[u0], ks.zip us⟩ = pure (d.ps.zip (u0 :: uws))
inductive AllB : List DefA → Prop
  | nil : AllB []
  | cons {d : DefA} {l : List DefA} : d.binds → AllB l → AllB (d :: l)
theorem AllB.mem {l : List DefA} (h : AllB l) : ∀ d ∈ l, d.binds := by
  induction h with
  | nil => intro d hd; cases hd
  | cons hb _ ih =>
    intro d hd
    cases hd with
    | head => exact hb
    | tail _ hd => exact ih d hd

def xA (t : Text) (K : Frg) : Addr :=
  match t.p.exs with
  | c :: _ => He.ma K (He.ga K c) "__init__"
  | [] => 0
def clsB (p : Prog) (K : Frg) (c : Str) (i : Cinfo) : Bool :=
  (He.Fa.glo c).ok K && (He.Fa.cls c).ok K && (i.flds.all fun f => (He.Fa.noat c f).ok K) && (He.Fa.mkr c).ok K && decide (He.ma K (He.ga K c) "__init__" = keyA p K i.init) &&
    (i.meths.all fun q => (He.Fa.meth c q.1).ok K && decide (He.ma K (He.ga K c) q.1 = keyA p K q.2)) && i.props.all fun q => propB K (He.ga K c) q.1 && decide ((prA K (He.ga K c) q.1).2 = keyA p K q.2)
def sttB (p : Prog) (K : Frg) (q : Str × Str × Str) : Bool :=
  (He.Fa.glo q.1).ok K && PySem.W.readsIn K (He.ga K q.1) (.type "type") && decide (PySem.W.specialIn K (.ref (He.ga K q.1)) "__getattribute__" = some (some (.builtin "type.__getattribute__"))) &&
    (match PySem.W.findCls K (.ref (He.ga K q.1)) (.type "type") q.2.1 with
      | some (.val (.ref f)) => decide (f = keyA p K q.2.2)
      | _ => false) && PySem.W.keepIn K (.ref (keyA p K q.2.2))
def factB (t : Text) (K : Frg) : Bool :=
  (t.p.stt.all (sttB t.p K)) && (t.p.cons.all fun q => conB K q.1 q.2) && (stdNames.all fun x => (He.Fa.free x).ok K) && (t.p.funs.all fun x => (He.Fa.glo x).ok K && PySem.W.keepIn K (.ref (He.ga K x))) && (t.p.clss.all fun q => clsB t.p K q.1 q.2) &&
    (t.p.exs.all fun c => (He.Fa.glo c).ok K && oexB K (He.ga K c) && xfB K (He.ga K c) && (decide (PySem.W.findIn K (.ref (He.ga K c)) "value" = some none) && excDB K (He.ga K c)) && decide (PySem.W.findIn K (.ref (He.ga K c)) "__init__" = some (some (.ref (xA t K)))) &&
      t.p.exs.all fun d => decide (PySem.W.exmOne K (.ref (He.ga K d)) (.ref (He.ga K c)) = some (isaP t.p d c)) && decide (PySem.W.kitOne K (.ref (He.ga K d)) (.ref (He.ga K c)) = some (isaP t.p d c))) &&
    (decide (t.p.exs = []) || (decide (PySem.W.typeIn K (.ref (xA t K)) = some (.type "function")) && fnGood K (xA t K) t.x.qual)) && t.l.all fun d => fnGood K (keyA t.p K d.key) d.qual
def obsT (t : Text) (K : Frg) : Bool × List FnO := (factB t K, (if t.p.exs = [] then t.x.val else fnAt K (xA t K)) :: t.l.map fun d => fnAt K (keyA t.p K d.key))
def valT (t : Text) : Bool × List FnO := (true, t.x.val :: t.l.map DefA.val)
theorem look_mem {β : Type} {k : Str} {v : β} : ∀ {l : List (Str × β)}, l.lookup k = some v → (k, v) ∈ l
  | [], h => by cases h
  | (a, b) :: r, h => by
    simp only [List.lookup_cons] at h
    cases e : k == a with
    | true =>
      rw [e] at h
      cases h
      rw [eq_of_beq e]
      exact List.mem_cons_self
    | false =>
      rw [e] at h
      exact List.mem_cons_of_mem _ (look_mem h)
theorem map_mem {α β : Type} {f g : α → β} : ∀ {l : List α}, l.map f = l.map g → ∀ d ∈ l, f d = g d
  | [], _, d, hd => by cases hd
  | a :: r, h, d, hd => by
    simp only [List.map_cons, List.cons.injEq] at h
    cases hd with
    | head => exact h.1
    | tail _ hd => exact map_mem h.2 d hd

section
variable {P : Program} {w : World} {K : Frg} {mg : Str → Option Value} {h : Heap} {base : Heap}
/-- the exceptions' own __init__ -/
theorem init_ok {x qual : Str} {params : Arguments} {scope : Scope} {f : Addr} {fd : FuncData} {p1 p2 p3 p4 : Pos} (F : FunD K x qual params [.Assign [.Attribute (.Name "self" p1) "value" p2] (.Name "value" p3) p4] scope [] [] f fd) (S : FnScope ["self", "value"] ["self", "value"] scope) :
    FnOk P w K mg base (CX P w) 1 f fd ["self", "value"] (spX K) := by
  refine F.ok S (fun vs H Q E ⟨a, C, v, e, _⟩ => by rw [e]; rfl) fun cdv A outer s H vs Q E hr hsp => ?_
  have v1 : Vis scope "self" := (S.par _ (by simp)).imp id .inl
  have v2 : Vis scope "value" := (S.par _ (by simp)).imp id .inl
  refine ⟨_, pss_one (ps_ost (pe_var (i := 0) rfl v1 (by decide +kernel) (by decide +kernel)) (pe_var (i := 1) rfl v2 (by decide +kernel) (by decide +kernel)) rfl), ?_⟩
  obtain ⟨a, C, v, rfl, T, hv, ha, hq⟩ := hsp
  exact ⟨v, rfl, .ref a, rfl, a, C, rfl, T, hv, .inl ⟨ha, fun dx h1 h2 => hq dx h1 h2⟩⟩
theorem top_of {t : Text} (hs : staticB t = true) (hb : AllB t.l) (hx : t.x.binds) (hkw : ∀ c i ks q a, t.p.clss.lookup c = some i → t.p.kws.contains (c, ks, q) = true → t.at i.init = some a → a.kbinds ks q) (hkm : ∀ k ks q a, t.p.kwm.contains (k, ks, q) = true → t.at k = some a → a.kbinds ks q) (X : K.In h) (G : h.Ns mainGlobals mg) (c : obsT t K = valT t) :
    Top t.p (He.ga K) (keyA t.p K) (fun key => fdOf K (keyA t.p K key)) (fun key => ((t.at key).map DefA.ps).getD []) P w K mg base := by
  have c1 : factB t K = true := congrArg (fun z => z.1) c
  have c2 : ((if t.p.exs = [] then t.x.val else fnAt K (xA t K)) :: t.l.map fun d => fnAt K (keyA t.p K d.key)) = t.x.val :: t.l.map DefA.val := congrArg (fun z => z.2) c
  simp only [List.cons.injEq] at c2
  obtain ⟨cx, cl⟩ := c2
  simp only [factB, Bool.and_eq_true, List.all_eq_true] at c1
  obtain ⟨⟨⟨⟨⟨⟨⟨f0, f1⟩, f2⟩, f3⟩, f4⟩, f5⟩, f6⟩, f7⟩ := c1
  simp only [staticB, Bool.and_eq_true, List.all_eq_true, decide_eq_true_eq] at hs
  obtain ⟨⟨⟨⟨s1, s2⟩, s3⟩, s4⟩, s5⟩ := hs
  have one : ∀ key d, t.p.defs.lookup key = some d → ∃ a, t.at key = some a ∧ a ∈ t.l ∧ a.key = key ∧ chkS a.N a.scope none d.body a.body = true ∧ a.N.length = d.nv ∧ a.ps.length = d.np ∧ scB a = true := fun key d hd => by
    have z := s1 _ (look_mem hd)
    cases e : t.at key with
    | none => rw [e] at z; cases z
    | some a =>
      rw [e] at z
      simp only [Bool.and_eq_true, decide_eq_true_eq] at z
      exact ⟨a, rfl, List.mem_of_find?_eq_some e, eq_of_beq (List.find?_some (p := fun d : DefA => d.key == key) e), z.1.1.1, z.1.1.2, z.1.2, z.2⟩
  have fun_ : ∀ key d, t.p.defs.lookup key = some d → ∃ a, t.at key = some a ∧ a ∈ t.l ∧ chkS a.N a.scope none d.body a.body = true ∧ a.N.length = d.nv ∧ a.ps.length = d.np ∧ scB a = true ∧
      FunD K a.name a.qual a.params a.body a.scope [] [] (keyA t.p K key) (fdOf K (keyA t.p K key)) ∧ PySem.W.fnIn K (keyA t.p K key) = true := fun key d hd => by
    obtain ⟨a, e, hm, hk, z1, z2, z3, z4⟩ := one key d hd
    have q := map_mem cl a hm
    rw [hk] at q
    have q2 := f7 a hm
    rw [hk] at q2
    obtain ⟨F, k⟩ := fnD_ok q q2
    exact ⟨a, e, hm, z1, z2, z3, z4, F, k⟩
  refine ⟨fun key d hd => ?_, ⟨?_, ?_, ?_, ?_, ?_, ?_, ?_, ?_, ?_, ?_, ?_, ?_⟩, ?_⟩
  · obtain ⟨a, e, hm, z1, z2, z3, z4, F, k⟩ := fun_ key d hd
    refine ⟨⟨a.name, a.qual, a.params, a.body, a.scope, a.N, F, ?_, z1, z2⟩, ?_, ?_⟩ <;> rw [e]
    · exact scB_ok z4
    · exact z3
    · exact F.bindsN (hb.mem a hm)
  · exact fun x v hv => conB_ok X G (f1 _ (look_mem hv))
  · exact fun x hx => He.free_ok X G (f2 x (by simpa using hx))
  · intro key hk
    have z := f3 key (by simpa using hk)
    rw [show keyA t.p K key = He.ga K key from if_pos hk]
    exact ⟨He.glo_ok X G z.1, z.2⟩
  · intro key d hd
    obtain ⟨a, e, hm, z1, z2, z3, z4, F, k⟩ := fun_ key d hd
    rw [e]
    exact ⟨F.bindsN (hb.mem a hm), z3, k⟩
  · intro cn i hi
    have z := f4 _ (look_mem hi)
    simp only [clsB, Bool.and_eq_true, List.all_eq_true, decide_eq_true_eq] at z
    obtain ⟨⟨⟨⟨⟨⟨z1, z2⟩, z3⟩, z4⟩, z5⟩, z6⟩, z7⟩ := z
    refine ⟨He.glo_ok X G z1, He.cls_ok z2, fun f hf => He.noat_ok (z3 f (by simpa using hf)), ?_, fun m k hm => ?_, fun f k hf => ?_⟩
    · rw [← z5]; exact He.mkr_ok z4
    · have y := z6 _ (look_mem hm)
      dsimp only at y
      rw [← y.2]; exact He.meth_ok y.1
    · have y := z7 _ (look_mem hf)
      dsimp only at y
      rw [← y.2]; exact ⟨_, propB_ok y.1⟩
  · intro cn i ks q hi hk d hd s u0 us uws _ hl hm
    obtain ⟨a, e, hma, z1, z2, z3, z4, F, k⟩ := fun_ i.init d hd
    rw [e]
    obtain ⟨oc, od, dV, kV, doc, pm, an, cdv, ct, osl, ef, lk, hcd, hD, hK⟩ := F.ex
    rcases hD with ⟨_, rfl⟩ | ⟨e2, _⟩
    · rw [ef]
      exact BindsTo.of_eq (hkw cn i ks q a hi hk e kV doc pm an cdv ct u0 us uws hl hm)
    · exact absurd rfl e2
  · intro c m k hk
    have z := f0 (c, m, k) (by simpa using hk)
    simp only [sttB, Bool.and_eq_true, decide_eq_true_eq] at z
    obtain ⟨⟨⟨⟨z1, z2⟩, z3⟩, z4⟩, z5⟩ := z
    refine ⟨He.glo_ok X G z1, z2, z3, ?_, z5⟩
    split at z4
    · rename_i f e
      rw [e, of_decide_eq_true z4]
    · cases z4
  · intro k ks q hk d hd s u0 us uws _ hl hm
    obtain ⟨a, e, hma, z1, z2, z3, z4, F, kf⟩ := fun_ k d hd
    rw [e]
    obtain ⟨oc, od, dV, kV, doc, pm, an, cdv, ct, osl, ef, lk, hcd, hD, hK⟩ := F.ex
    rcases hD with ⟨_, rfl⟩ | ⟨e2, _⟩
    · rw [ef]
      exact BindsTo.of_eq (hkm k ks q a hk e kV doc pm an cdv ct u0 us uws hl hm)
    · exact absurd rfl e2
  · intro cn hc
    have z := f5 cn (by simpa using hc)
    exact ⟨He.glo_ok X G z.1.1.1.1.1, oexB_ok z.1.1.1.1.2, xfB_ok z.1.1.1.2, of_decide_eq_true z.1.1.2.1⟩
  · intro cn hc
    exact excDB_ok (f5 cn (by simpa using hc)).1.1.2.2
  · intro cn d hc hd
    exact of_decide_eq_true ((f5 cn (by simpa using hc)).2 d (by simpa using hd)).2
  · intro cn d hc hd
    exact of_decide_eq_true ((f5 cn (by simpa using hc)).2 d (by simpa using hd)).1
  · intro cn hc
    have z := f5 cn (by simpa using hc)
    have hne : t.p.exs ≠ [] := by
      intro e
      rw [e] at hc
      simp at hc
    rw [if_neg hne] at cx
    simp only [Bool.or_eq_true, decide_eq_true_eq, Bool.and_eq_true] at f6
    rcases f6 with f6 | f6
    · exact absurd f6 hne
    obtain ⟨F, k⟩ := fnD_ok cx f6.2
    have hS := scB_ok s2
    rw [s3, s4] at hS
    have hbx := F.bindsN hx
    rw [s4] at hbx
    split at s5
    · rename_i a p1 b p2 c' p3 p4 eb
      simp only [Bool.and_eq_true, decide_eq_true_eq] at s5
      obtain ⟨⟨rfl, rfl⟩, rfl⟩ := s5
      rw [eb] at F
      exact ⟨_, _, _, of_decide_eq_true z.1.2, f6.1, init_ok F hS, hbx⟩
    · cases s5
end
end AM
end

section
set_option maxRecDepth 100000
set_option maxHeartbeats 8000000
namespace AM
open PySem L2 PyProof.Rows

section
variable {P : Program} {w : World} {K : Frg} {mg mb : Str → Option Value} {k : Nat} {fA a : Addr} {fD : FuncData} {x : Str} {sp : Sp} {s1 : Shared} {vs : List Value} {ns : List Int} {H : Hp}
/-- the law's def run at the heap behind the top, H hiding nothing but the script -/
theorem end_core (KX : K.In s1.heap) (hns : s1.heap.Ns mainGlobals mg) (hb : s1.heap.Ns builtinsNs mb) (hbb : ∀ x : Str, x ≠ "__name__" → mb x = bootBuiltins x) (hlim : s1.heap.NoLimit) (hg : s1.gens = #[])
    (ha : s1.heap.get? a = some { cls := .type "list", data := .seq vs.toArray }) (hr : Room k callerA) (F : ∀ base : Heap, K.In base → base.Ns mainGlobals mg → FnG P w K mg base k fA fD [x] sp)
    (hbind : BindsTo s1 fD ⟨[.ref a], []⟩ [(x, .ref a)]) (hO : L2.Only H) (hsp : sp [.ref a] H (fun v _ => v = .bl true) fun _ _ _ => False) (hok : HOk P w H s1.heap) (hA : ∀ b, H b ≠ none → b = a) (hK : H a ≠ none → K.lookup a = none) :
    codeAny (model P w) callerA (.call (.ref fA) ⟨[.ref a], []⟩) (fun r s' => r = .ok (.ret (.bool true)) ∧ OldK s1.heap s'.heap ∧ s'.os = s1.os ∧ AllBare s'.gens) s1 := by
  have bare : ∀ b, b ≠ a → H b = none := fun b hb => by
    cases q : H b with
    | none => rfl
    | some u => exact absurd (hA b (by rw [q]; exact fun z => by cases z)) hb
  have dictN : ∀ b o es ep, s1.heap.get? b = some o → o.data = .dict es ep → H b = none := fun b o es ep e d => bare b fun z => by
    rw [z, ha] at e
    cases e
    cases d
  have up : ∀ b m, s1.heap.Ns b m → (hidT s1.heap H).Ns b m := fun b m ⟨o, es, ep, e, d, r⟩ => ⟨o, es, ep, hidT_get e (dictN b o es ep e d), d, r⟩
  have kIn : K.In (hidT s1.heap H) := fun b o e => hidT_get (KX b o e) (by
    by_cases hb : b = a
    · cases q : H b with
      | none => rfl
      | some u =>
        rw [hb] at q e
        rw [hK (by rw [q]; exact fun z => by cases z)] at e
        cases e
    · exact bare b hb)
  obtain ⟨mc, l1, l2⟩ := hlim
  have env : Env0 P w K mg (hidT s1.heap H) callerA [] s1 H := ⟨rfl, ⟨kIn, up _ _ hns, ⟨mb, up _ _ hb, hbb⟩, ⟨mc, up _ _ l1, l2⟩⟩, (fun b o e => of_hidT e), Nat.le_of_eq (hidT_size _ _), trivial, (fun b hb => nomatch hb), hok, AllBare.of_eq hg⟩
  have go := (F _ kIn (up _ _ hns)).run callerA [] s1 H ⟨[.ref a], []⟩ [.ref a] [.ref a] (fun v _ => v = .bl true) (fun _ _ _ => False) hr rfl env hbind (.cons rfl .nil) hsp
  refine codeAny_mono go fun r s' hq => ?_
  rcases r with e | fl
  · obtain ⟨_, _, _, _, _, _, _, _, _, _, _, _, z⟩ := hq
    exact z.elim
  · cases fl <;> try (exact False.elim hq)
    rename_i u
    obtain ⟨v, H', os, br, un, hok', rv, rfl⟩ := hq
    cases rv
    refine ⟨rfl, OldK.of_keep fun b o e => ?_, os, br⟩
    rcases hO b with z | ⟨ob, xs, z⟩
    · exact un.keep b o e z (fun h => by cases h) (fun h => by cases h)
    · have g1 := (hok b _ z).1
      have g2 := (hok' b _ (un.frzs b ob _ z)).1
      rw [e] at g1
      cases g1
      exact g2
theorem rvs_ints {K : Frg} {ρ : List Addr} {H : Hp} : ∀ ns : List Int, Rvs K ρ H (ns.map Val.int) (ns.map V.int)
  | [] => .nil
  | n :: ns => .cons (.int n) (rvs_ints ns)
/-- the script's store -/
def scr (ns : List Int) : Store := [⟨.lst (ns.map Val.int), true⟩]
theorem law_sp {p : Prog} {ca : Str → Addr} {m : Nat} {key : Str} (hk : Kn K H a (ns.map V.int)) (hrun : ∃ s, callF p m key [.ref 0] (scr ns) = .ok (.bl true) s) : spM p ca K m key [.ref a] H (fun v _ => v = .bl true) fun _ _ _ => False := by
  obtain ⟨s, er⟩ := hrun
  refine ⟨[a], scr ns, [.ref 0], ⟨rfl, fun n c hc => ?_, fun i j c d b hc hd lc ld _ _ => ?_⟩, .cons (.ref rfl) .nil, ?_⟩
  · cases n with
    | zero =>
      cases hc
      exact ⟨a, rfl, by unfold Rc; rw [if_pos rfl]; exact .lst (rvs_ints ns) hk⟩
    | succ n => cases hc
  · cases i with
    | zero => cases hc; rcases lc with lc | ⟨_, lc⟩ <;> cases lc
    | succ i => cases hc
  · rw [er]
    intro ρ' H' b _ _ _ rb
    cases rb
    rfl
theorem end_law {p : Prog} {ca : Str → Addr} {m : Nat} {key : Str} (KX : K.In s1.heap) (hns : s1.heap.Ns mainGlobals mg) (hb : s1.heap.Ns builtinsNs mb) (hbb : ∀ x : Str, x ≠ "__name__" → mb x = bootBuiltins x) (hlim : s1.heap.NoLimit) (hg : s1.gens = #[])
    (ha : s1.heap.get? a = some { cls := .type "list", data := .seq vs.toArray }) (hi : IntsAre vs ns) (hl : ns.length ≤ sizeLine) (hr : Room k callerA) (F : ∀ base : Heap, K.In base → base.Ns mainGlobals mg → FnG P w K mg base k fA fD [x] (spM p ca K m key))
    (hbind : BindsTo s1 fD ⟨[.ref a], []⟩ [(x, .ref a)]) (hrun : ∃ s, callF p m key [.ref 0] (scr ns) = .ok (.bl true) s) :
    codeAny (model P w) callerA (.call (.ref fA) ⟨[.ref a], []⟩) (fun r s' => r = .ok (.ret (.bool true)) ∧ OldK s1.heap s'.heap ∧ s'.os = s1.os ∧ AllBare s'.gens) s1 := by
  have rv := L2.vals_ints hi
  cases hk : K.lookup a with
  | some o =>
    have e := KX a o hk
    rw [ha] at e
    cases e
    exact end_core (H := fun _ => none) KX hns hb hbb hlim hg ha hr F hbind (fun _ => .inl rfl) (law_sp (.inr ⟨_, vs.toArray, _, hk, rfl, rfl, rfl, by rw [List.size_toArray, hi.length]; exact hl, by simpa using rv⟩) hrun) (fun b u z => by cases z) (fun b z => absurd rfl z) fun z => absurd rfl z
  | none =>
    let so : PySem.Obj := { cls := .type "list", data := .seq vs.toArray }
    have at_ : (fun b => if b = a then some (HO.frz so (.lst (ns.map V.int))) else none : Hp) a = some (.frz so (.lst (ns.map V.int))) := if_pos rfl
    refine end_core (H := fun b => if b = a then some (.frz so (.lst (ns.map V.int))) else none) KX hns hb hbb hlim hg ha hr F hbind (fun b => ?_) (law_sp (.inl ⟨so, at_⟩) hrun) (fun b u z => ?_) (fun b z => ?_) fun _ => hk
    · dsimp only
      split
      · exact .inr ⟨_, _, rfl⟩
      · exact .inl rfl
    · dsimp only at z
      split at z
      · rename_i hb'
        cases z
        rw [hb']
        exact ⟨ha, by rw [List.length_map]; exact hl, vs, _, rv, ha⟩
      · cases z
    · by_cases hb' : b = a
      · exact hb'
      · exact absurd (if_neg hb') z
end

def obsTG (n : Nat) (t : Text) (g : Addr → Option PySem.Obj) : Bool × List FnO := obsT t (He.frG g (He.asD g n))
def hookT (n : Nat) (t : Text) : PySem.W.Hook where
  α := Bool × List FnO
  obs := fun s => obsTG n t s.heap.get?
  val := fun _ => valT t
  says := fun _ h => ∃ K : Frg, K.In h ∧ obsT t K = valT t
  of := fun _ _ e => ⟨_, He.frG_in, e⟩
  keeps := fun _ _ _ ⟨K, hK, c⟩ kp => ⟨K, PySem.W.Frag.In.keeps hK kp, c⟩
def obT (n : Nat) (t : Text) (s : PySem.W.SharedT) : Bool × List FnO := obsTG n t (HandSHeadRun.getT s)
theorem obT_eq (n : Nat) (t : Text) (s : PySem.W.SharedT) : obT n t s = (hookT n t).obs s.abs := by
  have e : HandSHeadRun.getT s = s.abs.heap.get? := funext (HandSHeadRun.getT_eq s)
  show obsTG n t (HandSHeadRun.getT s) = obsTG n t s.abs.heap.get?
  rw [e]
theorem walk_T {l : PySem.W.OpenLaw} {n g m : Nat} {q : Program} {loose : List Str} {XP : (Str → Option Value) → Heap → Prop} {t : Text} {d : DefRec} {x key : Str} {dl : DefA} {el : Def} (hn : l.most = some n) (hn2 : n ≤ sizeLine) (hdf : d.params.defaults = []) (hd : d.name = key)
    (hs : staticB t = true) (hb : AllB t.l) (hx : t.x.binds) (hkw : ∀ c i ks q a, t.p.clss.lookup c = some i → t.p.kws.contains (c, ks, q) = true → t.at i.init = some a → a.kbinds ks q) (hkm : ∀ k ks q a, t.p.kwm.contains (k, ks, q) = true → t.at k = some a → a.kbinds ks q) (hfun : t.p.funs.contains key = true) (hel : t.p.defs.lookup key = some el) (hdl : t.at key = some dl) (hps : dl.ps = [x]) (hm : m ≤ 100)
    (hrun : ∀ ns : List Int, ns.length ≤ n → ∃ s, callF t.p m key [.ref 0] (scr ns) = .ok (.bl true) s) :
    PySem.W.WalkO q loose XP (hookT g t).says l.row.toRowW d [] (fun f vs => PySem.call f vs) := by
  refine Att.attach_call hn hdf fun w s0 s1 mg mb fA o pm cd doc a vs ns G Y ho hdd hcd hmg hobj hints hlen hg => ?_
  obtain ⟨K, KX, c⟩ := Y
  have T : ∀ base : Heap, Top t.p (He.ga K) (keyA t.p K) (fun key => fdOf K (keyA t.p K key)) (fun key => ((t.at key).map DefA.ps).getD []) l.prog w K mg base := fun base => top_of hs hb hx hkw hkm KX G.T.g c
  have hga : fA = keyA t.p K key := by
    have z := ((T s1.heap).fc.fn key hfun).1
    rw [← hd, hmg] at z
    cases z
    rw [hd]
  have hp : (((t.at key).map DefA.ps).getD []) = [x] := by rw [hdl]; exact hps
  obtain ⟨b1, b2, b3⟩ := (T s1.heap).fc.bnd key el hel
  rw [hp] at b1
  have bb := b1 s1 [.ref a] KX (by rfl)
  rw [hga]
  refine end_law (ca := He.ga K) (k := 2 * m + 3) KX G.T.g G.T.b G.T.builtins G.T.nolimit hg hobj hints (Nat.le_trans hlen hn2) ⟨rfl, ?_, ?_⟩ (fun base _ _ => ?_) bb (hrun ns hlen)
  · show 1 + claimMargin + 3 * (2 * m + 3) + 5 < recursionLimit
    have : claimMargin + 3 * (2 * 100 + 3) + 6 < recursionLimit := by decide +kernel
    omega
  · show 4 + 16 * (2 * m + 3) + 200 < cLine
    have : 4 + 16 * (2 * 100 + 3) + 200 < cLine := by decide +kernel
    omega
  · have z := defs_ok (T base) m key el hel
    rw [hp] at z
    exact z
end AM
end

section
set_option maxRecDepth 100000
namespace K02
open AM PySem
def d_is_name : Def := ⟨1, 2, (S.ret (E.and (E.chn .LtE .LtE (E.int 1) (E.bi "len" (E.cons (E.var 0) E.nil)) (E.con "LONGEST_NAME")) (E.bi "all" (E.cons (E.lc (E.cmp .In (E.var 1) (E.con "LETTERS")) (Tg.nm 1) (E.var 0) E.nil [1]) E.nil))))⟩
def d_columns : Def := ⟨1, 2, (S.ret (E.lc (E.sub (E.var 1) (E.int 0)) (Tg.nm 1) (E.var 0) E.nil [1]))⟩
def d_copied : Def := ⟨1, 6, (S.ret (E.lc (E.lc (E.tup (E.cons (E.var 2) (E.cons (E.var 3) (E.cons (E.bi "list" (E.cons (E.var 4) E.nil)) (E.cons (E.var 5) E.nil))))) (Tg.tp [2, 3, 4, 5]) (E.var 1) E.nil [2, 3, 4, 5]) (Tg.nm 1) (E.var 0) E.nil [1]))⟩
def d_check_name : Def := ⟨1, 1, (S.ifs (E.not (E.call "is_name" (E.cons (E.var 0) E.nil))) (S.rais "InvalidName" (E.cons (E.var 0) E.nil)) S.skip)⟩
def d_check_plain : Def := ⟨1, 3, (S.for (Tg.tp [1, 2]) (E.enu (E.var 0)) (S.seq (S.drop (E.call "_check_name" (E.cons (E.var 2) E.nil))) (S.ifs (E.cmp .In (E.var 2) (E.slc (E.var 0) E.nil (E.var 1))) (S.rais "DoubleName" (E.cons (E.var 2) E.nil)) S.skip)))⟩
def d_check_edition : Def := ⟨2, 7, (S.seq (S.asg (Tg.nm 2) (E.bi "list" (E.cons (E.var 0) E.nil))) (S.for (Tg.tp [3, 4, 5, 6]) (E.var 1) (S.seq (S.drop (E.call "_check_name" (E.cons (E.var 3) E.nil))) (S.seq (S.drop (E.call "_check_name" (E.cons (E.var 4) E.nil))) (S.seq (S.ifs (E.cmp .In (E.var 3) (E.var 2)) (S.rais "DoubleName" (E.cons (E.var 3) E.nil)) S.skip) (S.seq (S.drop (E.call "_check_sources" (E.cons (E.var 2) (E.cons (E.var 5) E.nil)))) (S.seq (S.ifs (E.cmp .NotIn (E.var 6) (E.con "HELD")) (S.rais "InvalidKind" (E.cons (E.var 6) E.nil)) S.skip) (S.drop (E.bm (E.var 2) "append" (E.cons (E.var 3) E.nil))))))))))⟩
def d_check_sources : Def := ⟨2, 4, (S.for (Tg.tp [2, 3]) (E.enu (E.var 1)) (S.seq (S.ifs (E.cmp .NotIn (E.var 3) (E.var 0)) (S.rais "UnknownColumn" (E.cons (E.var 3) E.nil)) S.skip) (S.ifs (E.cmp .In (E.var 3) (E.slc (E.var 1) E.nil (E.var 2))) (S.rais "DoubleName" (E.cons (E.var 3) E.nil)) S.skip)))⟩
def d_law_source : Def := ⟨2, 3, (S.seq (S.asg (Tg.nm 2) (E.ife (E.cmp .Lt (E.var 1) (E.bi "len" (E.cons (E.var 0) E.nil))) (E.sub (E.var 0) (E.var 1)) (E.int 0))) (S.ret (E.lst (E.cons (E.bi "max" (E.cons (E.int 0) (E.cons (E.bin .Sub (E.bi "abs" (E.cons (E.var 2) E.nil)) (E.bin .Pow (E.int 10) (E.int 18))) E.nil))) (E.cons (E.bin .Mod (E.bi "int" (E.cons (E.bin .Add (E.bin .Add (E.bin .Mult (E.var 2) (E.int 60013)) (E.bin .Mult (E.var 1) (E.int 15485863))) (E.int 32452843)) E.nil)) (E.bin .Add (E.bin .Pow (E.int 10) (E.int 24)) (E.int 7))) (E.cons (E.int 0) E.nil))))))⟩
def d_law_draw : Def := ⟨2, 4, (S.seq (S.ifs (E.cmp .Gt (E.sub (E.var 0) (E.int 0)) (E.int 1)) (S.seq (S.asg (Tg.nm 3) (E.bin .Mod (E.bi "int" (E.cons (E.sub (E.var 0) (E.int 0)) E.nil)) (E.var 1))) (S.seq (S.asgS (E.var 0) (E.int 0) (E.bin .FloorDiv (E.sub (E.var 0) (E.int 0)) (E.var 1))) (S.ret (E.var 3)))) S.skip) (S.seq (S.asgS (E.var 0) (E.int 2) (E.bin .Add (E.sub (E.var 0) (E.int 2)) (E.int 1))) (S.seq (S.asg (Tg.nm 2) (E.bin .Mod (E.bin .Pow (E.bi "int" (E.cons (E.bin .Add (E.sub (E.var 0) (E.int 1)) (E.bin .Mult (E.int 179424673) (E.sub (E.var 0) (E.int 2)))) E.nil)) (E.int 3)) (E.bin .Add (E.bin .Pow (E.int 10) (E.int 26)) (E.int 67)))) (S.seq (S.asg (Tg.nm 2) (E.bin .Mod (E.bin .Pow (E.bi "int" (E.cons (E.bin .Add (E.var 2) (E.bin .Mult (E.int 86028121) (E.sub (E.var 0) (E.int 2)))) E.nil)) (E.int 2)) (E.bin .Add (E.bin .Pow (E.int 10) (E.int 25)) (E.int 13)))) (S.ret (E.bin .Mod (E.bi "int" (E.cons (E.bin .FloorDiv (E.var 2) (E.int 4096)) E.nil)) (E.var 1)))))))⟩
def d_law_some_titles : Def := ⟨2, 16, (S.seq (S.asg (Tg.tp [5, 6, 7]) (E.tup (E.cons (E.str "abcdefghijklmnopqrstuvwxyz") (E.cons (E.call "_law_draw" (E.cons (E.var 0) (E.cons (E.int 4) E.nil))) (E.cons (E.lst E.nil) E.nil))))) (S.seq (S.asg (Tg.nm 2) (E.lst (E.cons (E.str "plain") (E.cons (E.str "put") (E.cons (E.str "set") (E.cons (E.str "rewrite") (E.cons (E.str "edition") (E.cons (E.str "read") (E.cons (E.str "follows") (E.cons (E.str "stays") (E.cons (E.str "a") (E.cons (E.str "b") (E.cons (E.str "told") (E.cons (E.str "now") (E.cons (E.str "old") E.nil))))))))))))))) (S.seq (S.asg (Tg.nm 2) (E.bin .Add (E.var 2) (E.lst (E.cons (E.str "lacks") (E.cons (E.str "nobody") (E.cons (E.str "formula") E.nil)))))) (S.seq (S.ifs (E.cmp .Eq (E.var 6) (E.int 0)) (S.ret (E.lc (E.bm (E.var 2) "pop" (E.cons (E.call "_law_draw" (E.cons (E.var 0) (E.cons (E.bi "len" (E.cons (E.var 2) E.nil)) E.nil))) E.nil)) (Tg.nm 4) (E.rng1 (E.var 1)) E.nil [4])) S.skip) (S.seq (S.asg (Tg.nm 3) (E.bm (E.str "") "join" (E.cons (E.lc (E.sub (E.var 5) (E.call "_law_draw" (E.cons (E.var 0) (E.cons (E.int 26) E.nil)))) (Tg.nm 4) (E.rng1 (E.int 8)) E.nil [4]) E.nil))) (S.seq (S.ifs (E.cmp .Eq (E.var 6) (E.int 1)) (S.seq (S.asg (Tg.tp [11, 12, 13]) (E.tup (E.cons (E.call "_law_draw" (E.cons (E.var 0) (E.cons (E.int 8) E.nil))) (E.cons (E.call "_law_draw" (E.cons (E.var 0) (E.cons (E.int 26) E.nil))) (E.cons (E.sub (E.lst (E.cons (E.int 1) (E.cons (E.int 3) (E.cons (E.int 7) (E.cons (E.int 11) (E.cons (E.int 25) E.nil)))))) (E.call "_law_draw" (E.cons (E.var 0) (E.cons (E.int 5) E.nil)))) E.nil))))) (S.seq (S.asg (Tg.nm 8) (E.slc (E.var 3) (E.var 11) (E.bin .Add (E.var 11) (E.call "_law_draw" (E.cons (E.var 0) (E.cons (E.bin .Sub (E.int 8) (E.var 11)) E.nil)))))) (S.ret (E.lc (E.bin .Add (E.bin .Add (E.slc (E.var 3) E.nil (E.var 11)) (E.sub (E.var 5) (E.bin .Mod (E.bi "int" (E.cons (E.bin .Add (E.var 12) (E.bin .Mult (E.var 13) (E.var 4))) E.nil)) (E.int 26)))) (E.var 8)) (Tg.nm 4) (E.rng1 (E.var 1)) E.nil [4])))) S.skip) (S.seq (S.ifs (E.and (E.cmp .Eq (E.var 6) (E.int 2)) (E.cmp .Lt (E.var 1) (E.int 9))) (S.seq (S.asg (Tg.nm 9) (E.lst (E.cons (E.int 1) (E.cons (E.int 2) (E.cons (E.int 3) (E.cons (E.int 4) (E.cons (E.int 5) (E.cons (E.int 6) (E.cons (E.int 7) (E.cons (E.int 8) E.nil)))))))))) (S.ret (E.lc (E.slc (E.var 3) E.nil (E.bm (E.var 9) "pop" (E.cons (E.call "_law_draw" (E.cons (E.var 0) (E.cons (E.bi "len" (E.cons (E.var 9) E.nil)) E.nil))) E.nil))) (Tg.nm 4) (E.rng1 (E.var 1)) E.nil [4]))) S.skip) (S.seq (S.for (Tg.nm 4) (E.rng1 (E.var 1)) (S.seq (S.asg (Tg.nm 10) (E.bm (E.str "") "join" (E.cons (E.lc (E.sub (E.var 5) (E.call "_law_draw" (E.cons (E.var 0) (E.cons (E.int 26) E.nil)))) (Tg.nm 14) (E.rng1 (E.bin .Add (E.int 1) (E.call "_law_draw" (E.cons (E.var 0) (E.cons (E.int 8) E.nil))))) E.nil [14]) E.nil))) (S.seq (S.ifs (E.cmp .In (E.var 10) (E.var 7)) (S.asg (Tg.nm 10) (E.sub (E.lc (E.var 15) (Tg.nm 15) (E.var 5) (E.cmp .NotIn (E.var 15) (E.var 7)) [15]) (E.int 0))) S.skip) (S.drop (E.bm (E.var 7) "append" (E.cons (E.var 10) E.nil)))))) (S.ret (E.var 7))))))))))⟩
def d_law_any_plan : Def := ⟨2, 15, (S.seq (S.asg (Tg.tp [4, 5]) (E.tup (E.cons (E.bin .Add (E.int 1) (E.call "_law_draw" (E.cons (E.var 0) (E.cons (E.sub (E.var 1) (E.int 0)) E.nil)))) (E.cons (E.bin .Add (E.int 1) (E.call "_law_draw" (E.cons (E.var 0) (E.cons (E.sub (E.var 1) (E.int 1)) E.nil)))) E.nil)))) (S.seq (S.ifs (E.cmp .Eq (E.call "_law_draw" (E.cons (E.var 0) (E.cons (E.int 9) E.nil))) (E.int 0)) (S.asg (Tg.nm 5) (E.int 0)) S.skip) (S.seq (S.asg (Tg.tp [6, 7]) (E.tup (E.cons (E.call "_law_some_titles" (E.cons (E.var 0) (E.cons (E.bin .Add (E.var 4) (E.var 5)) E.nil))) (E.cons (E.call "_law_some_titles" (E.cons (E.var 0) (E.cons (E.bin .Add (E.int 1) (E.call "_law_draw" (E.cons (E.var 0) (E.cons (E.int 3) E.nil)))) E.nil))) E.nil)))) (S.seq (S.asg (Tg.nm 2) (E.lst E.nil)) (S.seq (S.for (Tg.nm 3) (E.rng1 (E.bin .Add (E.int 1) (E.call "_law_draw" (E.cons (E.var 0) (E.cons (E.sub (E.var 1) (E.int 2)) E.nil))))) (S.seq (S.asg (Tg.nm 8) (E.lst E.nil)) (S.seq (S.for (Tg.nm 9) (E.rng2 (E.var 4) (E.bin .Add (E.var 4) (E.var 5))) (S.seq (S.asg (Tg.tp [13, 14]) (E.tup (E.cons (E.bi "list" (E.cons (E.slc (E.var 6) E.nil (E.var 9)) E.nil)) (E.cons (E.lst E.nil) E.nil)))) (S.seq (S.for (Tg.nm 10) (E.rng1 (E.bi "min" (E.cons (E.var 9) (E.cons (E.call "_law_draw" (E.cons (E.var 0) (E.cons (E.bin .Add (E.sub (E.var 1) (E.int 3)) (E.int 1)) E.nil))) E.nil)))) (S.drop (E.bm (E.var 14) "append" (E.cons (E.bm (E.var 13) "pop" (E.cons (E.call "_law_draw" (E.cons (E.var 0) (E.cons (E.bi "len" (E.cons (E.var 13) E.nil)) E.nil))) E.nil)) E.nil)))) (S.seq (S.ifs (E.and (E.cmp .NotEq (E.var 8) (E.lst E.nil)) (E.cmp .Eq (E.call "_law_draw" (E.cons (E.var 0) (E.cons (E.int 4) E.nil))) (E.int 0))) (S.asg (Tg.nm 14) (E.bin .Add (E.lst (E.cons (E.sub (E.var 6) (E.bin .Sub (E.var 9) (E.int 1))) E.nil)) (E.slc (E.sub (E.sub (E.var 8) (E.neg (E.int 1))) (E.int 2)) E.nil (E.int 1)))) S.skip) (S.seq (S.asg (Tg.nm 11) (E.sub (E.lst (E.cons (E.str "read") (E.cons (E.str "follows") (E.cons (E.str "stays") E.nil)))) (E.call "_law_draw" (E.cons (E.var 0) (E.cons (E.int 3) E.nil))))) (S.drop (E.bm (E.var 8) "append" (E.cons (E.tup (E.cons (E.sub (E.var 6) (E.var 9)) (E.cons (E.sub (E.var 7) (E.call "_law_draw" (E.cons (E.var 0) (E.cons (E.bi "len" (E.cons (E.var 7) E.nil)) E.nil)))) (E.cons (E.var 14) (E.cons (E.var 11) E.nil))))) E.nil)))))))) (S.seq (S.ifs (E.and (E.cmp .NotEq (E.var 2) (E.lst E.nil)) (E.and (E.cmp .Gt (E.var 5) (E.int 0)) (E.cmp .Eq (E.call "_law_draw" (E.cons (E.var 0) (E.cons (E.int 2) E.nil))) (E.int 0)))) (S.seq (S.asg (Tg.nm 12) (E.call "_law_draw" (E.cons (E.var 0) (E.cons (E.var 5) E.nil)))) (S.asg (Tg.nm 8) (E.bin .Add (E.bin .Add (E.slc (E.sub (E.var 2) (E.neg (E.int 1))) E.nil (E.var 12)) (E.slc (E.var 8) (E.var 12) (E.bin .Add (E.var 12) (E.int 1)))) (E.slc (E.sub (E.var 2) (E.neg (E.int 1))) (E.bin .Add (E.var 12) (E.int 1)) E.nil)))) S.skip) (S.drop (E.bm (E.var 2) "append" (E.cons (E.var 8) E.nil))))))) (S.ret (E.tup (E.cons (E.slc (E.var 6) E.nil (E.var 4)) (E.cons (E.var 2) E.nil)))))))))⟩
def d_law_copied : Def := ⟨1, 4, (S.seq (S.asg (Tg.nm 1) (E.lst E.nil)) (S.seq (S.for (Tg.nm 2) (E.var 0) (S.drop (E.bm (E.var 1) "append" (E.cons (E.lc (E.tup (E.cons (E.sub (E.var 3) (E.int 0)) (E.cons (E.sub (E.var 3) (E.int 1)) (E.cons (E.bi "list" (E.cons (E.sub (E.var 3) (E.int 2)) E.nil)) (E.cons (E.sub (E.var 3) (E.int 3)) E.nil))))) (Tg.nm 3) (E.var 2) E.nil [3]) E.nil)))) (S.ret (E.var 1))))⟩
def d_law_table_of : Def := ⟨1, 1, (S.ret (E.make "Table" (E.cons (E.bi "list" (E.cons (E.sub (E.var 0) (E.int 0)) E.nil)) (E.cons (E.call "_law_copied" (E.cons (E.sub (E.var 0) (E.int 1)) E.nil)) E.nil))))⟩
def d_law_every_deed : Def := ⟨1, 4, (S.seq (S.asg (Tg.nm 1) (E.bin .Add (E.lst (E.cons (E.tup (E.cons (E.str "put") E.nil)) E.nil)) (E.lc (E.tup (E.cons (E.str "set") (E.cons (E.var 2) E.nil))) (Tg.nm 2) (E.sub (E.var 0) (E.int 0)) E.nil [2]))) (S.ret (E.bin .Add (E.bin .Add (E.var 1) (E.lc (E.tup (E.cons (E.str "rewrite") (E.cons (E.sub (E.var 3) (E.int 0)) E.nil))) (Tg.nm 3) (E.sub (E.sub (E.var 0) (E.int 1)) (E.int 0)) E.nil [3])) (E.lst (E.cons (E.tup (E.cons (E.str "edition") E.nil)) E.nil)))))⟩
def d_law_asked : Def := ⟨2, 3, (S.ret (E.lst (E.cons (E.attr (E.var 0) "plain") (E.cons (E.attr (E.var 0) "editions") (E.cons (E.attr (E.var 0) "columns") (E.cons (E.bi "len" (E.cons (E.var 0) E.nil)) (E.cons (E.om (E.var 0) "deeds" E.nil) (E.cons (E.lc (E.sub (E.var 0) (E.var 2)) (Tg.nm 2) (E.var 1) E.nil [2]) E.nil))))))))⟩
def d_law_items_spoilt : Def := ⟨1, 3, (S.seq (S.for (Tg.nm 1) (E.sub (E.var 0) (E.int 1)) (S.seq (S.for (Tg.nm 2) (E.var 1) (S.drop (E.bm (E.sub (E.var 2) (E.int 2)) "append" (E.cons (E.str "x") E.nil)))) (S.drop (E.bm (E.var 1) "append" (E.cons (E.str "x") E.nil))))) (S.seq (S.for (Tg.nm 1) (E.sub (E.var 0) (E.int 5)) (S.seq (S.for (Tg.nm 2) (E.var 1) (S.drop (E.bm (E.sub (E.var 2) (E.int 1)) "insert" (E.cons (E.int 0) (E.cons (E.str "x") E.nil))))) (S.drop (E.bm (E.var 1) "pop" E.nil)))) (S.seq (S.drop (E.bm (E.sub (E.var 0) (E.int 0)) "append" (E.cons (E.str "x") E.nil))) (S.seq (S.drop (E.bm (E.sub (E.var 0) (E.int 1)) "pop" E.nil)) (S.seq (S.drop (E.bm (E.sub (E.var 0) (E.int 2)) "insert" (E.cons (E.int 0) (E.cons (E.str "x") E.nil)))) (S.drop (E.bm (E.sub (E.var 0) (E.int 4)) "clear" E.nil)))))))⟩
def d_law_refused : Def := ⟨2, 4, (S.seq (S.asg (Tg.nm 2) E.non) (S.seq (S.tri (S.asg (Tg.nm 2) (E.lst (E.cons (E.sub (E.var 0) (E.var 1)) E.nil))) (S.hnd "UnknownColumn" (some 3) (S.asg (Tg.nm 2) E.exv) S.noh)) (S.ret (E.var 2))))⟩
def d_law_table_right : Def := ⟨3, 13, (S.seq (S.asg (Tg.nm 3) (E.lc (E.sub (E.var 11) (E.int 0)) (Tg.nm 11) (E.sub (E.sub (E.var 0) (E.int 1)) (E.int 0)) E.nil [11])) (S.seq (S.asg (Tg.nm 4) (E.lst E.nil)) (S.seq (S.for (Tg.nm 5) (E.var 3) (S.seq (S.asg (Tg.nm 8) (E.bm (E.var 3) "index" (E.cons (E.var 5) E.nil))) (S.drop (E.bm (E.var 4) "append" (E.cons (E.lc (E.tup (E.cons (E.sub (E.sub (E.var 12) (E.var 8)) (E.int 1)) (E.cons (E.sub (E.sub (E.var 12) (E.var 8)) (E.int 2)) (E.cons (E.sub (E.sub (E.var 12) (E.var 8)) (E.int 3)) E.nil)))) (Tg.nm 12) (E.sub (E.var 0) (E.int 1)) E.nil [12]) E.nil))))) (S.seq (S.asg (Tg.nm 6) (E.lst (E.cons (E.sub (E.var 0) (E.int 0)) (E.cons (E.sub (E.var 0) (E.int 1)) (E.cons (E.var 3) (E.cons (E.bi "len" (E.cons (E.sub (E.var 0) (E.int 1)) E.nil)) (E.cons (E.call "_law_every_deed" (E.cons (E.var 0) E.nil)) (E.cons (E.var 4) E.nil)))))))) (S.seq (S.for (Tg.nm 7) (E.rng1 (E.int 3)) (S.seq (S.asg (Tg.nm 9) (E.call "_law_asked" (E.cons (E.var 1) (E.cons (E.var 3) E.nil)))) (S.seq (S.ifs (E.cmp .NotEq (E.bi "repr" (E.cons (E.var 9) E.nil)) (E.bi "repr" (E.cons (E.var 6) E.nil))) (S.ret (E.bl false)) S.skip) (S.seq (S.for (Tg.nm 10) (E.var 2) (S.ifs (E.and (E.cmp .NotIn (E.var 10) (E.var 3)) (E.cmp .NotEq (E.bi "repr" (E.cons (E.call "_law_refused" (E.cons (E.var 1) (E.cons (E.var 10) E.nil))) E.nil)) (E.bi "repr" (E.cons (E.var 10) E.nil)))) (S.ret (E.bl false)) S.skip)) (S.drop (E.call "_law_items_spoilt" (E.cons (E.var 9) E.nil))))))) (S.ret (E.bl true)))))))⟩
def d_law : Def := ⟨1, 7, (S.seq (S.for (Tg.nm 1) (E.rng1 (E.bi "max" (E.cons (E.int 1) (E.cons (E.bi "min" (E.cons (E.int 6) (E.cons (E.bi "len" (E.cons (E.var 0) E.nil)) E.nil))) E.nil)))) (S.seq (S.asg (Tg.nm 2) (E.call "_law_source" (E.cons (E.var 0) (E.cons (E.var 1) E.nil)))) (S.seq (S.asg (Tg.nm 3) (E.call "_law_any_plan" (E.cons (E.var 2) (E.cons (E.sub (E.lst (E.cons (E.tup (E.cons (E.int 6) (E.cons (E.int 8) (E.cons (E.int 8) (E.cons (E.int 6) E.nil))))) (E.cons (E.tup (E.cons (E.int 2) (E.cons (E.int 3) (E.cons (E.int 3) (E.cons (E.int 2) E.nil))))) E.nil))) (E.call "_law_draw" (E.cons (E.var 2) (E.cons (E.int 2) E.nil)))) E.nil)))) (S.seq (S.asg (Tg.nm 4) (E.bin .Add (E.bin .Add (E.lst (E.cons (E.str "") (E.cons (E.str "put") (E.cons (E.str "edition") E.nil)))) (E.sub (E.var 3) (E.int 0))) (E.lc (E.sub (E.var 6) (E.int 1)) (Tg.nm 6) (E.sub (E.sub (E.var 3) (E.int 1)) (E.int 0)) E.nil [6]))) (S.seq (S.asg (Tg.nm 4) (E.bin .Add (E.bin .Add (E.var 4) (E.lc (E.slc (E.sub (E.var 6) (E.int 0)) E.nil (E.neg (E.int 1))) (Tg.nm 6) (E.sub (E.sub (E.var 3) (E.int 1)) (E.int 0)) E.nil [6])) (E.lc (E.bin .Add (E.sub (E.var 6) (E.int 0)) (E.str "z")) (Tg.nm 6) (E.sub (E.sub (E.var 3) (E.int 1)) (E.int 0)) E.nil [6]))) (S.seq (S.asg (Tg.nm 4) (E.bin .Add (E.bin .Add (E.var 4) (E.lc (E.bin .Add (E.sub (E.var 6) (E.int 0)) (E.str " ")) (Tg.nm 6) (E.slc (E.sub (E.sub (E.var 3) (E.int 1)) (E.int 0)) E.nil (E.int 3)) E.nil [6])) (E.lc (E.bm (E.sub (E.var 6) (E.int 0)) "upper" E.nil) (Tg.nm 6) (E.slc (E.sub (E.sub (E.var 3) (E.int 1)) (E.int 0)) E.nil (E.int 3)) E.nil [6]))) (S.seq (S.ifs (E.not (E.call "_law_table_right" (E.cons (E.var 3) (E.cons (E.call "_law_table_of" (E.cons (E.var 3) E.nil)) (E.cons (E.var 4) E.nil))))) (S.ret (E.bl false)) S.skip) (S.seq (S.asg (Tg.nm 5) (E.makek "Table" ["editions", "plain"] [1, 0] (E.cons (E.call "_law_copied" (E.cons (E.sub (E.var 3) (E.int 1)) E.nil)) (E.cons (E.bi "list" (E.cons (E.sub (E.var 3) (E.int 0)) E.nil)) E.nil)))) (S.ifs (E.not (E.call "_law_table_right" (E.cons (E.var 3) (E.cons (E.var 5) (E.cons (E.slc (E.var 4) E.nil (E.int 4)) E.nil))))) (S.ret (E.bl false)) S.skip))))))))) (S.ret (E.bl true)))⟩
def d_Table___init__ : Def := ⟨3, 5, (S.seq (S.drop (E.call "_check_plain" (E.cons (E.var 1) E.nil))) (S.seq (S.ifs (E.not (E.var 2)) (S.rais "InvalidEdition" (E.cons (E.int 0) E.nil)) S.skip) (S.seq (S.for (Tg.tp [3, 4]) (E.enu (E.var 2)) (S.seq (S.drop (E.call "_check_edition" (E.cons (E.var 1) (E.cons (E.var 4) E.nil)))) (S.ifs (E.cmp .NotEq (E.call "_columns" (E.cons (E.var 4) E.nil)) (E.call "_columns" (E.cons (E.sub (E.var 2) (E.int 0)) E.nil))) (S.rais "InvalidEdition" (E.cons (E.var 3) E.nil)) S.skip))) (S.seq (S.asgA (E.var 0) "_plain" (E.bi "list" (E.cons (E.var 1) E.nil))) (S.asgA (E.var 0) "_editions" (E.call "_copied" (E.cons (E.var 2) E.nil)))))))⟩
def d_Table_plain : Def := ⟨1, 1, (S.ret (E.bi "list" (E.cons (E.attr (E.var 0) "_plain") E.nil)))⟩
def d_Table_editions : Def := ⟨1, 1, (S.ret (E.call "_copied" (E.cons (E.attr (E.var 0) "_editions") E.nil)))⟩
def d_Table_columns : Def := ⟨1, 1, (S.ret (E.call "_columns" (E.cons (E.sub (E.attr (E.var 0) "_editions") (E.int 0)) E.nil)))⟩
def d_Table___getitem__ : Def := ⟨2, 7, (S.seq (S.ifs (E.cmp .NotIn (E.var 1) (E.call "_columns" (E.cons (E.sub (E.attr (E.var 0) "_editions") (E.int 0)) E.nil))) (S.rais "UnknownColumn" (E.cons (E.var 1) E.nil)) S.skip) (S.ret (E.lc2 (E.tup (E.cons (E.var 4) (E.cons (E.bi "list" (E.cons (E.var 5) E.nil)) (E.cons (E.var 6) E.nil)))) (Tg.nm 2) (E.attr (E.var 0) "_editions") E.nil (Tg.tp [3, 4, 5, 6]) (E.var 2) (E.cmp .Eq (E.var 3) (E.var 1)) [2, 3, 4, 5, 6] [3, 4, 5, 6])))⟩
def d_Table___len__ : Def := ⟨1, 1, (S.ret (E.bi "len" (E.cons (E.attr (E.var 0) "_editions") E.nil)))⟩
def d_Table___eq__ : Def := ⟨2, 2, (S.ret (E.and (E.isi (E.var 1) "Table") (E.and (E.cmp .Eq (E.attr (E.var 0) "_plain") (E.attr (E.var 1) "_plain")) (E.cmp .Eq (E.attr (E.var 0) "_editions") (E.attr (E.var 1) "_editions")))))⟩
def d_Table_deeds : Def := ⟨1, 4, (S.seq (S.asg (Tg.nm 1) (E.lc (E.tup (E.cons (E.str "set") (E.cons (E.var 3) E.nil))) (Tg.nm 3) (E.attr (E.var 0) "_plain") E.nil [3])) (S.seq (S.asg (Tg.nm 2) (E.lc (E.tup (E.cons (E.str "rewrite") (E.cons (E.var 3) E.nil))) (Tg.nm 3) (E.call "_columns" (E.cons (E.sub (E.attr (E.var 0) "_editions") (E.int 0)) E.nil)) E.nil [3])) (S.ret (E.bin .Add (E.bin .Add (E.bin .Add (E.lst (E.cons (E.tup (E.cons (E.str "put") E.nil)) E.nil)) (E.var 1)) (E.var 2)) (E.lst (E.cons (E.tup (E.cons (E.str "edition") E.nil)) E.nil))))))⟩
def prog : Prog := {
  defs := [("is_name", d_is_name), ("_columns", d_columns), ("_copied", d_copied), ("_check_name", d_check_name), ("_check_plain", d_check_plain), ("_check_edition", d_check_edition), ("_check_sources", d_check_sources), ("_law_source", d_law_source), ("_law_draw", d_law_draw), ("_law_some_titles", d_law_some_titles), ("_law_any_plan", d_law_any_plan), ("_law_copied", d_law_copied), ("_law_table_of", d_law_table_of), ("_law_every_deed", d_law_every_deed), ("_law_asked", d_law_asked), ("_law_items_spoilt", d_law_items_spoilt), ("_law_refused", d_law_refused), ("_law_table_right", d_law_table_right), ("law", d_law), ("Table.__init__", d_Table___init__), ("Table.plain", d_Table_plain), ("Table.editions", d_Table_editions), ("Table.columns", d_Table_columns), ("Table.__getitem__", d_Table___getitem__), ("Table.__len__", d_Table___len__), ("Table.__eq__", d_Table___eq__), ("Table.deeds", d_Table_deeds)],
  funs := ["is_name", "_columns", "_copied", "_check_name", "_check_plain", "_check_edition", "_check_sources", "_law_source", "_law_draw", "_law_some_titles", "_law_any_plan", "_law_copied", "_law_table_of", "_law_every_deed", "_law_asked", "_law_items_spoilt", "_law_refused", "_law_table_right", "law"],
  clss := [("Table", ⟨"Table.__init__", ["_plain", "_editions"], [("__init__", "Table.__init__"), ("__getitem__", "Table.__getitem__"), ("__iter__", "Table.__iter__"), ("__len__", "Table.__len__"), ("__eq__", "Table.__eq__"), ("deeds", "Table.deeds")], [("plain", "Table.plain"), ("editions", "Table.editions"), ("columns", "Table.columns")]⟩)],
  exs := ["DoubleName", "InvalidEdition", "InvalidKind", "InvalidName", "UnknownColumn", "WorthError"],
  subs := [("InvalidName", "WorthError"), ("DoubleName", "WorthError"), ("UnknownColumn", "WorthError"), ("InvalidEdition", "WorthError"), ("InvalidKind", "WorthError")],
  cons := [("LETTERS", .str "abcdefghijklmnopqrstuvwxyz"), ("LONGEST_NAME", .int 8), ("HELD", .tup [.str "read", .str "follows", .str "stays"])],
  stt := [],
  kwm := [] }
end K02
end

section
set_option maxRecDepth 100000
set_option maxHeartbeats 8000000
namespace K02
open AM PySem L2
def st (i : Nat) : Stmt := PySem.Challenge.pw_keptworths_k02_tables_told.main.body.getD i (.Pass ⟨0, 0, 0, 0⟩)
def inC (i j : Nat) : Stmt := match st i with
  | .ClassDef _ _ _ b _ _ _ _ _ _ _ => b.getD j (.Pass ⟨0, 0, 0, 0⟩)
  | _ => .Pass ⟨0, 0, 0, 0⟩
def t_x__init__ : DefA := ⟨"x__init__", "__init__", "WorthError.__init__", defArgs (inC 1 0), defBody (inC 1 0), defScope (inC 1 0), ["self", "value"], ["self", "value"]⟩
def t_Table___init__ : DefA := ⟨"Table.__init__", "__init__", "Table.__init__", defArgs (inC 11 0), defBody (inC 11 0), defScope (inC 11 0), ["self", "plain", "editions", "index", "edition"], ["self", "plain", "editions"]⟩
def t_Table_plain : DefA := ⟨"Table.plain", "plain", "Table.plain", defArgs (inC 11 1), defBody (inC 11 1), defScope (inC 11 1), ["self"], ["self"]⟩
def t_Table_editions : DefA := ⟨"Table.editions", "editions", "Table.editions", defArgs (inC 11 2), defBody (inC 11 2), defScope (inC 11 2), ["self"], ["self"]⟩
def t_Table_columns : DefA := ⟨"Table.columns", "columns", "Table.columns", defArgs (inC 11 3), defBody (inC 11 3), defScope (inC 11 3), ["self"], ["self"]⟩
def t_Table___getitem__ : DefA := ⟨"Table.__getitem__", "__getitem__", "Table.__getitem__", defArgs (inC 11 4), defBody (inC 11 4), defScope (inC 11 4), ["self", "column", "edition", "name", "formula", "sources", "held"], ["self", "column"]⟩
def t_Table___len__ : DefA := ⟨"Table.__len__", "__len__", "Table.__len__", defArgs (inC 11 6), defBody (inC 11 6), defScope (inC 11 6), ["self"], ["self"]⟩
def t_Table_deeds : DefA := ⟨"Table.deeds", "deeds", "Table.deeds", defArgs (inC 11 8), defBody (inC 11 8), defScope (inC 11 8), ["self", "sets", "rewrites", "column"], ["self"]⟩
def t_is_name : DefA := ⟨"is_name", "is_name", "is_name", defArgs (st 12), defBody (st 12), defScope (st 12), ["text", "sign"], ["text"]⟩
def t_columns : DefA := ⟨"_columns", "_columns", "_columns", defArgs (st 13), defBody (st 13), defScope (st 13), ["edition", "line"], ["edition"]⟩
def t_copied : DefA := ⟨"_copied", "_copied", "_copied", defArgs (st 14), defBody (st 14), defScope (st 14), ["editions", "edition", "column", "formula", "sources", "held"], ["editions"]⟩
def t_check_name : DefA := ⟨"_check_name", "_check_name", "_check_name", defArgs (st 15), defBody (st 15), defScope (st 15), ["name"], ["name"]⟩
def t_check_plain : DefA := ⟨"_check_plain", "_check_plain", "_check_plain", defArgs (st 16), defBody (st 16), defScope (st 16), ["plain", "index", "name"], ["plain"]⟩
def t_check_edition : DefA := ⟨"_check_edition", "_check_edition", "_check_edition", defArgs (st 17), defBody (st 17), defScope (st 17), ["plain", "edition", "ahead", "column", "formula", "sources", "held"], ["plain", "edition"]⟩
def t_check_sources : DefA := ⟨"_check_sources", "_check_sources", "_check_sources", defArgs (st 18), defBody (st 18), defScope (st 18), ["ahead", "sources", "index", "source"], ["ahead", "sources"]⟩
def t_law_source : DefA := ⟨"_law_source", "_law_source", "_law_source", defArgs (st 20), defBody (st 20), defScope (st 20), ["script", "place", "cell"], ["script", "place"]⟩
def t_law_draw : DefA := ⟨"_law_draw", "_law_draw", "_law_draw", defArgs (st 21), defBody (st 21), defScope (st 21), ["sack", "many", "stirred", "drawn"], ["sack", "many"]⟩
def t_law_some_titles : DefA := ⟨"_law_some_titles", "_law_some_titles", "_law_some_titles", defArgs (st 22), defBody (st 22), defScope (st 22), ["sack", "many", "menu", "stem", "rank", "letters", "mode", "found", "tail", "sizes", "wording", "at", "start", "step", "place", "one"], ["sack", "many"]⟩
def t_law_any_plan : DefA := ⟨"_law_any_plan", "_law_any_plan", "_law_any_plan", defArgs (st 23), defBody (st 23), defScope (st 23), ["sack", "sizes", "found", "turn", "count", "many", "titles", "words", "rules", "rank", "place", "mode", "at", "left", "some"], ["sack", "sizes"]⟩
def t_law_copied : DefA := ⟨"_law_copied", "_law_copied", "_law_copied", defArgs (st 24), defBody (st 24), defScope (st 24), ["rules_here", "found", "rules", "one"], ["rules_here"]⟩
def t_law_table_of : DefA := ⟨"_law_table_of", "_law_table_of", "_law_table_of", defArgs (st 25), defBody (st 25), defScope (st 25), ["plan"], ["plan"]⟩
def t_law_every_deed : DefA := ⟨"_law_every_deed", "_law_every_deed", "_law_every_deed", defArgs (st 26), defBody (st 26), defScope (st 26), ["plan", "found", "title", "one"], ["plan"]⟩
def t_law_asked : DefA := ⟨"_law_asked", "_law_asked", "_law_asked", defArgs (st 27), defBody (st 27), defScope (st 27), ["made", "titles", "title"], ["made", "titles"]⟩
def t_law_items_spoilt : DefA := ⟨"_law_items_spoilt", "_law_items_spoilt", "_law_items_spoilt", defArgs (st 28), defBody (st 28), defScope (st 28), ["told", "rules", "one"], ["told"]⟩
def t_law_refused : DefA := ⟨"_law_refused", "_law_refused", "_law_refused", defArgs (st 29), defBody (st 29), defScope (st 29), ["made", "wording", "found", "e"], ["made", "wording"]⟩
def t_law_table_right : DefA := ⟨"_law_table_right", "_law_table_right", "_law_table_right", defArgs (st 30), defBody (st 30), defScope (st 30), ["plan", "made", "strange", "titles", "items_here", "title", "due", "turn", "rank", "told", "wording", "one", "rules"], ["plan", "made", "strange"]⟩
def t_law : DefA := ⟨"law", "law", "law", defArgs (st 31), defBody (st 31), defScope (st 31), ["script", "spot", "sack", "plan", "strange", "named", "one"], ["script"]⟩
def progs : Prog := { prog with defs := prog.defs.filter (fun q => ((["Table.__init__", "Table.plain", "Table.editions", "Table.columns", "Table.__getitem__", "Table.__len__", "Table.deeds", "is_name", "_columns", "_copied", "_check_name", "_check_plain", "_check_edition", "_check_sources", "_law_source", "_law_draw", "_law_some_titles", "_law_any_plan", "_law_copied", "_law_table_of", "_law_every_deed", "_law_asked", "_law_items_spoilt", "_law_refused", "_law_table_right", "law"] : List (Str))).contains q.1), kws := [("Table", ["editions", "plain"], [1, 0])] }
def text : Text := ⟨progs, ([t_Table___init__, t_Table_plain, t_Table_editions, t_Table_columns, t_Table___getitem__, t_Table___len__, t_Table_deeds, t_is_name, t_columns, t_copied, t_check_name, t_check_plain, t_check_edition, t_check_sources, t_law_source, t_law_draw, t_law_some_titles, t_law_any_plan, t_law_copied, t_law_table_of, t_law_every_deed, t_law_asked, t_law_items_spoilt, t_law_refused, t_law_table_right, t_law] : List (DefA)), t_x__init__⟩
def badS : List Str := (progs.defs.filter fun q => !(match text.at q.1 with
  | some d => chkS d.N d.scope none q.2.body d.body && decide (d.N.length = q.2.nv) && decide (d.ps.length = q.2.np) && scB d
  | none => false)).map (·.1)
theorem stat : staticB text = true := by decide +kernel
theorem allb : AllB text.l := by
  unfold text
  dsimp only
  repeat' first
    | exact AllB.nil
    | refine AllB.cons (fun kV doc pm an cdv ct us hl => ?_) ?_
  all_goals (rcases us with _ | ⟨u1, _ | ⟨u2, _ | ⟨u3, _ | ⟨u4, _ | ⟨u5, _ | ⟨u6, ur⟩⟩⟩⟩⟩⟩ <;> first | rfl | exact nomatch hl)
theorem xbind : text.x.binds := fun kV doc pm an cdv ct us hl => by
  rcases us with _ | ⟨u1, _ | ⟨u2, _ | ⟨u3, ur⟩⟩⟩ <;> first | rfl | exact nomatch hl
def cinfo (k : Nat) : Cinfo := ((prog.clss[k]?).map (·.2)).getD ⟨.empty, [], [], []⟩
theorem kwb : ∀ c i ks q a, text.p.clss.lookup c = some i → text.p.kws.contains (c, ks, q) = true → text.at i.init = some a → a.kbinds ks q := by
  intro c i ks q a h1 h2 h3
  have hm : (c, ks, q) ∈ text.p.kws := by simpa using h2
  unfold text progs at hm
  dsimp only at hm
  simp only [List.mem_cons, List.not_mem_nil, or_false, Prod.mk.injEq] at hm
  obtain ⟨rfl, rfl, rfl⟩ := hm
  have e1 : text.p.clss.lookup ("Table" : Str) = some (cinfo 0) := by kernel_rfl
  rw [e1] at h1
  cases h1
  have e3 : text.at (cinfo 0).init = some t_Table___init__ := by kernel_rfl
  rw [e3] at h3
  cases h3
  intro kV doc pm an cdv ct u0 us uws hl hq
  rcases us with _ | ⟨u0, _ | ⟨u1, _ | ⟨v, vr⟩⟩⟩ <;> first | (cases hq; rfl) | exact nomatch hl
theorem kmb : ∀ k ks q a, text.p.kwm.contains (k, ks, q) = true → text.at k = some a → a.kbinds ks q := by
  intro k ks q a h2 h3
  simp [text, progs, prog] at h2
abbrev R : PySem.W.OpenRow := PySem.W.OpenLaw.row PySem.Challenge.rw_keptworths_k02_tables_told
def names : List Str := (["WorthError", "InvalidName", "DoubleName", "UnknownColumn", "InvalidEdition", "InvalidKind", "LETTERS", "LONGEST_NAME", "HELD", "Table", "is_name", "_columns", "_copied", "_check_name", "_check_plain", "_check_edition", "_check_sources", "_law_source", "_law_draw", "_law_some_titles", "_law_any_plan", "_law_copied", "_law_table_of", "_law_every_deed", "_law_asked", "_law_items_spoilt", "_law_refused", "_law_table_right"] : List Str)
theorem run (w : World) : HandSHeadRun.RunEq R (PySem.W.view R.prog [31]) (hookT 6 text) (obT 6 text) 20000 names w := by
  intro os
  kernel_rfl
end K02
end

section
set_option maxRecDepth 100000
set_option maxHeartbeats 0
open PySem PySem.W PySem.Calls PyProof.Rows
theorem K02.holds_of (hrun : ∀ ns : List Int, ns.length ≤ 63 → ∃ s, AM.callF K02.text.p 40 "law" [.ref 0] (AM.scr ns) = .ok (.bl true) s) : PySem.Challenge.rw_keptworths_k02_tables_told.Holds := by
  w_on; o_law
  refine HandSHeadRun.head_any (r := K02.R) (q := view K02.R.prog [31]) (H := AM.hookT 6 K02.text) (ob := AM.obT 6 K02.text) (M := 20000) (loose := K02.names) (d := HandSHeadRun.topDef K02.R.prog 31) (kwd := []) (AM.obT_eq 6 K02.text) (by kernel_rfl) (fun s => by kernel_rfl) K02.run (by kernel_rfl) (by kernel_rfl) (by kernel_rfl) (by rfl) (by first | assumption | decide +kernel) (by decide +kernel) ⟨rfl, rfl, rfl, rfl, rfl, by decide +kernel⟩ ?hw ?hc
  case hw => w_witness2
  case hc => exact AM.walk_T (el := K02.d_law) (dl := K02.t_law) (x := "script") (key := "law") (m := 40) rfl (by decide) (by kernel_rfl) (by kernel_rfl) K02.stat K02.allb K02.xbind K02.kwb K02.kmb (by decide +kernel) (by kernel_rfl) (by kernel_rfl) rfl (by decide) hrun
end

section
set_option maxRecDepth 100000
namespace KD
open AM PySem
def d_is_name : Def := ⟨1, 2, (S.ret (E.and (E.chn .LtE .LtE (E.int 1) (E.bi "len" (E.cons (E.var 0) E.nil)) (E.con "LONGEST_NAME")) (E.bi "all" (E.cons (E.lc (E.cmp .In (E.var 1) (E.con "LETTERS")) (Tg.nm 1) (E.var 0) E.nil [1]) E.nil))))⟩
def d_columns : Def := ⟨1, 2, (S.ret (E.lc (E.sub (E.var 1) (E.int 0)) (Tg.nm 1) (E.var 0) E.nil [1]))⟩
def d_copied : Def := ⟨1, 6, (S.ret (E.lc (E.lc (E.tup (E.cons (E.var 2) (E.cons (E.var 3) (E.cons (E.bi "list" (E.cons (E.var 4) E.nil)) (E.cons (E.var 5) E.nil))))) (Tg.tp [2, 3, 4, 5]) (E.var 1) E.nil [2, 3, 4, 5]) (Tg.nm 1) (E.var 0) E.nil [1]))⟩
def d_check_name : Def := ⟨1, 1, (S.ifs (E.not (E.call "is_name" (E.cons (E.var 0) E.nil))) (S.rais "InvalidName" (E.cons (E.var 0) E.nil)) S.skip)⟩
def d_check_plain : Def := ⟨1, 3, (S.for (Tg.tp [1, 2]) (E.enu (E.var 0)) (S.seq (S.drop (E.call "_check_name" (E.cons (E.var 2) E.nil))) (S.ifs (E.cmp .In (E.var 2) (E.slc (E.var 0) E.nil (E.var 1))) (S.rais "DoubleName" (E.cons (E.var 2) E.nil)) S.skip)))⟩
def d_check_edition : Def := ⟨2, 7, (S.seq (S.asg (Tg.nm 2) (E.bi "list" (E.cons (E.var 0) E.nil))) (S.for (Tg.tp [3, 4, 5, 6]) (E.var 1) (S.seq (S.drop (E.call "_check_name" (E.cons (E.var 3) E.nil))) (S.seq (S.drop (E.call "_check_name" (E.cons (E.var 4) E.nil))) (S.seq (S.ifs (E.cmp .In (E.var 3) (E.var 2)) (S.rais "DoubleName" (E.cons (E.var 3) E.nil)) S.skip) (S.seq (S.drop (E.call "_check_sources" (E.cons (E.var 2) (E.cons (E.var 5) E.nil)))) (S.seq (S.ifs (E.cmp .NotIn (E.var 6) (E.con "HELD")) (S.rais "InvalidKind" (E.cons (E.var 6) E.nil)) S.skip) (S.drop (E.bm (E.var 2) "append" (E.cons (E.var 3) E.nil))))))))))⟩
def d_check_sources : Def := ⟨2, 4, (S.for (Tg.tp [2, 3]) (E.enu (E.var 1)) (S.seq (S.ifs (E.cmp .NotIn (E.var 3) (E.var 0)) (S.rais "UnknownColumn" (E.cons (E.var 3) E.nil)) S.skip) (S.ifs (E.cmp .In (E.var 3) (E.slc (E.var 1) E.nil (E.var 2))) (S.rais "DoubleName" (E.cons (E.var 3) E.nil)) S.skip)))⟩
def d_law_source : Def := ⟨2, 3, (S.seq (S.asg (Tg.nm 2) (E.ife (E.cmp .Lt (E.var 1) (E.bi "len" (E.cons (E.var 0) E.nil))) (E.sub (E.var 0) (E.var 1)) (E.int 0))) (S.ret (E.lst (E.cons (E.bi "max" (E.cons (E.int 0) (E.cons (E.bin .Sub (E.bi "abs" (E.cons (E.var 2) E.nil)) (E.bin .Pow (E.int 10) (E.int 18))) E.nil))) (E.cons (E.bin .Mod (E.bi "int" (E.cons (E.bin .Add (E.bin .Add (E.bin .Mult (E.var 2) (E.int 60013)) (E.bin .Mult (E.var 1) (E.int 15485863))) (E.int 32452843)) E.nil)) (E.bin .Add (E.bin .Pow (E.int 10) (E.int 24)) (E.int 7))) (E.cons (E.int 0) E.nil))))))⟩
def d_law_draw : Def := ⟨2, 4, (S.seq (S.ifs (E.cmp .Gt (E.sub (E.var 0) (E.int 0)) (E.int 1)) (S.seq (S.asg (Tg.nm 3) (E.bin .Mod (E.bi "int" (E.cons (E.sub (E.var 0) (E.int 0)) E.nil)) (E.var 1))) (S.seq (S.asgS (E.var 0) (E.int 0) (E.bin .FloorDiv (E.sub (E.var 0) (E.int 0)) (E.var 1))) (S.ret (E.var 3)))) S.skip) (S.seq (S.asgS (E.var 0) (E.int 2) (E.bin .Add (E.sub (E.var 0) (E.int 2)) (E.int 1))) (S.seq (S.asg (Tg.nm 2) (E.bin .Mod (E.bin .Pow (E.bi "int" (E.cons (E.bin .Add (E.sub (E.var 0) (E.int 1)) (E.bin .Mult (E.int 179424673) (E.sub (E.var 0) (E.int 2)))) E.nil)) (E.int 3)) (E.bin .Add (E.bin .Pow (E.int 10) (E.int 26)) (E.int 67)))) (S.seq (S.asg (Tg.nm 2) (E.bin .Mod (E.bin .Pow (E.bi "int" (E.cons (E.bin .Add (E.var 2) (E.bin .Mult (E.int 86028121) (E.sub (E.var 0) (E.int 2)))) E.nil)) (E.int 2)) (E.bin .Add (E.bin .Pow (E.int 10) (E.int 25)) (E.int 13)))) (S.ret (E.bin .Mod (E.bi "int" (E.cons (E.bin .FloorDiv (E.var 2) (E.int 4096)) E.nil)) (E.var 1)))))))⟩
def d_law_some_titles : Def := ⟨2, 16, (S.seq (S.asg (Tg.tp [5, 6, 7]) (E.tup (E.cons (E.str "abcdefghijklmnopqrstuvwxyz") (E.cons (E.call "_law_draw" (E.cons (E.var 0) (E.cons (E.int 4) E.nil))) (E.cons (E.lst E.nil) E.nil))))) (S.seq (S.asg (Tg.nm 2) (E.lst (E.cons (E.str "plain") (E.cons (E.str "put") (E.cons (E.str "set") (E.cons (E.str "rewrite") (E.cons (E.str "edition") (E.cons (E.str "read") (E.cons (E.str "follows") (E.cons (E.str "stays") (E.cons (E.str "a") (E.cons (E.str "b") (E.cons (E.str "told") (E.cons (E.str "now") (E.cons (E.str "old") E.nil))))))))))))))) (S.seq (S.asg (Tg.nm 2) (E.bin .Add (E.var 2) (E.lst (E.cons (E.str "lacks") (E.cons (E.str "nobody") (E.cons (E.str "formula") E.nil)))))) (S.seq (S.ifs (E.cmp .Eq (E.var 6) (E.int 0)) (S.ret (E.lc (E.bm (E.var 2) "pop" (E.cons (E.call "_law_draw" (E.cons (E.var 0) (E.cons (E.bi "len" (E.cons (E.var 2) E.nil)) E.nil))) E.nil)) (Tg.nm 4) (E.rng1 (E.var 1)) E.nil [4])) S.skip) (S.seq (S.asg (Tg.nm 3) (E.bm (E.str "") "join" (E.cons (E.lc (E.sub (E.var 5) (E.call "_law_draw" (E.cons (E.var 0) (E.cons (E.int 26) E.nil)))) (Tg.nm 4) (E.rng1 (E.int 8)) E.nil [4]) E.nil))) (S.seq (S.ifs (E.cmp .Eq (E.var 6) (E.int 1)) (S.seq (S.asg (Tg.tp [11, 12, 13]) (E.tup (E.cons (E.call "_law_draw" (E.cons (E.var 0) (E.cons (E.int 8) E.nil))) (E.cons (E.call "_law_draw" (E.cons (E.var 0) (E.cons (E.int 26) E.nil))) (E.cons (E.sub (E.lst (E.cons (E.int 1) (E.cons (E.int 3) (E.cons (E.int 7) (E.cons (E.int 11) (E.cons (E.int 25) E.nil)))))) (E.call "_law_draw" (E.cons (E.var 0) (E.cons (E.int 5) E.nil)))) E.nil))))) (S.seq (S.asg (Tg.nm 8) (E.slc (E.var 3) (E.var 11) (E.bin .Add (E.var 11) (E.call "_law_draw" (E.cons (E.var 0) (E.cons (E.bin .Sub (E.int 8) (E.var 11)) E.nil)))))) (S.ret (E.lc (E.bin .Add (E.bin .Add (E.slc (E.var 3) E.nil (E.var 11)) (E.sub (E.var 5) (E.bin .Mod (E.bi "int" (E.cons (E.bin .Add (E.var 12) (E.bin .Mult (E.var 13) (E.var 4))) E.nil)) (E.int 26)))) (E.var 8)) (Tg.nm 4) (E.rng1 (E.var 1)) E.nil [4])))) S.skip) (S.seq (S.ifs (E.and (E.cmp .Eq (E.var 6) (E.int 2)) (E.cmp .Lt (E.var 1) (E.int 9))) (S.seq (S.asg (Tg.nm 9) (E.lst (E.cons (E.int 1) (E.cons (E.int 2) (E.cons (E.int 3) (E.cons (E.int 4) (E.cons (E.int 5) (E.cons (E.int 6) (E.cons (E.int 7) (E.cons (E.int 8) E.nil)))))))))) (S.ret (E.lc (E.slc (E.var 3) E.nil (E.bm (E.var 9) "pop" (E.cons (E.call "_law_draw" (E.cons (E.var 0) (E.cons (E.bi "len" (E.cons (E.var 9) E.nil)) E.nil))) E.nil))) (Tg.nm 4) (E.rng1 (E.var 1)) E.nil [4]))) S.skip) (S.seq (S.for (Tg.nm 4) (E.rng1 (E.var 1)) (S.seq (S.asg (Tg.nm 10) (E.bm (E.str "") "join" (E.cons (E.lc (E.sub (E.var 5) (E.call "_law_draw" (E.cons (E.var 0) (E.cons (E.int 26) E.nil)))) (Tg.nm 14) (E.rng1 (E.bin .Add (E.int 1) (E.call "_law_draw" (E.cons (E.var 0) (E.cons (E.int 8) E.nil))))) E.nil [14]) E.nil))) (S.seq (S.ifs (E.cmp .In (E.var 10) (E.var 7)) (S.asg (Tg.nm 10) (E.sub (E.lc (E.var 15) (Tg.nm 15) (E.var 5) (E.cmp .NotIn (E.var 15) (E.var 7)) [15]) (E.int 0))) S.skip) (S.drop (E.bm (E.var 7) "append" (E.cons (E.var 10) E.nil)))))) (S.ret (E.var 7))))))))))⟩
def d_law_any_plan : Def := ⟨2, 15, (S.seq (S.asg (Tg.tp [4, 5]) (E.tup (E.cons (E.bin .Add (E.int 1) (E.call "_law_draw" (E.cons (E.var 0) (E.cons (E.sub (E.var 1) (E.int 0)) E.nil)))) (E.cons (E.bin .Add (E.int 1) (E.call "_law_draw" (E.cons (E.var 0) (E.cons (E.sub (E.var 1) (E.int 1)) E.nil)))) E.nil)))) (S.seq (S.ifs (E.cmp .Eq (E.call "_law_draw" (E.cons (E.var 0) (E.cons (E.int 9) E.nil))) (E.int 0)) (S.asg (Tg.nm 5) (E.int 0)) S.skip) (S.seq (S.asg (Tg.tp [6, 7]) (E.tup (E.cons (E.call "_law_some_titles" (E.cons (E.var 0) (E.cons (E.bin .Add (E.var 4) (E.var 5)) E.nil))) (E.cons (E.call "_law_some_titles" (E.cons (E.var 0) (E.cons (E.bin .Add (E.int 1) (E.call "_law_draw" (E.cons (E.var 0) (E.cons (E.int 3) E.nil)))) E.nil))) E.nil)))) (S.seq (S.asg (Tg.nm 2) (E.lst E.nil)) (S.seq (S.for (Tg.nm 3) (E.rng1 (E.bin .Add (E.int 1) (E.call "_law_draw" (E.cons (E.var 0) (E.cons (E.sub (E.var 1) (E.int 2)) E.nil))))) (S.seq (S.asg (Tg.nm 8) (E.lst E.nil)) (S.seq (S.for (Tg.nm 9) (E.rng2 (E.var 4) (E.bin .Add (E.var 4) (E.var 5))) (S.seq (S.asg (Tg.tp [13, 14]) (E.tup (E.cons (E.bi "list" (E.cons (E.slc (E.var 6) E.nil (E.var 9)) E.nil)) (E.cons (E.lst E.nil) E.nil)))) (S.seq (S.for (Tg.nm 10) (E.rng1 (E.bi "min" (E.cons (E.var 9) (E.cons (E.call "_law_draw" (E.cons (E.var 0) (E.cons (E.bin .Add (E.sub (E.var 1) (E.int 3)) (E.int 1)) E.nil))) E.nil)))) (S.drop (E.bm (E.var 14) "append" (E.cons (E.bm (E.var 13) "pop" (E.cons (E.call "_law_draw" (E.cons (E.var 0) (E.cons (E.bi "len" (E.cons (E.var 13) E.nil)) E.nil))) E.nil)) E.nil)))) (S.seq (S.ifs (E.and (E.cmp .NotEq (E.var 8) (E.lst E.nil)) (E.cmp .Eq (E.call "_law_draw" (E.cons (E.var 0) (E.cons (E.int 4) E.nil))) (E.int 0))) (S.asg (Tg.nm 14) (E.bin .Add (E.lst (E.cons (E.sub (E.var 6) (E.bin .Sub (E.var 9) (E.int 1))) E.nil)) (E.slc (E.sub (E.sub (E.var 8) (E.neg (E.int 1))) (E.int 2)) E.nil (E.int 1)))) S.skip) (S.seq (S.asg (Tg.nm 11) (E.sub (E.lst (E.cons (E.str "read") (E.cons (E.str "follows") (E.cons (E.str "stays") E.nil)))) (E.call "_law_draw" (E.cons (E.var 0) (E.cons (E.int 3) E.nil))))) (S.drop (E.bm (E.var 8) "append" (E.cons (E.tup (E.cons (E.sub (E.var 6) (E.var 9)) (E.cons (E.sub (E.var 7) (E.call "_law_draw" (E.cons (E.var 0) (E.cons (E.bi "len" (E.cons (E.var 7) E.nil)) E.nil)))) (E.cons (E.var 14) (E.cons (E.var 11) E.nil))))) E.nil)))))))) (S.seq (S.ifs (E.and (E.cmp .NotEq (E.var 2) (E.lst E.nil)) (E.and (E.cmp .Gt (E.var 5) (E.int 0)) (E.cmp .Eq (E.call "_law_draw" (E.cons (E.var 0) (E.cons (E.int 2) E.nil))) (E.int 0)))) (S.seq (S.asg (Tg.nm 12) (E.call "_law_draw" (E.cons (E.var 0) (E.cons (E.var 5) E.nil)))) (S.asg (Tg.nm 8) (E.bin .Add (E.bin .Add (E.slc (E.sub (E.var 2) (E.neg (E.int 1))) E.nil (E.var 12)) (E.slc (E.var 8) (E.var 12) (E.bin .Add (E.var 12) (E.int 1)))) (E.slc (E.sub (E.var 2) (E.neg (E.int 1))) (E.bin .Add (E.var 12) (E.int 1)) E.nil)))) S.skip) (S.drop (E.bm (E.var 2) "append" (E.cons (E.var 8) E.nil))))))) (S.ret (E.tup (E.cons (E.slc (E.var 6) E.nil (E.var 4)) (E.cons (E.var 2) E.nil)))))))))⟩
def d_law_copied : Def := ⟨1, 4, (S.seq (S.asg (Tg.nm 1) (E.lst E.nil)) (S.seq (S.for (Tg.nm 2) (E.var 0) (S.drop (E.bm (E.var 1) "append" (E.cons (E.lc (E.tup (E.cons (E.sub (E.var 3) (E.int 0)) (E.cons (E.sub (E.var 3) (E.int 1)) (E.cons (E.bi "list" (E.cons (E.sub (E.var 3) (E.int 2)) E.nil)) (E.cons (E.sub (E.var 3) (E.int 3)) E.nil))))) (Tg.nm 3) (E.var 2) E.nil [3]) E.nil)))) (S.ret (E.var 1))))⟩
def d_law_table_of : Def := ⟨1, 1, (S.ret (E.make "Table" (E.cons (E.bi "list" (E.cons (E.sub (E.var 0) (E.int 0)) E.nil)) (E.cons (E.call "_law_copied" (E.cons (E.sub (E.var 0) (E.int 1)) E.nil)) E.nil))))⟩
def d_law_every_deed : Def := ⟨1, 4, (S.seq (S.asg (Tg.nm 1) (E.bin .Add (E.lst (E.cons (E.tup (E.cons (E.str "put") E.nil)) E.nil)) (E.lc (E.tup (E.cons (E.str "set") (E.cons (E.var 2) E.nil))) (Tg.nm 2) (E.sub (E.var 0) (E.int 0)) E.nil [2]))) (S.ret (E.bin .Add (E.bin .Add (E.var 1) (E.lc (E.tup (E.cons (E.str "rewrite") (E.cons (E.sub (E.var 3) (E.int 0)) E.nil))) (Tg.nm 3) (E.sub (E.sub (E.var 0) (E.int 1)) (E.int 0)) E.nil [3])) (E.lst (E.cons (E.tup (E.cons (E.str "edition") E.nil)) E.nil)))))⟩
def d_law_asked : Def := ⟨2, 3, (S.ret (E.lst (E.cons (E.attr (E.var 0) "plain") (E.cons (E.attr (E.var 0) "editions") (E.cons (E.attr (E.var 0) "columns") (E.cons (E.bi "len" (E.cons (E.var 0) E.nil)) (E.cons (E.om (E.var 0) "deeds" E.nil) (E.cons (E.lc (E.sub (E.var 0) (E.var 2)) (Tg.nm 2) (E.var 1) E.nil [2]) E.nil))))))))⟩
def d_law_items_spoilt : Def := ⟨1, 3, (S.seq (S.for (Tg.nm 1) (E.sub (E.var 0) (E.int 1)) (S.seq (S.for (Tg.nm 2) (E.var 1) (S.drop (E.bm (E.sub (E.var 2) (E.int 2)) "append" (E.cons (E.str "x") E.nil)))) (S.drop (E.bm (E.var 1) "append" (E.cons (E.str "x") E.nil))))) (S.seq (S.for (Tg.nm 1) (E.sub (E.var 0) (E.int 5)) (S.seq (S.for (Tg.nm 2) (E.var 1) (S.drop (E.bm (E.sub (E.var 2) (E.int 1)) "insert" (E.cons (E.int 0) (E.cons (E.str "x") E.nil))))) (S.drop (E.bm (E.var 1) "pop" E.nil)))) (S.seq (S.drop (E.bm (E.sub (E.var 0) (E.int 0)) "append" (E.cons (E.str "x") E.nil))) (S.seq (S.drop (E.bm (E.sub (E.var 0) (E.int 1)) "pop" E.nil)) (S.seq (S.drop (E.bm (E.sub (E.var 0) (E.int 2)) "insert" (E.cons (E.int 0) (E.cons (E.str "x") E.nil)))) (S.drop (E.bm (E.sub (E.var 0) (E.int 4)) "clear" E.nil)))))))⟩
def d_law_refused : Def := ⟨2, 4, (S.seq (S.asg (Tg.nm 2) E.non) (S.seq (S.tri (S.asg (Tg.nm 2) (E.lst (E.cons (E.sub (E.var 0) (E.var 1)) E.nil))) (S.hnd "UnknownColumn" (some 3) (S.asg (Tg.nm 2) E.exv) S.noh)) (S.ret (E.var 2))))⟩
def d_law_table_right : Def := ⟨3, 13, (S.seq (S.asg (Tg.nm 3) (E.lc (E.sub (E.var 11) (E.int 0)) (Tg.nm 11) (E.sub (E.sub (E.var 0) (E.int 1)) (E.int 0)) E.nil [11])) (S.seq (S.asg (Tg.nm 4) (E.lst E.nil)) (S.seq (S.for (Tg.nm 5) (E.var 3) (S.seq (S.asg (Tg.nm 8) (E.bm (E.var 3) "index" (E.cons (E.var 5) E.nil))) (S.drop (E.bm (E.var 4) "append" (E.cons (E.lc (E.tup (E.cons (E.sub (E.sub (E.var 12) (E.var 8)) (E.int 1)) (E.cons (E.sub (E.sub (E.var 12) (E.var 8)) (E.int 2)) (E.cons (E.sub (E.sub (E.var 12) (E.var 8)) (E.int 3)) E.nil)))) (Tg.nm 12) (E.sub (E.var 0) (E.int 1)) E.nil [12]) E.nil))))) (S.seq (S.asg (Tg.nm 6) (E.lst (E.cons (E.sub (E.var 0) (E.int 0)) (E.cons (E.sub (E.var 0) (E.int 1)) (E.cons (E.var 3) (E.cons (E.bi "len" (E.cons (E.sub (E.var 0) (E.int 1)) E.nil)) (E.cons (E.call "_law_every_deed" (E.cons (E.var 0) E.nil)) (E.cons (E.var 4) E.nil)))))))) (S.seq (S.for (Tg.nm 7) (E.rng1 (E.int 3)) (S.seq (S.asg (Tg.nm 9) (E.call "_law_asked" (E.cons (E.var 1) (E.cons (E.var 3) E.nil)))) (S.seq (S.ifs (E.cmp .NotEq (E.bi "repr" (E.cons (E.var 9) E.nil)) (E.bi "repr" (E.cons (E.var 6) E.nil))) (S.ret (E.bl false)) S.skip) (S.seq (S.for (Tg.nm 10) (E.var 2) (S.ifs (E.and (E.cmp .NotIn (E.var 10) (E.var 3)) (E.cmp .NotEq (E.bi "repr" (E.cons (E.call "_law_refused" (E.cons (E.var 1) (E.cons (E.var 10) E.nil))) E.nil)) (E.bi "repr" (E.cons (E.var 10) E.nil)))) (S.ret (E.bl false)) S.skip)) (S.drop (E.call "_law_items_spoilt" (E.cons (E.var 9) E.nil))))))) (S.ret (E.bl true)))))))⟩
def d_Table___init__ : Def := ⟨3, 5, (S.seq (S.drop (E.call "_check_plain" (E.cons (E.var 1) E.nil))) (S.seq (S.ifs (E.not (E.var 2)) (S.rais "InvalidEdition" (E.cons (E.int 0) E.nil)) S.skip) (S.seq (S.for (Tg.tp [3, 4]) (E.enu (E.var 2)) (S.seq (S.drop (E.call "_check_edition" (E.cons (E.var 1) (E.cons (E.var 4) E.nil)))) (S.ifs (E.cmp .NotEq (E.call "_columns" (E.cons (E.var 4) E.nil)) (E.call "_columns" (E.cons (E.sub (E.var 2) (E.int 0)) E.nil))) (S.rais "InvalidEdition" (E.cons (E.var 3) E.nil)) S.skip))) (S.seq (S.asgA (E.var 0) "_plain" (E.bi "list" (E.cons (E.var 1) E.nil))) (S.asgA (E.var 0) "_editions" (E.call "_copied" (E.cons (E.var 2) E.nil)))))))⟩
def d_Table_plain : Def := ⟨1, 1, (S.ret (E.bi "list" (E.cons (E.attr (E.var 0) "_plain") E.nil)))⟩
def d_Table_editions : Def := ⟨1, 1, (S.ret (E.call "_copied" (E.cons (E.attr (E.var 0) "_editions") E.nil)))⟩
def d_Table_columns : Def := ⟨1, 1, (S.ret (E.call "_columns" (E.cons (E.sub (E.attr (E.var 0) "_editions") (E.int 0)) E.nil)))⟩
def d_Table___getitem__ : Def := ⟨2, 7, (S.seq (S.ifs (E.cmp .NotIn (E.var 1) (E.call "_columns" (E.cons (E.sub (E.attr (E.var 0) "_editions") (E.int 0)) E.nil))) (S.rais "UnknownColumn" (E.cons (E.var 1) E.nil)) S.skip) (S.ret (E.lc2 (E.tup (E.cons (E.var 4) (E.cons (E.bi "list" (E.cons (E.var 5) E.nil)) (E.cons (E.var 6) E.nil)))) (Tg.nm 2) (E.attr (E.var 0) "_editions") E.nil (Tg.tp [3, 4, 5, 6]) (E.var 2) (E.cmp .Eq (E.var 3) (E.var 1)) [2, 3, 4, 5, 6] [3, 4, 5, 6])))⟩
def d_Table___len__ : Def := ⟨1, 1, (S.ret (E.bi "len" (E.cons (E.attr (E.var 0) "_editions") E.nil)))⟩
def d_Table___eq__ : Def := ⟨2, 2, (S.ret (E.and (E.isi (E.var 1) "Table") (E.and (E.cmp .Eq (E.attr (E.var 0) "_plain") (E.attr (E.var 1) "_plain")) (E.cmp .Eq (E.attr (E.var 0) "_editions") (E.attr (E.var 1) "_editions")))))⟩
def d_Table_deeds : Def := ⟨1, 4, (S.seq (S.asg (Tg.nm 1) (E.lc (E.tup (E.cons (E.str "set") (E.cons (E.var 3) E.nil))) (Tg.nm 3) (E.attr (E.var 0) "_plain") E.nil [3])) (S.seq (S.asg (Tg.nm 2) (E.lc (E.tup (E.cons (E.str "rewrite") (E.cons (E.var 3) E.nil))) (Tg.nm 3) (E.call "_columns" (E.cons (E.sub (E.attr (E.var 0) "_editions") (E.int 0)) E.nil)) E.nil [3])) (S.ret (E.bin .Add (E.bin .Add (E.bin .Add (E.lst (E.cons (E.tup (E.cons (E.str "put") E.nil)) E.nil)) (E.var 1)) (E.var 2)) (E.lst (E.cons (E.tup (E.cons (E.str "edition") E.nil)) E.nil))))))⟩
def d_edition_lines : Def := ⟨1, 6, (S.ret (E.lc (E.dc (E.var 2) (E.tup (E.cons (E.var 3) (E.cons (E.var 4) (E.cons (E.var 5) E.nil)))) (Tg.tp [2, 3, 4, 5]) (E.var 1) E.nil [2, 3, 4, 5]) (Tg.nm 1) (E.attr (E.var 0) "editions") E.nil [1]))⟩
def d_is_kept : Def := ⟨2, 2, (S.ret (E.cmp .NotEq (E.sub (E.sub (E.var 0) (E.var 1)) (E.int 2)) (E.str "read")))⟩
def d_given_columns : Def := ⟨2, 2, (S.seq (S.ifs (E.cmp .Eq (E.sub (E.var 1) (E.int 0)) (E.str "put")) (S.ret (E.bi "list" (E.cons (E.var 0) E.nil))) S.skip) (S.ret (E.ife (E.cmp .Eq (E.sub (E.var 1) (E.int 0)) (E.str "set")) (E.lst (E.cons (E.sub (E.var 1) (E.int 1)) E.nil)) (E.lst E.nil))))⟩
def d_reckoned_columns : Def := ⟨2, 3, (S.seq (S.ifs (E.cmp .Eq (E.sub (E.var 1) (E.int 0)) (E.str "put")) (S.lkS 0 [] (S.ret (E.lc (E.var 2) (Tg.nm 2) (E.var 0) (E.call "is_kept" (E.cons (E.var 0) (E.cons (E.var 2) E.nil))) [2]))) S.skip) (S.seq (S.ifs (E.cmp .Eq (E.sub (E.var 1) (E.int 0)) (E.str "rewrite")) (S.ret (E.ife (E.call "is_kept" (E.cons (E.var 0) (E.cons (E.sub (E.var 1) (E.int 1)) E.nil))) (E.lst (E.cons (E.sub (E.var 1) (E.int 1)) E.nil)) (E.lst E.nil))) S.skip) (S.ret (E.ife (E.cmp .Eq (E.sub (E.var 1) (E.int 0)) (E.str "set")) (E.call "_following" (E.cons (E.var 0) (E.cons (E.sub (E.var 1) (E.int 1)) E.nil))) (E.lst E.nil)))))⟩
def d_following : Def := ⟨2, 8, (S.seq (S.asg (Tg.nm 2) (E.d1 (E.var 1) (E.bl true))) (S.seq (S.lkS 0 [] (S.for (Tg.nm 3) (E.var 0) (S.seq (S.asg (Tg.tp [4, 5, 6]) (E.sub (E.var 0) (E.var 3))) (S.ifs (E.and (E.cmp .NotEq (E.var 6) (E.str "stays")) (E.bi "any" (E.cons (E.lc (E.cmp .In (E.var 7) (E.var 2)) (Tg.nm 7) (E.var 5) E.nil [7]) E.nil))) (S.asgS (E.var 2) (E.var 3) (E.bl true)) S.skip)))) (S.lkS 0 [] (S.ret (E.lc (E.var 3) (Tg.nm 3) (E.var 0) (E.and (E.cmp .In (E.var 3) (E.var 2)) (E.call "is_kept" (E.cons (E.var 0) (E.cons (E.var 3) E.nil)))) [3])))))⟩
def d_entries_behind : Def := ⟨3, 3, (S.seq (S.ifs (E.attr (E.var 2) "is_put") (S.ret (E.call "_exchanged" (E.cons (E.lst E.nil) (E.cons E.non (E.cons (E.attr (E.var 2) "new") E.nil))))) S.skip) (S.seq (S.ifs (E.cmp .Eq (E.var 0) (E.str "told")) (S.ret (E.ife (E.cmp .NotEq (E.attr (E.var 2) "old") (E.attr (E.var 2) "new")) (E.call "_exchanged" (E.cons (E.var 1) (E.cons (E.attr (E.var 2) "old") (E.cons (E.attr (E.var 2) "new") E.nil)))) (E.var 1))) S.skip) (S.seq (S.ifs (E.not (E.attr (E.var 2) "is_reckoned")) (S.ret (E.var 1)) S.skip) (S.ret (E.call "_exchanged" (E.cons (E.var 1) (E.cons (E.ife (E.cmp .Eq (E.var 0) (E.str "written")) (E.attr (E.var 2) "old") (E.attr (E.var 2) "truth")) (E.cons (E.attr (E.var 2) "new") E.nil))))))))⟩
def d_exchanged : Def := ⟨3, 5, (S.seq (S.asg (Tg.nm 3) (E.lc (E.var 4) (Tg.nm 4) (E.var 0) (E.cmp .NotEq (E.var 4) (E.var 1)) [4])) (S.ret (E.ife (E.or (E.cmp .Is (E.var 2) E.non) (E.cmp .In (E.var 2) (E.var 3))) (E.var 3) (E.bin .Add (E.var 3) (E.lst (E.cons (E.var 2) E.nil))))))⟩
def d_moment_behind : Def := ⟨3, 8, (S.seq (S.ifs (E.cmp .Eq (E.sub (E.var 2) (E.int 0)) (E.str "edition")) (S.ret (E.make "Moment" (E.cons (E.bin .Add (E.attr (E.var 1) "now") (E.int 1)) (E.cons (E.attr (E.var 1) "counts") (E.cons (E.attr (E.var 1) "kept") E.nil))))) S.skip) (S.seq (S.asg (Tg.nm 3) (E.call "given_columns" (E.cons (E.bid "list" (E.cons (E.attr (E.var 1) "counts") E.nil)) (E.cons (E.var 2) E.nil)))) (S.seq (S.lkS 1 ["counts"] (S.asg (Tg.nm 4) (E.dc (E.var 6) (E.ife (E.cmp .In (E.var 6) (E.var 3)) (E.bin .Add (E.var 7) (E.int 1)) (E.var 7)) (Tg.tp [6, 7]) (E.itm (E.attr (E.var 1) "counts")) E.nil [6, 7]))) (S.seq (S.asg (Tg.nm 5) (E.make "Moment" (E.cons (E.attr (E.var 1) "now") (E.cons (E.var 4) (E.cons (E.bid "dict" (E.cons (E.attr (E.var 1) "kept") E.nil)) E.nil))))) (S.seq (S.for (Tg.nm 6) (E.call "reckoned_columns" (E.cons (E.sub (E.var 0) (E.attr (E.var 1) "now")) (E.cons (E.var 2) E.nil))) (S.asgS (E.attr (E.var 5) "kept") (E.var 6) (E.call "_reckoned" (E.cons (E.sub (E.var 0) (E.attr (E.var 1) "now")) (E.cons (E.var 5) (E.cons (E.var 6) E.nil)))))) (S.ret (E.var 5)))))))⟩
def d_told_worth : Def := ⟨3, 3, (S.ret (E.call "_told" (E.cons (E.sub (E.var 0) (E.attr (E.var 1) "now")) (E.cons (E.var 1) (E.cons (E.var 2) E.nil)))))⟩
def d_true_worth : Def := ⟨3, 7, (S.seq (S.ifs (E.cmp .In (E.var 2) (E.var 1)) (S.ret (E.tup (E.cons (E.str "plain") (E.cons (E.var 2) (E.cons (E.sub (E.var 1) (E.var 2)) E.nil))))) S.skip) (S.seq (S.asg (Tg.tp [3, 4, 5]) (E.sub (E.var 0) (E.var 2))) (S.ret (E.tup (E.cons (E.str "formula") (E.cons (E.var 3) (E.cons (E.lc (E.call "true_worth" (E.cons (E.var 0) (E.cons (E.var 1) (E.cons (E.var 6) E.nil)))) (Tg.nm 6) (E.var 4) E.nil [6]) E.nil)))))))⟩
def d_copied0 : Def := ⟨1, 2, (S.seq (S.ifs (E.or (E.cmp .Is (E.var 0) E.non) (E.cmp .Eq (E.sub (E.var 0) (E.int 0)) (E.str "plain"))) (S.ret (E.var 0)) S.skip) (S.ret (E.tup (E.cons (E.str "formula") (E.cons (E.sub (E.var 0) (E.int 1)) (E.cons (E.lc (E.call "copied" (E.cons (E.var 1) E.nil)) (Tg.nm 1) (E.sub (E.var 0) (E.int 2)) E.nil [1]) E.nil))))))⟩
def d_told : Def := ⟨3, 3, (S.seq (S.ifs (E.cmp .In (E.var 2) (E.attr (E.var 1) "counts")) (S.ret (E.tup (E.cons (E.str "plain") (E.cons (E.var 2) (E.cons (E.sub (E.attr (E.var 1) "counts") (E.var 2)) E.nil))))) S.skip) (S.seq (S.ifs (E.call "is_kept" (E.cons (E.var 0) (E.cons (E.var 2) E.nil))) (S.ret (E.dgt (E.attr (E.var 1) "kept") (E.var 2) E.nil)) S.skip) (S.ret (E.call "_reckoned" (E.cons (E.var 0) (E.cons (E.var 1) (E.cons (E.var 2) E.nil)))))))⟩
def d_reckoned : Def := ⟨3, 9, (S.seq (S.asg (Tg.tp [4, 5, 6]) (E.sub (E.var 0) (E.var 2))) (S.seq (S.asg (Tg.nm 3) (E.lc (E.call "_told" (E.cons (E.var 0) (E.cons (E.var 1) (E.cons (E.var 7) E.nil)))) (Tg.nm 7) (E.var 5) E.nil [7])) (S.seq (S.ifs (E.bi "any" (E.cons (E.lc (E.cmp .Is (E.var 8) E.non) (Tg.nm 8) (E.var 3) E.nil [8]) E.nil)) (S.ret E.non) S.skip) (S.ret (E.tup (E.cons (E.str "formula") (E.cons (E.var 4) (E.cons (E.var 3) E.nil))))))))⟩
def d_check_column : Def := ⟨2, 2, (S.ifs (E.cmp .NotIn (E.var 0) (E.var 1)) (S.rais "UnknownColumn" (E.cons (E.var 0) E.nil)) S.skip)⟩
def d_law_long_deeds : Def := ⟨4, 11, (S.seq (S.asg (Tg.tp [6, 7]) (E.tup (E.cons (E.bin .Add (E.call "_law_every_deed" (E.cons (E.var 2) E.nil)) (E.lc (E.tup (E.cons (E.str "set") (E.cons (E.var 10) E.nil))) (Tg.nm 10) (E.sub (E.var 2) (E.int 0)) E.nil [10])) (E.cons (E.bin .Sub (E.bi "len" (E.cons (E.sub (E.var 2) (E.int 1)) E.nil)) (E.int 1)) E.nil)))) (S.seq (S.asg (Tg.nm 4) (E.lst E.nil)) (S.seq (S.for (Tg.nm 5) (E.rng2 (E.int 1) (E.bin .Add (E.int 1) (E.bi "max" (E.cons (E.bi "min" (E.cons (E.bin .Sub (E.bi "len" (E.cons (E.var 0) E.nil)) (E.int 1)) (E.cons (E.var 3) E.nil))) (E.cons (E.call "_law_draw" (E.cons (E.var 1) (E.cons (E.int 10) E.nil))) E.nil))))) (S.seq (S.asg (Tg.nm 8) (E.ife (E.cmp .Lt (E.var 5) (E.bi "len" (E.cons (E.var 0) E.nil))) (E.call "_law_source" (E.cons (E.var 0) (E.cons (E.var 5) E.nil))) (E.var 1))) (S.seq (S.asg (Tg.nm 9) (E.sub (E.var 6) (E.call "_law_draw" (E.cons (E.var 8) (E.cons (E.bi "len" (E.cons (E.var 6) E.nil)) E.nil))))) (S.ifs (E.or (E.cmp .NotEq (E.var 9) (E.tup (E.cons (E.str "edition") E.nil))) (E.cmp .Gt (E.var 7) (E.int 0))) (S.seq (S.asg (Tg.nm 7) (E.bin .Sub (E.var 7) (E.bi "int" (E.cons (E.cmp .Eq (E.var 9) (E.tup (E.cons (E.str "edition") E.nil))) E.nil)))) (S.drop (E.bm (E.var 4) "append" (E.cons (E.var 9) E.nil)))) S.skip)))) (S.ret (E.var 4)))))⟩
def d_law_row_of : Def := ⟨3, 4, (S.seq (S.ifs (E.and (E.cmp .NotEq (E.sub (E.sub (E.var 1) (E.int 1)) (E.int 0)) (E.lst E.nil)) (E.cmp .Eq (E.call "_law_draw" (E.cons (E.var 0) (E.cons (E.int 2) E.nil))) (E.int 0))) (S.seq (S.asg (Tg.nm 3) (E.sub (E.sub (E.sub (E.sub (E.var 1) (E.int 1)) (E.int 0)) (E.call "_law_draw" (E.cons (E.var 0) (E.cons (E.bi "len" (E.cons (E.sub (E.sub (E.var 1) (E.int 1)) (E.int 0)) E.nil)) E.nil)))) (E.int 0))) (S.ret (E.make "IndexedRow" (E.cons (E.var 2) (E.cons (E.var 3) (E.cons (E.sub (E.lst (E.cons (E.str "told") (E.cons (E.str "written") (E.cons (E.str "reckoned") E.nil)))) (E.call "_law_draw" (E.cons (E.var 0) (E.cons (E.int 3) E.nil)))) E.nil)))))) S.skip) (S.ret (E.make "Row" (E.cons (E.var 2) E.nil))))⟩
def d_law_own : Def := ⟨1, 2, (S.seq (S.ifs (E.or (E.cmp .Is (E.var 0) E.non) (E.cmp .Eq (E.sub (E.var 0) (E.int 0)) (E.str "plain"))) (S.ret (E.var 0)) S.skip) (S.ret (E.tup (E.cons (E.str "formula") (E.cons (E.sub (E.var 0) (E.int 1)) (E.cons (E.lc (E.call "_law_own" (E.cons (E.var 1) E.nil)) (Tg.nm 1) (E.sub (E.var 0) (E.int 2)) E.nil [1]) E.nil))))))⟩
def d_law_marked : Def := ⟨2, 3, (S.seq (S.ifs (E.or (E.not (E.isb (E.var 0) "tuple")) (E.cmp .Eq (E.sub (E.var 0) (E.int 0)) (E.str "plain"))) (S.ret (E.var 1)) S.skip) (S.seq (S.for (Tg.nm 2) (E.bi "list" (E.cons (E.sub (E.var 0) (E.int 2)) E.nil)) (S.asg (Tg.nm 1) (E.call "_law_marked" (E.cons (E.var 2) (E.cons (E.var 1) E.nil))))) (S.seq (S.drop (E.bm (E.sub (E.var 0) (E.int 2)) "append" (E.cons (E.var 1) E.nil))) (S.ret (E.bin .Add (E.var 1) (E.int 1))))))⟩
def d_law_lists_alone : Def := ⟨2, 3, (S.seq (S.asg (Tg.nm 2) (E.call "_law_own" (E.cons (E.var 1) E.nil))) (S.seq (S.ifs (E.cmp .NotEq (E.bi "repr" (E.cons (E.var 0) E.nil)) (E.bi "repr" (E.cons (E.var 2) E.nil))) (S.ret (E.bl false)) S.skip) (S.seq (S.drop (E.call "_law_marked" (E.cons (E.var 0) (E.cons (E.int 0) E.nil)))) (S.seq (S.drop (E.call "_law_marked" (E.cons (E.var 2) (E.cons (E.int 0) E.nil)))) (S.ret (E.cmp .Eq (E.bi "repr" (E.cons (E.var 0) E.nil)) (E.bi "repr" (E.cons (E.var 2) E.nil))))))))⟩
def d_law_true_walked : Def := ⟨5, 8, (S.seq (S.ifs (E.cmp .In (E.var 4) (E.sub (E.var 1) (E.int 0))) (S.ret (E.cmp .Eq (E.bi "repr" (E.cons (E.var 0) E.nil)) (E.bi "repr" (E.cons (E.tup (E.cons (E.str "plain") (E.cons (E.var 4) (E.cons (E.sub (E.var 3) (E.var 4)) E.nil)))) E.nil)))) S.skip) (S.seq (S.asg (Tg.nm 5) (E.sub (E.lc (E.var 7) (Tg.nm 7) (E.sub (E.sub (E.var 1) (E.int 1)) (E.var 2)) (E.cmp .Eq (E.sub (E.var 7) (E.int 0)) (E.var 4)) [7]) (E.int 0))) (S.seq (S.ifs (E.or (E.not (E.isb (E.var 0) "tuple")) (E.or (E.cmp .NotEq (E.bi "len" (E.cons (E.var 0) E.nil)) (E.int 3)) (E.cmp .NotEq (E.bi "repr" (E.cons (E.slc (E.var 0) E.nil (E.int 2)) E.nil)) (E.bi "repr" (E.cons (E.tup (E.cons (E.str "formula") (E.cons (E.sub (E.var 5) (E.int 1)) E.nil))) E.nil))))) (S.ret (E.bl false)) S.skip) (S.seq (S.ifs (E.or (E.not (E.isb (E.sub (E.var 0) (E.int 2)) "list")) (E.cmp .NotEq (E.bi "len" (E.cons (E.sub (E.var 0) (E.int 2)) E.nil)) (E.bi "len" (E.cons (E.sub (E.var 5) (E.int 2)) E.nil)))) (S.ret (E.bl false)) S.skip) (S.seq (S.for (Tg.nm 6) (E.rng1 (E.bi "len" (E.cons (E.sub (E.var 5) (E.int 2)) E.nil))) (S.ifs (E.not (E.call "_law_true_walked" (E.cons (E.sub (E.sub (E.var 0) (E.int 2)) (E.var 6)) (E.cons (E.var 1) (E.cons (E.var 2) (E.cons (E.var 3) (E.cons (E.sub (E.sub (E.var 5) (E.int 2)) (E.var 6)) E.nil))))))) (S.ret (E.bl false)) S.skip)) (S.ret (E.bl true)))))))⟩
def d_Change___init__ : Def := ⟨6, 6, (S.seq (S.asgA (E.var 0) "old" (E.var 1)) (S.seq (S.asgA (E.var 0) "truth" (E.var 2)) (S.seq (S.asgA (E.var 0) "new" (E.var 3)) (S.seq (S.asgA (E.var 0) "is_put" (E.var 4)) (S.asgA (E.var 0) "is_reckoned" (E.var 5))))))⟩
def d_Moment___init__ : Def := ⟨4, 4, (S.seq (S.asgA (E.var 0) "now" (E.var 1)) (S.seq (S.asgA (E.var 0) "counts" (E.var 2)) (S.asgA (E.var 0) "kept" (E.var 3))))⟩
def d_Row___init__ : Def := ⟨2, 4, (S.seq (S.asgA (E.var 0) "_table" (E.var 1)) (S.seq (S.asgA (E.var 0) "_editions" (E.call "edition_lines" (E.cons (E.var 1) E.nil))) (S.seq (S.asgA (E.var 0) "_deeds" (E.om (E.var 1) "deeds" E.nil)) (S.seq (S.asgA (E.var 0) "_columns" (E.bin .Add (E.attr (E.var 1) "plain") (E.attr (E.var 1) "columns"))) (S.seq (S.asg (Tg.nm 2) (E.make "Moment" (E.cons (E.int 0) (E.cons (E.dc (E.var 3) (E.int 0) (Tg.nm 3) (E.attr (E.var 1) "plain") E.nil [3]) (E.cons E.d0 E.nil))))) (S.seq (S.asgA (E.var 0) "_history" (E.lst (E.cons (E.tup (E.cons (E.str "put") E.nil)) E.nil))) (S.asgA (E.var 0) "_moments" (E.lst (E.cons (E.call "moment_behind" (E.cons (E.attr (E.var 0) "_editions") (E.cons (E.var 2) (E.cons (E.tup (E.cons (E.str "put") E.nil)) E.nil)))) E.nil)))))))))⟩
def d_Row___call__ : Def := ⟨2, 2, (S.ret (E.om (E.var 0) "_do" (E.cons (E.var 1) E.nil)))⟩
def d_Row_told : Def := ⟨2, 2, (S.seq (S.drop (E.call "_check_column" (E.cons (E.var 1) (E.cons (E.attr (E.var 0) "_columns") E.nil)))) (S.ret (E.call "copied" (E.cons (E.call "told_worth" (E.cons (E.attr (E.var 0) "_editions") (E.cons (E.sub (E.attr (E.var 0) "_moments") (E.neg (E.int 1))) (E.cons (E.var 1) E.nil)))) E.nil))))⟩
def d_Row_true : Def := ⟨3, 3, (S.seq (S.drop (E.call "_check_column" (E.cons (E.var 1) (E.cons (E.attr (E.var 0) "_columns") E.nil)))) (S.seq (S.ifs (E.not (E.chn .LtE .Lt (E.int 0) (E.var 2) (E.bi "len" (E.cons (E.attr (E.var 0) "_editions") E.nil)))) (S.rais "InvalidEdition" (E.cons (E.var 2) E.nil)) S.skip) (S.ret (E.call "true_worth" (E.cons (E.sub (E.attr (E.var 0) "_editions") (E.var 2)) (E.cons (E.attr (E.sub (E.attr (E.var 0) "_moments") (E.neg (E.int 1))) "counts") (E.cons (E.var 1) E.nil)))))))⟩
def d_Row_standing : Def := ⟨2, 4, (S.seq (S.drop (E.call "_check_column" (E.cons (E.var 1) (E.cons (E.attr (E.attr (E.var 0) "_table") "columns") E.nil)))) (S.seq (S.asg (Tg.nm 2) (E.sub (E.attr (E.var 0) "_moments") (E.neg (E.int 1)))) (S.seq (S.asg (Tg.nm 3) (E.call "told_worth" (E.cons (E.attr (E.var 0) "_editions") (E.cons (E.var 2) (E.cons (E.var 1) E.nil))))) (S.seq (S.ifs (E.cmp .Is (E.var 3) E.non) (S.ret (E.str "lacks")) S.skip) (S.seq (S.ifs (E.cmp .Eq (E.var 3) (E.call "true_worth" (E.cons (E.sub (E.attr (E.var 0) "_editions") (E.attr (E.var 2) "now")) (E.cons (E.attr (E.var 2) "counts") (E.cons (E.var 1) E.nil))))) (S.ret (E.str "now")) S.skip) (S.ret (E.ife (E.om (E.var 0) "_was_true" (E.cons (E.var 3) (E.cons (E.var 1) E.nil))) (E.str "old") (E.str "nobody"))))))))⟩
def d_Row_edition : Def := ⟨1, 1, (S.ret (E.attr (E.sub (E.attr (E.var 0) "_moments") (E.neg (E.int 1))) "now"))⟩
def d_Row_history : Def := ⟨1, 1, (S.drop (E.call "_wall" (E.cons (E.int 0) E.nil)))⟩
def d_Row_undo : Def := ⟨1, 1, (S.drop (E.call "_wall" (E.cons (E.int 1) E.nil)))⟩
def d_Row___len__ : Def := ⟨1, 1, (S.ret (E.bi "len" (E.cons (E.attr (E.var 0) "_history") E.nil)))⟩
def d_Row___eq__ : Def := ⟨2, 2, (S.seq (S.ifs (E.or (E.not (E.isi (E.var 1) "Row")) (E.isi (E.var 1) "IndexedRow")) (S.ret (E.bl false)) S.skip) (S.ret (E.and (E.cmp .Eq (E.attr (E.var 0) "_table") (E.attr (E.var 1) "_table")) (E.cmp .Eq (E.attr (E.var 0) "_history") (E.attr (E.var 1) "_history")))))⟩
def d_Row__do : Def := ⟨2, 6, (S.seq (S.asg (Tg.nm 2) (E.sub (E.attr (E.var 0) "_moments") (E.neg (E.int 1)))) (S.seq (S.asg (Tg.nm 3) (E.cmp .Eq (E.attr (E.var 2) "now") (E.bin .Sub (E.bi "len" (E.cons (E.attr (E.var 0) "_editions") E.nil)) (E.int 1)))) (S.seq (S.ifs (E.or (E.cmp .NotIn (E.var 1) (E.attr (E.var 0) "_deeds")) (E.and (E.cmp .Eq (E.var 1) (E.tup (E.cons (E.str "edition") E.nil))) (E.var 3))) (S.rais "InvalidDeed" (E.cons (E.var 1) E.nil)) S.skip) (S.seq (S.asg (Tg.nm 4) (E.call "moment_behind" (E.cons (E.attr (E.var 0) "_editions") (E.cons (E.var 2) (E.cons (E.var 1) E.nil))))) (S.seq (S.drop (E.bm (E.attr (E.var 0) "_history") "append" (E.cons (E.var 1) E.nil))) (S.seq (S.drop (E.bm (E.attr (E.var 0) "_moments") "append" (E.cons (E.var 4) E.nil))) (S.ret (E.lc (E.var 5) (Tg.nm 5) (E.attr (E.var 0) "_columns") (E.cmp .NotEq (E.call "told_worth" (E.cons (E.attr (E.var 0) "_editions") (E.cons (E.var 2) (E.cons (E.var 5) E.nil)))) (E.call "told_worth" (E.cons (E.attr (E.var 0) "_editions") (E.cons (E.var 4) (E.cons (E.var 5) E.nil))))) [5]))))))))⟩
def d_Row__was_true : Def := ⟨3, 6, (S.seq (S.asg (Tg.nm 3) (E.slc (E.attr (E.var 0) "_editions") E.nil (E.bin .Add (E.attr (E.sub (E.attr (E.var 0) "_moments") (E.neg (E.int 1))) "now") (E.int 1)))) (S.ret (E.bi "any" (E.cons (E.lc2 (E.cmp .Eq (E.var 1) (E.call "true_worth" (E.cons (E.var 4) (E.cons (E.attr (E.var 5) "counts") (E.cons (E.var 2) E.nil))))) (Tg.nm 4) (E.var 3) E.nil (Tg.nm 5) (E.attr (E.var 0) "_moments") E.nil [4, 5] [5]) E.nil))))⟩
def d_IndexedRow___init__ : Def := ⟨4, 5, (S.seq (S.drop (E.call "_check_column" (E.cons (E.var 2) (E.cons (E.attr (E.var 1) "columns") E.nil)))) (S.seq (S.ifs (E.cmp .NotIn (E.var 3) (E.con "WAYS")) (S.rais "InvalidKind" (E.cons (E.var 3) E.nil)) S.skip) (S.seq (S.drop (E.clm "Row" "__init__" (E.cons (E.var 0) (E.cons (E.var 1) E.nil)))) (S.seq (S.asgA (E.var 0) "_column" (E.var 2)) (S.seq (S.asgA (E.var 0) "_way" (E.var 3)) (S.seq (S.asg (Tg.nm 4) (E.om (E.var 0) "_told_now" E.nil)) (S.asgA (E.var 0) "_indexes" (E.lst (E.cons (E.call "entries_behind" (E.cons (E.var 3) (E.cons (E.lst E.nil) (E.cons (E.make "Change" (E.cons E.non (E.cons E.non (E.cons (E.var 4) (E.cons (E.bl true) (E.cons (E.bl false) E.nil)))))) E.nil)))) E.nil)))))))))⟩
def d_IndexedRow___call__ : Def := ⟨2, 3, (S.seq (S.asg (Tg.nm 2) (E.om (E.var 0) "_do" (E.cons (E.var 1) E.nil))) (S.seq (S.drop (E.bm (E.attr (E.var 0) "_indexes") "append" (E.cons (E.call "entries_behind" (E.cons (E.attr (E.var 0) "_way") (E.cons (E.sub (E.attr (E.var 0) "_indexes") (E.neg (E.int 1))) (E.cons (E.om (E.var 0) "_last_change" E.nil) E.nil)))) E.nil))) (S.ret (E.var 2))))⟩
def d_IndexedRow_entries : Def := ⟨1, 2, (S.ret (E.lc (E.call "copied" (E.cons (E.var 1) E.nil)) (Tg.nm 1) (E.sub (E.attr (E.var 0) "_indexes") (E.neg (E.int 1))) E.nil [1]))⟩
def d_IndexedRow_missed : Def := ⟨1, 1, (S.drop (E.call "_wall" (E.cons (E.int 2) E.nil)))⟩
def d_IndexedRow_wrongly : Def := ⟨1, 1, (S.drop (E.call "_wall" (E.cons (E.int 3) E.nil)))⟩
def d_IndexedRow_undo : Def := ⟨1, 1, (S.drop (E.call "_wall" (E.cons (E.int 4) E.nil)))⟩
def d_IndexedRow___eq__ : Def := ⟨2, 3, (S.seq (S.ifs (E.not (E.isi (E.var 1) "IndexedRow")) (S.ret (E.bl false)) S.skip) (S.seq (S.asg (Tg.nm 2) (E.and (E.cmp .Eq (E.attr (E.var 0) "_table") (E.attr (E.var 1) "_table")) (E.cmp .Eq (E.attr (E.var 0) "_history") (E.attr (E.var 1) "_history")))) (S.ret (E.and (E.var 2) (E.and (E.cmp .Eq (E.attr (E.var 0) "_column") (E.attr (E.var 1) "_column")) (E.cmp .Eq (E.attr (E.var 0) "_way") (E.attr (E.var 1) "_way")))))))⟩
def d_IndexedRow__told_now : Def := ⟨1, 1, (S.ret (E.call "told_worth" (E.cons (E.attr (E.var 0) "_editions") (E.cons (E.sub (E.attr (E.var 0) "_moments") (E.neg (E.int 1))) (E.cons (E.attr (E.var 0) "_column") E.nil)))))⟩
def d_IndexedRow__last_change : Def := ⟨1, 4, (S.seq (S.asg (Tg.nm 1) (E.sub (E.attr (E.var 0) "_history") (E.neg (E.int 1)))) (S.seq (S.asg (Tg.nm 2) (E.sub (E.attr (E.var 0) "_moments") (E.neg (E.int 2)))) (S.seq (S.asg (Tg.nm 3) (E.sub (E.attr (E.var 0) "_editions") (E.attr (E.var 2) "now"))) (S.ret (E.make "Change" (E.cons (E.call "told_worth" (E.cons (E.attr (E.var 0) "_editions") (E.cons (E.var 2) (E.cons (E.attr (E.var 0) "_column") E.nil)))) (E.cons (E.call "true_worth" (E.cons (E.var 3) (E.cons (E.attr (E.var 2) "counts") (E.cons (E.attr (E.var 0) "_column") E.nil)))) (E.cons (E.om (E.var 0) "_told_now" E.nil) (E.cons (E.cmp .Eq (E.var 1) (E.tup (E.cons (E.str "put") E.nil))) (E.cons (E.cmp .In (E.attr (E.var 0) "_column") (E.call "reckoned_columns" (E.cons (E.var 3) (E.cons (E.var 1) E.nil)))) E.nil))))))))))⟩
def d_law_is_word : Def := ⟨1, 2, (S.seq (S.ifs (E.or (E.cmp .Eq (E.var 0) (E.str "")) (E.cmp .Gt (E.bi "len" (E.cons (E.var 0) E.nil)) (E.int 8))) (S.ret (E.bl false)) S.skip) (S.ret (E.cmp .Eq (E.lc (E.var 1) (Tg.nm 1) (E.var 0) (E.cmp .NotIn (E.var 1) (E.str "abcdefghijklmnopqrstuvwxyz")) [1]) (E.lst E.nil))))⟩
def d_law_rule_fault : Def := ⟨2, 8, (S.seq (S.asg (Tg.tp [4, 5, 6, 7]) (E.var 1)) (S.seq (S.for (Tg.nm 2) (E.lst (E.cons (E.var 4) (E.cons (E.var 5) E.nil))) (S.ifs (E.not (E.call "_law_is_word" (E.cons (E.var 2) E.nil))) (S.ret (E.tup (E.cons (E.str "name") (E.cons (E.var 2) E.nil)))) S.skip)) (S.seq (S.ifs (E.cmp .In (E.var 4) (E.var 0)) (S.ret (E.tup (E.cons (E.str "double") (E.cons (E.var 4) E.nil)))) S.skip) (S.seq (S.for (Tg.nm 3) (E.rng1 (E.bi "len" (E.cons (E.var 6) E.nil))) (S.seq (S.ifs (E.cmp .NotIn (E.sub (E.var 6) (E.var 3)) (E.var 0)) (S.ret (E.tup (E.cons (E.str "column") (E.cons (E.sub (E.var 6) (E.var 3)) E.nil)))) S.skip) (S.ifs (E.cmp .In (E.sub (E.var 6) (E.var 3)) (E.slc (E.var 6) E.nil (E.var 3))) (S.ret (E.tup (E.cons (E.str "double") (E.cons (E.sub (E.var 6) (E.var 3)) E.nil)))) S.skip))) (S.seq (S.ifs (E.cmp .NotIn (E.var 7) (E.lst (E.cons (E.str "read") (E.cons (E.str "follows") (E.cons (E.str "stays") E.nil))))) (S.ret (E.tup (E.cons (E.str "kind") (E.cons (E.var 7) E.nil)))) S.skip) (S.ret E.non))))))⟩
def d_law_fault : Def := ⟨1, 6, (S.seq (S.asg (Tg.nm 1) (E.lst E.nil)) (S.seq (S.for (Tg.nm 2) (E.sub (E.var 0) (E.int 0)) (S.seq (S.ifs (E.not (E.call "_law_is_word" (E.cons (E.var 2) E.nil))) (S.ret (E.tup (E.cons (E.str "name") (E.cons (E.var 2) E.nil)))) S.skip) (S.seq (S.ifs (E.cmp .In (E.var 2) (E.var 1)) (S.ret (E.tup (E.cons (E.str "double") (E.cons (E.var 2) E.nil)))) S.skip) (S.drop (E.bm (E.var 1) "append" (E.cons (E.var 2) E.nil)))))) (S.seq (S.ifs (E.cmp .Eq (E.sub (E.var 0) (E.int 1)) (E.lst E.nil)) (S.ret (E.tup (E.cons (E.str "edition") (E.cons (E.int 0) E.nil)))) S.skip) (S.seq (S.for (Tg.nm 3) (E.rng1 (E.bi "len" (E.cons (E.sub (E.var 0) (E.int 1)) E.nil))) (S.seq (S.asg (Tg.nm 1) (E.bi "list" (E.cons (E.sub (E.var 0) (E.int 0)) E.nil))) (S.seq (S.for (Tg.nm 4) (E.sub (E.sub (E.var 0) (E.int 1)) (E.var 3)) (S.seq (S.asg (Tg.nm 5) (E.call "_law_rule_fault" (E.cons (E.var 1) (E.cons (E.var 4) E.nil)))) (S.seq (S.ifs (E.cmp .IsNot (E.var 5) E.non) (S.ret (E.var 5)) S.skip) (S.drop (E.bm (E.var 1) "append" (E.cons (E.sub (E.var 4) (E.int 0)) E.nil)))))) (S.ifs (E.cmp .NotEq (E.slc (E.var 1) (E.bi "len" (E.cons (E.sub (E.var 0) (E.int 0)) E.nil)) E.nil) (E.lc (E.sub (E.var 4) (E.int 0)) (Tg.nm 4) (E.sub (E.sub (E.var 0) (E.int 1)) (E.int 0)) E.nil [4])) (S.ret (E.tup (E.cons (E.str "edition") (E.cons (E.var 3) E.nil)))) S.skip)))) (S.ret E.non)))))⟩
def d_law_bad_word : Def := ⟨2, 10, (S.seq (S.asg (Tg.nm 2) (E.call "_law_draw" (E.cons (E.var 0) (E.cons (E.int 5) E.nil)))) (S.seq (S.ifs (E.cmp .Eq (E.var 2) (E.int 0)) (S.seq (S.asg (Tg.nm 6) (E.lst (E.cons (E.str "") (E.cons (E.str " ") (E.cons (E.str "abcdefghi") (E.cons (E.str "Ab") (E.cons (E.str "a b") (E.cons (E.str "a1") (E.cons (E.str "b-") (E.cons (E.str "_a") (E.cons (E.str "a,") (E.cons (E.str "(") (E.cons (E.str "A") (E.cons (E.str "0") (E.cons (E.str "abcdefgh ") (E.cons (E.str "aaaaaaaaaaaa") E.nil)))))))))))))))) (S.ret (E.sub (E.var 6) (E.call "_law_draw" (E.cons (E.var 0) (E.cons (E.int 14) E.nil)))))) S.skip) (S.seq (S.asg (Tg.nm 3) (E.bi "list" (E.cons (E.sub (E.var 1) (E.int 0)) E.nil))) (S.seq (S.for (Tg.nm 4) (E.sub (E.var 1) (E.int 1)) (S.asg (Tg.nm 3) (E.bin .Add (E.bin .Add (E.var 3) (E.lc (E.sub (E.var 9) (E.int 0)) (Tg.nm 9) (E.var 4) E.nil [9])) (E.lc (E.sub (E.var 9) (E.int 1)) (Tg.nm 9) (E.var 4) E.nil [9])))) (S.seq (S.asg (Tg.nm 5) (E.sub (E.var 3) (E.call "_law_draw" (E.cons (E.var 0) (E.cons (E.bi "len" (E.cons (E.var 3) E.nil)) E.nil))))) (S.seq (S.ifs (E.cmp .Eq (E.var 2) (E.int 1)) (S.seq (S.asg (Tg.nm 7) (E.str " !\"#$&'()*+,-./0123456789:;<=>?@ABCDEFGHIJKLMNOPQRSTUVWXYZ[\\]^_`{|}~")) (S.seq (S.asg (Tg.nm 8) (E.call "_law_draw" (E.cons (E.var 0) (E.cons (E.bin .Add (E.bi "len" (E.cons (E.var 5) E.nil)) (E.int 1)) E.nil)))) (S.ret (E.bin .Add (E.bin .Add (E.slc (E.var 5) E.nil (E.var 8)) (E.sub (E.var 7) (E.call "_law_draw" (E.cons (E.var 0) (E.cons (E.bi "len" (E.cons (E.var 7) E.nil)) E.nil))))) (E.slc (E.var 5) (E.var 8) E.nil))))) S.skip) (S.ret (E.var 5))))))))⟩
def d_law_bent_rule : Def := ⟨3, 12, (S.seq (S.asg (Tg.tp [5, 6, 7, 8]) (E.var 2)) (S.seq (S.asg (Tg.nm 3) (E.call "_law_draw" (E.cons (E.var 0) (E.cons (E.int 5) E.nil)))) (S.seq (S.ifs (E.cmp .Eq (E.var 3) (E.int 0)) (S.ret (E.tup (E.cons (E.call "_law_bad_word" (E.cons (E.var 0) (E.cons (E.var 1) E.nil))) (E.cons (E.var 6) (E.cons (E.var 7) (E.cons (E.var 8) E.nil)))))) S.skip) (S.seq (S.ifs (E.cmp .Eq (E.var 3) (E.int 1)) (S.ret (E.tup (E.cons (E.var 5) (E.cons (E.call "_law_bad_word" (E.cons (E.var 0) (E.cons (E.var 1) E.nil))) (E.cons (E.var 7) (E.cons (E.var 8) E.nil)))))) S.skip) (S.seq (S.ifs (E.cmp .Eq (E.var 3) (E.int 2)) (S.seq (S.asg (Tg.nm 9) (E.lst (E.cons (E.str "Read") (E.cons (E.str "") (E.cons (E.str "kept") (E.cons (E.str "read ") (E.cons (E.str "stay") (E.cons (E.str "follow") (E.cons (E.str "told") (E.cons (E.var 5) E.nil)))))))))) (S.ret (E.tup (E.cons (E.var 5) (E.cons (E.var 6) (E.cons (E.var 7) (E.cons (E.sub (E.var 9) (E.call "_law_draw" (E.cons (E.var 0) (E.cons (E.int 8) E.nil)))) E.nil))))))) S.skip) (S.seq (S.asg (Tg.tp [10, 11]) (E.tup (E.cons (E.call "_law_draw" (E.cons (E.var 0) (E.cons (E.bin .Add (E.bi "len" (E.cons (E.var 7) E.nil)) (E.bi "int" (E.cons (E.cmp .Lt (E.bi "len" (E.cons (E.var 7) E.nil)) (E.int 6)) E.nil))) E.nil))) (E.cons (E.call "_law_bad_word" (E.cons (E.var 0) (E.cons (E.var 1) E.nil))) E.nil)))) (S.seq (S.ifs (E.and (E.cmp .Eq (E.var 3) (E.int 3)) (E.cmp .NotEq (E.var 7) (E.lst E.nil))) (S.asg (Tg.nm 11) (E.sub (E.var 7) (E.call "_law_draw" (E.cons (E.var 0) (E.cons (E.bi "len" (E.cons (E.var 7) E.nil)) E.nil))))) S.skip) (S.seq (S.asg (Tg.nm 4) (E.ife (E.or (E.cmp .Gt (E.bi "len" (E.cons (E.var 7) E.nil)) (E.int 5)) (E.cmp .Eq (E.call "_law_draw" (E.cons (E.var 0) (E.cons (E.int 2) E.nil))) (E.int 1))) (E.slc (E.var 7) (E.bin .Add (E.var 10) (E.int 1)) E.nil) (E.slc (E.var 7) (E.var 10) E.nil))) (S.ret (E.tup (E.cons (E.var 5) (E.cons (E.var 6) (E.cons (E.bin .Add (E.bin .Add (E.slc (E.var 7) E.nil (E.var 10)) (E.lst (E.cons (E.var 11) E.nil))) (E.var 4)) (E.cons (E.var 8) E.nil))))))))))))))⟩
def d_law_bent : Def := ⟨2, 11, (S.seq (S.asg (Tg.tp [6, 7]) (E.tup (E.cons (E.bi "list" (E.cons (E.sub (E.var 1) (E.int 0)) E.nil)) (E.cons (E.lc (E.bi "list" (E.cons (E.var 10) E.nil)) (Tg.nm 10) (E.sub (E.var 1) (E.int 1)) E.nil [10]) E.nil)))) (S.seq (S.asg (Tg.nm 2) (E.call "_law_draw" (E.cons (E.var 0) (E.cons (E.int 10) E.nil)))) (S.seq (S.ifs (E.cmp .Eq (E.var 2) (E.int 0)) (S.asgS (E.var 6) (E.call "_law_draw" (E.cons (E.var 0) (E.cons (E.bi "len" (E.cons (E.var 6) E.nil)) E.nil))) (E.call "_law_bad_word" (E.cons (E.var 0) (E.cons (E.var 1) E.nil)))) S.skip) (S.seq (S.ifs (E.cmp .Eq (E.var 7) (E.lst E.nil)) (S.ret (E.tup (E.cons (E.var 6) (E.cons (E.var 7) E.nil)))) S.skip) (S.seq (S.asg (Tg.nm 3) (E.call "_law_draw" (E.cons (E.var 0) (E.cons (E.bi "len" (E.cons (E.var 7) E.nil)) E.nil)))) (S.seq (S.asg (Tg.nm 4) (E.bi "len" (E.cons (E.sub (E.var 7) (E.var 3)) E.nil))) (S.seq (S.asg (Tg.nm 5) (E.call "_law_draw" (E.cons (E.var 0) (E.cons (E.bi "max" (E.cons (E.int 1) (E.cons (E.var 4) E.nil))) E.nil)))) (S.seq (S.ifs (E.cmp .Eq (E.var 2) (E.int 1)) (S.drop (E.bm (E.var 7) "pop" (E.cons (E.var 3) E.nil))) S.skip) (S.seq (S.ifs (E.and (E.cmp .Eq (E.var 2) (E.int 2)) (E.cmp .Lt (E.var 4) (E.int 8))) (S.seq (S.asg (Tg.tp [8, 9]) (E.tup (E.cons (E.call "_law_bad_word" (E.cons (E.var 0) (E.cons (E.var 1) E.nil))) (E.cons (E.sub (E.lst (E.cons (E.str "read") (E.cons (E.str "stays") E.nil))) (E.call "_law_draw" (E.cons (E.var 0) (E.cons (E.int 2) E.nil)))) E.nil)))) (S.drop (E.bm (E.sub (E.var 7) (E.var 3)) "insert" (E.cons (E.var 5) (E.cons (E.tup (E.cons (E.var 8) (E.cons (E.str "f") (E.cons (E.lst E.nil) (E.cons (E.var 9) E.nil))))) E.nil))))) S.skip) (S.seq (S.ifs (E.and (E.cmp .Eq (E.var 2) (E.int 3)) (E.cmp .Gt (E.var 4) (E.int 0))) (S.drop (E.bm (E.sub (E.var 7) (E.var 3)) "pop" (E.cons (E.var 5) E.nil))) S.skip) (S.seq (S.ifs (E.and (E.cmp .Eq (E.var 2) (E.int 4)) (E.cmp .Gt (E.var 4) (E.int 1))) (S.drop (E.bm (E.sub (E.var 7) (E.var 3)) "insert" (E.cons (E.call "_law_draw" (E.cons (E.var 0) (E.cons (E.var 4) E.nil))) (E.cons (E.bm (E.sub (E.var 7) (E.var 3)) "pop" (E.cons (E.var 5) E.nil)) E.nil)))) S.skip) (S.seq (S.ifs (E.and (E.cmp .Eq (E.var 2) (E.int 5)) (E.cmp .Lt (E.bi "len" (E.cons (E.var 7) E.nil)) (E.int 8))) (S.drop (E.bm (E.var 7) "insert" (E.cons (E.call "_law_draw" (E.cons (E.var 0) (E.cons (E.bin .Add (E.bi "len" (E.cons (E.var 7) E.nil)) (E.int 1)) E.nil))) (E.cons (E.bi "list" (E.cons (E.sub (E.var 7) (E.var 3)) E.nil)) E.nil)))) S.skip) (S.seq (S.ifs (E.and (E.cmp .Eq (E.var 2) (E.int 6)) (E.cmp .Lt (E.bi "len" (E.cons (E.var 6) E.nil)) (E.int 6))) (S.drop (E.bm (E.var 6) "insert" (E.cons (E.call "_law_draw" (E.cons (E.var 0) (E.cons (E.bin .Add (E.bi "len" (E.cons (E.var 6) E.nil)) (E.int 1)) E.nil))) (E.cons (E.call "_law_bad_word" (E.cons (E.var 0) (E.cons (E.var 1) E.nil))) E.nil)))) S.skip) (S.seq (S.ifs (E.and (E.cmp .Gt (E.var 2) (E.int 6)) (E.cmp .Gt (E.var 4) (E.int 0))) (S.asgS (E.sub (E.var 7) (E.var 3)) (E.var 5) (E.call "_law_bent_rule" (E.cons (E.var 0) (E.cons (E.var 1) (E.cons (E.sub (E.sub (E.var 7) (E.var 3)) (E.var 5)) E.nil))))) S.skip) (S.ret (E.tup (E.cons (E.var 6) (E.cons (E.var 7) E.nil))))))))))))))))))⟩
def d_law_told_fault : Def := ⟨2, 5, (S.seq (S.asg (Tg.tp [3, 4]) (E.tup (E.cons E.non (E.cons (E.int 0) E.nil)))) (S.seq (S.tri (S.drop (E.make "Table" (E.cons (E.var 0) (E.cons (E.var 1) E.nil)))) (S.hnd "InvalidName" (some 2) (S.asg (Tg.tp [3, 4]) (E.tup (E.cons (E.tup (E.cons (E.str "name") (E.cons E.exv E.nil))) (E.cons (E.bin .Add (E.bi "int" (E.cons (E.exi "DoubleName") E.nil)) (E.bi "int" (E.cons (E.exi "UnknownColumn") E.nil))) E.nil)))) (S.hnd "DoubleName" (some 2) (S.asg (Tg.tp [3, 4]) (E.tup (E.cons (E.tup (E.cons (E.str "double") (E.cons E.exv E.nil))) (E.cons (E.bin .Add (E.bi "int" (E.cons (E.exi "UnknownColumn") E.nil)) (E.bi "int" (E.cons (E.exi "InvalidKind") E.nil))) E.nil)))) (S.hnd "UnknownColumn" (some 2) (S.asg (Tg.tp [3, 4]) (E.tup (E.cons (E.tup (E.cons (E.str "column") (E.cons E.exv E.nil))) (E.cons (E.bin .Add (E.bi "int" (E.cons (E.exi "InvalidKind") E.nil)) (E.bi "int" (E.cons (E.exi "InvalidEdition") E.nil))) E.nil)))) (S.hnd "InvalidKind" (some 2) (S.asg (Tg.tp [3, 4]) (E.tup (E.cons (E.tup (E.cons (E.str "kind") (E.cons E.exv E.nil))) (E.cons (E.bi "int" (E.cons (E.exi "InvalidEdition") E.nil)) E.nil)))) (S.hnd "InvalidEdition" (some 2) (S.asg (Tg.nm 3) (E.tup (E.cons (E.str "edition") (E.cons E.exv E.nil)))) S.noh)))))) (S.ret (E.ife (E.cmp .Eq (E.var 4) (E.int 0)) (E.var 3) (E.tup (E.cons (E.str "more") (E.cons (E.var 4) E.nil)))))))⟩
def d_law_right : Def := ⟨1, 7, (S.seq (S.asg (Tg.nm 1) (E.call "_law_any_plan" (E.cons (E.var 0) (E.cons (E.sub (E.lst (E.cons (E.tup (E.cons (E.int 6) (E.cons (E.int 8) (E.cons (E.int 8) (E.cons (E.int 6) E.nil))))) (E.cons (E.tup (E.cons (E.int 2) (E.cons (E.int 3) (E.cons (E.int 3) (E.cons (E.int 2) E.nil))))) E.nil))) (E.call "_law_draw" (E.cons (E.var 0) (E.cons (E.int 2) E.nil)))) E.nil)))) (S.seq (S.for (Tg.nm 2) (E.rng1 (E.call "_law_draw" (E.cons (E.var 0) (E.cons (E.int 5) E.nil)))) (S.asg (Tg.nm 1) (E.call "_law_bent" (E.cons (E.var 0) (E.cons (E.var 1) E.nil))))) (S.seq (S.asg (Tg.tp [4, 5]) (E.tup (E.cons (E.bi "list" (E.cons (E.sub (E.var 1) (E.int 0)) E.nil)) (E.cons (E.call "_law_copied" (E.cons (E.sub (E.var 1) (E.int 1)) E.nil)) E.nil)))) (S.seq (S.asg (Tg.nm 3) (E.call "_law_fault" (E.cons (E.var 1) E.nil))) (S.seq (S.for (Tg.nm 2) (E.rng1 (E.int 2)) (S.ifs (E.cmp .NotEq (E.bi "repr" (E.cons (E.call "_law_told_fault" (E.cons (E.var 4) (E.cons (E.var 5) E.nil))) E.nil)) (E.bi "repr" (E.cons (E.var 3) E.nil))) (S.ret (E.bl false)) S.skip)) (S.seq (S.ifs (E.cmp .NotEq (E.bi "repr" (E.cons (E.tup (E.cons (E.var 4) (E.cons (E.var 5) E.nil))) E.nil)) (E.bi "repr" (E.cons (E.var 1) E.nil))) (S.ret (E.bl false)) S.skip) (S.seq (S.ifs (E.cmp .Is (E.var 3) E.non) (S.seq (S.asg (Tg.nm 6) (E.make "Table" (E.cons (E.var 4) (E.cons (E.var 5) E.nil)))) (S.ret (E.cmp .Eq (E.bi "repr" (E.cons (E.tup (E.cons (E.attr (E.var 6) "plain") (E.cons (E.attr (E.var 6) "editions") E.nil))) E.nil)) (E.bi "repr" (E.cons (E.var 1) E.nil))))) S.skip) (S.ret (E.bl true)))))))))⟩
def d_law_put_walked : Def := ⟨3, 6, (S.seq (S.ifs (E.cmp .In (E.var 2) (E.sub (E.var 1) (E.int 0))) (S.ret (E.cmp .Eq (E.bi "repr" (E.cons (E.var 0) E.nil)) (E.bi "repr" (E.cons (E.tup (E.cons (E.str "plain") (E.cons (E.var 2) (E.cons (E.int 1) E.nil)))) E.nil)))) S.skip) (S.seq (S.asg (Tg.nm 3) (E.sub (E.lc (E.var 5) (Tg.nm 5) (E.sub (E.sub (E.var 1) (E.int 1)) (E.int 0)) (E.cmp .Eq (E.sub (E.var 5) (E.int 0)) (E.var 2)) [5]) (E.int 0))) (S.seq (S.ifs (E.or (E.not (E.isb (E.var 0) "tuple")) (E.or (E.cmp .NotEq (E.bi "len" (E.cons (E.var 0) E.nil)) (E.int 3)) (E.cmp .NotEq (E.bi "repr" (E.cons (E.slc (E.var 0) E.nil (E.int 2)) E.nil)) (E.bi "repr" (E.cons (E.tup (E.cons (E.str "formula") (E.cons (E.sub (E.var 3) (E.int 1)) E.nil))) E.nil))))) (S.ret (E.bl false)) S.skip) (S.seq (S.ifs (E.or (E.not (E.isb (E.sub (E.var 0) (E.int 2)) "list")) (E.cmp .NotEq (E.bi "len" (E.cons (E.sub (E.var 0) (E.int 2)) E.nil)) (E.bi "len" (E.cons (E.sub (E.var 3) (E.int 2)) E.nil)))) (S.ret (E.bl false)) S.skip) (S.seq (S.for (Tg.nm 4) (E.rng1 (E.bi "len" (E.cons (E.sub (E.var 3) (E.int 2)) E.nil))) (S.ifs (E.not (E.call "_law_put_walked" (E.cons (E.sub (E.sub (E.var 0) (E.int 2)) (E.var 4)) (E.cons (E.var 1) (E.cons (E.sub (E.sub (E.var 3) (E.int 2)) (E.var 4)) E.nil))))) (S.ret (E.bl false)) S.skip)) (S.ret (E.bl true)))))))⟩
def d_law_new_right : Def := ⟨3, 9, (S.seq (S.asg (Tg.nm 3) E.non) (S.seq (S.tri (S.drop (E.om (E.var 1) "undo" E.nil)) (S.hnd "NothingToUndo" (some 4) (S.asg (Tg.nm 3) E.exv) S.noh)) (S.seq (S.ifs (E.cmp .NotEq (E.bi "repr" (E.cons (E.lst (E.cons (E.var 3) (E.cons (E.attr (E.var 1) "edition") (E.cons (E.attr (E.var 1) "history") (E.cons (E.bi "len" (E.cons (E.var 1) E.nil)) E.nil))))) E.nil)) (E.bi "repr" (E.cons (E.lst (E.cons (E.int 0) (E.cons (E.int 0) (E.cons (E.lst (E.cons (E.tup (E.cons (E.str "put") E.nil)) E.nil)) (E.cons (E.int 1) E.nil))))) E.nil))) (S.ret (E.bl false)) S.skip) (S.seq (S.drop (E.bm (E.attr (E.var 1) "history") "append" (E.cons (E.tup (E.cons (E.str "put") E.nil)) E.nil))) (S.seq (S.asg (Tg.nm 5) (E.bin .Add (E.sub (E.var 0) (E.int 0)) (E.lc (E.sub (E.var 8) (E.int 0)) (Tg.nm 8) (E.sub (E.sub (E.var 0) (E.int 1)) (E.int 0)) E.nil [8]))) (S.seq (S.for (Tg.nm 6) (E.var 5) (S.seq (S.for (Tg.nm 7) (E.lst (E.cons (E.om (E.var 1) "told" (E.cons (E.var 6) E.nil)) (E.cons (E.om (E.var 1) "true" (E.cons (E.var 6) (E.cons (E.int 0) E.nil))) E.nil))) (S.ifs (E.or (E.not (E.call "_law_put_walked" (E.cons (E.var 7) (E.cons (E.var 0) (E.cons (E.var 6) E.nil))))) (E.not (E.call "_law_lists_alone" (E.cons (E.var 7) (E.cons (E.var 7) E.nil))))) (S.ret (E.bl false)) S.skip)) (S.ifs (E.and (E.var 2) (E.and (E.cmp .NotIn (E.var 6) (E.sub (E.var 0) (E.int 0))) (E.cmp .NotEq (E.om (E.var 1) "standing" (E.cons (E.var 6) E.nil)) (E.str "now")))) (S.ret (E.bl false)) S.skip))) (S.ret (E.and (E.cmp .Eq (E.attr (E.var 1) "history") (E.lst (E.cons (E.tup (E.cons (E.str "put") E.nil)) E.nil))) (E.cmp .Eq (E.bi "len" (E.cons (E.var 1) E.nil)) (E.int 1))))))))))⟩
def d_law_led : Def := ⟨4, 7, (S.seq (S.asg (Tg.nm 4) (E.int 8)) (S.seq (S.for (Tg.nm 5) (E.var 3) (S.seq (S.ifs (E.and (E.cmp .Gt (E.var 4) (E.int 0)) (E.cmp .Eq (E.call "_law_draw" (E.cons (E.var 0) (E.cons (E.int 4) E.nil))) (E.int 0))) (S.seq (S.asg (Tg.nm 4) (E.bin .Sub (E.var 4) (E.int 1))) (S.seq (S.asg (Tg.nm 6) (E.slc (E.call "_law_every_deed" (E.cons (E.var 2) E.nil)) E.nil (E.neg (E.int 1)))) (S.seq (S.drop (E.cal (E.var 1) (E.cons (E.sub (E.var 6) (E.call "_law_draw" (E.cons (E.var 0) (E.cons (E.bi "len" (E.cons (E.var 6) E.nil)) E.nil)))) E.nil))) (S.drop (E.om (E.var 1) "undo" E.nil))))) S.skip) (S.drop (E.cal (E.var 1) (E.cons (E.var 5) E.nil))))) (S.ret (E.var 1))))⟩
def d_law_grown : Def := ⟨3, 5, (S.seq (S.asg (Tg.nm 3) (E.lc (E.sub (E.var 0) (E.var 4)) (Tg.nm 4) (E.var 2) E.nil [4])) (S.ret (E.ife (E.cmp .In E.non (E.var 3)) E.non (E.tup (E.cons (E.str "formula") (E.cons (E.var 1) (E.cons (E.var 3) E.nil)))))))⟩
def d_law_all_told : Def := ⟨2, 7, (S.seq (S.asg (Tg.nm 2) (E.bid "dict" (E.cons (E.lc (E.tup (E.cons (E.var 3) (E.cons (E.tup (E.cons (E.str "plain") (E.cons (E.var 3) (E.cons (E.sub (E.sub (E.var 1) (E.int 1)) (E.var 3)) E.nil)))) E.nil))) (Tg.nm 3) (E.sub (E.var 0) (E.int 0)) E.nil [3]) E.nil))) (S.seq (S.for (Tg.tp [3, 4, 5, 6]) (E.sub (E.sub (E.var 0) (E.int 1)) (E.sub (E.var 1) (E.int 0))) (S.asgS (E.var 2) (E.var 3) (E.ife (E.cmp .Eq (E.var 6) (E.str "read")) (E.call "_law_grown" (E.cons (E.var 2) (E.cons (E.var 4) (E.cons (E.var 5) E.nil)))) (E.dgt (E.sub (E.var 1) (E.int 2)) (E.var 3) E.nil)))) (S.ret (E.var 2))))⟩
def d_law_after : Def := ⟨3, 15, (S.seq (S.asg (Tg.tp [6, 7, 8]) (E.tup (E.cons (E.sub (E.var 1) (E.int 0)) (E.cons (E.bid "dict" (E.cons (E.sub (E.var 1) (E.int 1)) E.nil)) (E.cons (E.bid "dict" (E.cons (E.sub (E.var 1) (E.int 2)) E.nil)) E.nil))))) (S.seq (S.ifs (E.cmp .Eq (E.sub (E.var 2) (E.int 0)) (E.str "edition")) (S.ret (E.lst (E.cons (E.bin .Add (E.var 6) (E.int 1)) (E.cons (E.var 7) (E.cons (E.var 8) (E.cons (E.lst E.nil) E.nil)))))) S.skip) (S.seq (S.asg (Tg.nm 3) (E.lc (E.var 4) (Tg.nm 4) (E.sub (E.var 0) (E.int 0)) (E.or (E.cmp .Eq (E.var 2) (E.tup (E.cons (E.str "put") E.nil))) (E.cmp .Eq (E.var 2) (E.tup (E.cons (E.str "set") (E.cons (E.var 4) E.nil))))) [4])) (S.seq (S.for (Tg.nm 4) (E.var 3) (S.asgS (E.var 7) (E.var 4) (E.bin .Add (E.sub (E.var 7) (E.var 4)) (E.int 1)))) (S.seq (S.asg (Tg.nm 5) (E.lst (E.cons (E.var 6) (E.cons (E.var 7) (E.cons (E.var 8) (E.cons (E.lst E.nil) E.nil)))))) (S.seq (S.for (Tg.tp [4, 9, 10, 11]) (E.sub (E.sub (E.var 0) (E.int 1)) (E.var 6)) (S.seq (S.asg (Tg.nm 12) (E.and (E.cmp .Eq (E.sub (E.var 2) (E.int 0)) (E.str "set")) (E.cmp .NotEq (E.lc (E.var 14) (Tg.nm 14) (E.var 10) (E.cmp .In (E.var 14) (E.var 3)) [14]) (E.lst E.nil)))) (S.seq (S.ifs (E.and (E.var 12) (E.cmp .NotEq (E.var 11) (E.str "stays"))) (S.drop (E.bm (E.var 3) "append" (E.cons (E.var 4) E.nil))) S.skip) (S.seq (S.asg (Tg.nm 13) (E.or (E.cmp .Eq (E.var 2) (E.tup (E.cons (E.str "put") E.nil))) (E.cmp .Eq (E.var 2) (E.tup (E.cons (E.str "rewrite") (E.cons (E.var 4) E.nil)))))) (S.ifs (E.and (E.cmp .NotEq (E.var 11) (E.str "read")) (E.or (E.var 13) (E.and (E.var 12) (E.cmp .Eq (E.var 11) (E.str "follows"))))) (S.seq (S.drop (E.bm (E.sub (E.var 5) (E.int 3)) "append" (E.cons (E.var 4) E.nil))) (S.asgS (E.var 8) (E.var 4) (E.call "_law_grown" (E.cons (E.call "_law_all_told" (E.cons (E.var 0) (E.cons (E.var 5) E.nil))) (E.cons (E.var 9) (E.cons (E.var 10) E.nil)))))) S.skip))))) (S.ret (E.var 5))))))))⟩
def d_law_begin : Def := ⟨1, 2, (S.ret (E.call "_law_after" (E.cons (E.var 0) (E.cons (E.lst (E.cons (E.int 0) (E.cons (E.bid "dict" (E.cons (E.lc (E.tup (E.cons (E.var 1) (E.cons (E.int 0) E.nil))) (Tg.nm 1) (E.sub (E.var 0) (E.int 0)) E.nil [1]) E.nil)) (E.cons E.d0 (E.cons (E.lst E.nil) E.nil))))) (E.cons (E.tup (E.cons (E.str "put") E.nil)) E.nil)))))⟩
def d_law_asked_all : Def := ⟨3, 6, (S.seq (S.asg (Tg.nm 3) (E.bin .Add (E.sub (E.var 1) (E.int 0)) (E.lc (E.sub (E.var 4) (E.int 0)) (Tg.nm 4) (E.sub (E.sub (E.var 1) (E.int 1)) (E.int 0)) E.nil [4]))) (S.seq (S.ifs (E.var 2) (S.drop (E.bm (E.var 3) "reverse" E.nil)) S.skip) (S.ret (E.bid "dict" (E.cons (E.lc (E.tup (E.cons (E.var 5) (E.cons (E.om (E.var 0) "told" (E.cons (E.var 5) E.nil)) E.nil))) (Tg.nm 5) (E.var 3) E.nil [5]) E.nil)))))⟩
def d_law_same_dict : Def := ⟨2, 3, (S.seq (S.ifs (E.cmp .NotEq (E.bi "len" (E.cons (E.var 0) E.nil)) (E.bi "len" (E.cons (E.var 1) E.nil))) (S.ret (E.bl false)) S.skip) (S.lkS 1 [] (S.ret (E.cmp .Eq (E.lc (E.var 2) (Tg.nm 2) (E.var 1) (E.cmp .NotEq (E.bi "repr" (E.cons (E.sub (E.var 0) (E.var 2)) E.nil)) (E.bi "repr" (E.cons (E.sub (E.var 1) (E.var 2)) E.nil))) [2]) (E.lst E.nil)))))⟩
def d_law_all_true : Def := ⟨3, 8, (S.seq (S.asg (Tg.nm 3) (E.bid "dict" (E.cons (E.lc (E.tup (E.cons (E.var 4) (E.cons (E.tup (E.cons (E.str "plain") (E.cons (E.var 4) (E.cons (E.sub (E.var 2) (E.var 4)) E.nil)))) E.nil))) (Tg.nm 4) (E.sub (E.var 0) (E.int 0)) E.nil [4]) E.nil))) (S.seq (S.for (Tg.tp [4, 5, 6, 7]) (E.sub (E.sub (E.var 0) (E.int 1)) (E.var 1)) (S.asgS (E.var 3) (E.var 4) (E.call "_law_grown" (E.cons (E.var 3) (E.cons (E.var 5) (E.cons (E.var 6) E.nil)))))) (S.ret (E.var 3))))⟩
def d_law_standing_of : Def := ⟨3, 7, (S.seq (S.asg (Tg.nm 3) (E.sub (E.var 1) (E.neg (E.int 1)))) (S.seq (S.asg (Tg.nm 4) (E.sub (E.call "_law_all_told" (E.cons (E.var 0) (E.cons (E.var 3) E.nil))) (E.var 2))) (S.seq (S.ifs (E.cmp .Is (E.var 4) E.non) (S.ret (E.str "lacks")) S.skip) (S.seq (S.ifs (E.cmp .Eq (E.var 4) (E.sub (E.call "_law_all_true" (E.cons (E.var 0) (E.cons (E.sub (E.var 3) (E.int 0)) (E.cons (E.sub (E.var 3) (E.int 1)) E.nil)))) (E.var 2))) (S.ret (E.str "now")) S.skip) (S.seq (S.for (Tg.nm 5) (E.rng1 (E.bin .Add (E.sub (E.var 3) (E.int 0)) (E.int 1))) (S.for (Tg.nm 6) (E.var 1) (S.ifs (E.cmp .Eq (E.var 4) (E.sub (E.call "_law_all_true" (E.cons (E.var 0) (E.cons (E.var 5) (E.cons (E.sub (E.var 6) (E.int 1)) E.nil)))) (E.var 2))) (S.ret (E.str "old")) S.skip))) (S.ret (E.str "nobody")))))))⟩
def d_law_told_or_not : Def := ⟨2, 4, (S.seq (S.asg (Tg.nm 2) E.non) (S.seq (S.tri (S.asg (Tg.nm 2) (E.tup (E.cons (E.str "told") (E.cons (E.om (E.var 0) "told" (E.cons (E.var 1) E.nil)) E.nil)))) (S.hnd "UnknownColumn" (some 3) (S.asg (Tg.nm 2) (E.tup (E.cons (E.str "column") (E.cons E.exv E.nil)))) S.noh)) (S.ret (E.var 2))))⟩
def d_law_true_here : Def := ⟨3, 5, (S.seq (S.asg (Tg.nm 3) E.non) (S.seq (S.tri (S.asg (Tg.nm 3) (E.tup (E.cons (E.str "true") (E.cons (E.om (E.var 0) "true" (E.cons (E.var 1) (E.cons (E.var 2) E.nil))) E.nil)))) (S.hnd "UnknownColumn" (some 4) (S.asg (Tg.nm 3) (E.tup (E.cons (E.str "column") (E.cons E.exv E.nil)))) (S.hnd "InvalidEdition" (some 4) (S.asg (Tg.nm 3) (E.tup (E.cons (E.str "edition") (E.cons E.exv E.nil)))) S.noh))) (S.ret (E.var 3))))⟩
def d_law_standing_here : Def := ⟨2, 4, (S.seq (S.asg (Tg.nm 2) E.non) (S.seq (S.tri (S.asg (Tg.nm 2) (E.tup (E.cons (E.str "standing") (E.cons (E.om (E.var 0) "standing" (E.cons (E.var 1) E.nil)) E.nil)))) (S.hnd "UnknownColumn" (some 3) (S.asg (Tg.nm 2) (E.tup (E.cons (E.str "column") (E.cons E.exv E.nil)))) S.noh)) (S.ret (E.var 2))))⟩
def d_law_some_index : Def := ⟨2, 3, (S.seq (S.asg (Tg.nm 2) (E.call "_law_draw" (E.cons (E.var 0) (E.cons (E.int 4) E.nil)))) (S.seq (S.ifs (E.cmp .Eq (E.var 2) (E.int 0)) (S.ret (E.call "_law_draw" (E.cons (E.var 0) (E.cons (E.var 1) E.nil)))) S.skip) (S.seq (S.ifs (E.cmp .Eq (E.var 2) (E.int 1)) (S.ret (E.bin .Add (E.var 1) (E.call "_law_draw" (E.cons (E.var 0) (E.cons (E.int 2) E.nil))))) S.skip) (S.seq (S.ifs (E.cmp .Eq (E.var 2) (E.int 2)) (S.ret (E.bin .Sub (E.neg (E.int 1)) (E.call "_law_draw" (E.cons (E.var 0) (E.cons (E.bin .Add (E.var 1) (E.int 1)) E.nil))))) S.skip) (S.ret (E.bin .Sub (E.call "_law_draw" (E.cons (E.var 0) (E.cons (E.bin .Pow (E.int 10) (E.int 40)) E.nil))) (E.bin .Pow (E.int 10) (E.int 39))))))))⟩
def d_law_near_text : Def := ⟨2, 7, (S.seq (S.asg (Tg.nm 2) (E.bin .Add (E.sub (E.var 1) (E.int 0)) (E.lc (E.sub (E.var 6) (E.int 0)) (Tg.nm 6) (E.sub (E.sub (E.var 1) (E.int 1)) (E.int 0)) E.nil [6]))) (S.seq (S.asg (Tg.tp [3, 4]) (E.tup (E.cons (E.sub (E.var 2) (E.call "_law_draw" (E.cons (E.var 0) (E.cons (E.bi "len" (E.cons (E.var 2) E.nil)) E.nil)))) (E.cons (E.call "_law_draw" (E.cons (E.var 0) (E.cons (E.int 7) E.nil))) E.nil)))) (S.seq (S.ifs (E.cmp .Eq (E.var 4) (E.int 6)) (S.ret (E.sub (E.lst (E.cons (E.bm (E.var 3) "upper" E.nil) (E.cons (E.bin .Add (E.bm (E.slc (E.var 3) E.nil (E.int 1)) "upper" E.nil) (E.slc (E.var 3) (E.int 1) E.nil)) (E.cons (E.bin .Add (E.str " ") (E.var 3)) (E.cons (E.bin .Add (E.var 3) (E.var 3)) E.nil))))) (E.call "_law_draw" (E.cons (E.var 0) (E.cons (E.int 4) E.nil))))) S.skip) (S.seq (S.ifs (E.cmp .Eq (E.var 4) (E.int 3)) (S.seq (S.asg (Tg.nm 5) (E.bin .Add (E.lst (E.cons (E.str "") (E.cons (E.str "put") (E.cons (E.str "edition") (E.cons (E.str "plain") (E.cons (E.str "told") (E.cons (E.str " ") E.nil))))))) (E.lc (E.sub (E.var 6) (E.int 1)) (Tg.nm 6) (E.sub (E.sub (E.var 1) (E.int 1)) (E.int 0)) E.nil [6]))) (S.ret (E.sub (E.var 5) (E.call "_law_draw" (E.cons (E.var 0) (E.cons (E.bi "len" (E.cons (E.var 5) E.nil)) E.nil)))))) S.skip) (S.seq (S.ifs (E.cmp .Eq (E.var 4) (E.int 4)) (S.ret (E.bin .Add (E.var 3) (E.sub (E.str "abcdefghijklmnopqrstuvwxyz ,") (E.call "_law_draw" (E.cons (E.var 0) (E.cons (E.int 28) E.nil)))))) S.skip) (S.ret (E.ife (E.cmp .Eq (E.var 4) (E.int 5)) (E.slc (E.var 3) (E.int 1) E.nil) (E.var 3))))))))⟩
def d_law_answers_right : Def := ⟨5, 11, (S.seq (S.asg (Tg.tp [7, 8]) (E.tup (E.cons (E.call "_law_near_text" (E.cons (E.var 0) (E.cons (E.var 1) E.nil))) (E.cons (E.call "_law_some_index" (E.cons (E.var 0) (E.cons (E.bi "len" (E.cons (E.sub (E.var 1) (E.int 1)) E.nil)) E.nil))) E.nil)))) (S.seq (S.asg (Tg.tp [9, 10]) (E.tup (E.cons (E.sub (E.var 2) (E.neg (E.int 1))) (E.cons (E.tup (E.cons (E.str "column") (E.cons (E.var 7) E.nil))) E.nil)))) (S.seq (S.asg (Tg.nm 5) (E.call "_law_all_told" (E.cons (E.var 1) (E.cons (E.var 9) E.nil)))) (S.seq (S.asg (Tg.nm 6) (E.ife (E.cmp .In (E.var 7) (E.var 5)) (E.tup (E.cons (E.str "told") (E.cons (E.sub (E.var 5) (E.var 7)) E.nil))) (E.var 10))) (S.seq (S.ifs (E.cmp .NotEq (E.bi "repr" (E.cons (E.call "_law_told_or_not" (E.cons (E.var 3) (E.cons (E.var 7) E.nil))) E.nil)) (E.bi "repr" (E.cons (E.var 6) E.nil))) (S.ret (E.bl false)) S.skip) (S.seq (S.asg (Tg.nm 6) (E.var 10)) (S.seq (S.ifs (E.cmp .In (E.var 7) (E.var 5)) (S.seq (S.asg (Tg.nm 6) (E.tup (E.cons (E.str "edition") (E.cons (E.var 8) E.nil)))) (S.ifs (E.and (E.cmp .GtE (E.var 8) (E.int 0)) (E.cmp .Lt (E.var 8) (E.bi "len" (E.cons (E.sub (E.var 1) (E.int 1)) E.nil)))) (S.asg (Tg.nm 6) (E.tup (E.cons (E.str "true") (E.cons (E.sub (E.call "_law_all_true" (E.cons (E.var 1) (E.cons (E.var 8) (E.cons (E.sub (E.var 9) (E.int 1)) E.nil)))) (E.var 7)) E.nil)))) S.skip)) S.skip) (S.seq (S.ifs (E.cmp .NotEq (E.bi "repr" (E.cons (E.call "_law_true_here" (E.cons (E.var 3) (E.cons (E.var 7) (E.cons (E.var 8) E.nil)))) E.nil)) (E.bi "repr" (E.cons (E.var 6) E.nil))) (S.ret (E.bl false)) S.skip) (S.seq (S.ifs (E.not (E.var 4)) (S.ret (E.bl true)) S.skip) (S.seq (S.asg (Tg.nm 6) (E.var 10)) (S.seq (S.ifs (E.and (E.cmp .In (E.var 7) (E.var 5)) (E.cmp .NotIn (E.var 7) (E.sub (E.var 1) (E.int 0)))) (S.asg (Tg.nm 6) (E.tup (E.cons (E.str "standing") (E.cons (E.call "_law_standing_of" (E.cons (E.var 1) (E.cons (E.var 2) (E.cons (E.var 7) E.nil)))) E.nil)))) S.skip) (S.ret (E.cmp .Eq (E.call "_law_standing_here" (E.cons (E.var 3) (E.cons (E.var 7) E.nil))) (E.var 6))))))))))))))⟩
def d_is_missed : Def := ⟨2, 2, (S.ret (E.and (E.cmp .IsNot (E.var 1) E.non) (E.cmp .NotIn (E.var 1) (E.var 0))))⟩
def d_is_wrong : Def := ⟨2, 3, (S.ret (E.bi "any" (E.cons (E.lc (E.cmp .NotEq (E.var 2) (E.var 1)) (Tg.nm 2) (E.var 0) E.nil [2]) E.nil)))⟩
def d_law_entries_after : Def := ⟨7, 12, (S.seq (S.asg (Tg.tp [9, 10]) (E.tup (E.cons (E.sub (E.call "_law_all_told" (E.cons (E.var 0) (E.cons (E.var 2) E.nil))) (E.var 4)) (E.cons (E.sub (E.call "_law_all_told" (E.cons (E.var 0) (E.cons (E.var 1) E.nil))) (E.var 4)) E.nil)))) (S.seq (S.asg (Tg.nm 7) (E.cmp .In (E.var 4) (E.sub (E.var 2) (E.int 3)))) (S.seq (S.ifs (E.cmp .Eq (E.var 5) (E.str "told")) (S.asg (Tg.nm 7) (E.cmp .NotEq (E.var 9) (E.var 10))) S.skip) (S.seq (S.ifs (E.cmp .Eq (E.var 5) (E.str "reckoned")) (S.asg (Tg.nm 10) (E.sub (E.call "_law_all_true" (E.cons (E.var 0) (E.cons (E.sub (E.var 1) (E.int 0)) (E.cons (E.sub (E.var 1) (E.int 1)) E.nil)))) (E.var 4))) S.skip) (S.seq (S.asg (Tg.nm 8) (E.bi "list" (E.cons (E.var 6) E.nil))) (S.seq (S.ifs (E.cmp .Eq (E.var 3) (E.tup (E.cons (E.str "put") E.nil))) (S.asg (Tg.nm 8) (E.lst E.nil)) (S.ifs (E.var 7) (S.asg (Tg.nm 8) (E.lc (E.var 11) (Tg.nm 11) (E.var 8) (E.cmp .NotEq (E.var 11) (E.var 10)) [11])) S.skip)) (S.seq (S.ifs (E.and (E.or (E.cmp .Eq (E.var 3) (E.tup (E.cons (E.str "put") E.nil))) (E.var 7)) (E.and (E.cmp .IsNot (E.var 9) E.non) (E.cmp .NotIn (E.var 9) (E.var 8)))) (S.drop (E.bm (E.var 8) "append" (E.cons (E.var 9) E.nil))) S.skip) (S.ret (E.var 8)))))))))⟩
def d_law_index_right : Def := ⟨3, 6, (S.seq (S.asg (Tg.nm 3) (E.lst (E.cons (E.om (E.var 0) "entries" E.nil) (E.cons (E.om (E.var 0) "missed" E.nil) (E.cons (E.om (E.var 0) "wrongly" E.nil) E.nil))))) (S.seq (S.asg (Tg.nm 4) (E.and (E.cmp .IsNot (E.var 1) E.non) (E.cmp .NotIn (E.var 1) (E.var 2)))) (S.ret (E.cmp .Eq (E.bi "repr" (E.cons (E.var 3) E.nil)) (E.bi "repr" (E.cons (E.lst (E.cons (E.var 2) (E.cons (E.var 4) (E.cons (E.cmp .NotEq (E.lc (E.var 5) (Tg.nm 5) (E.var 2) (E.cmp .NotEq (E.var 5) (E.var 1)) [5]) (E.lst E.nil)) E.nil)))) E.nil))))))⟩
def d_law_some_deeds : Def := ⟨3, 9, (S.seq (S.asg (Tg.tp [5, 6]) (E.tup (E.cons (E.bin .Add (E.call "_law_every_deed" (E.cons (E.var 1) E.nil)) (E.lc (E.tup (E.cons (E.str "set") (E.cons (E.var 8) E.nil))) (Tg.nm 8) (E.sub (E.var 1) (E.int 0)) E.nil [8])) (E.cons (E.bin .Sub (E.bi "len" (E.cons (E.sub (E.var 1) (E.int 1)) E.nil)) (E.int 1)) E.nil)))) (S.seq (S.asg (Tg.nm 3) (E.lst E.nil)) (S.seq (S.for (Tg.nm 4) (E.rng1 (E.var 2)) (S.seq (S.asg (Tg.nm 7) (E.sub (E.var 5) (E.call "_law_draw" (E.cons (E.var 0) (E.cons (E.bi "len" (E.cons (E.var 5) E.nil)) E.nil))))) (S.ifs (E.or (E.cmp .NotEq (E.var 7) (E.tup (E.cons (E.str "edition") E.nil))) (E.cmp .Gt (E.var 6) (E.int 0))) (S.seq (S.asg (Tg.nm 6) (E.bin .Sub (E.var 6) (E.bi "int" (E.cons (E.cmp .Eq (E.var 7) (E.tup (E.cons (E.str "edition") E.nil))) E.nil)))) (S.drop (E.bm (E.var 3) "append" (E.cons (E.var 7) E.nil)))) S.skip))) (S.ret (E.var 3)))))⟩
def d_law_states_of : Def := ⟨2, 4, (S.seq (S.asg (Tg.nm 2) (E.lst (E.cons (E.call "_law_begin" (E.cons (E.var 0) E.nil)) E.nil))) (S.seq (S.for (Tg.nm 3) (E.var 1) (S.drop (E.bm (E.var 2) "append" (E.cons (E.call "_law_after" (E.cons (E.var 0) (E.cons (E.sub (E.var 2) (E.neg (E.int 1))) (E.cons (E.var 3) E.nil)))) E.nil)))) (S.ret (E.var 2))))⟩
def d_law_filled : Def := ⟨3, 8, (S.seq (S.asg (Tg.tp [5, 6]) (E.var 0)) (S.seq (S.for (Tg.nm 3) (E.var 6) (S.seq (S.for (Tg.nm 7) (E.var 3) (S.drop (E.bm (E.sub (E.var 7) (E.int 2)) "append" (E.cons (E.str "x") E.nil)))) (S.drop (E.bm (E.var 3) "clear" E.nil)))) (S.seq (S.drop (E.bm (E.var 5) "clear" E.nil)) (S.seq (S.drop (E.bm (E.var 5) "extend" (E.cons (E.sub (E.var 1) (E.int 0)) E.nil))) (S.seq (S.drop (E.bm (E.var 6) "clear" E.nil)) (S.seq (S.asg (Tg.nm 4) (E.call "_law_copied" (E.cons (E.sub (E.var 1) (E.int 1)) E.nil))) (S.drop (E.bm (E.var 6) "extend" (E.cons (E.ife (E.var 2) (E.bin .Mult (E.lst (E.cons (E.sub (E.var 4) (E.int 0)) E.nil)) (E.bi "len" (E.cons (E.var 4) E.nil))) (E.var 4)) E.nil)))))))))⟩
def d_law_table_question : Def := ⟨3, 8, (S.seq (S.asg (Tg.nm 3) (E.call "_law_draw" (E.cons (E.var 0) (E.cons (E.int 6) E.nil)))) (S.seq (S.ifs (E.cmp .Eq (E.var 3) (E.int 0)) (S.ret (E.lst (E.cons (E.attr (E.var 2) "plain") (E.cons (E.bi "list" (E.cons (E.sub (E.var 1) (E.int 0)) E.nil)) E.nil)))) S.skip) (S.seq (S.ifs (E.cmp .Eq (E.var 3) (E.int 1)) (S.ret (E.lst (E.cons (E.attr (E.var 2) "editions") (E.cons (E.call "_law_copied" (E.cons (E.sub (E.var 1) (E.int 1)) E.nil)) E.nil)))) S.skip) (S.seq (S.ifs (E.cmp .Eq (E.var 3) (E.int 2)) (S.ret (E.lst (E.cons (E.om (E.var 2) "deeds" E.nil) (E.cons (E.call "_law_every_deed" (E.cons (E.var 1) E.nil)) E.nil)))) S.skip) (S.seq (S.ifs (E.cmp .Eq (E.var 3) (E.int 3)) (S.ret (E.lst (E.cons (E.lst (E.cons (E.bi "len" (E.cons (E.var 2) E.nil)) E.nil)) (E.cons (E.lst (E.cons (E.bi "len" (E.cons (E.sub (E.var 1) (E.int 1)) E.nil)) E.nil)) E.nil)))) S.skip) (S.seq (S.ifs (E.and (E.cmp .Eq (E.var 3) (E.int 4)) (E.cmp .NotEq (E.sub (E.sub (E.var 1) (E.int 1)) (E.int 0)) (E.lst E.nil))) (S.seq (S.asg (Tg.nm 4) (E.call "_law_draw" (E.cons (E.var 0) (E.cons (E.bi "len" (E.cons (E.sub (E.sub (E.var 1) (E.int 1)) (E.int 0)) E.nil)) E.nil)))) (S.seq (S.asg (Tg.nm 5) (E.lc (E.tup (E.cons (E.sub (E.sub (E.var 6) (E.var 4)) (E.int 1)) (E.cons (E.bi "list" (E.cons (E.sub (E.sub (E.var 6) (E.var 4)) (E.int 2)) E.nil)) (E.cons (E.sub (E.sub (E.var 6) (E.var 4)) (E.int 3)) E.nil)))) (Tg.nm 6) (E.sub (E.var 1) (E.int 1)) E.nil [6])) (S.ret (E.lst (E.cons (E.sub (E.var 2) (E.sub (E.sub (E.sub (E.sub (E.var 1) (E.int 1)) (E.int 0)) (E.var 4)) (E.int 0))) (E.cons (E.var 5) E.nil)))))) S.skip) (S.ret (E.lst (E.cons (E.attr (E.var 2) "columns") (E.cons (E.lc (E.sub (E.var 7) (E.int 0)) (Tg.nm 7) (E.sub (E.sub (E.var 1) (E.int 1)) (E.int 0)) E.nil [7]) E.nil))))))))))⟩
def d_law_both_spoilt : Def := ⟨2, 5, (S.for (Tg.nm 2) (E.lst (E.cons (E.var 0) (E.cons (E.var 1) E.nil))) (S.seq (S.for (Tg.nm 3) (E.var 2) (S.seq (S.ifs (E.isb (E.var 3) "list") (S.seq (S.drop (E.bm (E.var 3) "append" (E.cons (E.str "x") E.nil))) (S.for (Tg.nm 4) (E.var 3) (S.ifs (E.isb (E.var 4) "tuple") (S.drop (E.bm (E.sub (E.var 4) (E.int 2)) "append" (E.cons (E.str "y") E.nil))) S.skip))) S.skip) (S.ifs (E.and (E.isb (E.var 3) "tuple") (E.and (E.cmp .Eq (E.bi "len" (E.cons (E.var 3) E.nil)) (E.int 3)) (E.isb (E.sub (E.var 3) (E.int 1)) "list"))) (S.drop (E.bm (E.sub (E.var 3) (E.int 1)) "append" (E.cons (E.str "z") E.nil))) S.skip))) (S.drop (E.bm (E.var 2) "insert" (E.cons (E.int 0) (E.cons (E.str "w") E.nil))))))⟩
def d_law_led_row_right : Def := ⟨3, 6, (S.seq (S.asg (Tg.tp [4, 5]) (E.tup (E.cons (E.call "_law_row_of" (E.cons (E.var 0) (E.cons (E.var 1) (E.cons (E.var 2) E.nil)))) (E.cons (E.call "_law_some_deeds" (E.cons (E.var 0) (E.cons (E.var 1) (E.cons (E.int 3) E.nil)))) E.nil)))) (S.seq (S.for (Tg.nm 3) (E.var 5) (S.drop (E.cal (E.var 4) (E.cons (E.var 3) E.nil)))) (S.ret (E.call "_law_same_dict" (E.cons (E.call "_law_asked_all" (E.cons (E.var 4) (E.cons (E.var 1) (E.cons (E.bl false) E.nil)))) (E.cons (E.call "_law_all_told" (E.cons (E.var 1) (E.cons (E.sub (E.call "_law_states_of" (E.cons (E.var 1) (E.cons (E.var 5) E.nil))) (E.neg (E.int 1))) E.nil))) E.nil))))))⟩
end KD
end

section
namespace AM
open PySem (Str PyData Operator CmpOp)

def wpx {α : Type} (r : Res α) (Q : α → Store → Prop) (X : Str → Val → Store → Prop) : Prop :=
  match r with
  | .ok a s => Q a s
  | .err c v s => X c v s
  | .stk => False

section
variable {α β : Type} {Q : α → Store → Prop} {X X' : Str → Val → Store → Prop}
@[simp] theorem wpx_ok (a : α) (s : Store) : wpx (.ok a s) Q X ↔ Q a s := Iff.rfl
@[simp] theorem wpx_err (c : Str) (v : Val) (s : Store) : wpx (.err c v s) Q X ↔ X c v s := Iff.rfl
@[simp] theorem wpx_stk : wpx (.stk : Res α) Q X ↔ False := Iff.rfl
@[simp] theorem wpx_bind (r : Res α) (f : α → Store → Res β) (Q : β → Store → Prop) : wpx (r.bind f) Q X ↔ wpx r (fun a s => wpx (f a s) Q X) X := by
  cases r <;> exact Iff.rfl
@[simp] theorem of_some (a : α) (s : Store) : Res.of (some a) s = .ok a s := rfl
@[simp] theorem of_none (s : Store) : (Res.of none s : Res α) = .stk := rfl
theorem wpx_of (o : Option α) (s : Store) : wpx (Res.of o s) Q X ↔ ∃ a, o = some a ∧ Q a s := by
  cases o <;> simp
@[simp] theorem wpx_ite (c : Prop) [Decidable c] (a b : Res α) : wpx (if c then a else b) Q X ↔ if c then wpx a Q X else wpx b Q X := by
  split <;> exact Iff.rfl
theorem wpx.mono {r : Res α} {Q' : α → Store → Prop} (h : wpx r Q X) (hq : ∀ a s, Q a s → Q' a s) (hx : ∀ c v s, X c v s → X' c v s) : wpx r Q' X' := by
  cases r with
  | ok a s => exact hq a s h
  | err c v s => exact hx c v s h
  | stk => exact h.elim
theorem wpx_congr {r : Res α} {Q' : α → Store → Prop} (h : ∀ a s, Q a s ↔ Q' a s) : wpx r Q X ↔ wpx r Q' X := by
  cases r with
  | ok a s => exact h a s
  | err c v s => exact Iff.rfl
  | stk => exact Iff.rfl
/-- nothing is raised -/
def NoX : Str → Val → Store → Prop := fun _ _ _ => False
theorem wpx.to {r : Res α} {Q' : α → Store → Prop} (h : wpx r Q NoX) (hq : ∀ a s, Q a s → Q' a s) : wpx r Q' X' :=
  h.mono hq (fun _ _ _ h => h.elim)
theorem wpx.ex {r : Res α} (h : wpx r Q NoX) : ∃ a s, r = .ok a s ∧ Q a s := by
  cases r with
  | ok a s => exact ⟨a, s, rfl, h⟩
  | err c v s => exact h.elim
  | stk => exact h.elim
end

def wps (o : Out) (N : Env → Store → Prop) (R : Val → Store → Prop) (X : Str → Val → Env → Store → Prop) : Prop :=
  match o with
  | .nx e s => N e s
  | .rt v s => R v s
  | .er c v e s => X c v e s
  | .stk => False
section
variable {N N' : Env → Store → Prop} {R R' : Val → Store → Prop} {X X' : Str → Val → Env → Store → Prop}
@[simp] theorem wps_nx (e : Env) (s : Store) : wps (.nx e s) N R X ↔ N e s := Iff.rfl
@[simp] theorem wps_rt (v : Val) (s : Store) : wps (.rt v s) N R X ↔ R v s := Iff.rfl
@[simp] theorem wps_er (c : Str) (v : Val) (e : Env) (s : Store) : wps (.er c v e s) N R X ↔ X c v e s := Iff.rfl
@[simp] theorem wps_stk : wps .stk N R X ↔ False := Iff.rfl
theorem wps.mono {o : Out} (h : wps o N R X) (hn : ∀ e s, N e s → N' e s) (hr : ∀ v s, R v s → R' v s) (hx : ∀ c v e s, X c v e s → X' c v e s) : wps o N' R' X' := by
  cases o with
  | nx e s => exact hn e s h
  | rt v s => exact hr v s h
  | er c v e s => exact hx c v e s h
  | stk => exact h.elim
@[simp] theorem wps_of (e : Env) (r : Res Val) (f : Val → Store → Out) : wps (Out.of e r f) N R X ↔ wpx r (fun v s => wps (f v s) N R X) (fun c v s => X c v e s) := by
  cases r <;> exact Iff.rfl
@[simp] theorem wps_ofT (e : Env) (r : Res Bool) (f : Bool → Store → Out) : wps (Out.ofT e r f) N R X ↔ wpx r (fun v s => wps (f v s) N R X) (fun c v s => X c v e s) := by
  cases r <;> exact Iff.rfl
@[simp] theorem wps_ite (c : Prop) [Decidable c] (a b : Out) : wps (if c then a else b) N R X ↔ if c then wps a N R X else wps b N R X := by
  split <;> exact Iff.rfl

variable (P : Prog) (C : Call)
@[simp] theorem x_skip (e : Env) (st : Store) : wps (exec P C .skip e st) N R X ↔ N e st := Iff.rfl
@[simp] theorem x_seq (a b : S) (e : Env) (st : Store) : wps (exec P C (.seq a b) e st) N R X ↔ wps (exec P C a e st) (fun e1 s1 => wps (exec P C b e1 s1) N R X) R X := by
  simp only [exec]
  cases exec P C a e st <;> exact Iff.rfl
@[simp] theorem x_asg (t : Tg) (a : E) (e : Env) (st : Store) : wps (exec P C (.asg t a) e st) N R X ↔ wpx (ev P C a e st) (fun v s1 => ∃ e1, assign t v e = some e1 ∧ N e1 s1) (fun c v s => X c v e s) := by
  simp only [exec, wps_of]
  refine wpx_congr fun v s1 => ?_
  cases assign t v e <;> simp
@[simp] theorem x_asgA (o : E) (f : Str) (a : E) (e : Env) (st : Store) : wps (exec P C (.asgA o f a) e st) N R X ↔ wpx (ev P C a e st) (fun v s1 => wpx (ev P C o e s1) (fun x s2 => ∃ s3, opSetA P x f v s2 = some s3 ∧ N e s3) (fun c v s => X c v e s)) (fun c v s => X c v e s) := by
  simp only [exec, wps_of]
  refine wpx_congr fun v s1 => wpx_congr fun x s2 => ?_
  cases opSetA P x f v s2 <;> simp
@[simp] theorem x_asgS (o i a : E) (e : Env) (st : Store) : wps (exec P C (.asgS o i a) e st) N R X ↔ wpx (ev P C a e st) (fun v s1 => wpx (ev P C o e s1) (fun x s2 => wpx (ev P C i e s2) (fun j s3 => ∃ s4, opSetS x j v s3 = some s4 ∧ N e s4) (fun c v s => X c v e s)) (fun c v s => X c v e s)) (fun c v s => X c v e s) := by
  simp only [exec, wps_of]
  refine wpx_congr fun v s1 => wpx_congr fun x s2 => wpx_congr fun j s3 => ?_
  cases opSetS x j v s3 <;> simp
@[simp] theorem x_drop (a : E) (e : Env) (st : Store) : wps (exec P C (.drop a) e st) N R X ↔ wpx (ev P C a e st) (fun _ s1 => N e s1) (fun c v s => X c v e s) := by
  simp only [exec, wps_of, wps_nx]
@[simp] theorem x_ret (a : E) (e : Env) (st : Store) : wps (exec P C (.ret a) e st) N R X ↔ wpx (ev P C a e st) (fun v s1 => R v s1) (fun c v s => X c v e s) := by
  simp only [exec, wps_of, wps_rt]
@[simp] theorem x_retN (e : Env) (st : Store) : wps (exec P C .retN e st) N R X ↔ R .non st := Iff.rfl
@[simp] theorem x_ifs (c : E) (a b : S) (e : Env) (st : Store) : wps (exec P C (.ifs c a b) e st) N R X ↔ wpx (evT P C c e st) (fun k s1 => if k = true then wps (exec P C a e s1) N R X else wps (exec P C b e s1) N R X) (fun c v s => X c v e s) := by
  simp only [exec, wps_ofT, wps_ite]
@[simp] theorem x_for (t : Tg) (it : E) (b : S) (e : Env) (st : Store) : wps (exec P C (.for t it b) e st) N R X ↔ wpx (evI P C it e st) (fun k s1 => wps (goes k t (exec P C b) (k.fuel s1) 0 e s1) N R X) (fun c v s => X c v e s) := by
  simp only [exec]
  cases evI P C it e st <;> exact Iff.rfl
theorem x_rais (c : Str) (l : E) (e : Env) (st : Store) (hc : P.exs.contains c = true) : wps (exec P C (.rais c l) e st) N R X ↔ wpx (evL P C l e st) (fun l s1 => ∃ v, l = [v] ∧ X c v e s1) (fun c v s => X c v e s) := by
  simp only [exec, hc]
  cases h : evL P C l e st with
  | ok l s =>
    cases l with
    | nil => simp
    | cons v r => cases r <;> simp
  | err d v s => exact Iff.rfl
  | stk => exact Iff.rfl

/-- what an iterable walks over, in that store -/
def Iter.over (k : Iter) (s : Store) (l : List Val) : Prop :=
  match k with
  | .snap l' => l' = l
  | .live n _ => ∃ lk, s[n]? = some ⟨.lst l, lk⟩
  | .keys n en => ∃ d, s[n]? = some ⟨.dct d, true⟩ ∧ l = d.map fun kv => if en then .tup [keyV kv.1, kv.2] else keyV kv.1
def Iter.item (k : Iter) (i : Nat) (v : Val) : Val :=
  match k with
  | .snap _ => v
  | .live _ en => if en then .tup [.int i, v] else v
  | .keys _ _ => v
theorem over_next {k : Iter} {s : Store} {l : List Val} (h : k.over s l) (i : Nat) : k.next i s = some ((l[i]?).map (k.item i)) := by
  cases k with
  | snap l' =>
    have h : l' = l := h
    subst h
    simp [Iter.next, Iter.item, Option.map]
    cases l'[i]? <;> rfl
  | live n en =>
    obtain ⟨lk, h⟩ := h
    simp only [Iter.next, h, Iter.item]
    cases l[i]? <;> rfl
  | keys n en =>
    obtain ⟨d, h, rfl⟩ := h
    simp only [Iter.next, h, Iter.item, List.getElem?_map]
    cases d[i]? <;> rfl
theorem over_fuel {k : Iter} {s : Store} {l : List Val} (h : k.over s l) : k.fuel s = l.length + 1 := by
  cases k with
  | snap l' =>
    have h : l' = l := h
    subst h
    rfl
  | live n en =>
    obtain ⟨lk, h⟩ := h
    simp [Iter.fuel, h]
  | keys n en =>
    obtain ⟨d, h, rfl⟩ := h
    simp [Iter.fuel, h]

theorem goes_rule {k : Iter} {t : Tg} {b : Env → Store → Out} {l : List Val} (I : Nat → Env → Store → Prop) {e : Env} {st : Store}
    (h0 : I 0 e st) (hI : ∀ i e s, I i e s → k.over s l)
    (hs : ∀ i v e s, l[i]? = some v → I i e s → ∃ e1, assign t (k.item i v) e = some e1 ∧ wps (b e1 s) (I (i + 1)) R X)
    (hn : ∀ e s, I l.length e s → N e s) : wps (goes k t b (k.fuel st) 0 e st) N R X := by
  rw [over_fuel (hI 0 e st h0)]
  have key : ∀ m i e s, m + i = l.length → I i e s → wps (goes k t b (m + 1) i e s) N R X := by
    intro m
    induction m with
    | zero =>
      intro i e s hi h
      have hi : i = l.length := by omega
      subst hi
      simp only [goes, over_next (hI _ e s h)]
      simp
      exact hn e s h
    | succ m ih =>
      intro i e s hi h
      have hl : i < l.length := by omega
      obtain ⟨e1, ha, hb⟩ := hs i l[i] e s (by simp [hl]) h
      simp only [goes, over_next (hI _ e s h)]
      simp only [List.getElem?_eq_getElem hl, Option.map_some, ha]
      cases hr : b e1 s with
      | nx e2 s2 =>
        rw [hr] at hb
        exact ih (i + 1) e2 s2 (by omega) hb
      | rt v s2 =>
        rw [hr] at hb
        exact hb
      | er c v e2 s2 =>
        rw [hr] at hb
        exact hb
      | stk =>
        rw [hr] at hb
        exact hb.elim
  exact key l.length 0 e st (by omega) h0

theorem turns_rule {k : Iter} {t : Tg} {e : Env} {el : Env → Store → Option Store} {l : List Val} (I : Nat → Store → Prop) {st : Store}
    (h0 : I 0 st) (hI : ∀ i s, I i s → k.over s l)
    (hs : ∀ i v s, l[i]? = some v → I i s → ∃ e1, assign t (k.item i v) e = some e1 ∧ ∃ s1, el e1 s = some s1 ∧ I (i + 1) s1)
    (n : Nat) (hf : n = l.length + 1) : ∃ s, turns k t e el n 0 st = some s ∧ I l.length s := by
  subst hf
  have key : ∀ m i s, m + i = l.length → I i s → ∃ s', turns k t e el (m + 1) i s = some s' ∧ I l.length s' := by
    intro m
    induction m with
    | zero =>
      intro i s hi h
      have hi : i = l.length := by omega
      subst hi
      refine ⟨s, ?_, h⟩
      simp only [turns, over_next (hI _ s h)]
      simp
    | succ m ih =>
      intro i s hi h
      have hl : i < l.length := by omega
      obtain ⟨e1, ha, s1, hb, h1⟩ := hs i l[i] s (by simp [hl]) h
      obtain ⟨s', h', hi'⟩ := ih (i + 1) s1 (by omega) h1
      refine ⟨s', ?_, hi'⟩
      simp only [turns, over_next (hI _ s h)]
      simp only [List.getElem?_eq_getElem hl, Option.map_some, ha, hb]
      exact h'
  exact key l.length 0 st (by omega) h0
end

theorem callF_def {P : Prog} {n : Nat} {f : Str} {d : Def} {vs : List Val} {st : Store} {Q : Val → Store → Prop} {X : Str → Val → Store → Prop}
    (hd : P.defs.lookup f = some d) (hn : 0 < n) (hv : vs.length = d.np)
    (h : wps (exec P (callF P (n - 1)) d.body (startE d.nv vs) st) (fun _ s => Q .non s) Q (fun c v _ s => X c v s)) : wpx (callF P n f vs st) Q X := by
  cases n with
  | zero => omega
  | succ n =>
    simp only [callF, hd, hv, if_true]
    simp only [Nat.add_sub_cancel] at h
    cases hr : exec P (callF P n) d.body (startE d.nv vs) st with
    | nx e s => rw [hr] at h; exact h
    | rt v s => rw [hr] at h; exact h
    | er c v e s => rw [hr] at h; exact h
    | stk => rw [hr] at h; exact h
end AM
end

section
namespace AM
open PySem (Str PyData Operator CmpOp)

def All2 {α β : Type} (R : α → β → Prop) : List α → List β → Prop
  | [], [] => True
  | a :: l, b :: m => R a b ∧ All2 R l m
  | _, _ => False
namespace All2
variable {α β γ : Type} {R R' : α → β → Prop}
theorem len : ∀ {l : List α} {m : List β}, All2 R l m → l.length = m.length
  | [], [], _ => rfl
  | _ :: l, _ :: m, h => by simp [len h.2]
  | [], _ :: _, h => h.elim
  | _ :: _, [], h => h.elim
theorem imp : ∀ {l : List α} {m : List β}, All2 R l m → (∀ a b, a ∈ l → b ∈ m → R a b → R' a b) → All2 R' l m
  | [], [], _, _ => trivial
  | a :: l, b :: m, h, f => ⟨f a b (by simp) (by simp) h.1, imp h.2 fun a b ha hb => f a b (by simp [ha]) (by simp [hb])⟩
  | [], _ :: _, h, _ => h.elim
  | _ :: _, [], h, _ => h.elim
theorem app : ∀ {l l' : List α} {m m' : List β}, All2 R l m → All2 R l' m' → All2 R (l ++ l') (m ++ m')
  | [], _, [], _, _, h => h
  | _ :: l, _, _ :: m, _, h, h' => ⟨h.1, app h.2 h'⟩
  | [], _, _ :: _, _, h, _ => h.elim
  | _ :: _, _, [], _, h, _ => h.elim
theorem get : ∀ {l : List α} {m : List β}, All2 R l m → ∀ {i : Nat} {a : α}, l[i]? = some a → ∃ b, m[i]? = some b ∧ R a b
  | a :: l, b :: m, h, 0, x, e => by
    simp at e
    subst e
    exact ⟨b, rfl, h.1⟩
  | a :: l, b :: m, h, i + 1, x, e => by
    simp at e
    simpa using get h.2 e
  | [], [], _, _, _, e => by simp at e
  | [], _ :: _, h, _, _, _ => h.elim
  | _ :: _, [], h, _, _, _ => h.elim
theorem get' : ∀ {l : List α} {m : List β}, All2 R l m → ∀ {i : Nat} {b : β}, m[i]? = some b → ∃ a, l[i]? = some a ∧ R a b
  | a :: l, b :: m, h, 0, x, e => by
    simp at e
    subst e
    exact ⟨a, rfl, h.1⟩
  | a :: l, b :: m, h, i + 1, x, e => by
    simp at e
    simpa using get' h.2 e
  | [], [], _, _, _, e => by simp at e
  | [], _ :: _, h, _, _, _ => h.elim
  | _ :: _, [], h, _, _, _ => h.elim
theorem both : ∀ {l : List α} {m : List β}, All2 R l m → ∀ {i : Nat} {a : α} {b : β}, l[i]? = some a → m[i]? = some b → R a b := by
  intro l m h i a b ha hb
  obtain ⟨b', hb', hr⟩ := h.get ha
  rw [hb] at hb'
  cases hb'
  exact hr
theorem of_get : ∀ {l : List α} {m : List β}, l.length = m.length → (∀ (i : Nat) a b, l[i]? = some a → m[i]? = some b → R a b) → All2 R l m
  | [], [], _, _ => trivial
  | a :: l, b :: m, e, h => ⟨h 0 a b rfl rfl, of_get (by simpa using e) fun i a b ha hb => h (i + 1) a b (by simpa using ha) (by simpa using hb)⟩
  | [], _ :: _, e, _ => by simp at e
  | _ :: _, [], e, _ => by simp at e
theorem take {l : List α} {m : List β} (h : All2 R l m) (n : Nat) : All2 R (l.take n) (m.take n) := by
  refine of_get (by simp [h.len]) fun i a b ha hb => ?_
  rw [List.getElem?_take] at ha hb
  split at ha
  · rename_i hi
    simp [hi] at hb
    exact h.both ha hb
  · cases ha
theorem drop {l : List α} {m : List β} (h : All2 R l m) (n : Nat) : All2 R (l.drop n) (m.drop n) := by
  refine of_get (by simp [h.len]) fun i a b ha hb => ?_
  rw [List.getElem?_drop] at ha hb
  exact h.both ha hb
theorem map_right {f : γ → β} : ∀ {l : List α} {m : List γ}, All2 R l (m.map f) ↔ All2 (fun a c => R a (f c)) l m
  | [], [] => Iff.rfl
  | a :: l, c :: m => by simp [All2, map_right (l := l) (m := m)]
  | [], _ :: _ => Iff.rfl
  | _ :: _, [] => Iff.rfl
theorem map_left {f : γ → α} : ∀ {l : List γ} {m : List β}, All2 R (l.map f) m ↔ All2 (fun c b => R (f c) b) l m
  | [], [] => Iff.rfl
  | a :: l, c :: m => by simp [All2, map_left (l := l) (m := m)]
  | [], _ :: _ => Iff.rfl
  | _ :: _, [] => Iff.rfl
theorem mapM {f : α → Option γ} {g : β → γ} : ∀ {l : List α} {m : List β}, All2 (fun a b => f a = some (g b)) l m → l.mapM f = some (m.map g)
  | [], [], _ => by simp
  | a :: l, b :: m, h => by
    have := mapM h.2
    simp [List.mapM_cons, h.1, this]
  | [], _ :: _, h => h.elim
  | _ :: _, [], h => h.elim
end All2
theorem all2_eq {α β : Type} {f : β → α} : ∀ {l : List α} {m : List β}, All2 (fun a b => a = f b) l m ↔ l = m.map f
  | [], [] => by simp [All2]
  | a :: l, b :: m => by simp [All2, all2_eq (l := l) (m := m)]
  | [], _ :: _ => by simp [All2]
  | _ :: _, [] => by simp [All2]

structure Keep (H : Nat → Prop) (s s' : Store) : Prop where
  le : s.length ≤ s'.length
  here : ∀ r, r < s.length → ¬ H r → s'[r]? = s[r]?
def No : Nat → Prop := fun _ => False
def Old (s : Store) : Nat → Prop := fun r => r < s.length
namespace Keep
variable {H H' K : Nat → Prop} {s s1 s2 : Store}
theorem refl (H : Nat → Prop) (s : Store) : Keep H s s := ⟨Nat.le_refl _, fun _ _ _ => rfl⟩
theorem trans (a : Keep H s s1) (b : Keep H' s1 s2) (h : ∀ r, r < s.length → H' r → H r) : Keep H s s2 :=
  ⟨Nat.le_trans a.le b.le, fun r hr hn => (b.here r (Nat.lt_of_lt_of_le hr a.le) fun x => hn (h r hr x)).trans (a.here r hr hn)⟩
theorem tr (a : Keep H s s1) (b : Keep H s1 s2) : Keep H s s2 := a.trans b fun _ _ h => h
theorem trNo (a : Keep H s s1) (b : Keep No s1 s2) : Keep H s s2 := a.trans b fun _ _ h => h.elim
theorem weak (a : Keep H s s1) (h : ∀ r, r < s.length → H r → K r) : Keep K s s1 := ⟨a.le, fun r hr hn => a.here r hr fun x => hn (h r hr x)⟩
theorem push (c : Cell) (H : Nat → Prop) (s : Store) : Keep H s (s ++ [c]) := by
  refine ⟨by simp, fun r hr _ => ?_⟩
  rw [List.getElem?_append_left hr]
theorem set (n : Nat) (c : Cell) (H : Nat → Prop) (s : Store) (h : n < s.length → H n) : Keep H s (s.set n c) := by
  refine ⟨by simp, fun r hr hn => ?_⟩
  rw [List.getElem?_set]
  split
  · rename_i e
    subst e
    exact absurd (h hr) hn
  · rfl
theorem at_ {r : Nat} {c : Cell} (a : Keep H s s1) (h : s[r]? = some c) (hn : ¬ H r) : s1[r]? = some c := by
  have hl : r < s.length := by
    cases Nat.lt_or_ge r s.length with
    | inl h => exact h
    | inr h' => simp [List.getElem?_eq_none h'] at h
  rw [a.here r hl hn, h]
end Keep
theorem lt_of_at {s : Store} {r : Nat} {c : Cell} (h : s[r]? = some c) : r < s.length := by
  cases Nat.lt_or_ge r s.length with
  | inl h => exact h
  | inr h' => simp [List.getElem?_eq_none h'] at h

theorem mapM_mono {α β : Type} {f g : α → Option β} : ∀ {l : List α} {ys : List β}, l.mapM f = some ys → (∀ a b, a ∈ l → f a = some b → g a = some b) → l.mapM g = some ys
  | [], ys, h, _ => by simpa using h
  | a :: l, ys, h, hg => by
    rw [List.mapM_cons] at h ⊢
    cases hf : f a with
    | none => simp [hf] at h
    | some b =>
      cases hz : l.mapM f with
      | none => simp [hf, hz] at h
      | some zs =>
        simp [hf, hz] at h
        have := mapM_mono hz fun a b ha => hg a b (by simp [ha])
        simp [hg a b (by simp) hf, this, h]
theorem deep_succ (s : Store) : ∀ (n : Nat) (v : Val) (d : PyData), deep s n v = some d → deep s (n + 1) v = some d := by
  intro n
  induction n with
  | zero =>
    intro v d h
    cases v <;> simp_all [deep]
  | succ n ih =>
    intro v d h
    cases v with
    | tup l =>
      simp only [deep] at h ⊢
      cases hm : l.mapM (deep s n) with
      | none => simp [hm] at h
      | some ys =>
        rw [hm] at h
        have := mapM_mono (g := deep s (n + 1)) hm fun a b _ => ih a b
        simpa [this] using h
    | ref r =>
      simp only [deep] at h ⊢
      split at h
      · rename_i l lk hr
        cases hm : l.mapM (deep s n) with
        | none => simp [hm] at h
        | some ys =>
          rw [hm] at h
          have := mapM_mono (g := deep s (n + 1)) hm fun a b _ => ih a b
          simpa [this] using h
      · cases h
    | _ => simpa [deep] using h
theorem deep_le {s : Store} {n m : Nat} {v : Val} {d : PyData} (h : deep s n v = some d) (hm : n ≤ m) : deep s m v = some d := by
  induction hm with
  | refl => exact h
  | step _ ih => exact deep_succ s _ v d ih

/-- values that read as things of a kind; their cells are none of H -/
class Rep (α : Type) where
  is : (Nat → Prop) → Store → Val → α → Prop
  frame : ∀ {H : Nat → Prop} {s s' : Store} {v : Val} {x : α}, is H s v x → Keep H s s' → is H s' v x
  weak : ∀ {H H' : Nat → Prop} {s : Store} {v : Val} {x : α}, is H s v x → (∀ r, r < s.length → H' r → H r) → is H' s v x
  d : α → PyData
  b : Nat
  deep : ∀ {H : Nat → Prop} {s : Store} {v : Val} {x : α}, is H s v x → AM.deep s b v = some (d x)
open Rep (is)

instance : Rep Str where
  is _ _ v x := v = .str x
  frame h _ := h
  weak h _ := h
  d := .str
  b := 0
  deep h := by subst h; rfl
instance : Rep Int where
  is _ _ v x := v = .int x
  frame h _ := h
  weak h _ := h
  d := .int
  b := 0
  deep h := by subst h; rfl
instance : Rep Bool where
  is _ _ v x := v = .bl x
  frame h _ := h
  weak h _ := h
  d := .bool
  b := 0
  deep h := by subst h; rfl
@[simp] theorem is_str {H : Nat → Prop} {s : Store} {v : Val} {x : Str} : is H s v x ↔ v = .str x := Iff.rfl
@[simp] theorem is_int {H : Nat → Prop} {s : Store} {v : Val} {x : Int} : is H s v x ↔ v = .int x := Iff.rfl

def isL {α : Type} [Rep α] (H : Nat → Prop) (s : Store) (vs : List Val) (xs : List α) : Prop := All2 (is H s) vs xs
theorem isL.frame {α : Type} [Rep α] {H : Nat → Prop} {s s' : Store} {vs : List Val} {xs : List α} (h : isL H s vs xs) (k : Keep H s s') : isL H s' vs xs :=
  h.imp fun _ _ _ _ h => Rep.frame h k
theorem isL.weak {α : Type} [Rep α] {H H' : Nat → Prop} {s : Store} {vs : List Val} {xs : List α} (h : isL H s vs xs) (k : ∀ r, r < s.length → H' r → H r) : isL H' s vs xs :=
  h.imp fun _ _ _ _ h => Rep.weak h k
theorem isL.deep {α : Type} [Rep α] {H : Nat → Prop} {s : Store} {vs : List Val} {xs : List α} (h : isL H s vs xs) : vs.mapM (AM.deep s (Rep.b α)) = some (xs.map Rep.d) :=
  All2.mapM (h.imp fun _ _ _ _ h => Rep.deep h)

instance {α : Type} [Rep α] : Rep (List α) where
  is H s v xs := ∃ r vs, v = .ref r ∧ ¬ H r ∧ s[r]? = some ⟨.lst vs, false⟩ ∧ isL H s vs xs
  frame := by
    rintro H s s' v x ⟨r, vs, hv, hn, ha, hl⟩ k
    exact ⟨r, vs, hv, hn, k.at_ ha hn, hl.frame k⟩
  weak := by
    rintro H H' s v x ⟨r, vs, hv, hn, ha, hl⟩ k
    exact ⟨r, vs, hv, fun h => hn (k r (lt_of_at ha) h), ha, hl.weak k⟩
  d xs := .list (xs.map Rep.d)
  b := Rep.b α + 1
  deep := by
    rintro H s v xs ⟨r, vs, hv, hn, ha, hl⟩
    subst hv
    simp [AM.deep, ha, hl.deep]
theorem is_list {α : Type} [Rep α] {H : Nat → Prop} {s : Store} {v : Val} {xs : List α} : is H s v xs ↔ ∃ r vs, v = .ref r ∧ ¬ H r ∧ s[r]? = some ⟨.lst vs, false⟩ ∧ isL H s vs xs := Iff.rfl

instance {α β : Type} [Rep α] [Rep β] : Rep (α × β) where
  is H s v x := ∃ a b, v = .tup [a, b] ∧ is H s a x.1 ∧ is H s b x.2
  frame := by
    rintro H s s' v x ⟨a, b, hv, h1, h2⟩ k
    exact ⟨a, b, hv, Rep.frame h1 k, Rep.frame h2 k⟩
  weak := by
    rintro H H' s v x ⟨a, b, hv, h1, h2⟩ k
    exact ⟨a, b, hv, Rep.weak h1 k, Rep.weak h2 k⟩
  d x := .tuple [Rep.d x.1, Rep.d x.2]
  b := max (Rep.b α) (Rep.b β) + 1
  deep := by
    rintro H s v x ⟨a, b, hv, h1, h2⟩
    subst hv
    simp [AM.deep, List.mapM_cons, deep_le (Rep.deep h1) (Nat.le_max_left (Rep.b α) (Rep.b β)), deep_le (Rep.deep h2) (Nat.le_max_right (Rep.b α) (Rep.b β))]

/-- a tuple of texts -/
structure TS where
  l : List Str
  deriving DecidableEq
theorem mapM_str (s : Store) (n : Nat) : ∀ l : List Str, (l.map Val.str).mapM (deep s n) = some (l.map PyData.str)
  | [] => by simp
  | x :: l => by
    have := mapM_str s n l
    cases n <;> simp [List.mapM_cons, deep, this]
instance : Rep TS where
  is _ _ v x := v = .tup (x.l.map .str)
  frame h _ := h
  weak h _ := h
  d x := .tuple (x.l.map .str)
  b := 1
  deep h := by subst h; simp only [deep, mapM_str]; rfl
@[simp] theorem is_ts {H : Nat → Prop} {s : Store} {v : Val} {x : TS} : is H s v x ↔ v = .tup (x.l.map .str) := Iff.rfl

/-- a rule of an edition: column, formula, sources, how it is held -/
structure Rul where
  nm : Str
  fm : Str
  src : List Str
  hd : Str
  deriving DecidableEq
instance : Rep Rul where
  is H s v x := ∃ w, v = .tup [.str x.nm, .str x.fm, w, .str x.hd] ∧ is H s w x.src
  frame := by
    rintro H s s' v x ⟨a, hv, h1⟩ k
    exact ⟨a, hv, Rep.frame h1 k⟩
  weak := by
    rintro H H' s v x ⟨a, hv, h1⟩ k
    exact ⟨a, hv, Rep.weak h1 k⟩
  d x := .tuple [.str x.nm, .str x.fm, Rep.d x.src, .str x.hd]
  b := 2
  deep := by
    rintro H s v x ⟨a, hv, h1⟩
    subst hv
    have h1 := Rep.deep h1
    have h1 : AM.deep s 1 a = some (Rep.d x.src) := h1
    simp [AM.deep, List.mapM_cons, h1]
theorem is_rul {H : Nat → Prop} {s : Store} {v : Val} {x : Rul} : is H s v x ↔ ∃ w, v = .tup [.str x.nm, .str x.fm, w, .str x.hd] ∧ is H s w x.src := Iff.rfl

/-- an item of a table: formula, sources, how it is held -/
structure Itm where
  fm : Str
  src : List Str
  hd : Str
  deriving DecidableEq
instance : Rep Itm where
  is H s v x := ∃ w, v = .tup [.str x.fm, w, .str x.hd] ∧ is H s w x.src
  frame := by
    rintro H s s' v x ⟨a, hv, h1⟩ k
    exact ⟨a, hv, Rep.frame h1 k⟩
  weak := by
    rintro H H' s v x ⟨a, hv, h1⟩ k
    exact ⟨a, hv, Rep.weak h1 k⟩
  d x := .tuple [.str x.fm, Rep.d x.src, .str x.hd]
  b := 2
  deep := by
    rintro H s v x ⟨a, hv, h1⟩
    subst hv
    have h1 := Rep.deep h1
    have h1 : AM.deep s 1 a = some (Rep.d x.src) := h1
    simp [AM.deep, List.mapM_cons, h1]
theorem is_itm {H : Nat → Prop} {s : Store} {v : Val} {x : Itm} : is H s v x ↔ ∃ w, v = .tup [.str x.fm, w, .str x.hd] ∧ is H s w x.src := Iff.rfl

/-- as it reads -/
theorem Rep.dp {α : Type} [Rep α] {H : Nat → Prop} {s : Store} {v : Val} {x : α} (h : is H s v x) (hb : Rep.b α ≤ 60) (hc : (Rep.d x).canLay0 = true) : dp s v = some (Rep.d x) := by
  simp only [AM.dp, deep_le (Rep.deep h) hb, hc, if_true]
end AM
end

section
namespace AM
open Rep (is)
open PySem (Str PyData Operator CmpOp)

theorem getElem?_some_lt {α : Type} {l : List α} {i : Nat} {x : α} (h : l[i]? = some x) : i < l.length := by
  cases Nat.lt_or_ge i l.length with
  | inl h => exact h
  | inr h' => simp [List.getElem?_eq_none h'] at h

structure Has (P : Prog) (f : Str) (d : Def) : Prop where
  df : P.defs.lookup f = some d
  fn : P.funs.contains f = true

/-- H, and one cell more -/
def N (n : Nat) (H : Nat → Prop) : Nat → Prop := fun r => H r ∨ r = n

theorem set_at {s : Store} {n : Nat} {c : Cell} (h : n < s.length) : (s.set n c)[n]? = some c := by
  simp [List.getElem?_set, h]
theorem push_at (s : Store) (c : Cell) : (s ++ [c])[s.length]? = some c := by simp

section
variable {P : Prog} {C : Call}

theorem w_call {f : Str} {d : Def} (h : Has P f d) (l : E) (e : Env) (st : Store) : ev P C (.call f l) e st = (evL P C l e st).bind fun vs s1 => C f vs s1 := by
  simp only [ev, h.fn, if_true]

/-- a comprehension, turn by turn -/
theorem lc_turns {el c : E} {t : Tg} {it : E} {vs : List Nat} {e : Env} {st : Store} {Q : Val → Store → Prop} {X : Str → Val → Store → Prop}
    (h : wpx (evI P C it e st) (fun k s2 => ∃ (l : List Val) (I : Nat → List Val → Store → Prop),
      k.over s2 l ∧ I 0 [] (s2 ++ [⟨.lst [], false⟩]) ∧ (∀ i acc s, I i acc s → k.over s l) ∧
      (∀ i v acc s, l[i]? = some v → I i acc s → s[s2.length]? = some ⟨.lst acc, false⟩ → ∃ e1, assign t (k.item i v) (wipe vs e) = some e1 ∧
        wpx (if noneE c = true then .ok true s else evT P C c e1 s) (fun b s1 => if b = true
          then wpx (ev P C el e1 s1) (fun w s' => s'[s2.length]? = some ⟨.lst acc, false⟩ ∧ acc.length < line ∧ I (i + 1) (acc ++ [w]) (s'.set s2.length ⟨.lst (acc ++ [w]), false⟩)) NoX
          else s1[s2.length]? = some ⟨.lst acc, false⟩ ∧ I (i + 1) acc s1) NoX) ∧
      (∀ acc s, I l.length acc s → s[s2.length]? = some ⟨.lst acc, false⟩ → Q (.ref s2.length) s)) X) : wpx (ev P C (.lc el t it c vs) e st) Q X := by
  simp only [ev, wpx_bind]
  refine h.mono (fun k s2 h => ?_) (fun _ _ _ h => h)
  obtain ⟨l, I, hk, h0, hov, hs, hq⟩ := h
  obtain ⟨s3, h3, acc, hi, ha⟩ := turns_rule (k := k) (t := t) (e := wipe vs e) (l := l)
    (el := fun e1 s => if noneE c = true then pushTo s2.length (ev P C el e1 s) else match evT P C c e1 s with
        | .ok true s' => pushTo s2.length (ev P C el e1 s')
        | .ok false s' => some s'
        | _ => none)
    (fun i s => ∃ acc, I i acc s ∧ s[s2.length]? = some ⟨.lst acc, false⟩)
    (st := s2 ++ [⟨.lst [], false⟩]) ⟨[], h0, push_at _ _⟩ (fun i s h => by obtain ⟨acc, h, _⟩ := h; exact hov i acc s h)
    (fun i v s hv h => by
      obtain ⟨acc, h, hc⟩ := h
      obtain ⟨e1, ha, hw⟩ := hs i v acc s hv h hc
      refine ⟨e1, ha, ?_⟩
      have push : ∀ s1, wpx (ev P C el e1 s1) (fun w s' => s'[s2.length]? = some ⟨.lst acc, false⟩ ∧ acc.length < line ∧ I (i + 1) (acc ++ [w]) (s'.set s2.length ⟨.lst (acc ++ [w]), false⟩)) NoX → ∃ s3, pushTo s2.length (ev P C el e1 s1) = some s3 ∧ ∃ acc, I (i + 1) acc s3 ∧ s3[s2.length]? = some ⟨.lst acc, false⟩ := by
        intro s1 hw
        obtain ⟨w, s', er, h1, h2, h3⟩ := hw.ex
        exact ⟨_, by simp [er, pushTo, h1, h2], _, h3, set_at (lt_of_at h1)⟩
      by_cases hn : noneE c = true
      · simp only [hn, if_true, wpx_ok] at hw ⊢
        exact push s hw
      · simp only [hn] at hw ⊢
        obtain ⟨b, s1, er, hb⟩ := hw.ex
        simp only [Bool.false_eq_true, if_false] at er ⊢
        rw [er]
        cases b with
        | true => exact push s1 (by simpa using hb)
        | false =>
          simp at hb
          exact ⟨s1, rfl, acc, hb.2, hb.1⟩)
    (k.fuel s2) (over_fuel hk)
  have fin : ∀ o : Option Store, o = some s3 → wpx (match o with | none => Res.stk | some s3 => .ok (.ref s2.length) s3) Q X := by
    intro o ho
    subst ho
    exact hq acc s3 hi ha
  exact fin _ h3

/-- a comprehension that leaves all as it was -/
theorem lc_map {α β : Type} [Rep α] [Rep β] {el : E} {t : Tg} {it : E} {vs : List Nat} {e : Env} {st : Store} {Q : Val → Store → Prop} {X : Str → Val → Store → Prop}
    (h : wpx (evI P C it e st) (fun k s2 => ∃ (l : List Val) (xs : List α) (g : α → β) (K H : Nat → Prop),
      k.over s2 l ∧ isL K s2 l xs ∧ (∀ r, s2.length ≤ r → ¬ H r) ∧ xs.length ≤ line ∧
      (∀ i v x s, l[i]? = some v → xs[i]? = some x → Keep No s2 s → s2.length < s.length → is (fun r => K r ∨ s2.length ≤ r) s v x → ∃ e1, assign t (k.item i v) (wipe vs e) = some e1 ∧
        wpx (ev P C el e1 s) (fun w s' => Keep No s s' ∧ is (N s2.length H) s' w (g x)) NoX) ∧
      (∀ s3, Keep No s2 s3 → is H s3 (.ref s2.length) (xs.map g) → Q (.ref s2.length) s3)) X) : wpx (ev P C (.lc el t it .nil vs) e st) Q X := by
  refine lc_turns (h.mono (fun k s2 h => ?_) (fun _ _ _ h => h))
  obtain ⟨l, xs, g, K, H, hk, hl, hH, hm, hs, hq⟩ := h
  refine ⟨l, fun i acc s => Keep No s2 s ∧ s[s2.length]? = some ⟨.lst acc, false⟩ ∧ acc.length = i ∧ isL (N s2.length H) s acc ((xs.take i).map g), hk, ⟨Keep.push _ _ _, push_at _ _, rfl, trivial⟩, ?_, ?_, ?_⟩
  · rintro i acc s ⟨h1, _⟩
    cases k with
    | snap l => exact hk
    | live n en =>
      obtain ⟨lk, hk⟩ := hk
      exact ⟨lk, h1.at_ hk id⟩
    | keys n en =>
      obtain ⟨d, hk, e⟩ := hk
      exact ⟨d, h1.at_ hk id, e⟩
  · rintro i v acc s hv ⟨h1, h2, h3, h4⟩ _
    obtain ⟨x, hx, hvx⟩ := hl.get hv
    obtain ⟨e1, ha, hw⟩ := hs i v x s hv hx h1 (lt_of_at h2) (Rep.frame (H := fun r => K r ∨ s2.length ≤ r) (Rep.weak hvx fun r hr h => h.elim id fun h => by omega) ⟨h1.le, fun r hr _ => h1.here r hr id⟩)
    refine ⟨e1, ha, ?_⟩
    simp only [noneE, if_true, wpx_ok]
    refine hw.mono (fun w s' h => ?_) (fun _ _ _ h => h)
    obtain ⟨k1, hw⟩ := h
    have hi : i < xs.length := by
      cases Nat.lt_or_ge i xs.length with
      | inl h => exact h
      | inr h' => simp [List.getElem?_eq_none h'] at hx
    have a1 := k1.at_ h2 id
    refine ⟨a1, by omega, ⟨?_, ?_⟩, set_at (lt_of_at a1), by simp [h3], ?_⟩
    · have := Nat.le_trans h1.le k1.le
      simpa using this
    · intro r hr _
      rw [List.getElem?_set_ne (by omega), k1.here r (Nat.lt_of_lt_of_le hr h1.le) id, h1.here r hr id]
    · rw [List.take_add_one, hx]
      simp only [Option.toList_some, List.map_append, List.map_cons, List.map_nil]
      have st := Keep.set s2.length ⟨.lst (acc ++ [w]), false⟩ (N s2.length H) s' (fun _ => .inr rfl)
      have g4 : isL (N s2.length H) s' acc ((xs.take i).map g) := h4.frame ⟨k1.le, fun r hr _ => k1.here r hr id⟩
      exact (g4.frame st).app ⟨Rep.frame hw st, trivial⟩
  · rintro acc s ⟨h1, h2, h3, h4⟩ _
    refine hq s h1 ⟨_, acc, rfl, hH _ (Nat.le_refl _), h2, ?_⟩
    have : xs.take l.length = xs := by rw [hl.len]; simp
    rw [this] at h4
    exact h4.weak fun r _ h => .inl h

/-- what is walked over -/
theorem w_iter {α : Type} [Rep α] {H : Nat → Prop} {s : Store} {v : Val} {xs : List α} {Q : Iter → Store → Prop} {X : Str → Val → Store → Prop} (h : is H s v xs)
    (hq : ∀ r l, v = .ref r → ¬ H r → s[r]? = some ⟨.lst l, false⟩ → isL H s l xs → Q (.live r false) s) : wpx (Res.of (iterV s v) s) Q X := by
  obtain ⟨r, l, hv, hn, ha, hl⟩ := h
  subst hv
  simp only [iterV, ha, of_some, wpx_ok]
  exact hq r l rfl hn ha hl
end
section
variable {P : Prog} {C : Call} {e : Env} {st : Store}
theorem w_var {i : Nat} {v : Val} {Q : Val → Store → Prop} {X : Str → Val → Store → Prop} (h : e.s[i]? = some (some v)) (hq : Q v st) : wpx (ev P C (.var i) e st) Q X := by
  simp only [ev, h, Option.bind_some, id_eq, of_some, wpx_ok]
  exact hq
theorem wi_var {α : Type} [Rep α] {i : Nat} {v : Val} {H : Nat → Prop} {xs : List α} {Q : Iter → Store → Prop} {X : Str → Val → Store → Prop} (h : e.s[i]? = some (some v)) (hi : is H st v xs)
    (hq : ∀ r l, v = .ref r → ¬ H r → st[r]? = some ⟨.lst l, false⟩ → isL H st l xs → Q (.live r false) st) : wpx (evI P C (.var i) e st) Q X := by
  simp only [evI, wpx_bind]
  exact w_var h (w_iter hi hq)
theorem wi_enu {α : Type} [Rep α] {i : Nat} {v : Val} {H : Nat → Prop} {xs : List α} {Q : Iter → Store → Prop} {X : Str → Val → Store → Prop} (h : e.s[i]? = some (some v)) (hi : is H st v xs)
    (hq : ∀ r l, v = .ref r → ¬ H r → st[r]? = some ⟨.lst l, false⟩ → isL H st l xs → Q (.live r true) st) : wpx (evI P C (.enu (.var i)) e st) Q X := by
  simp only [evI, wpx_bind]
  obtain ⟨r, l, hv, hn, ha, hl⟩ := hi
  subst hv
  refine w_var h ?_
  simp only [ha, wpx_ok]
  exact hq r l rfl hn ha hl
end
theorem insAt_tup (s : Store) (l : List Val) : insAt s (.tup l) = none := rfl
theorem insAt_str (s : Store) (l : Str) : insAt s (.str l) = none := rfl
theorem insAt_int (s : Store) (l : Int) : insAt s (.int l) = none := rfl
theorem insAt_lst {s : Store} {r : Nat} {l : List Val} {lk : Bool} (h : s[r]? = some ⟨.lst l, lk⟩) : insAt s (.ref r) = none := by
  simp only [insAt, h]
theorem insAt_ins {s : Store} {r : Nat} {c : Str} {l : List (Str × Val)} {lk : Bool} (h : s[r]? = some ⟨.ins c l, lk⟩) : insAt s (.ref r) = some (c, l) := by
  simp only [insAt, h]
theorem insAt_is {α : Type} [Rep α] {H : Nat → Prop} {s : Store} {v : Val} {xs : List α} (h : is H s v xs) : insAt s v = none := by
  obtain ⟨r, l, hv, hn, ha, hl⟩ := h
  subst hv
  exact insAt_lst ha
theorem atI_k {α : Type} {l : List α} {k : Nat} {x : α} (h : l[k]? = some x) : L2.atI l (k : Int) = some x := by
  have := getElem?_some_lt h
  have h1 : (0 : Int) ≤ (k : Int) := by omega
  have h2 : (k : Int) < (l.length : Int) := by omega
  simp [L2.atI, L2.ixN, h1, h2, h]
theorem atI0 {α : Type} (a : α) (l : List α) : L2.atI (a :: l) 0 = some a := atI_k (k := 0) rfl
theorem atI1 {α : Type} (a b : α) (l : List α) : L2.atI (a :: b :: l) 1 = some b := atI_k (k := 1) rfl
theorem atI2 {α : Type} (a b c : α) (l : List α) : L2.atI (a :: b :: c :: l) 2 = some c := atI_k (k := 2) rfl
theorem atI3 {α : Type} (a b c d : α) (l : List α) : L2.atI (a :: b :: c :: d :: l) 3 = some d := atI_k (k := 3) rfl
theorem opSub_tup (s : Store) (l : List Val) (i : Int) : opSub s (.tup l) (.int i) = L2.atI l i := rfl
theorem opSub_lst {s : Store} {r : Nat} {l : List Val} {lk : Bool} (h : s[r]? = some ⟨.lst l, lk⟩) (i : Int) : opSub s (.ref r) (.int i) = L2.atI l i := by
  simp only [opSub, h]
theorem opBiP_none {f : Str} {vs : List Val} {P : Prog} {C : Call} {st : Store} (h : vs.head?.bind (insAt st) = none) : opBiP P C f vs st = opBi st f vs := by
  simp only [opBiP, h]
theorem bi_len_str {st : Store} {s : Str} (h : s.length ≤ line) : opBi st "len" [.str s] = .ok (.int s.length) st := by
  simp only [opBi]
  rw [if_pos trivial, if_pos h]
theorem bi_len_tup (st : Store) (l : List Val) : opBi st "len" [.tup l] = .ok (.int l.length) st := by
  simp only [opBi]
  rw [if_pos trivial]
theorem bi_len_lst {st : Store} {r : Nat} {l : List Val} {lk : Bool} (h : st[r]? = some ⟨.lst l, lk⟩) : opBi st "len" [.ref r] = .ok (.int l.length) st := by
  simp only [opBi, h]
  rw [if_pos trivial]
theorem wbi_int (st : Store) (i : Int) : opBi st "int" [.int i] = .ok (.int i) st := by
  simp only [opBi]
  rw [if_neg (by decide), if_pos trivial]
theorem wbi_abs (st : Store) (i : Int) : opBi st "abs" [.int i] = .ok (.int (if i < 0 then -i else i)) st := by
  simp only [opBi]
  rw [if_neg (by decide), if_neg (by decide), if_pos trivial]
theorem wbi_list {st : Store} {v : Val} {l : List Val} (h : lstAt st v = some l) : opBi st "list" [v] = .ok (.ref st.length) (st ++ [⟨.lst l, false⟩]) := by
  simp only [opBi, h]
  rw [if_neg (by decide), if_neg (by decide), if_neg (by decide), if_pos trivial]
theorem wbi_repr {st : Store} {v : Val} {d : PyData} (h : dp st v = some d) (h1 : d.showable = true) (h2 : d.shown.length ≤ line) : opBi st "repr" [v] = .ok (.str d.shown) st := by
  simp only [opBi, h]
  rw [if_neg (by decide), if_neg (by decide), if_neg (by decide), if_neg (by decide), if_neg (by decide), if_pos trivial]
  rw [if_pos ⟨h1, h2⟩]
theorem wbi_all {st : Store} {v : Val} {l : List Val} (h : lstAt st v = some l) (h2 : l.all isBl = true) : opBi st "all" [v] = .ok (.bl (l.all valBl)) st := by
  simp only [opBi, h, h2]
  rw [if_neg (by decide), if_neg (by decide), if_neg (by decide), if_neg (by decide), if_neg (by decide), if_neg (by decide), if_pos trivial]
  rw [if_pos trivial]
theorem wbi_max (st : Store) (i j : Int) : opBi st "max" [.int i, .int j] = .ok (.int (if j > i then j else i)) st := by
  simp only [opBi]
  rw [if_pos trivial]
theorem wbi_min (st : Store) (i j : Int) : opBi st "min" [.int i, .int j] = .ok (.int (if j < i then j else i)) st := by
  simp only [opBi]
  rw [if_neg (by decide), if_pos trivial]
section
variable {P : Prog} {C : Call} {e : Env} {st : Store} {Q : Val → Store → Prop} {QL : List Val → Store → Prop} {QB : Bool → Store → Prop} {QI : Iter → Store → Prop} {X : Str → Val → Store → Prop}
theorem e_var (i : Nat) : wpx (ev P C (.var i) e st) Q X ↔ wpx (Res.of ((e.s[i]?).bind id) st) Q X := by simp only [ev, evL, wpx_ok, wpx_bind]
theorem e_non : wpx (ev P C .non e st) Q X ↔ Q .non st := by simp only [ev, evL, wpx_ok, wpx_bind]
theorem e_bl (b : Bool) : wpx (ev P C (.bl b) e st) Q X ↔ Q (.bl b) st := by simp only [ev, evL, wpx_ok, wpx_bind]
theorem e_int (i : Int) : wpx (ev P C (.int i) e st) Q X ↔ Q (.int i) st := by simp only [ev, evL, wpx_ok, wpx_bind]
theorem e_str (s : Str) : wpx (ev P C (.str s) e st) Q X ↔ Q (.str s) st := by simp only [ev, evL, wpx_ok, wpx_bind]
theorem e_con {x : Str} {v : Val} (h : P.cons.lookup x = some v) : wpx (ev P C (.con x) e st) Q X ↔ Q v st := by
  simp only [ev, h, of_some, wpx_ok]
theorem e_bin (o : Operator) (a b : E) : wpx (ev P C (.bin o a b) e st) Q X ↔ wpx (ev P C a e st) (fun x s1 => wpx (ev P C b e s1) (fun y s2 => wpx (opBin s2 o x y) Q X) X) X := by
  simp only [ev, wpx_bind]
theorem e_neg (i : Int) : wpx (ev P C (.neg (.int i)) e st) Q X ↔ Q (.int (-i)) st := by simp only [ev, evL, wpx_ok, wpx_bind]
theorem e_cmp (o : CmpOp) (a b : E) : wpx (ev P C (.cmp o a b) e st) Q X ↔ wpx (ev P C a e st) (fun x s1 => wpx (ev P C b e s1) (fun y s2 => ∃ k, opCmp s2 o x y = some k ∧ Q (.bl k) s2) X) X := by
  simp only [ev, wpx_bind, wpx_of]
  refine wpx_congr fun x s1 => wpx_congr fun y s2 => ?_
  cases opCmp s2 o x y <;> simp
theorem e_and (a b : E) : wpx (ev P C (.and a b) e st) Q X ↔ wpx (ev P C a e st) (fun x s1 => (x = .bl true ∧ wpx (ev P C b e s1) Q X) ∨ (x = .bl false ∧ Q (.bl false) s1)) X := by
  simp only [ev, wpx_bind]
  refine wpx_congr fun x s1 => ?_
  cases x with
  | bl k => cases k <;> simp
  | _ => simp
theorem e_or (a b : E) : wpx (ev P C (.or a b) e st) Q X ↔ wpx (ev P C a e st) (fun x s1 => (x = .bl false ∧ wpx (ev P C b e s1) Q X) ∨ (x = .bl true ∧ Q (.bl true) s1)) X := by
  simp only [ev, wpx_bind]
  refine wpx_congr fun x s1 => ?_
  cases x with
  | bl k => cases k <;> simp
  | _ => simp
theorem e_chn (o p : CmpOp) (a b c : E) : wpx (ev P C (.chn o p a b c) e st) Q X ↔ wpx (ev P C a e st) (fun x s1 => wpx (ev P C b e s1) (fun y s2 => ∃ k, opCmp s2 o x y = some k ∧
    if k = true then wpx (ev P C c e s2) (fun z s3 => ∃ k, opCmp s3 p y z = some k ∧ Q (.bl k) s3) X else Q (.bl false) s2) X) X := by
  simp only [ev, wpx_bind]
  refine wpx_congr fun x s1 => wpx_congr fun y s2 => ?_
  cases opCmp s2 o x y with
  | none => simp
  | some k =>
    simp only [of_some, wpx_ok, wpx_ite, wpx_bind, Option.some.injEq, exists_eq_left']
    cases k with
    | false => simp
    | true =>
      simp only [if_true]
      refine wpx_congr fun z s3 => ?_
      cases opCmp s3 p y z <;> simp
theorem e_tup (l : E) : wpx (ev P C (.tup l) e st) Q X ↔ wpx (evL P C l e st) (fun vs s => Q (.tup vs) s) X := by
  simp only [ev, wpx_bind, wpx_ok]
theorem e_lst (l : E) : wpx (ev P C (.lst l) e st) Q X ↔ wpx (evL P C l e st) (fun vs s => Q (.ref s.length) (s ++ [⟨.lst vs, false⟩])) X := by
  simp only [ev, wpx_bind, wpx_ok]
theorem e_bi (f : Str) (l : E) : wpx (ev P C (.bi f l) e st) Q X ↔ wpx (evL P C l e st) (fun vs s => wpx (opBiP P C f vs s) Q X) X := by
  simp only [ev, wpx_bind]
theorem e_call {f : Str} {d : Def} (h : Has P f d) (l : E) : wpx (ev P C (.call f l) e st) Q X ↔ wpx (evL P C l e st) (fun vs s => wpx (C f vs s) Q X) X := by
  simp only [ev, h.fn, if_true, wpx_bind]
theorem e_sub (a b : E) : wpx (ev P C (.sub a b) e st) Q X ↔ wpx (ev P C a e st) (fun x s1 => wpx (ev P C b e s1) (fun y s2 => wpx (match insAt s2 x with
    | some _ => callOwn P C x "__getitem__" [y] s2
    | none => Res.of (opSub s2 x y) s2) Q X) X) X := by
  simp only [ev, wpx_bind] <;> exact Iff.rfl
theorem e_attr (o : E) (f : Str) : wpx (ev P C (.attr o f) e st) Q X ↔ wpx (ev P C o e st) (fun x s1 => wpx (lookAttr P C x f s1) Q X) X := by
  simp only [ev, wpx_bind]
theorem e_bm (o : E) (m : Str) (l : E) : wpx (ev P C (.bm o m l) e st) Q X ↔ wpx (ev P C o e st) (fun x s1 => bmOk s1 x m = true ∧ wpx (evL P C l e s1) (fun vs s2 => wpx (opBm s2 x m vs) Q X) X) X := by
  simp only [ev, wpx_bind]
  refine wpx_congr fun x s1 => ?_
  by_cases h : bmOk s1 x m = true <;> simp [h]
theorem e_om (o : E) (m : Str) (l : E) : wpx (ev P C (.om o m l) e st) Q X ↔ wpx (ev P C o e st) (fun x s1 => ∃ k, ownAt P x m s1 = some k ∧ wpx (evL P C l e s1) (fun vs s2 => wpx (C k (x :: vs) s2) Q X) X) X := by
  simp only [ev, wpx_bind]
  refine wpx_congr fun x s1 => ?_
  cases ownAt P x m s1 <;> simp
theorem e_make {c : Str} (h : (P.clss.lookup c).isSome = true) (l : E) : wpx (ev P C (.make c l) e st) Q X ↔ wpx (evL P C l e st) (fun vs s => wpx (opMake P C c vs s) Q X) X := by
  simp only [ev, h, if_true, wpx_bind]
theorem e_ife (c a b : E) : wpx (ev P C (.ife c a b) e st) Q X ↔ wpx (evT P C c e st) (fun k s1 => if k = true then wpx (ev P C a e s1) Q X else wpx (ev P C b e s1) Q X) X := by
  simp only [ev, wpx_bind, wpx_ite]
theorem noneE_nil : noneE .nil = true := rfl
theorem e_slcH (a hi : E) (h : noneE hi = false) : wpx (ev P C (.slc a .nil hi) e st) Q X ↔ wpx (ev P C a e st) (fun x s1 => wpx (ev P C hi e s1) (fun v s2 => ∃ i, v = .int i ∧ wpx (opSlc s2 x none (some (.int i))) Q X) X) X := by
  simp only [ev, wpx_bind, h, noneE_nil, if_true, Bool.false_eq_true, if_false, wpx_ok]
  refine wpx_congr fun x s1 => ?_
  refine wpx_congr fun v s2 => ?_
  cases v <;> simp
theorem e_slcL (a lo : E) (h : noneE lo = false) : wpx (ev P C (.slc a lo .nil) e st) Q X ↔ wpx (ev P C a e st) (fun x s1 => wpx (ev P C lo e s1) (fun v s2 => ∃ i, v = .int i ∧ wpx (opSlc s2 x (some (.int i)) none) Q X) X) X := by
  simp only [ev, wpx_bind, h, noneE_nil, if_true, Bool.false_eq_true, if_false, wpx_ok]
  refine wpx_congr fun x s1 => wpx_congr fun v s2 => ?_
  cases v <;> simp
theorem e_slc2 (a lo hi : E) (h : noneE lo = false) (h2 : noneE hi = false) : wpx (ev P C (.slc a lo hi) e st) Q X ↔ wpx (ev P C a e st) (fun x s1 => wpx (ev P C lo e s1) (fun v s2 => ∃ i, v = .int i ∧ wpx (ev P C hi e s2) (fun w s3 => ∃ j, w = .int j ∧ wpx (opSlc s3 x (some (.int i)) (some (.int j))) Q X) X) X) X := by
  simp only [ev, wpx_bind, h, h2, noneE_nil, if_true, Bool.false_eq_true, if_false]
  refine wpx_congr fun x s1 => wpx_congr fun v s2 => ?_
  cases v with
  | int i =>
    simp only [wpx_ok, Val.int.injEq, exists_eq_left']
    refine wpx_congr fun w s3 => ?_
    cases w <;> simp
  | _ => simp
theorem sH_var (a : E) (i : Nat) : wpx (ev P C (.slc a .nil (.var i)) e st) Q X ↔ wpx (ev P C a e st) (fun x s1 => wpx (ev P C (.var i) e s1) (fun v s2 => ∃ i, v = .int i ∧ wpx (opSlc s2 x none (some (.int i))) Q X) X) X := e_slcH a _ rfl
theorem sH_int (a : E) (i : Int) : wpx (ev P C (.slc a .nil (.int i)) e st) Q X ↔ wpx (ev P C a e st) (fun x s1 => wpx (ev P C (.int i) e s1) (fun v s2 => ∃ i, v = .int i ∧ wpx (opSlc s2 x none (some (.int i))) Q X) X) X := e_slcH a _ rfl
theorem sH_neg (a : E) (i : E) : wpx (ev P C (.slc a .nil (.neg i)) e st) Q X ↔ wpx (ev P C a e st) (fun x s1 => wpx (ev P C (.neg i) e s1) (fun v s2 => ∃ i, v = .int i ∧ wpx (opSlc s2 x none (some (.int i))) Q X) X) X := e_slcH a _ rfl
theorem sL_bin (a : E) (o : Operator) (y z : E) : wpx (ev P C (.slc a (.bin o y z) .nil) e st) Q X ↔ wpx (ev P C a e st) (fun x s1 => wpx (ev P C (.bin o y z) e s1) (fun v s2 => ∃ i, v = .int i ∧ wpx (opSlc s2 x (some (.int i)) none) Q X) X) X := e_slcL a _ rfl
theorem s2_vb (a : E) (k : Nat) (o : Operator) (y z : E) : wpx (ev P C (.slc a (.var k) (.bin o y z)) e st) Q X ↔ wpx (ev P C a e st) (fun x s1 => wpx (ev P C (.var k) e s1) (fun v s2 => ∃ i, v = .int i ∧ wpx (ev P C (.bin o y z) e s2) (fun w s3 => ∃ j, w = .int j ∧ wpx (opSlc s3 x (some (.int i)) (some (.int j))) Q X) X) X) X := e_slc2 a _ _ rfl rfl
theorem l_nil : wpx (evL P C .nil e st) QL X ↔ QL [] st := by simp only [ev, evL, wpx_ok, wpx_bind]
theorem l_cons (a r : E) : wpx (evL P C (.cons a r) e st) QL X ↔ wpx (ev P C a e st) (fun x s1 => wpx (evL P C r e s1) (fun xs s2 => QL (x :: xs) s2) X) X := by
  simp only [evL, wpx_bind, wpx_ok]
theorem wt_and (a b : E) : wpx (evT P C (.and a b) e st) QB X ↔ wpx (evT P C a e st) (fun k s1 => if k = true then wpx (evT P C b e s1) QB X else QB false s1) X := by
  simp only [evT, wpx_bind, wpx_ite, wpx_ok]
theorem wt_or (a b : E) : wpx (evT P C (.or a b) e st) QB X ↔ wpx (evT P C a e st) (fun k s1 => if k = true then QB true s1 else wpx (evT P C b e s1) QB X) X := by
  simp only [evT, wpx_bind, wpx_ite, wpx_ok]
theorem wt_not (a : E) : wpx (evT P C (.not a) e st) QB X ↔ wpx (evT P C a e st) (fun k s1 => QB (!k) s1) X := by
  simp only [evT, wpx_bind, wpx_ok]
theorem wt_cmp (o : CmpOp) (a b : E) : wpx (evT P C (.cmp o a b) e st) QB X ↔ wpx (ev P C a e st) (fun x s1 => wpx (ev P C b e s1) (fun y s2 => ∃ k, opCmp s2 o x y = some k ∧ QB k s2) X) X := by
  simp only [evT, wpx_bind]
  rw [e_cmp]
  refine wpx_congr fun x s1 => wpx_congr fun y s2 => ?_
  simp only [truthy, of_some, wpx_ok]
theorem wt_chn (o p : CmpOp) (a b c : E) : wpx (evT P C (.chn o p a b c) e st) QB X ↔ wpx (ev P C a e st) (fun x s1 => wpx (ev P C b e s1) (fun y s2 => ∃ k, opCmp s2 o x y = some k ∧
    if k = true then wpx (ev P C c e s2) (fun z s3 => ∃ k, opCmp s3 p y z = some k ∧ QB k s3) X else QB false s2) X) X := by
  simp only [evT, ev, wpx_bind]
  refine wpx_congr fun x s1 => wpx_congr fun y s2 => ?_
  cases opCmp s2 o x y with
  | none => simp
  | some k =>
    simp only [of_some, wpx_ok, wpx_ite, wpx_bind, Option.some.injEq, exists_eq_left']
    cases k with
    | false => simp [truthy]
    | true =>
      simp only [if_true]
      refine wpx_congr fun z s3 => ?_
      cases opCmp s3 p y z <;> simp [truthy]
theorem t_bi (f : Str) (l : E) : wpx (evT P C (.bi f l) e st) QB X ↔ wpx (evL P C l e st) (fun vs s => wpx (opBiP P C f vs s) (fun v s => wpx (Res.of (truthy s v) s) QB X) X) X := by
  simp only [evT, ev, wpx_bind]
theorem t_call {f : Str} {d : Def} (h : Has P f d) (l : E) : wpx (evT P C (.call f l) e st) QB X ↔ wpx (evL P C l e st) (fun vs s => wpx (C f vs s) (fun v s => wpx (Res.of (truthy s v) s) QB X) X) X := by
  simp only [evT, wpx_bind]
  rw [e_call h]
theorem t_var (i : Nat) : wpx (evT P C (.var i) e st) QB X ↔ wpx (Res.of ((e.s[i]?).bind id) st) (fun v s => wpx (Res.of (truthy s v) s) QB X) X := by
  simp only [evT, ev, wpx_bind]
theorem i_var (i : Nat) : wpx (evI P C (.var i) e st) QI X ↔ wpx (Res.of ((e.s[i]?).bind id) st) (fun v s => wpx (Res.of (iterV s v) s) QI X) X := by
  simp only [evI, ev, wpx_bind]
theorem i_sub (a b : E) : wpx (evI P C (.sub a b) e st) QI X ↔ wpx (ev P C (.sub a b) e st) (fun v s => wpx (Res.of (iterV s v) s) QI X) X := by
  simp only [evI, wpx_bind]
theorem i_attr (a : E) (b : Str) : wpx (evI P C (.attr a b) e st) QI X ↔ wpx (ev P C (.attr a b) e st) (fun v s => wpx (Res.of (iterV s v) s) QI X) X := by
  simp only [evI, wpx_bind]
theorem i_call (a : Str) (b : E) : wpx (evI P C (.call a b) e st) QI X ↔ wpx (ev P C (.call a b) e st) (fun v s => wpx (Res.of (iterV s v) s) QI X) X := by
  simp only [evI, wpx_bind]
theorem i_slc (a b c : E) : wpx (evI P C (.slc a b c) e st) QI X ↔ wpx (ev P C (.slc a b c) e st) (fun v s => wpx (Res.of (iterV s v) s) QI X) X := by
  simp only [evI, wpx_bind]
theorem wi_rng1 (a : E) : wpx (evI P C (.rng1 a) e st) QI X ↔ wpx (ev P C a e st) (fun v s => ∃ n, v = .int n ∧ (-4611686018427387904 ≤ n ∧ n < 4611686018427387904) ∧ QI (.snap (rangeL 0 n.toNat)) s) X := by
  simp only [evI, wpx_bind]
  refine wpx_congr fun v s => ?_
  cases v with
  | int n =>
    simp only [wpx_ite, wpx_ok, wpx_stk, Val.int.injEq, exists_eq_left']
    split <;> simp [*]
  | _ => simp
theorem wi_rng2 (a b : E) : wpx (evI P C (.rng2 a b) e st) QI X ↔ wpx (ev P C a e st) (fun v s => wpx (ev P C b e s) (fun w s => ∃ i j, v = .int i ∧ w = .int j ∧ ((-4611686018427387904 ≤ i ∧ i < 4611686018427387904) ∧ -4611686018427387904 ≤ j ∧ j < 4611686018427387904) ∧ QI (.snap (rangeL i (j - i).toNat)) s) X) X := by
  simp only [evI, wpx_bind]
  refine wpx_congr fun v s => wpx_congr fun w s2 => ?_
  cases v with
  | int n =>
    cases w with
    | int m =>
      simp only [wpx_ite, wpx_ok, wpx_stk, Val.int.injEq]
      constructor
      · intro h
        split at h
        · exact ⟨n, m, rfl, rfl, by assumption, h⟩
        · exact h.elim
      · rintro ⟨i, j, rfl, rfl, h, q⟩
        rw [if_pos h]
        exact q
    | _ => simp
  | _ => simp
theorem i_enu_at {i r : Nat} {l : List Val} {lk : Bool} (h : e.s[i]? = some (some (.ref r))) (ha : st[r]? = some ⟨.lst l, lk⟩) : wpx (evI P C (.enu (.var i)) e st) QI X ↔ QI (.live r true) st := by
  simp only [evI, ev, wpx_bind, h, Option.bind_some, id_eq, of_some, wpx_ok, ha]
theorem c_lt (s : Store) (i j : Int) : opCmp s .Lt (.int i) (.int j) = some (decide (i < j)) := rfl
theorem c_le (s : Store) (i j : Int) : opCmp s .LtE (.int i) (.int j) = some (decide (i ≤ j)) := rfl
theorem c_gt (s : Store) (i j : Int) : opCmp s .Gt (.int i) (.int j) = some (decide (j < i)) := rfl
theorem c_ge (s : Store) (i j : Int) : opCmp s .GtE (.int i) (.int j) = some (decide (j ≤ i)) := rfl
theorem c_in (s : Store) (x y : Val) : opCmp s .In x y = opIn s x y := by cases x <;> cases y <;> rfl
theorem c_nin (s : Store) (x y : Val) : opCmp s .NotIn x y = (opIn s x y).map (!·) := by cases x <;> cases y <;> rfl
end
theorem assign_nm (i : Nat) (v : Val) (e : Env) : assign (.nm i) v e = some { e with s := e.s.set i (some v) } := rfl
theorem assign_tp {l : List Nat} {vs : List Val} (h : vs.length = l.length) (e : Env) : assign (.tp l) (.tup vs) e = some { e with s := (l.zip vs).foldl (fun s p => s.set p.1 (some p.2)) e.s } := by
  simp only [assign, h, if_true]
theorem item_f (r i : Nat) (v : Val) : (Iter.live r false).item i v = v := rfl
theorem item_t (r i : Nat) (v : Val) : (Iter.live r true).item i v = .tup [.int i, v] := rfl
theorem item_s (l : List Val) (i : Nat) (v : Val) : (Iter.snap l).item i v = v := rfl
end AM
end

section
namespace AM
open Rep (is)
open PySem (Str PyData Operator CmpOp)

mutual
theorem eqv_refl : ∀ d : PyData, d.canLay0 = true → PyData.eqv d d = true
  | .none, _ => by simp [PyData.eqv]
  | .bool b, _ => by simp [PyData.eqv]
  | .int i, _ => by simp [PyData.eqv]
  | .str s, _ => by simp [PyData.eqv]
  | .list xs, h => by
    simp only [PyData.eqv]
    exact eqvAll_refl xs (by simpa [PyData.canLay0] using h)
  | .tuple xs, h => by
    simp only [PyData.eqv]
    exact eqvAll_refl xs (by simpa [PyData.canLay0] using h)
  | .dict _, h => by simp [PyData.canLay0] at h
theorem eqvAll_refl : ∀ xs : List PyData, PyData.canLayAll0 xs = true → PyData.eqvAll xs xs = true
  | [], _ => by simp [PyData.eqvAll]
  | x :: xs, h => by
    have h' : x.canLay0 = true ∧ PyData.canLayAll0 xs = true := by simpa [PyData.canLayAll0] using h
    simp [PyData.eqvAll, eqv_refl x h'.1, eqvAll_refl xs h'.2]
end
theorem laidAll : ∀ xs : List PyData, PyData.canLayAll0 xs = xs.all PyData.canLay0
  | [] => by simp [PyData.canLayAll0]
  | x :: xs => by simp [PyData.canLayAll0, laidAll xs]
theorem eqvAll_str : ∀ xs ys : List Str, PyData.eqvAll (xs.map .str) (ys.map .str) = decide (xs = ys)
  | [], [] => by simp [PyData.eqvAll]
  | x :: xs, y :: ys => by
    simp only [List.map_cons, PyData.eqvAll, eqvAll_str xs ys, PyData.eqv, List.cons.injEq]
    by_cases h : x = y <;> simp [h]
  | [], _ :: _ => by simp [PyData.eqvAll]
  | _ :: _, [] => by simp [PyData.eqvAll]
theorem any_str (x : Str) : ∀ xs : List Str, ((xs.map PyData.str).any fun z => PyData.eqv z (.str x)) = decide (x ∈ xs)
  | [] => by simp
  | y :: xs => by
    simp only [List.map_cons, List.any_cons, any_str x xs, PyData.eqv, List.mem_cons]
    by_cases h : x = y
    · subst h
      simp
    · have : ¬ (y = x) := fun e => h e.symm
      simp [h, this]

/-- texts that can lie in a heap -/
def OkS (xs : List Str) : Prop := ∀ x ∈ xs, PyData.canLay0 (.str x) = true
theorem okS_laid {xs : List Str} (h : OkS xs) : PyData.canLay0 (.list (xs.map .str)) = true := by
  simp only [PyData.canLay0, laidAll, List.all_map, List.all_eq_true]
  exact fun x hx => h x hx
theorem dp_strs {H : Nat → Prop} {s : Store} {v : Val} {xs : List Str} (h : is H s v xs) (ho : OkS xs) : dp s v = some (.list (xs.map .str)) :=
  Rep.dp h (by decide) (okS_laid ho)
theorem dp_str {s : Store} {x : Str} (h : PyData.canLay0 (.str x) = true) : dp s (.str x) = some (.str x) := by
  simp only [dp, deep, h, if_true]
theorem in_strs {H : Nat → Prop} {s : Store} {v : Val} {xs : List Str} {x : Str} (h : is H s v xs) (ho : OkS xs) (hx : PyData.canLay0 (.str x) = true) : opIn s (.str x) v = some (decide (x ∈ xs)) := by
  have d1 := dp_strs h ho
  obtain ⟨r, vs, hv, hn, ha, hl⟩ := h
  subst hv
  simp only [opIn, ha, d1, dp_str hx, any_str]
theorem c_eq (s : Store) (x y : Val) : opCmp s .Eq x y = match dp s x, dp s y with
    | some a, some b => some (PyData.eqv a b)
    | _, _ => none := by cases x <;> cases y <;> rfl
theorem c_ne (s : Store) (x y : Val) : opCmp s .NotEq x y = match dp s x, dp s y with
    | some a, some b => some (!PyData.eqv a b)
    | _, _ => none := by cases x <;> cases y <;> rfl
theorem c_eqd {s : Store} {x y : Val} {a b : PyData} (h1 : dp s x = some a) (h2 : dp s y = some b) : opCmp s .Eq x y = some (PyData.eqv a b) := by
  rw [c_eq, h1, h2]
theorem c_ned {s : Store} {x y : Val} {a b : PyData} (h1 : dp s x = some a) (h2 : dp s y = some b) : opCmp s .NotEq x y = some (!PyData.eqv a b) := by
  rw [c_ne, h1, h2]
theorem dp_int (s : Store) (i : Int) : dp s (.int i) = some (.int i) := by
  simp [dp, deep, PyData.canLay0]
theorem c_eqi (s : Store) (i j : Int) : opCmp s .Eq (.int i) (.int j) = some (decide (i = j)) := by
  rw [c_eqd (dp_int s i) (dp_int s j)]
  simp only [PyData.eqv]
  by_cases h : i = j <;> simp [h]
theorem c_eqs {s : Store} {x y : Str} (h1 : PyData.canLay0 (.str x) = true) (h2 : PyData.canLay0 (.str y) = true) : opCmp s .Eq (.str x) (.str y) = some (decide (x = y)) := by
  rw [c_eqd (dp_str h1) (dp_str h2)]
  simp only [PyData.eqv]
  by_cases h : x = y <;> simp [h]

theorem is_strs {H : Nat → Prop} {s : Store} {v : Val} {xs : List Str} : is H s v xs ↔ ∃ r, v = .ref r ∧ ¬ H r ∧ s[r]? = some ⟨.lst (xs.map .str), false⟩ := by
  constructor
  · rintro ⟨r, vs, hv, hn, ha, hl⟩
    have hl : vs = xs.map Val.str := (all2_eq (f := Val.str)).1 hl
    subst hl
    exact ⟨r, hv, hn, ha⟩
  · rintro ⟨r, hv, hn, ha⟩
    exact ⟨r, _, hv, hn, ha, (all2_eq (f := Val.str)).2 rfl⟩
/-- a class and a value -/
abbrev Fault := Option (Str × Val)
def firstF (f : Nat → Fault) (m : Nat) : Fault := (List.range m).findSome? f
theorem firstF_succ (f : Nat → Fault) (m : Nat) : firstF f (m + 1) = (firstF f m).or (f m) := by
  simp only [firstF, List.range_succ, List.findSome?_append, List.findSome?_cons, List.findSome?_nil]
  cases (List.range m).findSome? f <;> cases f m <;> rfl
theorem firstF_none {f : Nat → Fault} {m : Nat} : firstF f m = none ↔ ∀ i, i < m → f i = none := by
  simp [firstF]
theorem firstF_hit {f : Nat → Fault} {i m : Nat} {x : Str × Val} (h0 : firstF f i = none) (hi : i < m) (hx : f i = some x) : firstF f m = some x := by
  induction m with
  | zero => omega
  | succ m ih =>
    rw [firstF_succ]
    by_cases e : i = m
    · subst e
      simp [h0, hx]
    · simp [ih (by omega)]
theorem cut_to {α : Type} (l : List α) (k : Nat) : cut l none (some (k : Int)) = l.take k := by
  simp only [cut, HT.sIx_none, HT.sIx_nat, List.drop_zero, Nat.sub_zero]
  rw [List.take_eq_take_iff]
  omega
theorem cut_from {α : Type} (l : List α) (k : Nat) : cut l (some (k : Int)) none = l.drop k := by
  simp only [cut, HT.sIx_none, HT.sIx_nat]
  rw [List.take_of_length_le (by simp)]
  by_cases h : k ≤ l.length
  · rw [Nat.min_eq_left h]
  · rw [Nat.min_eq_right (by omega), List.drop_of_length_le (Nat.le_refl _), List.drop_of_length_le (by omega)]
theorem cut_part {α : Type} (l : List α) (j k : Nat) : cut l (some (j : Int)) (some (k : Int)) = (l.drop j).take (k - j) := by
  simp only [cut, HT.sIx_nat]
  by_cases h : j ≤ l.length
  · rw [Nat.min_eq_left h, List.take_eq_take_iff]
    simp only [List.length_drop]
    omega
  · have e : l.drop j = [] := List.drop_of_length_le (by omega)
    rw [e, List.drop_of_length_le (by omega)]
    simp
theorem slc_lst {s : Store} {r : Nat} {l : List Val} {lk : Bool} (h : s[r]? = some ⟨.lst l, lk⟩) (lo hi : Option Int) : opSlc s (.ref r) (lo.map .int) (hi.map .int) = .ok (.ref s.length) (s ++ [⟨.lst (cut l lo hi), false⟩]) := by
  cases lo <;> cases hi <;> simp only [opSlc, Option.map_some, Option.map_none, optI, h]
/-- v[:k] of texts -/
theorem slc_to_w {H : Nat → Prop} {s : Store} {v : Val} {xs : List Str} {k : Nat} {Q : Val → Store → Prop} {X : Str → Val → Store → Prop} (h : is H s v xs)
    (hq : ∀ s', Keep No s s' → is (Old s) s' (.ref s.length) (xs.take k) → Q (.ref s.length) s') : wpx (opSlc s v none (some (.int (k : Int)))) Q X := by
  obtain ⟨r, hv, hn, ha⟩ := is_strs.1 h
  subst hv
  have e := slc_lst ha none (some (k : Int))
  rw [show opSlc s (.ref r) none (some (.int (k : Int))) = _ from e, cut_to]
  refine hq _ (Keep.push _ _ _) (is_strs.2 ⟨_, rfl, Nat.lt_irrefl _, ?_⟩)
  rw [push_at, List.map_take]
/-- what is walked over stood there before -/
theorem w_iterK {α : Type} [Rep α] {H : Nat → Prop} {st s : Store} {v : Val} {xs : List α} {Q : Iter → Store → Prop} {X : Str → Val → Store → Prop} (h : is H st v xs) (k : Keep No st s)
    (hq : ∀ r l, v = .ref r → ¬ H r → st[r]? = some ⟨.lst l, false⟩ → isL H st l xs → Q (.live r false) s) : wpx (Res.of (iterV s v) s) Q X := by
  obtain ⟨r, l, hv, hn, ha, hl⟩ := h
  subst hv
  have e := k.at_ ha id
  simp only [iterV, e, of_some, wpx_ok]
  exact hq r l rfl hn ha hl

section
variable {s : Store} {r : Nat} {l : List Val}
theorem wbmOk_lst (h : s[r]? = some ⟨.lst l, false⟩) {m : Str} (hm : bmLst.contains m = true) : bmOk s (.ref r) m = true := by
  simp only [bmOk, h, hm]
theorem bm_append (h : s[r]? = some ⟨.lst l, false⟩) (hl : l.length < line) (v : Val) : opBm s (.ref r) "append" [v] = .ok .non (s.set r ⟨.lst (l ++ [v]), false⟩) := by
  simp only [opBm, h]
  rw [if_pos trivial, if_pos hl]
theorem bm_pop (h : s[r]? = some ⟨.lst l, false⟩) {v : Val} (hv : l[l.length - 1]? = some v) : opBm s (.ref r) "pop" [] = .ok v (s.set r ⟨.lst l.dropLast, false⟩) := by
  simp only [opBm, h]
  rw [if_neg (by decide), if_pos trivial]
  simp only [hv]
theorem popAt {k n : Nat} (hk : k < n) (hn : n < 1000000000) : (if -(2 ^ 63) ≤ (k : Int) ∧ (k : Int) < 2 ^ 63 then PySem.seqIndex? (k : Int) n else none) = some k := by
  have a1 : ¬ (k : Int) < 0 := by omega
  have a2 : (k : Int) < (n : Int) := by omega
  have a3 : -(2 ^ 63) ≤ (k : Int) := by
    have : -(2 ^ 63 : Int) ≤ 0 := by decide
    omega
  have a4 : (k : Int) < 2 ^ 63 := by
    have : (1000000000 : Int) < 2 ^ 63 := by decide
    omega
  rw [if_pos ⟨a3, a4⟩]
  simp [PySem.seqIndex?, a1, a2]
theorem bm_popk (h : s[r]? = some ⟨.lst l, false⟩) {k : Nat} {v : Val} (hv : l[k]? = some v) (hk : l.length < 1000000000) : opBm s (.ref r) "pop" [.int (k : Int)] = .ok v (s.set r ⟨.lst (l.eraseIdx k), false⟩) := by
  have e2 := popAt (getElem?_some_lt hv) hk
  generalize hvs : [Val.int (k : Int)] = vs
  unfold opBm
  dsimp only
  rw [h]
  dsimp only
  rw [if_neg (by decide), if_pos rfl]
  split
  · cases hvs
  · cases hvs
    rw [e2]
    dsimp only
    rw [hv]
  · rename_i e1 e2
    exact (e2 _ hvs.symm).elim
theorem bm_insert0 (h : s[r]? = some ⟨.lst l, false⟩) (hl : l.length < line) (v : Val) : opBm s (.ref r) "insert" [.int 0, v] = .ok .non (s.set r ⟨.lst (v :: l), false⟩) := by
  simp only [opBm, h]
  rw [if_neg (by decide), if_neg (by decide), if_pos trivial, if_pos ⟨by omega, by omega, hl⟩]
  simp
theorem bm_clear (h : s[r]? = some ⟨.lst l, false⟩) : opBm s (.ref r) "clear" [] = .ok .non (s.set r ⟨.lst [], false⟩) := by
  simp only [opBm, h]
  rw [if_neg (by decide), if_neg (by decide), if_neg (by decide), if_pos trivial]
end
class Flat (α : Type) [Rep α] : Prop where
  flat : ∀ {H H' : Nat → Prop} {s s' : Store} {v : Val} {x : α}, is H s v x → is H' s' v x
instance : Flat Str := ⟨fun h => h⟩
instance : Flat Int := ⟨fun h => h⟩
instance : Flat Bool := ⟨fun h => h⟩
instance : Flat TS := ⟨fun h => h⟩
theorem isL.flat {α : Type} [Rep α] [Flat α] {H H' : Nat → Prop} {s s' : Store} {vs : List Val} {xs : List α} (h : isL H s vs xs) : isL H' s' vs xs := h.imp fun _ _ _ _ h => Flat.flat h
/-- a new list -/
theorem new_is {α : Type} [Rep α] {H : Nat → Prop} {s : Store} {vs : List Val} {xs : List α} (h : isL H s vs xs) (hn : ¬ H s.length) : is H (s ++ [⟨.lst vs, false⟩]) (.ref s.length) xs :=
  ⟨_, vs, rfl, hn, push_at _ _, h.frame (Keep.push _ _ _)⟩
theorem new_flat {α : Type} [Rep α] [Flat α] {H : Nat → Prop} {s s' : Store} {vs : List Val} {xs : List α} (h : isL H s' vs xs) : is (Old s) (s ++ [⟨.lst vs, false⟩]) (.ref s.length) xs :=
  ⟨_, vs, rfl, Nat.lt_irrefl _, push_at _ _, h.flat⟩
theorem add_lst {s : Store} {a b : Nat} {x y : List Val} (ha : s[a]? = some ⟨.lst x, false⟩) (hb : s[b]? = some ⟨.lst y, false⟩) (hl : x.length + y.length ≤ line) : opBin s .Add (.ref a) (.ref b) = .ok (.ref s.length) (s ++ [⟨.lst (x ++ y), false⟩]) := by
  simp only [opBin, ha, hb, hl, if_true]
theorem add_w {α : Type} [Rep α] [Flat α] {H H2 : Nat → Prop} {s : Store} {v w : Val} {xs ys : List α} {Q : Val → Store → Prop} {X : Str → Val → Store → Prop} (h1 : is H s v xs) (h2 : is H2 s w ys) (hl : xs.length + ys.length ≤ line)
    (hq : ∀ s', Keep No s s' → is (Old s) s' (.ref s.length) (xs ++ ys) → Q (.ref s.length) s') : wpx (opBin s .Add v w) Q X := by
  obtain ⟨a, x, rfl, _, ha, hx⟩ := h1
  obtain ⟨b, y, rfl, _, hb, hy⟩ := h2
  rw [add_lst ha hb (by rw [hx.len, hy.len]; exact hl)]
  exact hq _ (Keep.push _ _ _) (new_flat (H := H) (s' := s) (hx.app hy.flat))
/-- lists of things with cells -/
theorem addG_w {α : Type} [Rep α] {H : Nat → Prop} {s : Store} {v w : Val} {xs ys : List α} {Q : Val → Store → Prop} {X : Str → Val → Store → Prop} (h1 : is H s v xs) (h2 : is H s w ys) (hn : ¬ H s.length) (hl : xs.length + ys.length ≤ line)
    (hq : ∀ s', Keep No s s' → is H s' (.ref s.length) (xs ++ ys) → Q (.ref s.length) s') : wpx (opBin s .Add v w) Q X := by
  obtain ⟨a, x, rfl, _, ha, hx⟩ := h1
  obtain ⟨b, y, rfl, _, hb, hy⟩ := h2
  rw [add_lst ha hb (by rw [hx.len, hy.len]; exact hl)]
  exact hq _ (Keep.push _ _ _) (new_is (hx.app hy) hn)
end AM
end

section
namespace AM
open Rep (is)
open PySem (Str PyData Operator CmpOp)
section
variable {P : Prog} {C : Call}
theorem over_old {k : Iter} {s s' : Store} {l : List Val} (h : k.over s l) (hk : Keep No s s') : k.over s' l := by
  cases k with
  | snap l => exact h
  | live n en =>
    obtain ⟨lk, h⟩ := h
    exact ⟨lk, hk.at_ h id⟩
  | keys n en =>
    obtain ⟨d, h, e⟩ := h
    exact ⟨d, hk.at_ h id, e⟩

/-- one element more behind the list at n -/
theorem push_step {γ : Type} [Rep γ] {n : Nat} {H : Nat → Prop} {s2 s s' : Store} {acc : List Val} {zs : List γ} {w : Val} {z : γ} (hn : n = s2.length) (k1 : Keep No s2 s) (ha : s[n]? = some ⟨.lst acc, false⟩) (hl : isL (N n H) s acc zs) (k2 : Keep No s s') (hw : is (N n H) s' w z) :
    s'[n]? = some ⟨.lst acc, false⟩ ∧ Keep No s2 (s'.set n ⟨.lst (acc ++ [w]), false⟩) ∧ (s'.set n ⟨.lst (acc ++ [w]), false⟩)[n]? = some ⟨.lst (acc ++ [w]), false⟩ ∧ isL (N n H) (s'.set n ⟨.lst (acc ++ [w]), false⟩) (acc ++ [w]) (zs ++ [z]) := by
  subst hn
  have a1 := k2.at_ ha id
  have st := Keep.set s2.length ⟨.lst (acc ++ [w]), false⟩ (N s2.length H) s' (fun _ => .inr rfl)
  refine ⟨a1, ⟨?_, ?_⟩, set_at (lt_of_at a1), ?_⟩
  · have := Nat.le_trans k1.le k2.le
    simpa using this
  · intro r hr _
    rw [List.getElem?_set_ne (by omega), k2.here r (Nat.lt_of_lt_of_le hr k1.le) id, k1.here r hr id]
  · have g4 : isL (N s2.length H) s' acc zs := hl.frame ⟨k2.le, fun r hr _ => k2.here r hr id⟩
    exact (g4.frame st).app ⟨Rep.frame hw st, trivial⟩

theorem lc2_map {α β γ : Type} [Rep α] [Rep β] [Rep γ] {el : E} {t t2 : Tg} {it it2 c2 : E} {vs vs2 : List Nat} {e : Env} {st : Store} {Q : Val → Store → Prop} {X : Str → Val → Store → Prop} (hc2 : noneE c2 = false)
    (h : wpx (evI P C it e st) (fun k s2 => ∃ (l : List Val) (xs : List α) (inner : α → List β) (cond : α → β → Bool) (g : α → β → γ) (K H : Nat → Prop),
      k.over s2 l ∧ isL K s2 l xs ∧ (∀ r, s2.length ≤ r → ¬ H r) ∧ (∀ i, (((xs.take i).flatMap fun x => ((inner x).filter (cond x)).map (g x)).length < line - 1000)) ∧ (∀ x ∈ xs, (inner x).length ≤ 1000) ∧
      (∀ i v x s, l[i]? = some v → xs[i]? = some x → Keep No s2 s → s2.length < s.length → is (fun r => K r ∨ s2.length ≤ r) s v x → ∃ e1, assign t (k.item i v) (wipe vs e) = some e1 ∧
        wpx (evI P C it2 e1 s) (fun k2 s5 => s5 = s ∧ ∃ (l2 : List Val) (K2 : Nat → Prop), k2.over s2 l2 ∧ isL K2 s2 l2 (inner x) ∧
          ∀ j w y s6, l2[j]? = some w → (inner x)[j]? = some y → Keep No s2 s6 → s2.length < s6.length → is (fun r => K2 r ∨ s2.length ≤ r) s6 w y → ∃ e2, assign t2 (k2.item j w) (wipe vs2 e1) = some e2 ∧
            wpx (evT P C c2 e2 s6) (fun b s7 => Keep No s6 s7 ∧ b = cond x y ∧ (b = true → wpx (ev P C el e2 s7) (fun w s8 => Keep No s7 s8 ∧ is (N s2.length H) s8 w (g x y)) NoX)) NoX) NoX) ∧
      (∀ s3, Keep No s2 s3 → is H s3 (.ref s2.length) (xs.flatMap fun x => ((inner x).filter (cond x)).map (g x)) → Q (.ref s2.length) s3)) X) : wpx (ev P C (.lc2 el t it .nil t2 it2 c2 vs vs2) e st) Q X := by
  simp only [ev, wpx_bind]
  refine h.mono (fun k s2 h => ?_) (fun _ _ _ h => h)
  obtain ⟨l, xs, inner, cond, g, K, H, hk, hl, hH, hm, hm2, hs, hq⟩ := h
  obtain ⟨s3, h3, k3, acc, ha, hi⟩ := turns_rule (k := k) (t := t) (e := wipe vs e) (l := l)
    (el := fun e1 s => match (if noneE .nil = true then .ok true s else evT P C .nil e1 s) with
        | .ok true s' => match evI P C it2 e1 s' with
          | .ok k2 s5 => turns k2 t2 (wipe vs2 e1) (fun e2 s6 => if noneE c2 = true then pushTo s2.length (ev P C el e2 s6) else match evT P C c2 e2 s6 with
              | .ok true s' => pushTo s2.length (ev P C el e2 s')
              | .ok false s' => some s'
              | _ => none) (k2.fuel s5) 0 s5
          | _ => none
        | .ok false s' => some s'
        | _ => none)
    (fun i s => Keep No s2 s ∧ ∃ acc, s[s2.length]? = some ⟨.lst acc, false⟩ ∧ isL (N s2.length H) s acc ((xs.take i).flatMap fun x => ((inner x).filter (cond x)).map (g x)))
    (st := s2 ++ [⟨.lst [], false⟩]) ⟨Keep.push _ _ _, [], push_at _ _, trivial⟩ (fun i s h => over_old hk h.1)
    (fun i v s hv h => by
      obtain ⟨k1, acc, ha, hacc⟩ := h
      obtain ⟨x, hx, hvx⟩ := hl.get hv
      obtain ⟨e1, he1, hw⟩ := hs i v x s hv hx k1 (lt_of_at ha) (Rep.frame (H := fun r => K r ∨ s2.length ≤ r) (Rep.weak hvx fun r hr h => h.elim id fun h => by omega) ⟨k1.le, fun r hr _ => k1.here r hr id⟩)
      refine ⟨e1, he1, ?_⟩
      obtain ⟨k2, s5, er, rfl, l2, K2, ho2, hl2, hin⟩ := hw.ex
      simp only [noneE_nil, if_true, er]
      obtain ⟨s4, h4, k4, acc4, ha4, hi4⟩ := turns_rule (k := k2) (t := t2) (e := wipe vs2 e1) (l := l2)
        (el := fun e2 s6 => if noneE c2 = true then pushTo s2.length (ev P C el e2 s6) else match evT P C c2 e2 s6 with
              | .ok true s' => pushTo s2.length (ev P C el e2 s')
              | .ok false s' => some s'
              | _ => none)
        (fun j s => Keep No s2 s ∧ ∃ acc, s[s2.length]? = some ⟨.lst acc, false⟩ ∧ isL (N s2.length H) s acc (((xs.take i).flatMap fun x => ((inner x).filter (cond x)).map (g x)) ++ (((inner x).take j).filter (cond x)).map (g x)))
        (st := s5) ⟨k1, acc, ha, by simpa using hacc⟩ (fun j s h => over_old ho2 h.1)
        (fun j w s6 hw6 h => by
          obtain ⟨k6, acc6, ha6, hi6⟩ := h
          obtain ⟨y, hy, hwy⟩ := hl2.get hw6
          obtain ⟨e2, he2, hcw⟩ := hin j w y s6 hw6 hy k6 (lt_of_at ha6) (Rep.frame (H := fun r => K2 r ∨ s2.length ≤ r) (Rep.weak hwy fun r hr h => h.elim id fun h => by omega) ⟨k6.le, fun r hr _ => k6.here r hr id⟩)
          refine ⟨e2, he2, ?_⟩
          obtain ⟨b, s7, er7, k7, hb, hgo⟩ := hcw.ex
          simp only [hc2, Bool.false_eq_true, if_false, er7]
          have hlen : acc6.length < line := by
            have e1 := hi6.len
            have e2 := hm i
            have e3 := hm2 x (List.mem_of_getElem? hx)
            have e4 : (((inner x).take j).filter (cond x)).length ≤ 1000 := Nat.le_trans (List.length_filter_le _ _) (Nat.le_trans (by simp only [List.length_take]; omega) e3)
            rw [List.length_append, List.length_map] at e1
            unfold line at *
            omega
          have htake : (inner x).take (j + 1) = (inner x).take j ++ [y] := by rw [List.take_add_one, hy]; rfl
          cases b with
          | true =>
            obtain ⟨w8, s8, er8, k8, hw8⟩ := (hgo rfl).ex
            obtain ⟨p1, p2, p3, p4⟩ := push_step rfl k6 ha6 hi6 (k7.tr k8) hw8
            refine ⟨_, by simp only [er8, pushTo, p1, hlen, if_true], p2, _, p3, ?_⟩
            rw [htake, List.filter_append, List.map_append, ← List.append_assoc]
            simpa [← hb] using p4
          | false =>
            refine ⟨_, rfl, k6.tr k7, acc6, k7.at_ ha6 id, ?_⟩
            rw [htake, List.filter_append, List.map_append, ← List.append_assoc]
            have : isL (N s2.length H) s7 acc6 _ := hi6.frame ⟨k7.le, fun r hr _ => k7.here r hr id⟩
            simpa [← hb] using this)
        (k2.fuel s5) (over_fuel (over_old ho2 k1))
      refine ⟨s4, h4, k4, acc4, ha4, ?_⟩
      rw [hl2.len, List.take_length] at hi4
      rw [List.take_add_one, hx]
      simpa [List.flatMap_append] using hi4)
    (k.fuel s2) (over_fuel hk)
  have fin : ∀ o : Option Store, o = some s3 → wpx (match o with | none => Res.stk | some s3 => .ok (.ref s2.length) s3) Q X := by
    intro o ho
    subst ho
    refine hq s3 k3 ⟨_, acc, rfl, hH _ (Nat.le_refl _), ha, ?_⟩
    rw [hl.len, List.take_length] at hi
    exact hi.weak fun r _ h => .inl h
  exact fin _ h3

/-- a comprehension with a test that leaves all as it was -/
theorem lc_fil {α β : Type} [Rep α] [Rep β] {el c : E} {t : Tg} {it : E} {vs : List Nat} {e : Env} {st : Store} {Q : Val → Store → Prop} {X : Str → Val → Store → Prop} (hc : noneE c = false)
    (h : wpx (evI P C it e st) (fun k s2 => ∃ (l : List Val) (xs : List α) (cond : α → Bool) (g : α → β) (K H : Nat → Prop),
      k.over s2 l ∧ isL K s2 l xs ∧ (∀ r, s2.length ≤ r → ¬ H r) ∧ xs.length ≤ line ∧
      (∀ i v x s, l[i]? = some v → xs[i]? = some x → Keep No s2 s → s2.length < s.length → is (fun r => K r ∨ s2.length ≤ r) s v x → ∃ e1, assign t (k.item i v) (wipe vs e) = some e1 ∧
        wpx (evT P C c e1 s) (fun b s' => Keep No s s' ∧ b = cond x ∧ (b = true → wpx (ev P C el e1 s') (fun w s'' => Keep No s' s'' ∧ is (N s2.length H) s'' w (g x)) NoX)) NoX) ∧
      (∀ s3, Keep No s2 s3 → is H s3 (.ref s2.length) ((xs.filter cond).map g) → Q (.ref s2.length) s3)) X) : wpx (ev P C (.lc el t it c vs) e st) Q X := by
  refine lc_turns (h.mono (fun k s2 h => ?_) (fun _ _ _ h => h))
  obtain ⟨l, xs, cond, g, K, H, hk, hl, hH, hm, hs, hq⟩ := h
  refine ⟨l, fun i acc s => Keep No s2 s ∧ s[s2.length]? = some ⟨.lst acc, false⟩ ∧ isL (N s2.length H) s acc (((xs.take i).filter cond).map g), hk, ⟨Keep.push _ _ _, push_at _ _, trivial⟩, fun i acc s h => over_old hk h.1, ?_, ?_⟩
  · rintro i v acc s hv ⟨h1, h2, h4⟩ _
    obtain ⟨x, hx, hvx⟩ := hl.get hv
    obtain ⟨e1, ha, hw⟩ := hs i v x s hv hx h1 (lt_of_at h2) (Rep.frame (H := fun r => K r ∨ s2.length ≤ r) (Rep.weak hvx fun r hr h => h.elim id fun h => by omega) ⟨h1.le, fun r hr _ => h1.here r hr id⟩)
    refine ⟨e1, ha, ?_⟩
    simp only [hc, Bool.false_eq_true, if_false]
    refine hw.mono (fun b s' h => ?_) (fun _ _ _ h => h)
    obtain ⟨k1, hb, hgo⟩ := h
    have hi := getElem?_some_lt hx
    have htake : xs.take (i + 1) = xs.take i ++ [x] := by rw [List.take_add_one, hx]; rfl
    have hlen : acc.length < line := by
      have e1 := h4.len
      rw [List.length_map] at e1
      have e2 := List.length_filter_le cond (xs.take i)
      have e3 : (xs.take i).length ≤ i := List.length_take_le _ _
      omega
    cases b with
    | true =>
      simp only [if_true]
      refine (hgo rfl).mono (fun w s'' h => ?_) (fun _ _ _ h => h)
      obtain ⟨p1, p2, p3, p4⟩ := push_step rfl h1 h2 h4 (k1.tr h.1) h.2
      refine ⟨p1, hlen, p2, p3, ?_⟩
      rw [htake, List.filter_append, List.map_append]
      simpa [← hb] using p4
    | false =>
      simp only [Bool.false_eq_true, if_false]
      refine ⟨k1.at_ h2 id, h1.tr k1, k1.at_ h2 id, ?_⟩
      rw [htake, List.filter_append, List.map_append]
      have : isL (N s2.length H) s' acc _ := h4.frame ⟨k1.le, fun r hr _ => k1.here r hr id⟩
      simpa [← hb] using this
  · rintro acc s ⟨h1, h2, h4⟩ _
    refine hq s h1 ⟨_, acc, rfl, hH _ (Nat.le_refl _), h2, ?_⟩
    rw [hl.len, List.take_length] at h4
    exact h4.weak fun r _ h => .inl h
end
end AM
end

section
namespace AM
open Rep (is)
open PySem (Str PyData Operator CmpOp)

def out (a b : Nat) : Nat → Prop := fun r => r < a ∨ b ≤ r
section
variable {α : Type} [Rep α]
def isSL (s : Store) : Nat → Nat → List Val → List α → Prop
  | a, z, [], [] => a ≤ z
  | a, z, v :: vs, x :: xs => ∃ m, a ≤ m ∧ is (out a m) s v x ∧ isSL s m z vs xs
  | _, _, _, _ => False
theorem isSL.le {s : Store} : ∀ {vs : List Val} {xs : List α} {a z : Nat}, isSL s a z vs xs → a ≤ z
  | [], [], _, _, h => h
  | v :: vs, x :: xs, a, z, ⟨m, h1, _, h3⟩ => Nat.le_trans h1 h3.le
  | [], _ :: _, _, _, h => h.elim
  | _ :: _, [], _, _, h => h.elim
theorem isSL.toL {s : Store} : ∀ {vs : List Val} {xs : List α} {a z : Nat}, isSL s a z vs xs → isL (out a z) s vs xs
  | [], [], _, _, h => trivial
  | v :: vs, x :: xs, a, z, ⟨m, h1, h2, h3⟩ => ⟨Rep.weak h2 fun r _ h => by have := h3.le; rcases h with h | h; exact .inl h; exact .inr (by omega), h3.toL.weak fun r _ h => by rcases h with h | h; exact .inl (by omega); exact .inr h⟩
  | [], _ :: _, _, _, h => h.elim
  | _ :: _, [], _, _, h => h.elim
theorem isSL.frame {s s' : Store} {H : Nat → Prop} (k : Keep H s s') : ∀ {vs : List Val} {xs : List α} {a z : Nat}, isSL s a z vs xs → (∀ r, a ≤ r → r < z → ¬ H r) → isSL s' a z vs xs
  | [], [], _, _, h, _ => h
  | v :: vs, x :: xs, a, z, ⟨m, h1, h2, h3⟩, hH => ⟨m, h1, Rep.frame h2 (k.weak fun r _ h => by
      have := h3.le
      by_cases ha : r < a
      · exact .inl ha
      · by_cases hb : m ≤ r
        · exact .inr hb
        · exact absurd h (hH r (by omega) (by omega))), h3.frame k fun r h4 h5 => hH r (by omega) h5⟩
  | [], _ :: _, _, _, h, _ => h.elim
  | _ :: _, [], _, _, h, _ => h.elim
theorem isSL.snoc {s : Store} {w : Val} {y : α} {z' : Nat} : ∀ {vs : List Val} {xs : List α} {a z : Nat}, isSL s a z vs xs → z ≤ z' → is (out z z') s w y → isSL s a z' (vs ++ [w]) (xs ++ [y])
  | [], [], a, z, h, hz, hw => ⟨z', Nat.le_trans h hz, Rep.weak hw fun r _ h' => by rcases h' with h' | h'; exact .inl (by have : a ≤ z := h; omega); exact .inr h', Nat.le_refl _⟩
  | v :: vs, x :: xs, a, z, ⟨m, h1, h2, h3⟩, hz, hw => ⟨m, h1, h2, h3.snoc hz hw⟩
  | [], _ :: _, _, _, h, _, _ => h.elim
  | _ :: _, [], _, _, h, _, _ => h.elim
/-- by index -/
theorem isSL.ix {s : Store} : ∀ {vs : List Val} {xs : List α} {a z : Nat}, isSL s a z vs xs → ∃ b : Nat → Nat, b 0 = a ∧ (∀ i, i < xs.length → b i ≤ b (i + 1)) ∧ b xs.length ≤ z ∧ (∀ i v x, vs[i]? = some v → xs[i]? = some x → is (out (b i) (b (i + 1))) s v x) ∧ (∀ i, i ≤ xs.length → b i ≤ z ∧ a ≤ b i)
  | [], [], a, z, h => ⟨fun _ => a, rfl, fun _ h => by simp at h, h, fun i v x h => by simp at h, fun i hi => ⟨h, Nat.le_refl _⟩⟩
  | v :: vs, x :: xs, a, z, ⟨m, h1, h2, h3⟩ => by
    obtain ⟨b, b0, b1, b2, b3, b4⟩ := h3.ix
    refine ⟨fun i => match i with | 0 => a | i + 1 => b i, rfl, ?_, b2, ?_, ?_⟩
    · intro i hi
      cases i with
      | zero =>
        show a ≤ b 0
        rw [b0]
        exact h1
      | succ i => exact b1 i (by simpa using hi)
    · intro i w y hw hy
      cases i with
      | zero =>
        simp at hw hy
        subst hw
        subst hy
        show is (out a (b 0)) s v x
        rw [b0]
        exact h2
      | succ i => exact b3 i w y (by simpa using hw) (by simpa using hy)
    · intro i hi
      cases i with
      | zero => exact ⟨Nat.le_trans h1 h3.le, Nat.le_refl _⟩
      | succ i =>
        have := b4 i (by simpa using hi)
        exact ⟨this.1, by show a ≤ b i; omega⟩
  | [], _ :: _, _, _, h => h.elim
  | _ :: _, [], _, _, h => h.elim
end

/-- each thing is new -/
theorem lc_mapS {α β : Type} [Rep α] [Rep β] {P : Prog} {C : Call} {el : E} {t : Tg} {it : E} {vs : List Nat} {e : Env} {st : Store} {Q : Val → Store → Prop} {X : Str → Val → Store → Prop}
    (h : wpx (evI P C it e st) (fun k s2 => ∃ (l : List Val) (xs : List α) (g : α → β) (K : Nat → Prop),
      k.over s2 l ∧ isL K s2 l xs ∧ xs.length ≤ line ∧
      (∀ i v x s, l[i]? = some v → xs[i]? = some x → Keep No s2 s → s2.length < s.length → is (fun r => K r ∨ s2.length ≤ r) s v x → ∃ e1, assign t (k.item i v) (wipe vs e) = some e1 ∧
        wpx (ev P C el e1 s) (fun w s' => Keep No s s' ∧ is (Old s) s' w (g x)) NoX) ∧
      (∀ s3 ws, Keep No s2 s3 → s3[s2.length]? = some ⟨.lst ws, false⟩ → isSL s3 (s2.length + 1) s3.length ws (xs.map g) → Q (.ref s2.length) s3)) X) : wpx (ev P C (.lc el t it .nil vs) e st) Q X := by
  refine lc_turns (h.mono (fun k s2 h => ?_) (fun _ _ _ h => h))
  obtain ⟨l, xs, g, K, hk, hl, hm, hs, hq⟩ := h
  refine ⟨l, fun i acc s => Keep No s2 s ∧ s[s2.length]? = some ⟨.lst acc, false⟩ ∧ acc.length = i ∧ isSL s (s2.length + 1) s.length acc ((xs.take i).map g), hk, ⟨Keep.push _ _ _, push_at _ _, rfl, by show s2.length + 1 ≤ _; simp⟩, fun i acc s h => over_old hk h.1, ?_, ?_⟩
  · rintro i v acc s hv ⟨h1, h2, h3, h4⟩ _
    obtain ⟨x, hx, hvx⟩ := hl.get hv
    obtain ⟨e1, ha, hw⟩ := hs i v x s hv hx h1 (lt_of_at h2) (Rep.frame (H := fun r => K r ∨ s2.length ≤ r) (Rep.weak hvx fun r hr h => h.elim id fun h => by omega) ⟨h1.le, fun r hr _ => h1.here r hr id⟩)
    refine ⟨e1, ha, ?_⟩
    simp only [noneE_nil, if_true, wpx_ok]
    refine hw.mono (fun w s' h => ?_) (fun _ _ _ h => h)
    obtain ⟨k1, hw⟩ := h
    have hi := getElem?_some_lt hx
    have a1 := k1.at_ h2 id
    have hlt := lt_of_at a1
    refine ⟨a1, by omega, ⟨?_, ?_⟩, set_at hlt, by simp [h3], ?_⟩
    · have := Nat.le_trans h1.le k1.le
      simpa using this
    · intro r hr _
      rw [List.getElem?_set_ne (by omega), k1.here r (Nat.lt_of_lt_of_le hr h1.le) id, h1.here r hr id]
    · rw [List.take_add_one, hx]
      simp only [Option.toList_some, List.map_append, List.map_cons, List.map_nil]
      have hlt2 := lt_of_at h2
      have c1 : isSL s' (s2.length + 1) s.length acc ((xs.take i).map g) := h4.frame k1 fun _ _ _ h => h
      have c2 : is (out s.length s'.length) s' w (g x) := Rep.weak hw fun r hr h => h.elim id fun h => by omega
      have c3 := c1.snoc k1.le c2
      have stt := Keep.set s2.length ⟨.lst (acc ++ [w]), false⟩ (fun r => r = s2.length) s' (fun _ => rfl)
      have c4 := c3.frame stt fun r h4 _ h => by omega
      simpa using c4
  · rintro acc s ⟨h1, h2, h3, h4⟩ _
    have : xs.take l.length = xs := by rw [hl.len]; simp
    rw [this] at h4
    exact hq s acc h1 h2 h4
end AM
end

section
namespace AM
open Rep (is)
open PySem (Str PyData Operator CmpOp)
variable {P : Prog}

theorem columns_w (hP : Has P "_columns" KD.d_columns) {H : Nat → Prop} {st : Store} {v : Val} {xs : List Rul} (h : is H st v xs) (hm : xs.length ≤ line) {n : Nat} (hn : 1 ≤ n) :
    wpx (callF P n "_columns" [v] st) (fun w s => Keep No st s ∧ is (Old st) s w (xs.map Rul.nm)) NoX := by
  refine callF_def hP.df (by omega) rfl ?_
  simp only [KD.d_columns, x_ret]
  refine lc_map (α := Rul) (β := Str) (wi_var rfl h fun r l hv hr ha hl => ?_)
  refine ⟨l, xs, Rul.nm, H, Old st, ⟨_, ha⟩, hl, fun r hr h => Nat.lt_irrefl _ (Nat.lt_of_lt_of_le h hr), hm, ?_, fun s3 h1 h2 => ⟨h1, h2⟩⟩
  rintro i w x s hv hx hk hlt ⟨u, rfl, hu⟩
  (simp only [e_var, e_non, e_bl, e_int, e_str, e_bin, e_neg, e_cmp, e_tup, e_lst, e_bi, e_sub, e_attr, e_bm, e_om, e_ife, sH_var, sH_int, sH_neg, sL_bin, s2_vb, l_nil, l_cons, wt_and, wt_or, wt_not, wt_cmp, wt_chn, t_bi, t_var, i_var, i_sub, i_attr, i_call, i_slc, wi_rng1, wi_rng2, c_lt, c_le, c_gt, c_ge, c_in, c_nin, wpx_ok, wpx_err, of_some, List.getElem?_cons_zero, List.getElem?_cons_succ, Option.bind_some, Option.map_some, id_eq, assign_nm, assign_tp, item_f, item_t, item_s, wipe, List.foldr_cons, List.foldr_nil, List.foldl_cons, List.foldl_nil, List.set_cons_zero, List.set_cons_succ, Option.some.injEq, exists_eq_left', x_skip, x_seq, x_asg, x_asgA, x_asgS, x_drop, x_ret, x_retN, x_ifs, x_for, startE, List.map_cons, List.map_nil, List.length_cons, List.length_nil, List.replicate_succ, List.replicate_zero, List.cons_append, List.nil_append, Nat.sub_self, Nat.zero_add, Nat.reduceAdd, Nat.reduceSub, List.zip_cons_cons, List.zip_nil_left, if_true, Bool.false_eq_true, if_false, insAt_tup, insAt_str, insAt_int, opSub_tup, atI0, atI1, atI2, atI3, Val.int.injEq])
  exact ⟨Keep.refl _ _, rfl⟩

/-- list(v) of texts -/
theorem list_w {H : Nat → Prop} {s : Store} {v : Val} {xs : List Str} {C : Call} {Q : Val → Store → Prop} {X : Str → Val → Store → Prop} (h : is H s v xs)
    (hq : ∀ s', Keep No s s' → is (Old s) s' (.ref s.length) xs → Q (.ref s.length) s') : wpx (opBiP P C "list" [v] s) Q X := by
  obtain ⟨r, hv, hn, ha⟩ := is_strs.1 h
  subst hv
  have e : opBiP P C "list" [.ref r] s = .ok (.ref s.length) (s ++ [⟨.lst (xs.map .str), false⟩]) := by
    rw [opBiP_none (by simp [insAt_lst ha]), wbi_list (l := xs.map .str) (by simp only [lstAt, ha])]
  rw [e]
  exact hq _ (Keep.push _ _ _) (is_strs.2 ⟨_, rfl, Nat.lt_irrefl _, push_at _ _⟩)
theorem old_no (s : Store) : ∀ r, s.length ≤ r → ¬ Old s r := fun r hr h => Nat.lt_irrefl _ (Nat.lt_of_lt_of_le h hr)
theorem isOld {α : Type} [Rep α] {s s1 s' : Store} {v : Val} {x : α} (h : is (Old s1) s' v x) (hk : s.length ≤ s1.length) : is (Old s) s' v x :=
  Rep.weak h fun _ _ hr => Nat.lt_of_lt_of_le hr hk
theorem isOldN {α : Type} [Rep α] {s s1 s' : Store} {v : Val} {x : α} (h : is (Old s1) s' v x) (hk : s.length < s1.length) : is (N s.length (Old s)) s' v x :=
  Rep.weak h fun r _ hr => by
    rcases hr with hr | hr
    · exact Nat.lt_trans hr hk
    · subst hr; exact hk

theorem copied_w (hP : Has P "_copied" KD.d_copied) {H : Nat → Prop} {st : Store} {v : Val} {xs : List (List Rul)} (h : is H st v xs) (hm : xs.length ≤ line) (hm2 : ∀ x ∈ xs, x.length ≤ line) {n : Nat} (hn : 1 ≤ n) :
    wpx (callF P n "_copied" [v] st) (fun w s => Keep No st s ∧ is (Old st) s w xs) NoX := by
  refine callF_def hP.df (by omega) rfl ?_
  simp only [KD.d_copied, x_ret]
  refine lc_map (α := List Rul) (β := List Rul) (wi_var rfl h fun r l hv hr ha hl => ?_)
  refine ⟨l, xs, id, H, Old st, ⟨_, ha⟩, hl, old_no _, hm, ?_, fun s3 h1 h2 => ⟨h1, by simpa using h2⟩⟩
  intro i w x s hv hx hk hlt hi
  refine ⟨_, rfl, ?_⟩
  refine lc_map (α := Rul) (β := Rul) (wi_var rfl hi fun r l hv hr ha hl => ?_)
  refine ⟨l, x, id, _, Old s, ⟨_, ha⟩, hl, old_no _, hm2 x (List.mem_of_getElem? hx), ?_, fun s3 h1 h2 => ⟨h1, by simpa using isOldN h2 hlt⟩⟩
  rintro j w y s2 hv hy hk2 hlt2 ⟨u, rfl, hu⟩
  (simp only [e_var, e_non, e_bl, e_int, e_str, e_bin, e_neg, e_cmp, e_tup, e_lst, e_bi, e_sub, e_attr, e_bm, e_om, e_ife, sH_var, sH_int, sH_neg, sL_bin, s2_vb, l_nil, l_cons, wt_and, wt_or, wt_not, wt_cmp, wt_chn, t_bi, t_var, i_var, i_sub, i_attr, i_call, i_slc, wi_rng1, wi_rng2, c_lt, c_le, c_gt, c_ge, c_in, c_nin, wpx_ok, wpx_err, of_some, List.getElem?_cons_zero, List.getElem?_cons_succ, Option.bind_some, Option.map_some, id_eq, assign_nm, assign_tp, item_f, item_t, item_s, wipe, List.foldr_cons, List.foldr_nil, List.foldl_cons, List.foldl_nil, List.set_cons_zero, List.set_cons_succ, Option.some.injEq, exists_eq_left', x_skip, x_seq, x_asg, x_asgA, x_asgS, x_drop, x_ret, x_retN, x_ifs, x_for, startE, List.map_cons, List.map_nil, List.length_cons, List.length_nil, List.replicate_succ, List.replicate_zero, List.cons_append, List.nil_append, Nat.sub_self, Nat.zero_add, Nat.reduceAdd, Nat.reduceSub, List.zip_cons_cons, List.zip_nil_left, if_true, Bool.false_eq_true, if_false, insAt_tup, insAt_str, insAt_int, opSub_tup, atI0, atI1, atI2, atI3, Val.int.injEq])
  refine list_w hu fun s' k1 h1 => ?_
  exact ⟨k1, _, rfl, isOldN h1 hlt2⟩

def letterB (c : Nat) : Bool := decide (97 ≤ c ∧ c ≤ 122)
def wordB (s : Str) : Bool := decide (1 ≤ s.length ∧ s.length ≤ 8) && s.cps.toList.all letterB
def letters : Str := "abcdefghijklmnopqrstuvwxyz"
theorem letters_list : letters.cps.toList = (List.range 26).map (97 + ·) := by decide +kernel
theorem mem_letters (c : Nat) : c ∈ letters.cps.toList ↔ letterB c = true := by
  rw [letters_list]
  simp only [List.mem_map, List.mem_range, letterB, decide_eq_true_eq]
  constructor
  · rintro ⟨k, h, rfl⟩
    omega
  · intro h
    exact ⟨c - 97, by omega, by omega⟩
structure Cons (P : Prog) : Prop where
  letters : P.cons.lookup ("LETTERS" : Str) = some (.str AM.letters)
  longest : P.cons.lookup ("LONGEST_NAME" : Str) = some (.int 8)
  held : P.cons.lookup ("HELD" : Str) = some (.tup [.str "read", .str "follows", .str "stays"])
  x1 : P.exs.contains "InvalidName" = true
  x2 : P.exs.contains "DoubleName" = true
  x3 : P.exs.contains "UnknownColumn" = true
  x4 : P.exs.contains "InvalidEdition" = true
  x5 : P.exs.contains "InvalidKind" = true
  isn : Has P "is_name" KD.d_is_name
def nameF (s : Str) : Fault := if wordB s = true then none else some ("InvalidName", .str s)

theorem is_bools {H : Nat → Prop} {s : Store} {v : Val} {xs : List Bool} (h : is H s v xs) : ∃ r, v = .ref r ∧ s[r]? = some ⟨.lst (xs.map .bl), false⟩ := by
  obtain ⟨r, vs, hv, hn, ha, hl⟩ := h
  have hl : vs = xs.map Val.bl := (all2_eq (f := Val.bl)).1 hl
  subst hl
  exact ⟨r, hv, ha⟩
/-- all(v) of truths -/
theorem all_w {H : Nat → Prop} {s : Store} {v : Val} {xs : List Bool} {C : Call} {Q : Val → Store → Prop} {X : Str → Val → Store → Prop} (h : is H s v xs)
    (hq : Q (.bl (xs.all id)) s) : wpx (opBiP P C "all" [v] s) Q X := by
  obtain ⟨r, hv, ha⟩ := is_bools h
  subst hv
  rw [opBiP_none (by simp [insAt_lst ha]), wbi_all (l := xs.map .bl) (by simp only [lstAt, ha]) (by simp [isBl])]
  have e : (xs.map Val.bl).all valBl = xs.all id := by simp [valBl, Function.comp_def]; rfl
  rw [e]
  exact hq
def signs (s : Str) : List Str := s.cps.toList.map fun c => ⟨#[c]⟩
theorem chars_signs (s : Str) : chars s = (signs s).map .str := by
  simp [chars, signs]

theorem is_name_w (hC : Cons P) {st : Store} {x : Str} (hm : x.length ≤ line) {n : Nat} (hn : 1 ≤ n) :
    wpx (callF P n "is_name" [.str x] st) (fun v s => v = .bl (wordB x) ∧ Keep No st s) NoX := by
  refine callF_def hC.isn.df (by omega) rfl ?_
  simp only [KD.d_is_name, x_ret]
  rw [e_and, e_chn]
  (simp only [e_var, e_non, e_bl, e_int, e_str, e_bin, e_neg, e_cmp, e_tup, e_lst, e_bi, e_sub, e_attr, e_bm, e_om, e_ife, sH_var, sH_int, sH_neg, sL_bin, s2_vb, l_nil, l_cons, wt_and, wt_or, wt_not, wt_cmp, wt_chn, t_bi, t_var, i_var, i_sub, i_attr, i_call, i_slc, wi_rng1, wi_rng2, c_lt, c_le, c_gt, c_ge, c_in, c_nin, wpx_ok, wpx_err, of_some, List.getElem?_cons_zero, List.getElem?_cons_succ, Option.bind_some, Option.map_some, id_eq, assign_nm, assign_tp, item_f, item_t, item_s, wipe, List.foldr_cons, List.foldr_nil, List.foldl_cons, List.foldl_nil, List.set_cons_zero, List.set_cons_succ, Option.some.injEq, exists_eq_left', x_skip, x_seq, x_asg, x_asgA, x_asgS, x_drop, x_ret, x_retN, x_ifs, x_for, startE, List.map_cons, List.map_nil, List.length_cons, List.length_nil, List.replicate_succ, List.replicate_zero, List.cons_append, List.nil_append, Nat.sub_self, Nat.zero_add, Nat.reduceAdd, Nat.reduceSub, List.zip_cons_cons, List.zip_nil_left, if_true, Bool.false_eq_true, if_false, insAt_tup, insAt_str, insAt_int, opSub_tup, atI0, atI1, atI2, atI3, Val.int.injEq])
  rw [opBiP_none rfl, bi_len_str hm]
  (simp only [e_var, e_non, e_bl, e_int, e_str, e_bin, e_neg, e_cmp, e_tup, e_lst, e_bi, e_sub, e_attr, e_bm, e_om, e_ife, sH_var, sH_int, sH_neg, sL_bin, s2_vb, l_nil, l_cons, wt_and, wt_or, wt_not, wt_cmp, wt_chn, t_bi, t_var, i_var, i_sub, i_attr, i_call, i_slc, wi_rng1, wi_rng2, c_lt, c_le, c_gt, c_ge, c_in, c_nin, wpx_ok, wpx_err, of_some, List.getElem?_cons_zero, List.getElem?_cons_succ, Option.bind_some, Option.map_some, id_eq, assign_nm, assign_tp, item_f, item_t, item_s, wipe, List.foldr_cons, List.foldr_nil, List.foldl_cons, List.foldl_nil, List.set_cons_zero, List.set_cons_succ, Option.some.injEq, exists_eq_left', x_skip, x_seq, x_asg, x_asgA, x_asgS, x_drop, x_ret, x_retN, x_ifs, x_for, startE, List.map_cons, List.map_nil, List.length_cons, List.length_nil, List.replicate_succ, List.replicate_zero, List.cons_append, List.nil_append, Nat.sub_self, Nat.zero_add, Nat.reduceAdd, Nat.reduceSub, List.zip_cons_cons, List.zip_nil_left, if_true, Bool.false_eq_true, if_false, insAt_tup, insAt_str, insAt_int, opSub_tup, atI0, atI1, atI2, atI3, Val.int.injEq])
  split
  · rename_i h1
    simp at h1
    rw [e_con hC.longest]
    (simp only [e_var, e_non, e_bl, e_int, e_str, e_bin, e_neg, e_cmp, e_tup, e_lst, e_bi, e_sub, e_attr, e_bm, e_om, e_ife, sH_var, sH_int, sH_neg, sL_bin, s2_vb, l_nil, l_cons, wt_and, wt_or, wt_not, wt_cmp, wt_chn, t_bi, t_var, i_var, i_sub, i_attr, i_call, i_slc, wi_rng1, wi_rng2, c_lt, c_le, c_gt, c_ge, c_in, c_nin, wpx_ok, wpx_err, of_some, List.getElem?_cons_zero, List.getElem?_cons_succ, Option.bind_some, Option.map_some, id_eq, assign_nm, assign_tp, item_f, item_t, item_s, wipe, List.foldr_cons, List.foldr_nil, List.foldl_cons, List.foldl_nil, List.set_cons_zero, List.set_cons_succ, Option.some.injEq, exists_eq_left', x_skip, x_seq, x_asg, x_asgA, x_asgS, x_drop, x_ret, x_retN, x_ifs, x_for, startE, List.map_cons, List.map_nil, List.length_cons, List.length_nil, List.replicate_succ, List.replicate_zero, List.cons_append, List.nil_append, Nat.sub_self, Nat.zero_add, Nat.reduceAdd, Nat.reduceSub, List.zip_cons_cons, List.zip_nil_left, if_true, Bool.false_eq_true, if_false, insAt_tup, insAt_str, insAt_int, opSub_tup, atI0, atI1, atI2, atI3, Val.int.injEq])
    by_cases h2 : x.length ≤ 8
    · refine .inl ⟨by simp; omega, ?_⟩
      refine lc_map (α := Str) (β := Bool) ?_
      (simp only [e_var, e_non, e_bl, e_int, e_str, e_bin, e_neg, e_cmp, e_tup, e_lst, e_bi, e_sub, e_attr, e_bm, e_om, e_ife, sH_var, sH_int, sH_neg, sL_bin, s2_vb, l_nil, l_cons, wt_and, wt_or, wt_not, wt_cmp, wt_chn, t_bi, t_var, i_var, i_sub, i_attr, i_call, i_slc, wi_rng1, wi_rng2, c_lt, c_le, c_gt, c_ge, c_in, c_nin, wpx_ok, wpx_err, of_some, List.getElem?_cons_zero, List.getElem?_cons_succ, Option.bind_some, Option.map_some, id_eq, assign_nm, assign_tp, item_f, item_t, item_s, wipe, List.foldr_cons, List.foldr_nil, List.foldl_cons, List.foldl_nil, List.set_cons_zero, List.set_cons_succ, Option.some.injEq, exists_eq_left', x_skip, x_seq, x_asg, x_asgA, x_asgS, x_drop, x_ret, x_retN, x_ifs, x_for, startE, List.map_cons, List.map_nil, List.length_cons, List.length_nil, List.replicate_succ, List.replicate_zero, List.cons_append, List.nil_append, Nat.sub_self, Nat.zero_add, Nat.reduceAdd, Nat.reduceSub, List.zip_cons_cons, List.zip_nil_left, if_true, Bool.false_eq_true, if_false, insAt_tup, insAt_str, insAt_int, opSub_tup, atI0, atI1, atI2, atI3, Val.int.injEq])
      simp only [iterV, of_some, wpx_ok]
      refine ⟨_, signs x, fun z => letterB (z.cps.getD 0 0), No, Old st, rfl, ?_, old_no _, by simpa [signs, Str.length] using hm, ?_, fun s3 k1 h3 => ?_⟩
      · rw [chars_signs]
        exact (all2_eq (f := Val.str)).2 rfl
      · rintro i v z s hv hz hk hlt rfl
        (simp only [e_var, e_non, e_bl, e_int, e_str, e_bin, e_neg, e_cmp, e_tup, e_lst, e_bi, e_sub, e_attr, e_bm, e_om, e_ife, sH_var, sH_int, sH_neg, sL_bin, s2_vb, l_nil, l_cons, wt_and, wt_or, wt_not, wt_cmp, wt_chn, t_bi, t_var, i_var, i_sub, i_attr, i_call, i_slc, wi_rng1, wi_rng2, c_lt, c_le, c_gt, c_ge, c_in, c_nin, wpx_ok, wpx_err, of_some, List.getElem?_cons_zero, List.getElem?_cons_succ, Option.bind_some, Option.map_some, id_eq, assign_nm, assign_tp, item_f, item_t, item_s, wipe, List.foldr_cons, List.foldr_nil, List.foldl_cons, List.foldl_nil, List.set_cons_zero, List.set_cons_succ, Option.some.injEq, exists_eq_left', x_skip, x_seq, x_asg, x_asgA, x_asgS, x_drop, x_ret, x_retN, x_ifs, x_for, startE, List.map_cons, List.map_nil, List.length_cons, List.length_nil, List.replicate_succ, List.replicate_zero, List.cons_append, List.nil_append, Nat.sub_self, Nat.zero_add, Nat.reduceAdd, Nat.reduceSub, List.zip_cons_cons, List.zip_nil_left, if_true, Bool.false_eq_true, if_false, insAt_tup, insAt_str, insAt_int, opSub_tup, atI0, atI1, atI2, atI3, Val.int.injEq])
        rw [e_con hC.letters]
        have hz1 : z.length = 1 := by
          have := List.mem_of_getElem? hz
          simp only [signs, List.mem_map] at this
          obtain ⟨c, _, rfl⟩ := this
          rfl
        simp only [opIn, hz1, if_true, mem_letters, Option.some.injEq, exists_eq_left']
        exact ⟨Keep.refl _ _, by show Val.bl _ = Val.bl _; simp⟩
      · refine all_w h3 ?_
        have e : ((signs x).map fun z => letterB (z.cps.getD 0 0)).all id = x.cps.toList.all letterB := by
          simp [signs, Function.comp_def]
        rw [e]
        have hw : wordB x = x.cps.toList.all letterB := by
          have h5 : 1 ≤ x.length ∧ x.length ≤ 8 := by omega
          simp only [wordB, h5, and_self, decide_true, Bool.true_and]
        exact ⟨by rw [hw], k1⟩
    · refine .inr ⟨by simp; omega, ?_, Keep.refl _ _⟩
      simp [wordB]; omega
  · rename_i h1
    simp at h1
    refine .inr ⟨trivial, ?_, Keep.refl _ _⟩
    simp [wordB]; omega
theorem check_name_w (hP : Has P "_check_name" KD.d_check_name) (hC : Cons P) {st : Store} {x : Str} (hm : x.length ≤ line) {n : Nat} (hn : 2 ≤ n) :
    wpx (callF P n "_check_name" [.str x] st) (fun v s => v = .non ∧ Keep No st s ∧ nameF x = none) (fun c v s => Keep No st s ∧ nameF x = some (c, v)) := by
  refine callF_def hP.df (by omega) rfl ?_
  simp only [KD.d_check_name, x_ifs, wt_not, t_call hC.isn]
  (simp only [e_var, e_non, e_bl, e_int, e_str, e_bin, e_neg, e_cmp, e_tup, e_lst, e_bi, e_sub, e_attr, e_bm, e_om, e_ife, sH_var, sH_int, sH_neg, sL_bin, s2_vb, l_nil, l_cons, wt_and, wt_or, wt_not, wt_cmp, wt_chn, t_bi, t_var, i_var, i_sub, i_attr, i_call, i_slc, wi_rng1, wi_rng2, c_lt, c_le, c_gt, c_ge, c_in, c_nin, wpx_ok, wpx_err, of_some, List.getElem?_cons_zero, List.getElem?_cons_succ, Option.bind_some, Option.map_some, id_eq, assign_nm, assign_tp, item_f, item_t, item_s, wipe, List.foldr_cons, List.foldr_nil, List.foldl_cons, List.foldl_nil, List.set_cons_zero, List.set_cons_succ, Option.some.injEq, exists_eq_left', x_skip, x_seq, x_asg, x_asgA, x_asgS, x_drop, x_ret, x_retN, x_ifs, x_for, startE, List.map_cons, List.map_nil, List.length_cons, List.length_nil, List.replicate_succ, List.replicate_zero, List.cons_append, List.nil_append, Nat.sub_self, Nat.zero_add, Nat.reduceAdd, Nat.reduceSub, List.zip_cons_cons, List.zip_nil_left, if_true, Bool.false_eq_true, if_false, insAt_tup, insAt_str, insAt_int, opSub_tup, atI0, atI1, atI2, atI3, Val.int.injEq])
  refine (is_name_w hC hm (by omega)).to ?_
  rintro _ s ⟨rfl, k⟩
  simp only [truthy, of_some, wpx_ok]
  simp only [x_rais _ _ _ _ _ _ hC.x1]
  split
  · rename_i h
    (simp only [e_var, e_non, e_bl, e_int, e_str, e_bin, e_neg, e_cmp, e_tup, e_lst, e_bi, e_sub, e_attr, e_bm, e_om, e_ife, sH_var, sH_int, sH_neg, sL_bin, s2_vb, l_nil, l_cons, wt_and, wt_or, wt_not, wt_cmp, wt_chn, t_bi, t_var, i_var, i_sub, i_attr, i_call, i_slc, wi_rng1, wi_rng2, c_lt, c_le, c_gt, c_ge, c_in, c_nin, wpx_ok, wpx_err, of_some, List.getElem?_cons_zero, List.getElem?_cons_succ, Option.bind_some, Option.map_some, id_eq, assign_nm, assign_tp, item_f, item_t, item_s, wipe, List.foldr_cons, List.foldr_nil, List.foldl_cons, List.foldl_nil, List.set_cons_zero, List.set_cons_succ, Option.some.injEq, exists_eq_left', x_skip, x_seq, x_asg, x_asgA, x_asgS, x_drop, x_ret, x_retN, x_ifs, x_for, startE, List.map_cons, List.map_nil, List.length_cons, List.length_nil, List.replicate_succ, List.replicate_zero, List.cons_append, List.nil_append, Nat.sub_self, Nat.zero_add, Nat.reduceAdd, Nat.reduceSub, List.zip_cons_cons, List.zip_nil_left, if_true, Bool.false_eq_true, if_false, insAt_tup, insAt_str, insAt_int, opSub_tup, atI0, atI1, atI2, atI3, Val.int.injEq])
    exact ⟨_, rfl, k, by simp at h; simp [nameF, h]⟩
  · rename_i h
    exact ⟨trivial, k, by simp at h; simp [nameF, h]⟩
def plainF1 (xs : List Str) (i : Nat) : Fault := (nameF (xs.getD i "")).or (if xs.getD i "" ∈ xs.take i then some ("DoubleName", .str (xs.getD i "")) else none)
def plainF (xs : List Str) : Fault := firstF (plainF1 xs) xs.length
theorem check_plain_w (hP : Has P "_check_plain" KD.d_check_plain) (hN : Has P "_check_name" KD.d_check_name) (hC : Cons P) {H : Nat → Prop} {st : Store} {v : Val} {xs : List Str} (h : is H st v xs) (ho : OkS xs) (hl : ∀ x ∈ xs, x.length ≤ line) {n : Nat} (hn : 3 ≤ n) :
    wpx (callF P n "_check_plain" [v] st) (fun v s => v = .non ∧ Keep No st s ∧ plainF xs = none) (fun c v s => Keep No st s ∧ plainF xs = some (c, v)) := by
  refine callF_def hP.df (by omega) rfl ?_
  simp only [KD.d_check_plain, x_for]
  refine wi_enu rfl h fun r l hv hr ha hl' => ?_
  refine goes_rule (l := l) (fun i e s => Keep No st s ∧ (∃ a b, e = { s := [some v, a, b] }) ∧ firstF (plainF1 xs) i = none) ⟨Keep.refl _ _, ⟨_, _, rfl⟩, rfl⟩ ?_ ?_ ?_
  · rintro i e s ⟨k, _⟩
    exact ⟨_, k.at_ ha id⟩
  · rintro i w e s hw ⟨k, ⟨a, b, rfl⟩, hf⟩
    obtain ⟨x, hx, rfl⟩ := hl'.get hw
    have hg : xs.getD i "" = x := by simp [hx]
    have hi := getElem?_some_lt hx
    refine ⟨_, rfl, ?_⟩
    (simp only [e_var, e_non, e_bl, e_int, e_str, e_bin, e_neg, e_cmp, e_tup, e_lst, e_bi, e_sub, e_attr, e_bm, e_om, e_ife, sH_var, sH_int, sH_neg, sL_bin, s2_vb, l_nil, l_cons, wt_and, wt_or, wt_not, wt_cmp, wt_chn, t_bi, t_var, i_var, i_sub, i_attr, i_call, i_slc, wi_rng1, wi_rng2, c_lt, c_le, c_gt, c_ge, c_in, c_nin, wpx_ok, wpx_err, of_some, List.getElem?_cons_zero, List.getElem?_cons_succ, Option.bind_some, Option.map_some, id_eq, assign_nm, assign_tp, item_f, item_t, item_s, wipe, List.foldr_cons, List.foldr_nil, List.foldl_cons, List.foldl_nil, List.set_cons_zero, List.set_cons_succ, Option.some.injEq, exists_eq_left', x_skip, x_seq, x_asg, x_asgA, x_asgS, x_drop, x_ret, x_retN, x_ifs, x_for, startE, List.map_cons, List.map_nil, List.length_cons, List.length_nil, List.replicate_succ, List.replicate_zero, List.cons_append, List.nil_append, Nat.sub_self, Nat.zero_add, Nat.reduceAdd, Nat.reduceSub, List.zip_cons_cons, List.zip_nil_left, if_true, Bool.false_eq_true, if_false, insAt_tup, insAt_str, insAt_int, opSub_tup, atI0, atI1, atI2, atI3, Val.int.injEq])
    rw [e_call hN]
    (simp only [e_var, e_non, e_bl, e_int, e_str, e_bin, e_neg, e_cmp, e_tup, e_lst, e_bi, e_sub, e_attr, e_bm, e_om, e_ife, sH_var, sH_int, sH_neg, sL_bin, s2_vb, l_nil, l_cons, wt_and, wt_or, wt_not, wt_cmp, wt_chn, t_bi, t_var, i_var, i_sub, i_attr, i_call, i_slc, wi_rng1, wi_rng2, c_lt, c_le, c_gt, c_ge, c_in, c_nin, wpx_ok, wpx_err, of_some, List.getElem?_cons_zero, List.getElem?_cons_succ, Option.bind_some, Option.map_some, id_eq, assign_nm, assign_tp, item_f, item_t, item_s, wipe, List.foldr_cons, List.foldr_nil, List.foldl_cons, List.foldl_nil, List.set_cons_zero, List.set_cons_succ, Option.some.injEq, exists_eq_left', x_skip, x_seq, x_asg, x_asgA, x_asgS, x_drop, x_ret, x_retN, x_ifs, x_for, startE, List.map_cons, List.map_nil, List.length_cons, List.length_nil, List.replicate_succ, List.replicate_zero, List.cons_append, List.nil_append, Nat.sub_self, Nat.zero_add, Nat.reduceAdd, Nat.reduceSub, List.zip_cons_cons, List.zip_nil_left, if_true, Bool.false_eq_true, if_false, insAt_tup, insAt_str, insAt_int, opSub_tup, atI0, atI1, atI2, atI3, Val.int.injEq])
    refine (check_name_w hN hC (hl x (List.mem_of_getElem? hx)) (by omega)).mono ?_ ?_
    · rintro _ s1 ⟨rfl, k1, n1⟩
      refine slc_to_w (Rep.frame h (k.tr k1 |>.weak fun _ _ h => h.elim)) fun s2 k2 h2 => ?_
      rw [in_strs h2 (fun y hy => ho y (List.mem_of_mem_take hy)) (ho x (List.mem_of_getElem? hx))]
      refine ⟨_, rfl, ?_⟩
      split
      · rename_i hd
        simp only [x_rais _ _ _ _ _ _ hC.x2]
        (simp only [e_var, e_non, e_bl, e_int, e_str, e_bin, e_neg, e_cmp, e_tup, e_lst, e_bi, e_sub, e_attr, e_bm, e_om, e_ife, sH_var, sH_int, sH_neg, sL_bin, s2_vb, l_nil, l_cons, wt_and, wt_or, wt_not, wt_cmp, wt_chn, t_bi, t_var, i_var, i_sub, i_attr, i_call, i_slc, wi_rng1, wi_rng2, c_lt, c_le, c_gt, c_ge, c_in, c_nin, wpx_ok, wpx_err, of_some, List.getElem?_cons_zero, List.getElem?_cons_succ, Option.bind_some, Option.map_some, id_eq, assign_nm, assign_tp, item_f, item_t, item_s, wipe, List.foldr_cons, List.foldr_nil, List.foldl_cons, List.foldl_nil, List.set_cons_zero, List.set_cons_succ, Option.some.injEq, exists_eq_left', x_skip, x_seq, x_asg, x_asgA, x_asgS, x_drop, x_ret, x_retN, x_ifs, x_for, startE, List.map_cons, List.map_nil, List.length_cons, List.length_nil, List.replicate_succ, List.replicate_zero, List.cons_append, List.nil_append, Nat.sub_self, Nat.zero_add, Nat.reduceAdd, Nat.reduceSub, List.zip_cons_cons, List.zip_nil_left, if_true, Bool.false_eq_true, if_false, insAt_tup, insAt_str, insAt_int, opSub_tup, atI0, atI1, atI2, atI3, Val.int.injEq])
        refine ⟨_, rfl, (k.tr k1).tr k2, firstF_hit hf hi ?_⟩
        simp only [plainF1, hg, n1, Option.none_or]
        rw [if_pos (by simpa using hd)]
      · rename_i hd
        refine ⟨(k.tr k1).tr k2, ⟨_, _, rfl⟩, ?_⟩
        rw [firstF_succ, hf]
        simp only [plainF1, hg, n1, Option.none_or]
        rw [if_neg (by simpa using hd)]
    · rintro c w s1 ⟨k1, n1⟩
      exact ⟨k.tr k1, firstF_hit hf hi (by simp only [plainF1, hg, n1, Option.some_or])⟩
  · rintro e s ⟨k, _, hf⟩
    refine ⟨trivial, k, ?_⟩
    rw [hl'.len] at hf
    exact hf
abbrev flt (c x : Str) : Str × Val := (c, .str x)
def sourcesF1 (ah xs : List Str) (i : Nat) : Fault := (if xs.getD i "" ∈ ah then none else some (flt "UnknownColumn" (xs.getD i ""))).or (if xs.getD i "" ∈ xs.take i then some (flt "DoubleName" (xs.getD i "")) else none)
def sourcesF (ah xs : List Str) : Fault := firstF (sourcesF1 ah xs) xs.length
theorem check_sources_w (hP : Has P "_check_sources" KD.d_check_sources) (hC : Cons P) {H H2 : Nat → Prop} {st : Store} {u v : Val} {ah xs : List Str} (ha : is H2 st u ah) (hoa : OkS ah) (h : is H st v xs) (ho : OkS xs) {n : Nat} (hn : 1 ≤ n) :
    wpx (callF P n "_check_sources" [u, v] st) (fun v s => v = .non ∧ Keep No st s ∧ sourcesF ah xs = none) (fun c v s => Keep No st s ∧ sourcesF ah xs = some (c, v)) := by
  refine callF_def hP.df (by omega) rfl ?_
  simp only [KD.d_check_sources, x_for]
  refine wi_enu rfl h fun r l hv hr hat hl' => ?_
  refine goes_rule (l := l) (fun i e s => Keep No st s ∧ (∃ a b, e = { s := [some u, some v, a, b] }) ∧ firstF (sourcesF1 ah xs) i = none) ⟨Keep.refl _ _, ⟨_, _, rfl⟩, rfl⟩ ?_ ?_ ?_
  · rintro i e s ⟨k, _⟩
    exact ⟨_, k.at_ hat id⟩
  · rintro i w e s hw ⟨k, ⟨a, b, rfl⟩, hf⟩
    obtain ⟨x, hx, rfl⟩ := hl'.get hw
    have hg : xs.getD i "" = x := by simp [hx]
    have hi := getElem?_some_lt hx
    have hox := ho x (List.mem_of_getElem? hx)
    refine ⟨_, rfl, ?_⟩
    (simp only [e_var, e_non, e_bl, e_int, e_str, e_bin, e_neg, e_cmp, e_tup, e_lst, e_bi, e_sub, e_attr, e_bm, e_om, e_ife, sH_var, sH_int, sH_neg, sL_bin, s2_vb, l_nil, l_cons, wt_and, wt_or, wt_not, wt_cmp, wt_chn, t_bi, t_var, i_var, i_sub, i_attr, i_call, i_slc, wi_rng1, wi_rng2, c_lt, c_le, c_gt, c_ge, c_in, c_nin, wpx_ok, wpx_err, of_some, List.getElem?_cons_zero, List.getElem?_cons_succ, Option.bind_some, Option.map_some, id_eq, assign_nm, assign_tp, item_f, item_t, item_s, wipe, List.foldr_cons, List.foldr_nil, List.foldl_cons, List.foldl_nil, List.set_cons_zero, List.set_cons_succ, Option.some.injEq, exists_eq_left', x_skip, x_seq, x_asg, x_asgA, x_asgS, x_drop, x_ret, x_retN, x_ifs, x_for, startE, List.map_cons, List.map_nil, List.length_cons, List.length_nil, List.replicate_succ, List.replicate_zero, List.cons_append, List.nil_append, Nat.sub_self, Nat.zero_add, Nat.reduceAdd, Nat.reduceSub, List.zip_cons_cons, List.zip_nil_left, if_true, Bool.false_eq_true, if_false, insAt_tup, insAt_str, insAt_int, opSub_tup, atI0, atI1, atI2, atI3, Val.int.injEq])
    rw [in_strs (Rep.frame ha (k.weak fun _ _ h => h.elim)) hoa hox]
    simp only [Option.map_some, Option.some.injEq, exists_eq_left']
    split
    · rename_i hd
      simp only [x_rais _ _ _ _ _ _ hC.x3]
      (simp only [e_var, e_non, e_bl, e_int, e_str, e_bin, e_neg, e_cmp, e_tup, e_lst, e_bi, e_sub, e_attr, e_bm, e_om, e_ife, sH_var, sH_int, sH_neg, sL_bin, s2_vb, l_nil, l_cons, wt_and, wt_or, wt_not, wt_cmp, wt_chn, t_bi, t_var, i_var, i_sub, i_attr, i_call, i_slc, wi_rng1, wi_rng2, c_lt, c_le, c_gt, c_ge, c_in, c_nin, wpx_ok, wpx_err, of_some, List.getElem?_cons_zero, List.getElem?_cons_succ, Option.bind_some, Option.map_some, id_eq, assign_nm, assign_tp, item_f, item_t, item_s, wipe, List.foldr_cons, List.foldr_nil, List.foldl_cons, List.foldl_nil, List.set_cons_zero, List.set_cons_succ, Option.some.injEq, exists_eq_left', x_skip, x_seq, x_asg, x_asgA, x_asgS, x_drop, x_ret, x_retN, x_ifs, x_for, startE, List.map_cons, List.map_nil, List.length_cons, List.length_nil, List.replicate_succ, List.replicate_zero, List.cons_append, List.nil_append, Nat.sub_self, Nat.zero_add, Nat.reduceAdd, Nat.reduceSub, List.zip_cons_cons, List.zip_nil_left, if_true, Bool.false_eq_true, if_false, insAt_tup, insAt_str, insAt_int, opSub_tup, atI0, atI1, atI2, atI3, Val.int.injEq])
      refine ⟨_, rfl, k, firstF_hit hf hi ?_⟩
      simp only [sourcesF1, hg]
      rw [if_neg (by simpa using hd)]
      rfl
    · rename_i hd
      refine slc_to_w (Rep.frame h (k.weak fun _ _ h => h.elim)) fun s2 k2 h2 => ?_
      rw [in_strs h2 (fun y hy => ho y (List.mem_of_mem_take hy)) hox]
      refine ⟨_, rfl, ?_⟩
      split
      · rename_i hd2
        simp only [x_rais _ _ _ _ _ _ hC.x2]
        (simp only [e_var, e_non, e_bl, e_int, e_str, e_bin, e_neg, e_cmp, e_tup, e_lst, e_bi, e_sub, e_attr, e_bm, e_om, e_ife, sH_var, sH_int, sH_neg, sL_bin, s2_vb, l_nil, l_cons, wt_and, wt_or, wt_not, wt_cmp, wt_chn, t_bi, t_var, i_var, i_sub, i_attr, i_call, i_slc, wi_rng1, wi_rng2, c_lt, c_le, c_gt, c_ge, c_in, c_nin, wpx_ok, wpx_err, of_some, List.getElem?_cons_zero, List.getElem?_cons_succ, Option.bind_some, Option.map_some, id_eq, assign_nm, assign_tp, item_f, item_t, item_s, wipe, List.foldr_cons, List.foldr_nil, List.foldl_cons, List.foldl_nil, List.set_cons_zero, List.set_cons_succ, Option.some.injEq, exists_eq_left', x_skip, x_seq, x_asg, x_asgA, x_asgS, x_drop, x_ret, x_retN, x_ifs, x_for, startE, List.map_cons, List.map_nil, List.length_cons, List.length_nil, List.replicate_succ, List.replicate_zero, List.cons_append, List.nil_append, Nat.sub_self, Nat.zero_add, Nat.reduceAdd, Nat.reduceSub, List.zip_cons_cons, List.zip_nil_left, if_true, Bool.false_eq_true, if_false, insAt_tup, insAt_str, insAt_int, opSub_tup, atI0, atI1, atI2, atI3, Val.int.injEq])
        refine ⟨_, rfl, k.tr k2, firstF_hit hf hi ?_⟩
        simp only [sourcesF1, hg]
        rw [if_pos (by simpa using hd), if_pos (by simpa using hd2)]
        rfl
      · rename_i hd2
        refine ⟨k.tr k2, ⟨_, _, rfl⟩, ?_⟩
        rw [firstF_succ, hf]
        simp only [sourcesF1, hg]
        rw [if_pos (by simpa using hd), if_neg (by simpa using hd2)]
        rfl
  · rintro e s ⟨k, _, hf⟩
    refine ⟨trivial, k, ?_⟩
    rw [hl'.len] at hf
    exact hf

/-- texts that fit -/
structure OkR (x : Rul) : Prop where
  nm : PyData.canLay0 (.str x.nm) = true
  hd : PyData.canLay0 (.str x.hd) = true
  src : OkS x.src
  lnm : x.nm.length ≤ line
  lfm : x.fm.length ≤ line
def heldL : List Str := ["read", "follows", "stays"]
def ruleF (ah : List Str) (x : Rul) : Fault :=
  (nameF x.nm).or ((nameF x.fm).or ((if x.nm ∈ ah then some (flt "DoubleName" x.nm) else none).or ((sourcesF ah x.src).or (if x.hd ∈ heldL then none else some (flt "InvalidKind" x.hd)))))
def editionF1 (pl : List Str) (xs : List Rul) (i : Nat) : Fault := match xs[i]? with
  | some x => ruleF (pl ++ (xs.take i).map Rul.nm) x
  | none => none
def editionF (pl : List Str) (xs : List Rul) : Fault := firstF (editionF1 pl xs) xs.length

theorem in_tup (s : Store) (x : Str) (l : List Str) : opIn s (.str x) (.tup (l.map .str)) = some (decide (x ∈ l)) := by
  have e1 : (l.map Val.str).all isFlat = true := by simp [isFlat]
  have e2 : ((l.map Val.str).any fun z => flatEq z (.str x)) = decide (x ∈ l) := by
    rw [List.any_map, Bool.eq_iff_iff]
    simp [Function.comp_def, flatEq]
  simp only [opIn, isFlat, e1, e2, Bool.and_self, if_true]

theorem check_edition_w (hP : Has P "_check_edition" KD.d_check_edition) (hN : Has P "_check_name" KD.d_check_name) (hS : Has P "_check_sources" KD.d_check_sources) (hC : Cons P) {H H2 : Nat → Prop} {st : Store} {u v : Val} {pl : List Str} {xs : List Rul} (ha : is H2 st u pl) (hoa : OkS pl) (h : is H st v xs) (ho : ∀ x ∈ xs, OkR x) (hm : pl.length + xs.length ≤ line) {n : Nat} (hn : 3 ≤ n) :
    wpx (callF P n "_check_edition" [u, v] st) (fun v s => v = .non ∧ Keep No st s ∧ editionF pl xs = none) (fun c v s => Keep No st s ∧ editionF pl xs = some (c, v)) := by
  refine callF_def hP.df (by omega) rfl ?_
  simp only [KD.d_check_edition]
  (simp only [e_var, e_non, e_bl, e_int, e_str, e_bin, e_neg, e_cmp, e_tup, e_lst, e_bi, e_sub, e_attr, e_bm, e_om, e_ife, sH_var, sH_int, sH_neg, sL_bin, s2_vb, l_nil, l_cons, wt_and, wt_or, wt_not, wt_cmp, wt_chn, t_bi, t_var, i_var, i_sub, i_attr, i_call, i_slc, wi_rng1, wi_rng2, c_lt, c_le, c_gt, c_ge, c_in, c_nin, wpx_ok, wpx_err, of_some, List.getElem?_cons_zero, List.getElem?_cons_succ, Option.bind_some, Option.map_some, id_eq, assign_nm, assign_tp, item_f, item_t, item_s, wipe, List.foldr_cons, List.foldr_nil, List.foldl_cons, List.foldl_nil, List.set_cons_zero, List.set_cons_succ, Option.some.injEq, exists_eq_left', x_skip, x_seq, x_asg, x_asgA, x_asgS, x_drop, x_ret, x_retN, x_ifs, x_for, startE, List.map_cons, List.map_nil, List.length_cons, List.length_nil, List.replicate_succ, List.replicate_zero, List.cons_append, List.nil_append, Nat.sub_self, Nat.zero_add, Nat.reduceAdd, Nat.reduceSub, List.zip_cons_cons, List.zip_nil_left, if_true, Bool.false_eq_true, if_false, insAt_tup, insAt_str, insAt_int, opSub_tup, atI0, atI1, atI2, atI3, Val.int.injEq])
  refine list_w ha fun s0 k0 h0 => ?_
  refine w_iterK h k0 fun r l hv hr hat hl' => ?_
  refine goes_rule (l := l) (fun i e s => Keep No st s ∧ is (Old st) s (.ref st.length) (pl ++ (xs.take i).map Rul.nm) ∧ (∃ a b c d, e = { s := [some u, some v, some (.ref st.length), a, b, c, d] }) ∧ firstF (editionF1 pl xs) i = none) ⟨k0, by simpa using h0, ⟨_, _, _, _, rfl⟩, rfl⟩ ?_ ?_ ?_
  · rintro i e s ⟨k, _⟩
    exact ⟨_, k.at_ hat id⟩
  · rintro i w e s hw ⟨k, hah, ⟨a, b, c, d, rfl⟩, hf⟩
    obtain ⟨x, hx, hwx⟩ := hl'.get hw
    have hi := getElem?_some_lt hx
    have hox := ho x (List.mem_of_getElem? hx)
    have hF : editionF1 pl xs i = ruleF (pl ++ (xs.take i).map Rul.nm) x := by simp only [editionF1, hx]
    obtain ⟨z, rfl, hz⟩ := Rep.frame (H := H) hwx (k.weak fun _ _ h => h.elim)
    refine ⟨_, rfl, ?_⟩
    have hoah : OkS (pl ++ (xs.take i).map Rul.nm) := by
      intro y hy
      rcases List.mem_append.1 hy with hy | hy
      · exact hoa y hy
      · obtain ⟨q, hq, rfl⟩ := List.mem_map.1 hy
        exact (ho q (List.mem_of_mem_take hq)).nm
    (simp only [e_var, e_non, e_bl, e_int, e_str, e_bin, e_neg, e_cmp, e_tup, e_lst, e_bi, e_sub, e_attr, e_bm, e_om, e_ife, sH_var, sH_int, sH_neg, sL_bin, s2_vb, l_nil, l_cons, wt_and, wt_or, wt_not, wt_cmp, wt_chn, t_bi, t_var, i_var, i_sub, i_attr, i_call, i_slc, wi_rng1, wi_rng2, c_lt, c_le, c_gt, c_ge, c_in, c_nin, wpx_ok, wpx_err, of_some, List.getElem?_cons_zero, List.getElem?_cons_succ, Option.bind_some, Option.map_some, id_eq, assign_nm, assign_tp, item_f, item_t, item_s, wipe, List.foldr_cons, List.foldr_nil, List.foldl_cons, List.foldl_nil, List.set_cons_zero, List.set_cons_succ, Option.some.injEq, exists_eq_left', x_skip, x_seq, x_asg, x_asgA, x_asgS, x_drop, x_ret, x_retN, x_ifs, x_for, startE, List.map_cons, List.map_nil, List.length_cons, List.length_nil, List.replicate_succ, List.replicate_zero, List.cons_append, List.nil_append, Nat.sub_self, Nat.zero_add, Nat.reduceAdd, Nat.reduceSub, List.zip_cons_cons, List.zip_nil_left, if_true, Bool.false_eq_true, if_false, insAt_tup, insAt_str, insAt_int, opSub_tup, atI0, atI1, atI2, atI3, Val.int.injEq])
    rw [e_call hN]
    (simp only [e_var, e_non, e_bl, e_int, e_str, e_bin, e_neg, e_cmp, e_tup, e_lst, e_bi, e_sub, e_attr, e_bm, e_om, e_ife, sH_var, sH_int, sH_neg, sL_bin, s2_vb, l_nil, l_cons, wt_and, wt_or, wt_not, wt_cmp, wt_chn, t_bi, t_var, i_var, i_sub, i_attr, i_call, i_slc, wi_rng1, wi_rng2, c_lt, c_le, c_gt, c_ge, c_in, c_nin, wpx_ok, wpx_err, of_some, List.getElem?_cons_zero, List.getElem?_cons_succ, Option.bind_some, Option.map_some, id_eq, assign_nm, assign_tp, item_f, item_t, item_s, wipe, List.foldr_cons, List.foldr_nil, List.foldl_cons, List.foldl_nil, List.set_cons_zero, List.set_cons_succ, Option.some.injEq, exists_eq_left', x_skip, x_seq, x_asg, x_asgA, x_asgS, x_drop, x_ret, x_retN, x_ifs, x_for, startE, List.map_cons, List.map_nil, List.length_cons, List.length_nil, List.replicate_succ, List.replicate_zero, List.cons_append, List.nil_append, Nat.sub_self, Nat.zero_add, Nat.reduceAdd, Nat.reduceSub, List.zip_cons_cons, List.zip_nil_left, if_true, Bool.false_eq_true, if_false, insAt_tup, insAt_str, insAt_int, opSub_tup, atI0, atI1, atI2, atI3, Val.int.injEq])
    refine (check_name_w hN hC hox.lnm (by omega)).mono ?_ ?_
    · rintro _ s1 ⟨rfl, k1, n1⟩
      rw [e_call hN]
      (simp only [e_var, e_non, e_bl, e_int, e_str, e_bin, e_neg, e_cmp, e_tup, e_lst, e_bi, e_sub, e_attr, e_bm, e_om, e_ife, sH_var, sH_int, sH_neg, sL_bin, s2_vb, l_nil, l_cons, wt_and, wt_or, wt_not, wt_cmp, wt_chn, t_bi, t_var, i_var, i_sub, i_attr, i_call, i_slc, wi_rng1, wi_rng2, c_lt, c_le, c_gt, c_ge, c_in, c_nin, wpx_ok, wpx_err, of_some, List.getElem?_cons_zero, List.getElem?_cons_succ, Option.bind_some, Option.map_some, id_eq, assign_nm, assign_tp, item_f, item_t, item_s, wipe, List.foldr_cons, List.foldr_nil, List.foldl_cons, List.foldl_nil, List.set_cons_zero, List.set_cons_succ, Option.some.injEq, exists_eq_left', x_skip, x_seq, x_asg, x_asgA, x_asgS, x_drop, x_ret, x_retN, x_ifs, x_for, startE, List.map_cons, List.map_nil, List.length_cons, List.length_nil, List.replicate_succ, List.replicate_zero, List.cons_append, List.nil_append, Nat.sub_self, Nat.zero_add, Nat.reduceAdd, Nat.reduceSub, List.zip_cons_cons, List.zip_nil_left, if_true, Bool.false_eq_true, if_false, insAt_tup, insAt_str, insAt_int, opSub_tup, atI0, atI1, atI2, atI3, Val.int.injEq])
      refine (check_name_w hN hC hox.lfm (by omega)).mono ?_ ?_
      · rintro _ s2 ⟨rfl, k2, n2⟩
        have k12 := k1.tr k2
        have hah2 := Rep.frame hah (k12.weak fun _ _ h => h.elim)
        rw [in_strs hah2 hoah hox.nm]
        refine ⟨_, rfl, ?_⟩
        split
        · rename_i hd
          simp only [x_rais _ _ _ _ _ _ hC.x2]
          (simp only [e_var, e_non, e_bl, e_int, e_str, e_bin, e_neg, e_cmp, e_tup, e_lst, e_bi, e_sub, e_attr, e_bm, e_om, e_ife, sH_var, sH_int, sH_neg, sL_bin, s2_vb, l_nil, l_cons, wt_and, wt_or, wt_not, wt_cmp, wt_chn, t_bi, t_var, i_var, i_sub, i_attr, i_call, i_slc, wi_rng1, wi_rng2, c_lt, c_le, c_gt, c_ge, c_in, c_nin, wpx_ok, wpx_err, of_some, List.getElem?_cons_zero, List.getElem?_cons_succ, Option.bind_some, Option.map_some, id_eq, assign_nm, assign_tp, item_f, item_t, item_s, wipe, List.foldr_cons, List.foldr_nil, List.foldl_cons, List.foldl_nil, List.set_cons_zero, List.set_cons_succ, Option.some.injEq, exists_eq_left', x_skip, x_seq, x_asg, x_asgA, x_asgS, x_drop, x_ret, x_retN, x_ifs, x_for, startE, List.map_cons, List.map_nil, List.length_cons, List.length_nil, List.replicate_succ, List.replicate_zero, List.cons_append, List.nil_append, Nat.sub_self, Nat.zero_add, Nat.reduceAdd, Nat.reduceSub, List.zip_cons_cons, List.zip_nil_left, if_true, Bool.false_eq_true, if_false, insAt_tup, insAt_str, insAt_int, opSub_tup, atI0, atI1, atI2, atI3, Val.int.injEq])
          refine ⟨_, rfl, k.tr k12, firstF_hit hf hi ?_⟩
          rw [hF]
          simp only [ruleF, n1, n2, Option.none_or]
          rw [if_pos (by simpa using hd)]
          rfl
        · rename_i hd
          rw [e_call hS]
          (simp only [e_var, e_non, e_bl, e_int, e_str, e_bin, e_neg, e_cmp, e_tup, e_lst, e_bi, e_sub, e_attr, e_bm, e_om, e_ife, sH_var, sH_int, sH_neg, sL_bin, s2_vb, l_nil, l_cons, wt_and, wt_or, wt_not, wt_cmp, wt_chn, t_bi, t_var, i_var, i_sub, i_attr, i_call, i_slc, wi_rng1, wi_rng2, c_lt, c_le, c_gt, c_ge, c_in, c_nin, wpx_ok, wpx_err, of_some, List.getElem?_cons_zero, List.getElem?_cons_succ, Option.bind_some, Option.map_some, id_eq, assign_nm, assign_tp, item_f, item_t, item_s, wipe, List.foldr_cons, List.foldr_nil, List.foldl_cons, List.foldl_nil, List.set_cons_zero, List.set_cons_succ, Option.some.injEq, exists_eq_left', x_skip, x_seq, x_asg, x_asgA, x_asgS, x_drop, x_ret, x_retN, x_ifs, x_for, startE, List.map_cons, List.map_nil, List.length_cons, List.length_nil, List.replicate_succ, List.replicate_zero, List.cons_append, List.nil_append, Nat.sub_self, Nat.zero_add, Nat.reduceAdd, Nat.reduceSub, List.zip_cons_cons, List.zip_nil_left, if_true, Bool.false_eq_true, if_false, insAt_tup, insAt_str, insAt_int, opSub_tup, atI0, atI1, atI2, atI3, Val.int.injEq])
          refine (check_sources_w hS hC hah2 hoah (Rep.frame hz (k12.weak fun _ _ h => h.elim)) hox.src (by omega)).mono ?_ ?_
          · rintro _ s3 ⟨rfl, k3, n3⟩
            rw [e_con hC.held, show ([Val.str "read", Val.str "follows", Val.str "stays"] : List Val) = heldL.map .str from rfl, in_tup]
            refine ⟨_, rfl, ?_⟩
            have k13 := k12.tr k3
            split
            · rename_i hd2
              simp only [x_rais _ _ _ _ _ _ hC.x5]
              (simp only [e_var, e_non, e_bl, e_int, e_str, e_bin, e_neg, e_cmp, e_tup, e_lst, e_bi, e_sub, e_attr, e_bm, e_om, e_ife, sH_var, sH_int, sH_neg, sL_bin, s2_vb, l_nil, l_cons, wt_and, wt_or, wt_not, wt_cmp, wt_chn, t_bi, t_var, i_var, i_sub, i_attr, i_call, i_slc, wi_rng1, wi_rng2, c_lt, c_le, c_gt, c_ge, c_in, c_nin, wpx_ok, wpx_err, of_some, List.getElem?_cons_zero, List.getElem?_cons_succ, Option.bind_some, Option.map_some, id_eq, assign_nm, assign_tp, item_f, item_t, item_s, wipe, List.foldr_cons, List.foldr_nil, List.foldl_cons, List.foldl_nil, List.set_cons_zero, List.set_cons_succ, Option.some.injEq, exists_eq_left', x_skip, x_seq, x_asg, x_asgA, x_asgS, x_drop, x_ret, x_retN, x_ifs, x_for, startE, List.map_cons, List.map_nil, List.length_cons, List.length_nil, List.replicate_succ, List.replicate_zero, List.cons_append, List.nil_append, Nat.sub_self, Nat.zero_add, Nat.reduceAdd, Nat.reduceSub, List.zip_cons_cons, List.zip_nil_left, if_true, Bool.false_eq_true, if_false, insAt_tup, insAt_str, insAt_int, opSub_tup, atI0, atI1, atI2, atI3, Val.int.injEq])
              refine ⟨_, rfl, k.tr k13, firstF_hit hf hi ?_⟩
              rw [hF]
              simp only [ruleF, n1, n2, n3, Option.none_or]
              rw [if_neg (by simpa using hd), if_neg (by simpa using hd2)]
              rfl
            · rename_i hd2
              obtain ⟨rr, hrr, hnr, hcell⟩ := is_strs.1 (Rep.frame hah (k13.weak fun _ _ h => h.elim))
              cases hrr
              refine ⟨wbmOk_lst hcell (by decide), ?_⟩
              rw [bm_append hcell (by simp; omega)]
              refine ⟨⟨Nat.le_trans (k.tr k13).le (by simp), fun r hr _ => ?_⟩, is_strs.2 ⟨_, rfl, hnr, ?_⟩, ⟨_, _, _, _, rfl⟩, ?_⟩
              · rw [List.getElem?_set_ne (by omega)]
                exact (k.tr k13).here r hr id
              · rw [set_at (lt_of_at hcell), List.take_add_one, hx]
                simp
              · rw [firstF_succ, hf, hF]
                simp only [ruleF, n1, n2, n3, Option.none_or]
                rw [if_neg (by simpa using hd), if_pos (by simpa using hd2)]
                rfl
          · rintro c w s3 ⟨k3, n3⟩
            refine ⟨k.tr (k12.tr k3), firstF_hit hf hi ?_⟩
            rw [hF]
            simp only [ruleF, n1, n2, n3, Option.none_or, Option.some_or]
            rw [if_neg (by simpa using hd)]
            rfl
      · rintro c w s2 ⟨k2, n2⟩
        refine ⟨k.tr (k1.tr k2), firstF_hit hf hi ?_⟩
        rw [hF]
        simp only [ruleF, n1, n2, Option.none_or, Option.some_or]
    · rintro c w s1 ⟨k1, n1⟩
      refine ⟨k.tr k1, firstF_hit hf hi ?_⟩
      rw [hF]
      simp only [ruleF, n1, Option.some_or]
  · rintro e s ⟨k, _, _, hf⟩
    refine ⟨trivial, k, ?_⟩
    rw [hl'.len] at hf
    exact hf
end AM
end

section
namespace AM
open Rep (is)
open PySem (Str PyData Operator CmpOp)
variable {P : Prog}

structure Tab (P : Prog) (ci : Cinfo) : Prop where
  cl : P.clss.lookup ("Table" : Str) = some ci
  init : ci.init = ("Table.__init__" : Str)
  flds : ci.flds = (["_plain", "_editions"] : List Str)
  plain : ci.props.lookup ("plain" : Str) = some ("Table.plain" : Str)
  editions : ci.props.lookup ("editions" : Str) = some ("Table.editions" : Str)
  columns : ci.props.lookup ("columns" : Str) = some ("Table.columns" : Str)
  item : ci.meths.lookup ("__getitem__" : Str) = some ("Table.__getitem__" : Str)
  len : ci.meths.lookup ("__len__" : Str) = some ("Table.__len__" : Str)
  deeds : ci.meths.lookup ("deeds" : Str) = some ("Table.deeds" : Str)
/-- the defs of tables -/
structure TabD (P : Prog) : Prop where
  columns : Has P "_columns" KD.d_columns
  copied : Has P "_copied" KD.d_copied
  name : Has P "_check_name" KD.d_check_name
  plain : Has P "_check_plain" KD.d_check_plain
  edition : Has P "_check_edition" KD.d_check_edition
  sources : Has P "_check_sources" KD.d_check_sources
  init : P.defs.lookup ("Table.__init__" : Str) = some KD.d_Table___init__
  c : Cons P

def initF1 (pl : List Str) (es : List (List Rul)) (i : Nat) : Fault := match es[i]? with
  | some e => (editionF pl e).or (if e.map Rul.nm = (es.headD []).map Rul.nm then none else some (("InvalidEdition" : Str), Val.int i))
  | none => none
def initF (pl : List Str) (es : List (List Rul)) : Fault :=
  (plainF pl).or ((if es = [] then some (("InvalidEdition" : Str), Val.int 0) else none).or (firstF (initF1 pl es) es.length))

def isTable (H : Nat → Prop) (s : Store) (v : Val) (pl : List Str) (es : List (List Rul)) : Prop :=
  ∃ r a b, v = .ref r ∧ ¬ H r ∧ s[r]? = some ⟨.ins "Table" [("_plain", a), ("_editions", b)], false⟩ ∧ is H s a pl ∧ is H s b es
theorem isTable.frame {H : Nat → Prop} {s s' : Store} {v : Val} {pl : List Str} {es : List (List Rul)} (h : isTable H s v pl es) (k : Keep H s s') : isTable H s' v pl es := by
  obtain ⟨r, a, b, hv, hn, ha, h1, h2⟩ := h
  exact ⟨r, a, b, hv, hn, k.at_ ha hn, Rep.frame h1 k, Rep.frame h2 k⟩
theorem isTable.weak {H H' : Nat → Prop} {s : Store} {v : Val} {pl : List Str} {es : List (List Rul)} (h : isTable H s v pl es) (k : ∀ r, r < s.length → H' r → H r) : isTable H' s v pl es := by
  obtain ⟨r, a, b, hv, hn, ha, h1, h2⟩ := h
  exact ⟨r, a, b, hv, fun h => hn (k r (lt_of_at ha) h), ha, Rep.weak h1 k, Rep.weak h2 k⟩

/-- a plan whose texts fit -/
structure OkP (pl : List Str) (es : List (List Rul)) : Prop where
  opl : OkS pl
  lpl : ∀ x ∈ pl, x.length ≤ line
  oes : ∀ e ∈ es, ∀ x ∈ e, OkR x
  les : ∀ e ∈ es, pl.length + e.length ≤ line
  n : es.length ≤ line

theorem setA {ci : Cinfo} (hT : Tab P ci) {s : Store} {r : Nat} {fs : List (Str × Val)} (h : s[r]? = some ⟨.ins "Table" fs, false⟩) (hl : fs.length < 900) {f : Str} (hf : ci.flds.contains f = true) (v : Val) : opSetA P (.ref r) f v s = some (s.set r ⟨.ins "Table" (fput f v fs), false⟩) := by
  simp only [opSetA, h, hT.cl, hl, hf, and_self, if_true]

theorem init_w {ci : Cinfo} (hT : Tab P ci) (D : TabD P) {H : Nat → Prop} {st : Store} {r0 : Nat} {a b : Val} {pl : List Str} {es : List (List Rul)} (h0 : st[r0]? = some ⟨.ins "Table" [], false⟩) (hH : H r0) (hp : is H st a pl) (he : is H st b es) (hO : OkP pl es) {n : Nat} (hn : 4 ≤ n) :
    wpx (callF P n "Table.__init__" [.ref r0, a, b] st) (fun v s => v = .non ∧ Keep (fun r => r = r0) st s ∧ isTable (fun r => r < st.length ∧ r ≠ r0) s (.ref r0) pl es ∧ initF pl es = none) (fun c v s => Keep No st s ∧ initF pl es = some (c, v)) := by
  refine callF_def D.init (by omega) rfl ?_
  simp only [KD.d_Table___init__]
  (simp only [e_var, e_non, e_bl, e_int, e_str, e_bin, e_neg, e_cmp, e_tup, e_lst, e_bi, e_sub, e_attr, e_bm, e_om, e_ife, sH_var, sH_int, sH_neg, sL_bin, s2_vb, l_nil, l_cons, wt_and, wt_or, wt_not, wt_cmp, wt_chn, t_bi, t_var, i_var, i_sub, i_attr, i_call, i_slc, wi_rng1, wi_rng2, c_lt, c_le, c_gt, c_ge, c_in, c_nin, wpx_ok, wpx_err, of_some, List.getElem?_cons_zero, List.getElem?_cons_succ, Option.bind_some, Option.map_some, id_eq, assign_nm, assign_tp, item_f, item_t, item_s, wipe, List.foldr_cons, List.foldr_nil, List.foldl_cons, List.foldl_nil, List.set_cons_zero, List.set_cons_succ, Option.some.injEq, exists_eq_left', x_skip, x_seq, x_asg, x_asgA, x_asgS, x_drop, x_ret, x_retN, x_ifs, x_for, startE, List.map_cons, List.map_nil, List.length_cons, List.length_nil, List.replicate_succ, List.replicate_zero, List.cons_append, List.nil_append, Nat.sub_self, Nat.zero_add, Nat.reduceAdd, Nat.reduceSub, List.zip_cons_cons, List.zip_nil_left, if_true, Bool.false_eq_true, if_false, insAt_tup, insAt_str, insAt_int, opSub_tup, atI0, atI1, atI2, atI3, Val.int.injEq])
  rw [e_call D.plain]
  (simp only [e_var, e_non, e_bl, e_int, e_str, e_bin, e_neg, e_cmp, e_tup, e_lst, e_bi, e_sub, e_attr, e_bm, e_om, e_ife, sH_var, sH_int, sH_neg, sL_bin, s2_vb, l_nil, l_cons, wt_and, wt_or, wt_not, wt_cmp, wt_chn, t_bi, t_var, i_var, i_sub, i_attr, i_call, i_slc, wi_rng1, wi_rng2, c_lt, c_le, c_gt, c_ge, c_in, c_nin, wpx_ok, wpx_err, of_some, List.getElem?_cons_zero, List.getElem?_cons_succ, Option.bind_some, Option.map_some, id_eq, assign_nm, assign_tp, item_f, item_t, item_s, wipe, List.foldr_cons, List.foldr_nil, List.foldl_cons, List.foldl_nil, List.set_cons_zero, List.set_cons_succ, Option.some.injEq, exists_eq_left', x_skip, x_seq, x_asg, x_asgA, x_asgS, x_drop, x_ret, x_retN, x_ifs, x_for, startE, List.map_cons, List.map_nil, List.length_cons, List.length_nil, List.replicate_succ, List.replicate_zero, List.cons_append, List.nil_append, Nat.sub_self, Nat.zero_add, Nat.reduceAdd, Nat.reduceSub, List.zip_cons_cons, List.zip_nil_left, if_true, Bool.false_eq_true, if_false, insAt_tup, insAt_str, insAt_int, opSub_tup, atI0, atI1, atI2, atI3, Val.int.injEq])
  refine (check_plain_w D.plain D.name D.c hp hO.opl hO.lpl (by omega)).mono ?_ ?_
  · rintro _ s1 ⟨rfl, k1, n1⟩
    have he' := he
    obtain ⟨r, l, rfl, hr, hat, hl⟩ := he
    have hat1 := k1.at_ hat id
    simp only [truthy, hat1, of_some, wpx_ok]
    cases es with
    | nil =>
      cases l with
      | nil =>
        simp only [List.isEmpty_nil, Bool.not_true, Bool.not_false, if_true, x_rais _ _ _ _ _ _ D.c.x4]
        (simp only [e_var, e_non, e_bl, e_int, e_str, e_bin, e_neg, e_cmp, e_tup, e_lst, e_bi, e_sub, e_attr, e_bm, e_om, e_ife, sH_var, sH_int, sH_neg, sL_bin, s2_vb, l_nil, l_cons, wt_and, wt_or, wt_not, wt_cmp, wt_chn, t_bi, t_var, i_var, i_sub, i_attr, i_call, i_slc, wi_rng1, wi_rng2, c_lt, c_le, c_gt, c_ge, c_in, c_nin, wpx_ok, wpx_err, of_some, List.getElem?_cons_zero, List.getElem?_cons_succ, Option.bind_some, Option.map_some, id_eq, assign_nm, assign_tp, item_f, item_t, item_s, wipe, List.foldr_cons, List.foldr_nil, List.foldl_cons, List.foldl_nil, List.set_cons_zero, List.set_cons_succ, Option.some.injEq, exists_eq_left', x_skip, x_seq, x_asg, x_asgA, x_asgS, x_drop, x_ret, x_retN, x_ifs, x_for, startE, List.map_cons, List.map_nil, List.length_cons, List.length_nil, List.replicate_succ, List.replicate_zero, List.cons_append, List.nil_append, Nat.sub_self, Nat.zero_add, Nat.reduceAdd, Nat.reduceSub, List.zip_cons_cons, List.zip_nil_left, if_true, Bool.false_eq_true, if_false, insAt_tup, insAt_str, insAt_int, opSub_tup, atI0, atI1, atI2, atI3, Val.int.injEq])
        exact ⟨_, rfl, k1, by simp [initF, n1]⟩
      | cons _ _ => exact hl.elim
    | cons e0 es0 =>
      cases l with
      | nil => exact hl.elim
      | cons w0 l0 =>
        simp only [List.isEmpty_cons, Bool.not_false, Bool.not_true, Bool.false_eq_true, if_false, hat1]
        generalize hes : e0 :: es0 = es at *
        generalize hll : w0 :: l0 = l at *
        rw [i_enu_at rfl hat1]
        refine goes_rule (l := l) (fun i e s => Keep No st s ∧ (∃ c d, e = { s := [some (.ref r0), some a, some (.ref r), c, d] }) ∧ firstF (initF1 pl es) i = none) ⟨k1, ⟨_, _, rfl⟩, rfl⟩ ?_ ?_ ?_
        · rintro i e s ⟨k, _⟩
          exact ⟨_, k.at_ hat id⟩
        · rintro i w e s hw ⟨k, ⟨c, d, rfl⟩, hf⟩
          obtain ⟨x, hx, hwx⟩ := hl.get hw
          have hi := getElem?_some_lt hx
          have hxm := List.mem_of_getElem? hx
          have hwx := Rep.frame (H := H) hwx (k.weak fun _ _ h => h.elim)
          refine ⟨_, rfl, ?_⟩
          (simp only [e_var, e_non, e_bl, e_int, e_str, e_bin, e_neg, e_cmp, e_tup, e_lst, e_bi, e_sub, e_attr, e_bm, e_om, e_ife, sH_var, sH_int, sH_neg, sL_bin, s2_vb, l_nil, l_cons, wt_and, wt_or, wt_not, wt_cmp, wt_chn, t_bi, t_var, i_var, i_sub, i_attr, i_call, i_slc, wi_rng1, wi_rng2, c_lt, c_le, c_gt, c_ge, c_in, c_nin, wpx_ok, wpx_err, of_some, List.getElem?_cons_zero, List.getElem?_cons_succ, Option.bind_some, Option.map_some, id_eq, assign_nm, assign_tp, item_f, item_t, item_s, wipe, List.foldr_cons, List.foldr_nil, List.foldl_cons, List.foldl_nil, List.set_cons_zero, List.set_cons_succ, Option.some.injEq, exists_eq_left', x_skip, x_seq, x_asg, x_asgA, x_asgS, x_drop, x_ret, x_retN, x_ifs, x_for, startE, List.map_cons, List.map_nil, List.length_cons, List.length_nil, List.replicate_succ, List.replicate_zero, List.cons_append, List.nil_append, Nat.sub_self, Nat.zero_add, Nat.reduceAdd, Nat.reduceSub, List.zip_cons_cons, List.zip_nil_left, if_true, Bool.false_eq_true, if_false, insAt_tup, insAt_str, insAt_int, opSub_tup, atI0, atI1, atI2, atI3, Val.int.injEq])
          rw [e_call D.edition]
          (simp only [e_var, e_non, e_bl, e_int, e_str, e_bin, e_neg, e_cmp, e_tup, e_lst, e_bi, e_sub, e_attr, e_bm, e_om, e_ife, sH_var, sH_int, sH_neg, sL_bin, s2_vb, l_nil, l_cons, wt_and, wt_or, wt_not, wt_cmp, wt_chn, t_bi, t_var, i_var, i_sub, i_attr, i_call, i_slc, wi_rng1, wi_rng2, c_lt, c_le, c_gt, c_ge, c_in, c_nin, wpx_ok, wpx_err, of_some, List.getElem?_cons_zero, List.getElem?_cons_succ, Option.bind_some, Option.map_some, id_eq, assign_nm, assign_tp, item_f, item_t, item_s, wipe, List.foldr_cons, List.foldr_nil, List.foldl_cons, List.foldl_nil, List.set_cons_zero, List.set_cons_succ, Option.some.injEq, exists_eq_left', x_skip, x_seq, x_asg, x_asgA, x_asgS, x_drop, x_ret, x_retN, x_ifs, x_for, startE, List.map_cons, List.map_nil, List.length_cons, List.length_nil, List.replicate_succ, List.replicate_zero, List.cons_append, List.nil_append, Nat.sub_self, Nat.zero_add, Nat.reduceAdd, Nat.reduceSub, List.zip_cons_cons, List.zip_nil_left, if_true, Bool.false_eq_true, if_false, insAt_tup, insAt_str, insAt_int, opSub_tup, atI0, atI1, atI2, atI3, Val.int.injEq])
          refine (check_edition_w D.edition D.name D.sources D.c (Rep.frame hp (k.weak fun _ _ h => h.elim)) hO.opl hwx (hO.oes x hxm) (hO.les x hxm) (by omega)).mono ?_ ?_
          · rintro _ s2 ⟨rfl, k2, n2⟩
            rw [e_call D.columns]
            (simp only [e_var, e_non, e_bl, e_int, e_str, e_bin, e_neg, e_cmp, e_tup, e_lst, e_bi, e_sub, e_attr, e_bm, e_om, e_ife, sH_var, sH_int, sH_neg, sL_bin, s2_vb, l_nil, l_cons, wt_and, wt_or, wt_not, wt_cmp, wt_chn, t_bi, t_var, i_var, i_sub, i_attr, i_call, i_slc, wi_rng1, wi_rng2, c_lt, c_le, c_gt, c_ge, c_in, c_nin, wpx_ok, wpx_err, of_some, List.getElem?_cons_zero, List.getElem?_cons_succ, Option.bind_some, Option.map_some, id_eq, assign_nm, assign_tp, item_f, item_t, item_s, wipe, List.foldr_cons, List.foldr_nil, List.foldl_cons, List.foldl_nil, List.set_cons_zero, List.set_cons_succ, Option.some.injEq, exists_eq_left', x_skip, x_seq, x_asg, x_asgA, x_asgS, x_drop, x_ret, x_retN, x_ifs, x_for, startE, List.map_cons, List.map_nil, List.length_cons, List.length_nil, List.replicate_succ, List.replicate_zero, List.cons_append, List.nil_append, Nat.sub_self, Nat.zero_add, Nat.reduceAdd, Nat.reduceSub, List.zip_cons_cons, List.zip_nil_left, if_true, Bool.false_eq_true, if_false, insAt_tup, insAt_str, insAt_int, opSub_tup, atI0, atI1, atI2, atI3, Val.int.injEq])
            have hlx : x.length ≤ line := Nat.le_trans (Nat.le_add_left _ _) (hO.les x hxm)
            refine (columns_w D.columns (Rep.frame hwx (k2.weak fun _ _ h => h.elim)) hlx (by omega)).to ?_
            rintro v3 s3 ⟨k3, h3⟩
            rw [e_call D.columns]
            (simp only [e_var, e_non, e_bl, e_int, e_str, e_bin, e_neg, e_cmp, e_tup, e_lst, e_bi, e_sub, e_attr, e_bm, e_om, e_ife, sH_var, sH_int, sH_neg, sL_bin, s2_vb, l_nil, l_cons, wt_and, wt_or, wt_not, wt_cmp, wt_chn, t_bi, t_var, i_var, i_sub, i_attr, i_call, i_slc, wi_rng1, wi_rng2, c_lt, c_le, c_gt, c_ge, c_in, c_nin, wpx_ok, wpx_err, of_some, List.getElem?_cons_zero, List.getElem?_cons_succ, Option.bind_some, Option.map_some, id_eq, assign_nm, assign_tp, item_f, item_t, item_s, wipe, List.foldr_cons, List.foldr_nil, List.foldl_cons, List.foldl_nil, List.set_cons_zero, List.set_cons_succ, Option.some.injEq, exists_eq_left', x_skip, x_seq, x_asg, x_asgA, x_asgS, x_drop, x_ret, x_retN, x_ifs, x_for, startE, List.map_cons, List.map_nil, List.length_cons, List.length_nil, List.replicate_succ, List.replicate_zero, List.cons_append, List.nil_append, Nat.sub_self, Nat.zero_add, Nat.reduceAdd, Nat.reduceSub, List.zip_cons_cons, List.zip_nil_left, if_true, Bool.false_eq_true, if_false, insAt_tup, insAt_str, insAt_int, opSub_tup, atI0, atI1, atI2, atI3, Val.int.injEq])
            have k23 := k2.tr k3
            have hat3 := (k.tr k23).at_ hat id
            rw [insAt_lst hat3]
            dsimp only
            rw [opSub_lst hat3, ← hll, atI0]
            (simp only [e_var, e_non, e_bl, e_int, e_str, e_bin, e_neg, e_cmp, e_tup, e_lst, e_bi, e_sub, e_attr, e_bm, e_om, e_ife, sH_var, sH_int, sH_neg, sL_bin, s2_vb, l_nil, l_cons, wt_and, wt_or, wt_not, wt_cmp, wt_chn, t_bi, t_var, i_var, i_sub, i_attr, i_call, i_slc, wi_rng1, wi_rng2, c_lt, c_le, c_gt, c_ge, c_in, c_nin, wpx_ok, wpx_err, of_some, List.getElem?_cons_zero, List.getElem?_cons_succ, Option.bind_some, Option.map_some, id_eq, assign_nm, assign_tp, item_f, item_t, item_s, wipe, List.foldr_cons, List.foldr_nil, List.foldl_cons, List.foldl_nil, List.set_cons_zero, List.set_cons_succ, Option.some.injEq, exists_eq_left', x_skip, x_seq, x_asg, x_asgA, x_asgS, x_drop, x_ret, x_retN, x_ifs, x_for, startE, List.map_cons, List.map_nil, List.length_cons, List.length_nil, List.replicate_succ, List.replicate_zero, List.cons_append, List.nil_append, Nat.sub_self, Nat.zero_add, Nat.reduceAdd, Nat.reduceSub, List.zip_cons_cons, List.zip_nil_left, if_true, Bool.false_eq_true, if_false, insAt_tup, insAt_str, insAt_int, opSub_tup, atI0, atI1, atI2, atI3, Val.int.injEq])
            have he0 : is H s3 w0 e0 := by
              have := hl
              rw [← hes, ← hll] at this
              exact Rep.frame this.1 ((k.tr k23).weak fun _ _ h => h.elim)
            have hl0 : e0.length ≤ line := Nat.le_trans (Nat.le_add_left _ _) (hO.les e0 (by rw [← hes]; simp))
            refine (columns_w D.columns he0 hl0 (by omega)).to ?_
            rintro v4 s4 ⟨k4, h4⟩
            have hk : ∀ e : List Rul, e ∈ es → OkS (e.map Rul.nm) := by
              intro e he y hy
              obtain ⟨q, hq, rfl⟩ := List.mem_map.1 hy
              exact (hO.oes e he q hq).nm
            rw [c_ned (dp_strs (Rep.frame h3 (k4.weak fun _ _ h => h.elim)) (hk x hxm)) (dp_strs h4 (hk e0 (by rw [← hes]; simp)))]
            have hF : initF1 pl es i = if x.map Rul.nm = e0.map Rul.nm then none else some (("InvalidEdition" : Str), Val.int i) := by
              simp only [initF1, hx, n2, Option.none_or]
              rw [← hes]
              rfl
            simp only [PyData.eqv, eqvAll_str, Option.some.injEq, exists_eq_left']
            split
            · rename_i hd
              simp only [x_rais _ _ _ _ _ _ D.c.x4]
              (simp only [e_var, e_non, e_bl, e_int, e_str, e_bin, e_neg, e_cmp, e_tup, e_lst, e_bi, e_sub, e_attr, e_bm, e_om, e_ife, sH_var, sH_int, sH_neg, sL_bin, s2_vb, l_nil, l_cons, wt_and, wt_or, wt_not, wt_cmp, wt_chn, t_bi, t_var, i_var, i_sub, i_attr, i_call, i_slc, wi_rng1, wi_rng2, c_lt, c_le, c_gt, c_ge, c_in, c_nin, wpx_ok, wpx_err, of_some, List.getElem?_cons_zero, List.getElem?_cons_succ, Option.bind_some, Option.map_some, id_eq, assign_nm, assign_tp, item_f, item_t, item_s, wipe, List.foldr_cons, List.foldr_nil, List.foldl_cons, List.foldl_nil, List.set_cons_zero, List.set_cons_succ, Option.some.injEq, exists_eq_left', x_skip, x_seq, x_asg, x_asgA, x_asgS, x_drop, x_ret, x_retN, x_ifs, x_for, startE, List.map_cons, List.map_nil, List.length_cons, List.length_nil, List.replicate_succ, List.replicate_zero, List.cons_append, List.nil_append, Nat.sub_self, Nat.zero_add, Nat.reduceAdd, Nat.reduceSub, List.zip_cons_cons, List.zip_nil_left, if_true, Bool.false_eq_true, if_false, insAt_tup, insAt_str, insAt_int, opSub_tup, atI0, atI1, atI2, atI3, Val.int.injEq])
              refine ⟨_, rfl, k.tr (k23.tr k4), ?_⟩
              simp only [initF, n1, Option.none_or]
              rw [if_neg (by rw [← hes]; simp), Option.none_or]
              exact firstF_hit hf hi (by rw [hF, if_neg (by simpa using hd)])
            · rename_i hd
              refine ⟨k.tr (k23.tr k4), ⟨_, _, rfl⟩, ?_⟩
              rw [firstF_succ, hf, hF, if_pos (by simpa using hd)]
              rfl
          · rintro c w s2 ⟨k2, n2⟩
            refine ⟨k.tr k2, ?_⟩
            simp only [initF, n1, Option.none_or]
            rw [if_neg (by rw [← hes]; simp), Option.none_or]
            exact firstF_hit hf hi (by simp only [initF1, hx, n2, Option.some_or])
        · rintro e s ⟨k, ⟨c, d, rfl⟩, hf⟩
          (simp only [e_var, e_non, e_bl, e_int, e_str, e_bin, e_neg, e_cmp, e_tup, e_lst, e_bi, e_sub, e_attr, e_bm, e_om, e_ife, sH_var, sH_int, sH_neg, sL_bin, s2_vb, l_nil, l_cons, wt_and, wt_or, wt_not, wt_cmp, wt_chn, t_bi, t_var, i_var, i_sub, i_attr, i_call, i_slc, wi_rng1, wi_rng2, c_lt, c_le, c_gt, c_ge, c_in, c_nin, wpx_ok, wpx_err, of_some, List.getElem?_cons_zero, List.getElem?_cons_succ, Option.bind_some, Option.map_some, id_eq, assign_nm, assign_tp, item_f, item_t, item_s, wipe, List.foldr_cons, List.foldr_nil, List.foldl_cons, List.foldl_nil, List.set_cons_zero, List.set_cons_succ, Option.some.injEq, exists_eq_left', x_skip, x_seq, x_asg, x_asgA, x_asgS, x_drop, x_ret, x_retN, x_ifs, x_for, startE, List.map_cons, List.map_nil, List.length_cons, List.length_nil, List.replicate_succ, List.replicate_zero, List.cons_append, List.nil_append, Nat.sub_self, Nat.zero_add, Nat.reduceAdd, Nat.reduceSub, List.zip_cons_cons, List.zip_nil_left, if_true, Bool.false_eq_true, if_false, insAt_tup, insAt_str, insAt_int, opSub_tup, atI0, atI1, atI2, atI3, Val.int.injEq])
          refine list_w (Rep.frame hp (k.weak fun _ _ h => h.elim)) fun s2 k2 h2 => ?_
          have hat2 := (k.tr k2).at_ h0 id
          rw [setA hT hat2 (by decide) (by rw [hT.flds]; decide)]
          (simp only [e_var, e_non, e_bl, e_int, e_str, e_bin, e_neg, e_cmp, e_tup, e_lst, e_bi, e_sub, e_attr, e_bm, e_om, e_ife, sH_var, sH_int, sH_neg, sL_bin, s2_vb, l_nil, l_cons, wt_and, wt_or, wt_not, wt_cmp, wt_chn, t_bi, t_var, i_var, i_sub, i_attr, i_call, i_slc, wi_rng1, wi_rng2, c_lt, c_le, c_gt, c_ge, c_in, c_nin, wpx_ok, wpx_err, of_some, List.getElem?_cons_zero, List.getElem?_cons_succ, Option.bind_some, Option.map_some, id_eq, assign_nm, assign_tp, item_f, item_t, item_s, wipe, List.foldr_cons, List.foldr_nil, List.foldl_cons, List.foldl_nil, List.set_cons_zero, List.set_cons_succ, Option.some.injEq, exists_eq_left', x_skip, x_seq, x_asg, x_asgA, x_asgS, x_drop, x_ret, x_retN, x_ifs, x_for, startE, List.map_cons, List.map_nil, List.length_cons, List.length_nil, List.replicate_succ, List.replicate_zero, List.cons_append, List.nil_append, Nat.sub_self, Nat.zero_add, Nat.reduceAdd, Nat.reduceSub, List.zip_cons_cons, List.zip_nil_left, if_true, Bool.false_eq_true, if_false, insAt_tup, insAt_str, insAt_int, opSub_tup, atI0, atI1, atI2, atI3, Val.int.injEq])
          rw [e_call D.copied]
          (simp only [e_var, e_non, e_bl, e_int, e_str, e_bin, e_neg, e_cmp, e_tup, e_lst, e_bi, e_sub, e_attr, e_bm, e_om, e_ife, sH_var, sH_int, sH_neg, sL_bin, s2_vb, l_nil, l_cons, wt_and, wt_or, wt_not, wt_cmp, wt_chn, t_bi, t_var, i_var, i_sub, i_attr, i_call, i_slc, wi_rng1, wi_rng2, c_lt, c_le, c_gt, c_ge, c_in, c_nin, wpx_ok, wpx_err, of_some, List.getElem?_cons_zero, List.getElem?_cons_succ, Option.bind_some, Option.map_some, id_eq, assign_nm, assign_tp, item_f, item_t, item_s, wipe, List.foldr_cons, List.foldr_nil, List.foldl_cons, List.foldl_nil, List.set_cons_zero, List.set_cons_succ, Option.some.injEq, exists_eq_left', x_skip, x_seq, x_asg, x_asgA, x_asgS, x_drop, x_ret, x_retN, x_ifs, x_for, startE, List.map_cons, List.map_nil, List.length_cons, List.length_nil, List.replicate_succ, List.replicate_zero, List.cons_append, List.nil_append, Nat.sub_self, Nat.zero_add, Nat.reduceAdd, Nat.reduceSub, List.zip_cons_cons, List.zip_nil_left, if_true, Bool.false_eq_true, if_false, insAt_tup, insAt_str, insAt_int, opSub_tup, atI0, atI1, atI2, atI3, Val.int.injEq])
          have kk := k.tr k2
          have k3 := Keep.set r0 ⟨.ins "Table" (fput "_plain" (.ref s.length) []), false⟩ (fun r => r = r0) s2 (fun _ => rfl)
          have k03 : Keep (fun r => r = r0) st (s2.set r0 ⟨.ins "Table" (fput "_plain" (.ref s.length) []), false⟩) := (kk.weak fun _ _ h => h.elim).tr k3
          have hle : ∀ x ∈ es, x.length ≤ line := fun x hx => Nat.le_trans (Nat.le_add_left _ _) (hO.les x hx)
          refine (copied_w D.copied (Rep.frame he' (k03.weak fun r _ h => h ▸ hH)) hO.n hle (by omega)).to ?_
          rintro v s4 ⟨k4, h4⟩
          have hlt0 := lt_of_at h0
          have hat3 : (s2.set r0 ⟨.ins "Table" (fput "_plain" (.ref s.length) []), false⟩)[r0]? = some ⟨.ins "Table" [("_plain", .ref s.length)], false⟩ := set_at (lt_of_at hat2)
          have hat4 := k4.at_ hat3 id
          rw [setA hT hat4 (by simp) (by rw [hT.flds]; decide)]
          have k5 := Keep.set r0 ⟨.ins "Table" (fput "_editions" v [("_plain", .ref s.length)]), false⟩ (fun r => r = r0) s4 (fun _ => rfl)
          have hlen : st.length ≤ (s2.set r0 ⟨.ins "Table" (fput "_plain" (.ref s.length) []), false⟩).length := k03.le
          refine ⟨_, rfl, trivial, (k03.trNo k4).tr k5, ⟨r0, .ref s.length, v, rfl, fun h => h.2 rfl, set_at (lt_of_at hat4), ?_, ?_⟩, ?_⟩
          · have a1 : is (fun r => r < s.length) s2 (.ref s.length) pl := h2
            have a2 : is (fun r => r < s.length) s4 (.ref s.length) pl := Rep.frame (Rep.frame a1 (k3.weak fun r _ h => by subst h; exact Nat.lt_of_lt_of_le hlt0 k.le)) (k4.weak fun _ _ h => h.elim)
            exact Rep.weak (Rep.frame a2 (k5.weak fun r _ h => by subst h; exact Nat.lt_of_lt_of_le hlt0 k.le)) fun r _ h => Nat.lt_of_lt_of_le h.1 k.le
          · exact Rep.weak (Rep.frame h4 (k5.weak fun r _ h => by subst h; exact Nat.lt_of_lt_of_le hlt0 hlen)) fun r _ h => Nat.lt_of_lt_of_le h.1 hlen
          · simp only [initF, n1, Option.none_or]
            rw [if_neg (by rw [← hes]; simp), Option.none_or, ← hl.len]
            exact hf
  · rintro c w s1 ⟨k1, n1⟩
    exact ⟨k1, by simp only [initF, n1, Option.some_or]⟩
end AM
end

section
namespace AM
open Rep (is)
open PySem (Str PyData Operator CmpOp)
variable {P : Prog}

theorem make_w {ci : Cinfo} (hT : Tab P ci) (D : TabD P) {H : Nat → Prop} {st : Store} {a b : Val} {pl : List Str} {es : List (List Rul)} (hp : is H st a pl) (he : is H st b es) (hO : OkP pl es) {n : Nat} (hn : 4 ≤ n) :
    wpx (opMake P (callF P n) "Table" [a, b] st) (fun v s => Keep No st s ∧ isTable (Old st) s v pl es ∧ initF pl es = none) (fun c v s => Keep No st s ∧ initF pl es = some (c, v)) := by
  have hk := Keep.push ⟨.ins "Table" [], false⟩ (fun r => H r ∨ st.length ≤ r) st
  have hp' : is (fun r => H r ∨ st.length ≤ r) (st ++ [⟨.ins "Table" [], false⟩]) a pl := Rep.frame (Rep.weak hp fun r hr h => h.elim id fun h => by omega) hk
  have he' : is (fun r => H r ∨ st.length ≤ r) (st ++ [⟨.ins "Table" [], false⟩]) b es := Rep.frame (Rep.weak he fun r hr h => h.elim id fun h => by omega) hk
  have h := init_w hT D (push_at st ⟨.ins "Table" [], false⟩) (.inr (Nat.le_refl _)) hp' he' hO hn
  simp only [opMake, hT.cl, hT.init]
  revert h
  generalize callF P n "Table.__init__" [.ref st.length, a, b] (st ++ [⟨.ins "Table" [], false⟩]) = r
  intro h
  cases r with
  | ok v s =>
    obtain ⟨rfl, k, ht, hf⟩ := h
    refine ⟨⟨Nat.le_trans (by simp) k.le, fun r hr _ => ?_⟩, ht.weak fun r _ h => ⟨by have : r < st.length := h; simp; omega, fun e => by subst e; exact Nat.lt_irrefl _ h⟩, hf⟩
    rw [k.here r (by simp [-List.headD_eq_head?_getD]; omega) (by omega), List.getElem?_append_left hr]
  | err c v s =>
    obtain ⟨k, hf⟩ := h
    exact ⟨(Keep.push _ _ _).tr k, hf⟩
  | stk => exact h.elim

theorem attr_fld {ci : Cinfo} (hT : Tab P ci) {C : Call} {s : Store} {r : Nat} {fs : List (Str × Val)} (h : s[r]? = some ⟨.ins "Table" fs, false⟩) {f : Str} {v : Val} (hf : ci.flds.contains f = true) (hv : fs.lookup f = some v) : lookAttr P C (.ref r) f s = .ok v s := by
  simp only [lookAttr, insAt_ins h, hT.cl, hf, if_true, hv, of_some]
theorem attr_prop {ci : Cinfo} (hT : Tab P ci) {C : Call} {s : Store} {r : Nat} {fs : List (Str × Val)} (h : s[r]? = some ⟨.ins "Table" fs, false⟩) {f k : Str} (hf : ci.flds.contains f = false) (hk : ci.props.lookup f = some k) {Q : Val → Store → Prop} {X : Str → Val → Store → Prop} (hc : wpx (C k [.ref r] s) Q NoX) : wpx (lookAttr P C (.ref r) f s) Q X := by
  obtain ⟨v, s', e, q⟩ := hc.ex
  simp only [lookAttr, insAt_ins h, hT.cl, hf, Bool.false_eq_true, if_false, hk, e, wpx_ok]
  exact q

/-- its fields -/
theorem fld_plain {ci : Cinfo} (hT : Tab P ci) {C : Call} {H : Nat → Prop} {s : Store} {v : Val} {pl : List Str} {es : List (List Rul)} (h : isTable H s v pl es) {Q : Val → Store → Prop} {X : Str → Val → Store → Prop} (hq : ∀ a, is H s a pl → Q a s) : wpx (lookAttr P C v "_plain" s) Q X := by
  obtain ⟨r, a, b, rfl, hn, ha, h1, h2⟩ := h
  rw [attr_fld hT ha (by rw [hT.flds]; decide) (by rfl)]
  exact hq a h1
theorem fld_editions {ci : Cinfo} (hT : Tab P ci) {C : Call} {H : Nat → Prop} {s : Store} {v : Val} {pl : List Str} {es : List (List Rul)} (h : isTable H s v pl es) {Q : Val → Store → Prop} {X : Str → Val → Store → Prop} (hq : ∀ a, is H s a es → Q a s) : wpx (lookAttr P C v "_editions" s) Q X := by
  obtain ⟨r, a, b, rfl, hn, ha, h1, h2⟩ := h
  rw [attr_fld hT ha (by rw [hT.flds]; decide) (by rfl)]
  exact hq b h2

structure TabM (P : Prog) : Prop where
  plain : P.defs.lookup ("Table.plain" : Str) = some KD.d_Table_plain
  editions : P.defs.lookup ("Table.editions" : Str) = some KD.d_Table_editions
  columns : P.defs.lookup ("Table.columns" : Str) = some KD.d_Table_columns
  item : P.defs.lookup ("Table.__getitem__" : Str) = some KD.d_Table___getitem__
  len : P.defs.lookup ("Table.__len__" : Str) = some KD.d_Table___len__
  deeds : P.defs.lookup ("Table.deeds" : Str) = some KD.d_Table_deeds

section
variable {ci : Cinfo} {H : Nat → Prop} {s : Store} {v : Val} {pl : List Str} {es : List (List Rul)}
theorem plain_w (hT : Tab P ci) (M : TabM P) (h : isTable H s v pl es) {n : Nat} (hn : 1 ≤ n) : wpx (callF P n "Table.plain" [v] s) (fun w s' => Keep No s s' ∧ is (Old s) s' w pl) NoX := by
  refine callF_def M.plain (by omega) rfl ?_
  simp only [KD.d_Table_plain]
  (simp only [e_var, e_non, e_bl, e_int, e_str, e_bin, e_neg, e_cmp, e_tup, e_lst, e_bi, e_sub, e_attr, e_bm, e_om, e_ife, sH_var, sH_int, sH_neg, sL_bin, s2_vb, l_nil, l_cons, wt_and, wt_or, wt_not, wt_cmp, wt_chn, t_bi, t_var, i_var, i_sub, i_attr, i_call, i_slc, wi_rng1, wi_rng2, c_lt, c_le, c_gt, c_ge, c_in, c_nin, wpx_ok, wpx_err, of_some, List.getElem?_cons_zero, List.getElem?_cons_succ, Option.bind_some, Option.map_some, id_eq, assign_nm, assign_tp, item_f, item_t, item_s, wipe, List.foldr_cons, List.foldr_nil, List.foldl_cons, List.foldl_nil, List.set_cons_zero, List.set_cons_succ, Option.some.injEq, exists_eq_left', x_skip, x_seq, x_asg, x_asgA, x_asgS, x_drop, x_ret, x_retN, x_ifs, x_for, startE, List.map_cons, List.map_nil, List.length_cons, List.length_nil, List.replicate_succ, List.replicate_zero, List.cons_append, List.nil_append, Nat.sub_self, Nat.zero_add, Nat.reduceAdd, Nat.reduceSub, List.zip_cons_cons, List.zip_nil_left, if_true, Bool.false_eq_true, if_false, insAt_tup, insAt_str, insAt_int, opSub_tup, atI0, atI1, atI2, atI3, Val.int.injEq])
  refine fld_plain hT h fun a ha => ?_
  refine list_w ha fun s' k h' => ⟨k, h'⟩
theorem editions_w (hT : Tab P ci) (D : TabD P) (M : TabM P) (h : isTable H s v pl es) (hO : OkP pl es) {n : Nat} (hn : 2 ≤ n) : wpx (callF P n "Table.editions" [v] s) (fun w s' => Keep No s s' ∧ is (Old s) s' w es) NoX := by
  refine callF_def M.editions (by omega) rfl ?_
  simp only [KD.d_Table_editions]
  (simp only [e_var, e_non, e_bl, e_int, e_str, e_bin, e_neg, e_cmp, e_tup, e_lst, e_bi, e_sub, e_attr, e_bm, e_om, e_ife, sH_var, sH_int, sH_neg, sL_bin, s2_vb, l_nil, l_cons, wt_and, wt_or, wt_not, wt_cmp, wt_chn, t_bi, t_var, i_var, i_sub, i_attr, i_call, i_slc, wi_rng1, wi_rng2, c_lt, c_le, c_gt, c_ge, c_in, c_nin, wpx_ok, wpx_err, of_some, List.getElem?_cons_zero, List.getElem?_cons_succ, Option.bind_some, Option.map_some, id_eq, assign_nm, assign_tp, item_f, item_t, item_s, wipe, List.foldr_cons, List.foldr_nil, List.foldl_cons, List.foldl_nil, List.set_cons_zero, List.set_cons_succ, Option.some.injEq, exists_eq_left', x_skip, x_seq, x_asg, x_asgA, x_asgS, x_drop, x_ret, x_retN, x_ifs, x_for, startE, List.map_cons, List.map_nil, List.length_cons, List.length_nil, List.replicate_succ, List.replicate_zero, List.cons_append, List.nil_append, Nat.sub_self, Nat.zero_add, Nat.reduceAdd, Nat.reduceSub, List.zip_cons_cons, List.zip_nil_left, if_true, Bool.false_eq_true, if_false, insAt_tup, insAt_str, insAt_int, opSub_tup, atI0, atI1, atI2, atI3, Val.int.injEq])
  rw [e_call D.copied]
  (simp only [e_var, e_non, e_bl, e_int, e_str, e_bin, e_neg, e_cmp, e_tup, e_lst, e_bi, e_sub, e_attr, e_bm, e_om, e_ife, sH_var, sH_int, sH_neg, sL_bin, s2_vb, l_nil, l_cons, wt_and, wt_or, wt_not, wt_cmp, wt_chn, t_bi, t_var, i_var, i_sub, i_attr, i_call, i_slc, wi_rng1, wi_rng2, c_lt, c_le, c_gt, c_ge, c_in, c_nin, wpx_ok, wpx_err, of_some, List.getElem?_cons_zero, List.getElem?_cons_succ, Option.bind_some, Option.map_some, id_eq, assign_nm, assign_tp, item_f, item_t, item_s, wipe, List.foldr_cons, List.foldr_nil, List.foldl_cons, List.foldl_nil, List.set_cons_zero, List.set_cons_succ, Option.some.injEq, exists_eq_left', x_skip, x_seq, x_asg, x_asgA, x_asgS, x_drop, x_ret, x_retN, x_ifs, x_for, startE, List.map_cons, List.map_nil, List.length_cons, List.length_nil, List.replicate_succ, List.replicate_zero, List.cons_append, List.nil_append, Nat.sub_self, Nat.zero_add, Nat.reduceAdd, Nat.reduceSub, List.zip_cons_cons, List.zip_nil_left, if_true, Bool.false_eq_true, if_false, insAt_tup, insAt_str, insAt_int, opSub_tup, atI0, atI1, atI2, atI3, Val.int.injEq])
  refine fld_editions hT h fun a ha => ?_
  exact (copied_w D.copied ha hO.n (fun x hx => Nat.le_trans (Nat.le_add_left _ _) (hO.les x hx)) (by omega)).to fun w s' h => h
/-- _columns(self._editions[0]) -/
theorem cols_w (hT : Tab P ci) (D : TabD P) (h : isTable H s v pl es) (hO : OkP pl es) (hne : es ≠ []) {n : Nat} (hn : 1 ≤ n) {e : Env} (he : e.s[0]? = some (some v)) {Q : Val → Store → Prop} {X : Str → Val → Store → Prop}
    (hq : ∀ w s', Keep No s s' → is (Old s) s' w ((es.headD []).map Rul.nm) → Q w s') : wpx (ev P (callF P n) (.call "_columns" (.cons (.sub (.attr (.var 0) "_editions") (.int 0)) .nil)) e s) Q X := by
  rw [e_call D.columns]
  simp only [l_cons, l_nil, e_sub, e_attr, e_int, e_var, he, Option.bind_some, id_eq, of_some, wpx_ok]
  refine fld_editions hT h fun a ha => ?_
  obtain ⟨r, l, rfl, hr, hat, hl⟩ := ha
  rw [insAt_lst hat]
  dsimp only
  rw [opSub_lst hat]
  cases es with
  | nil => exact absurd rfl hne
  | cons e0 es =>
    cases l with
    | nil => exact hl.elim
    | cons w l =>
      rw [atI0]
      (simp only [e_var, e_non, e_bl, e_int, e_str, e_bin, e_neg, e_cmp, e_tup, e_lst, e_bi, e_sub, e_attr, e_bm, e_om, e_ife, sH_var, sH_int, sH_neg, sL_bin, s2_vb, l_nil, l_cons, wt_and, wt_or, wt_not, wt_cmp, wt_chn, t_bi, t_var, i_var, i_sub, i_attr, i_call, i_slc, wi_rng1, wi_rng2, c_lt, c_le, c_gt, c_ge, c_in, c_nin, wpx_ok, wpx_err, of_some, List.getElem?_cons_zero, List.getElem?_cons_succ, Option.bind_some, Option.map_some, id_eq, assign_nm, assign_tp, item_f, item_t, item_s, wipe, List.foldr_cons, List.foldr_nil, List.foldl_cons, List.foldl_nil, List.set_cons_zero, List.set_cons_succ, Option.some.injEq, exists_eq_left', x_skip, x_seq, x_asg, x_asgA, x_asgS, x_drop, x_ret, x_retN, x_ifs, x_for, startE, List.map_cons, List.map_nil, List.length_cons, List.length_nil, List.replicate_succ, List.replicate_zero, List.cons_append, List.nil_append, Nat.sub_self, Nat.zero_add, Nat.reduceAdd, Nat.reduceSub, List.zip_cons_cons, List.zip_nil_left, if_true, Bool.false_eq_true, if_false, insAt_tup, insAt_str, insAt_int, opSub_tup, atI0, atI1, atI2, atI3, Val.int.injEq])
      exact (columns_w D.columns hl.1 (Nat.le_trans (Nat.le_add_left _ _) (hO.les e0 (by simp))) hn).to fun w s' h => hq w s' h.1 h.2
theorem columnsP_w (hT : Tab P ci) (D : TabD P) (M : TabM P) (h : isTable H s v pl es) (hO : OkP pl es) (hne : es ≠ []) {n : Nat} (hn : 2 ≤ n) : wpx (callF P n "Table.columns" [v] s) (fun w s' => Keep No s s' ∧ is (Old s) s' w ((es.headD []).map Rul.nm)) NoX := by
  refine callF_def M.columns (by omega) rfl ?_
  simp only [KD.d_Table_columns, x_ret]
  exact cols_w hT D h hO hne (by omega) rfl fun w s' k h => ⟨k, h⟩
theorem len_w (hT : Tab P ci) (M : TabM P) (h : isTable H s v pl es) {n : Nat} (hn : 1 ≤ n) : wpx (callF P n "Table.__len__" [v] s) (fun w s' => s' = s ∧ w = .int es.length) NoX := by
  refine callF_def M.len (by omega) rfl ?_
  simp only [KD.d_Table___len__]
  (simp only [e_var, e_non, e_bl, e_int, e_str, e_bin, e_neg, e_cmp, e_tup, e_lst, e_bi, e_sub, e_attr, e_bm, e_om, e_ife, sH_var, sH_int, sH_neg, sL_bin, s2_vb, l_nil, l_cons, wt_and, wt_or, wt_not, wt_cmp, wt_chn, t_bi, t_var, i_var, i_sub, i_attr, i_call, i_slc, wi_rng1, wi_rng2, c_lt, c_le, c_gt, c_ge, c_in, c_nin, wpx_ok, wpx_err, of_some, List.getElem?_cons_zero, List.getElem?_cons_succ, Option.bind_some, Option.map_some, id_eq, assign_nm, assign_tp, item_f, item_t, item_s, wipe, List.foldr_cons, List.foldr_nil, List.foldl_cons, List.foldl_nil, List.set_cons_zero, List.set_cons_succ, Option.some.injEq, exists_eq_left', x_skip, x_seq, x_asg, x_asgA, x_asgS, x_drop, x_ret, x_retN, x_ifs, x_for, startE, List.map_cons, List.map_nil, List.length_cons, List.length_nil, List.replicate_succ, List.replicate_zero, List.cons_append, List.nil_append, Nat.sub_self, Nat.zero_add, Nat.reduceAdd, Nat.reduceSub, List.zip_cons_cons, List.zip_nil_left, if_true, Bool.false_eq_true, if_false, insAt_tup, insAt_str, insAt_int, opSub_tup, atI0, atI1, atI2, atI3, Val.int.injEq])
  refine fld_editions hT h fun a ha => ?_
  obtain ⟨r, l, rfl, hr, hat, hl⟩ := ha
  rw [opBiP_none (by simp [insAt_lst hat]), bi_len_lst hat, hl.len]
  exact ⟨rfl, rfl⟩

def itmOf (x : Rul) : Itm := ⟨x.fm, x.src, x.hd⟩
def itemL (es : List (List Rul)) (c : Str) : List Itm := es.flatMap fun e => (e.filter fun x => x.nm == c).map itmOf

theorem item_w (hT : Tab P ci) (D : TabD P) (M : TabM P) (h : isTable H s v pl es) (hO : OkP pl es) (hne : es ≠ []) {c : Str} (hc : PyData.canLay0 (.str c) = true) (hlen : ∀ i, ((es.take i).flatMap fun e => (e.filter fun x => x.nm == c).map itmOf).length < line - 1000) (hlen2 : ∀ e ∈ es, e.length ≤ 1000) {n : Nat} (hn : 2 ≤ n) :
    wpx (callF P n "Table.__getitem__" [v, .str c] s) (fun w s' => Keep No s s' ∧ is (Old s) s' w (itemL es c) ∧ c ∈ (es.headD []).map Rul.nm) (fun d w s' => Keep No s s' ∧ d = "UnknownColumn" ∧ w = .str c ∧ c ∉ (es.headD []).map Rul.nm) := by
  have hok : OkS ((es.headD []).map Rul.nm) := by
    intro y hy
    obtain ⟨q, hq, rfl⟩ := List.mem_map.1 hy
    cases es with
    | nil => exact absurd rfl hne
    | cons e0 es => exact (hO.oes e0 (by simp) q hq).nm
  refine callF_def M.item (by omega) rfl ?_
  simp only [KD.d_Table___getitem__]
  (simp only [e_var, e_non, e_bl, e_int, e_str, e_bin, e_neg, e_cmp, e_tup, e_lst, e_bi, e_sub, e_attr, e_bm, e_om, e_ife, sH_var, sH_int, sH_neg, sL_bin, s2_vb, l_nil, l_cons, wt_and, wt_or, wt_not, wt_cmp, wt_chn, t_bi, t_var, i_var, i_sub, i_attr, i_call, i_slc, wi_rng1, wi_rng2, c_lt, c_le, c_gt, c_ge, c_in, c_nin, wpx_ok, wpx_err, of_some, List.getElem?_cons_zero, List.getElem?_cons_succ, Option.bind_some, Option.map_some, id_eq, assign_nm, assign_tp, item_f, item_t, item_s, wipe, List.foldr_cons, List.foldr_nil, List.foldl_cons, List.foldl_nil, List.set_cons_zero, List.set_cons_succ, Option.some.injEq, exists_eq_left', x_skip, x_seq, x_asg, x_asgA, x_asgS, x_drop, x_ret, x_retN, x_ifs, x_for, startE, List.map_cons, List.map_nil, List.length_cons, List.length_nil, List.replicate_succ, List.replicate_zero, List.cons_append, List.nil_append, Nat.sub_self, Nat.zero_add, Nat.reduceAdd, Nat.reduceSub, List.zip_cons_cons, List.zip_nil_left, if_true, Bool.false_eq_true, if_false, insAt_tup, insAt_str, insAt_int, opSub_tup, atI0, atI1, atI2, atI3, Val.int.injEq])
  refine cols_w hT D h hO hne (by omega) rfl fun w s1 k1 h1 => ?_
  rw [in_strs h1 hok hc]
  simp only [Option.map_some, Option.some.injEq, exists_eq_left']
  split
  · rename_i hd
    simp only [x_rais _ _ _ _ _ _ D.c.x3]
    (simp only [e_var, e_non, e_bl, e_int, e_str, e_bin, e_neg, e_cmp, e_tup, e_lst, e_bi, e_sub, e_attr, e_bm, e_om, e_ife, sH_var, sH_int, sH_neg, sL_bin, s2_vb, l_nil, l_cons, wt_and, wt_or, wt_not, wt_cmp, wt_chn, t_bi, t_var, i_var, i_sub, i_attr, i_call, i_slc, wi_rng1, wi_rng2, c_lt, c_le, c_gt, c_ge, c_in, c_nin, wpx_ok, wpx_err, of_some, List.getElem?_cons_zero, List.getElem?_cons_succ, Option.bind_some, Option.map_some, id_eq, assign_nm, assign_tp, item_f, item_t, item_s, wipe, List.foldr_cons, List.foldr_nil, List.foldl_cons, List.foldl_nil, List.set_cons_zero, List.set_cons_succ, Option.some.injEq, exists_eq_left', x_skip, x_seq, x_asg, x_asgA, x_asgS, x_drop, x_ret, x_retN, x_ifs, x_for, startE, List.map_cons, List.map_nil, List.length_cons, List.length_nil, List.replicate_succ, List.replicate_zero, List.cons_append, List.nil_append, Nat.sub_self, Nat.zero_add, Nat.reduceAdd, Nat.reduceSub, List.zip_cons_cons, List.zip_nil_left, if_true, Bool.false_eq_true, if_false, insAt_tup, insAt_str, insAt_int, opSub_tup, atI0, atI1, atI2, atI3, Val.int.injEq])
    exact ⟨_, rfl, k1, trivial, rfl, by simpa using hd⟩
  · rename_i hd
    refine lc2_map (α := List Rul) (β := Rul) (γ := Itm) rfl ?_
    (simp only [e_var, e_non, e_bl, e_int, e_str, e_bin, e_neg, e_cmp, e_tup, e_lst, e_bi, e_sub, e_attr, e_bm, e_om, e_ife, sH_var, sH_int, sH_neg, sL_bin, s2_vb, l_nil, l_cons, wt_and, wt_or, wt_not, wt_cmp, wt_chn, t_bi, t_var, i_var, i_sub, i_attr, i_call, i_slc, wi_rng1, wi_rng2, c_lt, c_le, c_gt, c_ge, c_in, c_nin, wpx_ok, wpx_err, of_some, List.getElem?_cons_zero, List.getElem?_cons_succ, Option.bind_some, Option.map_some, id_eq, assign_nm, assign_tp, item_f, item_t, item_s, wipe, List.foldr_cons, List.foldr_nil, List.foldl_cons, List.foldl_nil, List.set_cons_zero, List.set_cons_succ, Option.some.injEq, exists_eq_left', x_skip, x_seq, x_asg, x_asgA, x_asgS, x_drop, x_ret, x_retN, x_ifs, x_for, startE, List.map_cons, List.map_nil, List.length_cons, List.length_nil, List.replicate_succ, List.replicate_zero, List.cons_append, List.nil_append, Nat.sub_self, Nat.zero_add, Nat.reduceAdd, Nat.reduceSub, List.zip_cons_cons, List.zip_nil_left, if_true, Bool.false_eq_true, if_false, insAt_tup, insAt_str, insAt_int, opSub_tup, atI0, atI1, atI2, atI3, Val.int.injEq])
    refine fld_editions hT (h.frame (k1.weak fun _ _ h => h.elim)) fun a ha => ?_
    refine w_iter ha fun r l hv hr hat hl => ?_
    refine ⟨l, es, id, fun _ x => x.nm == c, fun _ => itmOf, H, Old s, ⟨_, hat⟩, hl, fun r hr h => Nat.lt_irrefl _ (Nat.lt_of_lt_of_le h (Nat.le_trans k1.le hr)), hlen, hlen2, ?_, fun s3 k3 h3 => ⟨k1.tr k3, h3, by simpa using hd⟩⟩
    rintro i w x s2 hw hx k2 hlt hwx
    obtain ⟨z, hz, hwz⟩ := hl.get hw
    rw [hx] at hz
    cases hz
    (simp only [e_var, e_non, e_bl, e_int, e_str, e_bin, e_neg, e_cmp, e_tup, e_lst, e_bi, e_sub, e_attr, e_bm, e_om, e_ife, sH_var, sH_int, sH_neg, sL_bin, s2_vb, l_nil, l_cons, wt_and, wt_or, wt_not, wt_cmp, wt_chn, t_bi, t_var, i_var, i_sub, i_attr, i_call, i_slc, wi_rng1, wi_rng2, c_lt, c_le, c_gt, c_ge, c_in, c_nin, wpx_ok, wpx_err, of_some, List.getElem?_cons_zero, List.getElem?_cons_succ, Option.bind_some, Option.map_some, id_eq, assign_nm, assign_tp, item_f, item_t, item_s, wipe, List.foldr_cons, List.foldr_nil, List.foldl_cons, List.foldl_nil, List.set_cons_zero, List.set_cons_succ, Option.some.injEq, exists_eq_left', x_skip, x_seq, x_asg, x_asgA, x_asgS, x_drop, x_ret, x_retN, x_ifs, x_for, startE, List.map_cons, List.map_nil, List.length_cons, List.length_nil, List.replicate_succ, List.replicate_zero, List.cons_append, List.nil_append, Nat.sub_self, Nat.zero_add, Nat.reduceAdd, Nat.reduceSub, List.zip_cons_cons, List.zip_nil_left, if_true, Bool.false_eq_true, if_false, insAt_tup, insAt_str, insAt_int, opSub_tup, atI0, atI1, atI2, atI3, Val.int.injEq])
    obtain ⟨r3, l3, rfl, hr3, hat3, hl3⟩ := hwz
    have e := k2.at_ hat3 id
    simp only [iterV, e, of_some, wpx_ok]
    refine ⟨trivial, l3, H, ⟨_, hat3⟩, hl3, ?_⟩
    rintro j u y s6 hu hy k6 hlt6 ⟨q, rfl, hq⟩
    refine ⟨_, rfl, ?_⟩
    (simp only [e_var, e_non, e_bl, e_int, e_str, e_bin, e_neg, e_cmp, e_tup, e_lst, e_bi, e_sub, e_attr, e_bm, e_om, e_ife, sH_var, sH_int, sH_neg, sL_bin, s2_vb, l_nil, l_cons, wt_and, wt_or, wt_not, wt_cmp, wt_chn, t_bi, t_var, i_var, i_sub, i_attr, i_call, i_slc, wi_rng1, wi_rng2, c_lt, c_le, c_gt, c_ge, c_in, c_nin, wpx_ok, wpx_err, of_some, List.getElem?_cons_zero, List.getElem?_cons_succ, Option.bind_some, Option.map_some, id_eq, assign_nm, assign_tp, item_f, item_t, item_s, wipe, List.foldr_cons, List.foldr_nil, List.foldl_cons, List.foldl_nil, List.set_cons_zero, List.set_cons_succ, Option.some.injEq, exists_eq_left', x_skip, x_seq, x_asg, x_asgA, x_asgS, x_drop, x_ret, x_retN, x_ifs, x_for, startE, List.map_cons, List.map_nil, List.length_cons, List.length_nil, List.replicate_succ, List.replicate_zero, List.cons_append, List.nil_append, Nat.sub_self, Nat.zero_add, Nat.reduceAdd, Nat.reduceSub, List.zip_cons_cons, List.zip_nil_left, if_true, Bool.false_eq_true, if_false, insAt_tup, insAt_str, insAt_int, opSub_tup, atI0, atI1, atI2, atI3, Val.int.injEq])
    have hyx : y ∈ x := List.mem_of_getElem? hy
    rw [c_eqs (hO.oes x (List.mem_of_getElem? hx) y hyx).nm hc]
    refine ⟨_, rfl, Keep.refl _ _, by by_cases h : y.nm = c <;> simp [h], fun _ => ?_⟩
    refine list_w hq fun s' k' h' => ⟨k', _, rfl, Rep.weak h' fun r _ hr => ?_⟩
    rcases hr with hr | hr
    · have : r < s.length := hr
      exact Nat.lt_of_lt_of_le this (Nat.le_trans k1.le (Nat.le_of_lt hlt6))
    · subst hr
      exact hlt6
def deedsL (pl cs : List Str) : List TS := [⟨["put"]⟩] ++ pl.map (fun c => ⟨["set", c]⟩) ++ cs.map (fun c => ⟨["rewrite", c]⟩) ++ [⟨["edition"]⟩]
theorem deeds_w (hT : Tab P ci) (D : TabD P) (M : TabM P) (h : isTable H s v pl es) (hO : OkP pl es) (hne : es ≠ []) (hl : pl.length + (es.headD []).length + 10 ≤ line) {n : Nat} (hn : 2 ≤ n) : wpx (callF P n "Table.deeds" [v] s) (fun w s' => Keep No s s' ∧ is (Old s) s' w (deedsL pl ((es.headD []).map Rul.nm))) NoX := by
  refine callF_def M.deeds (by omega) rfl ?_
  simp only [KD.d_Table_deeds, x_seq, x_asg]
  refine lc_map (α := Str) (β := TS) ?_
  (simp only [e_var, e_non, e_bl, e_int, e_str, e_bin, e_neg, e_cmp, e_tup, e_lst, e_bi, e_sub, e_attr, e_bm, e_om, e_ife, sH_var, sH_int, sH_neg, sL_bin, s2_vb, l_nil, l_cons, wt_and, wt_or, wt_not, wt_cmp, wt_chn, t_bi, t_var, i_var, i_sub, i_attr, i_call, i_slc, wi_rng1, wi_rng2, c_lt, c_le, c_gt, c_ge, c_in, c_nin, wpx_ok, wpx_err, of_some, List.getElem?_cons_zero, List.getElem?_cons_succ, Option.bind_some, Option.map_some, id_eq, assign_nm, assign_tp, item_f, item_t, item_s, wipe, List.foldr_cons, List.foldr_nil, List.foldl_cons, List.foldl_nil, List.set_cons_zero, List.set_cons_succ, Option.some.injEq, exists_eq_left', x_skip, x_seq, x_asg, x_asgA, x_asgS, x_drop, x_ret, x_retN, x_ifs, x_for, startE, List.map_cons, List.map_nil, List.length_cons, List.length_nil, List.replicate_succ, List.replicate_zero, List.cons_append, List.nil_append, Nat.sub_self, Nat.zero_add, Nat.reduceAdd, Nat.reduceSub, List.zip_cons_cons, List.zip_nil_left, if_true, Bool.false_eq_true, if_false, insAt_tup, insAt_str, insAt_int, opSub_tup, atI0, atI1, atI2, atI3, Val.int.injEq])
  refine fld_plain hT h fun a ha => ?_
  refine w_iter ha fun r l hv hr hat hl1 => ?_
  refine ⟨l, pl, fun c => ⟨["set", c]⟩, H, Old s, ⟨_, hat⟩, hl1, old_no _, by omega, ?_, ?_⟩
  · rintro i w x s2 hw hx k2 hlt rfl
    (simp only [e_var, e_non, e_bl, e_int, e_str, e_bin, e_neg, e_cmp, e_tup, e_lst, e_bi, e_sub, e_attr, e_bm, e_om, e_ife, sH_var, sH_int, sH_neg, sL_bin, s2_vb, l_nil, l_cons, wt_and, wt_or, wt_not, wt_cmp, wt_chn, t_bi, t_var, i_var, i_sub, i_attr, i_call, i_slc, wi_rng1, wi_rng2, c_lt, c_le, c_gt, c_ge, c_in, c_nin, wpx_ok, wpx_err, of_some, List.getElem?_cons_zero, List.getElem?_cons_succ, Option.bind_some, Option.map_some, id_eq, assign_nm, assign_tp, item_f, item_t, item_s, wipe, List.foldr_cons, List.foldr_nil, List.foldl_cons, List.foldl_nil, List.set_cons_zero, List.set_cons_succ, Option.some.injEq, exists_eq_left', x_skip, x_seq, x_asg, x_asgA, x_asgS, x_drop, x_ret, x_retN, x_ifs, x_for, startE, List.map_cons, List.map_nil, List.length_cons, List.length_nil, List.replicate_succ, List.replicate_zero, List.cons_append, List.nil_append, Nat.sub_self, Nat.zero_add, Nat.reduceAdd, Nat.reduceSub, List.zip_cons_cons, List.zip_nil_left, if_true, Bool.false_eq_true, if_false, insAt_tup, insAt_str, insAt_int, opSub_tup, atI0, atI1, atI2, atI3, Val.int.injEq])
    exact ⟨Keep.refl _ _, rfl⟩
  intro s3 k3 h3
  refine lc_map (α := Str) (β := TS) ?_
  rw [i_call]
  refine cols_w hT D (h.frame (k3.weak fun _ _ h => h.elim)) hO hne (by omega) rfl fun w s4 k4 h4 => ?_
  refine w_iter h4 fun r2 l2 hv2 hr2 hat2 hl2 => ?_
  refine ⟨l2, _, fun c => ⟨["rewrite", c]⟩, Old s3, Old s, ⟨_, hat2⟩, hl2, fun r hr h => Nat.lt_irrefl _ (Nat.lt_of_lt_of_le h (Nat.le_trans (k3.tr k4).le hr)), by simp [-List.headD_eq_head?_getD]; omega, ?_, ?_⟩
  · rintro i w x s2 hw hx k2 hlt rfl
    (simp only [e_var, e_non, e_bl, e_int, e_str, e_bin, e_neg, e_cmp, e_tup, e_lst, e_bi, e_sub, e_attr, e_bm, e_om, e_ife, sH_var, sH_int, sH_neg, sL_bin, s2_vb, l_nil, l_cons, wt_and, wt_or, wt_not, wt_cmp, wt_chn, t_bi, t_var, i_var, i_sub, i_attr, i_call, i_slc, wi_rng1, wi_rng2, c_lt, c_le, c_gt, c_ge, c_in, c_nin, wpx_ok, wpx_err, of_some, List.getElem?_cons_zero, List.getElem?_cons_succ, Option.bind_some, Option.map_some, id_eq, assign_nm, assign_tp, item_f, item_t, item_s, wipe, List.foldr_cons, List.foldr_nil, List.foldl_cons, List.foldl_nil, List.set_cons_zero, List.set_cons_succ, Option.some.injEq, exists_eq_left', x_skip, x_seq, x_asg, x_asgA, x_asgS, x_drop, x_ret, x_retN, x_ifs, x_for, startE, List.map_cons, List.map_nil, List.length_cons, List.length_nil, List.replicate_succ, List.replicate_zero, List.cons_append, List.nil_append, Nat.sub_self, Nat.zero_add, Nat.reduceAdd, Nat.reduceSub, List.zip_cons_cons, List.zip_nil_left, if_true, Bool.false_eq_true, if_false, insAt_tup, insAt_str, insAt_int, opSub_tup, atI0, atI1, atI2, atI3, Val.int.injEq])
    exact ⟨Keep.refl _ _, rfl⟩
  intro s5 k5 h5
  have a1 := new_flat (s := s5) (H := No) (s' := s5) (vs := [.tup [.str "put"]]) (xs := [(⟨["put"]⟩ : TS)]) ⟨rfl, trivial⟩
  have p1 := Keep.push ⟨.lst [.tup [.str "put"]], false⟩ No s5
  refine add_w a1 (Rep.frame h3 ((k4.tr (k5.tr p1)).weak fun _ _ h => h.elim)) (by simp [-List.headD_eq_head?_getD]; omega) fun s6 k6 h6 => ?_
  refine add_w h6 (Rep.frame h5 ((p1.tr k6).weak fun _ _ h => h.elim)) (by simp [-List.headD_eq_head?_getD]; omega) fun s7 k7 h7 => ?_
  have a2 := new_flat (s := s7) (H := No) (s' := s7) (vs := [.tup [.str "edition"]]) (xs := [(⟨["edition"]⟩ : TS)]) ⟨rfl, trivial⟩
  have p2 := Keep.push ⟨.lst [.tup [.str "edition"]], false⟩ No s7
  refine add_w (Rep.frame h7 (p2.weak fun _ _ h => h.elim)) a2 (by simp [-List.headD_eq_head?_getD]; omega) fun s8 k8 h8 => ?_
  have kk : Keep No s (s7 ++ [⟨.lst [.tup [.str "edition"]], false⟩]) := k3.tr (k4.tr (k5.tr (p1.tr (k6.tr (k7.tr p2)))))
  exact ⟨kk.tr k8, isOld h8 kk.le⟩
end
end AM
end

section
set_option exponentiation.threshold 2000
namespace AM
open Rep (is)
open PySem (Str PyData Operator CmpOp)
variable {P : Prog}

section
variable (s : Store) (i j : Int)
theorem o_add : opBin s .Add (.int i) (.int j) = .ok (.int (i + j)) s := rfl
theorem o_sub : opBin s .Sub (.int i) (.int j) = .ok (.int (i - j)) s := rfl
variable {i j}
theorem o_mulL (h : -(2 ^ 64) < i ∧ i < 2 ^ 64) : opBin s .Mult (.int i) (.int j) = .ok (.int (i * j)) s := by
  simp only [opBin]
  rw [if_pos (.inl h)]
theorem o_mulR (h : -(2 ^ 64) < j ∧ j < 2 ^ 64) : opBin s .Mult (.int i) (.int j) = .ok (.int (i * j)) s := by
  simp only [opBin]
  rw [if_pos (.inr h)]
theorem o_mod (h : 0 < j) : opBin s .Mod (.int i) (.int j) = .ok (.int (i % j)) s := by
  simp only [opBin]
  rw [if_pos h]
theorem o_div (h : 0 < j) (h2 : j.natAbs.log2 < 9000) : opBin s .FloorDiv (.int i) (.int j) = .ok (.int (i / j)) s := by
  simp only [opBin]
  rw [if_pos ⟨h, h2⟩]
theorem o_pow (h : 0 ≤ j ∧ j ≤ 64) (h2 : i.natAbs < 2 ^ 1000) : opBin s .Pow (.int i) (.int j) = .ok (.int (i ^ j.toNat)) s := by
  simp only [opBin]
  rw [if_pos ⟨h.1, h.2, h2⟩]
end

theorem bip_int (P : Prog) (C : Call) (s : Store) (i : Int) : opBiP P C "int" [.int i] s = .ok (.int i) s := by
  rw [opBiP_none rfl, wbi_int]
/-- the list that is drawn from; m bounds how often it was stirred -/
def isSack (s : Store) (k m : Nat) : Prop := ∃ a b c : Int, s[k]? = some ⟨.lst [.int a, .int b, .int c], false⟩ ∧ 0 ≤ b ∧ b < 10 ^ 25 ∧ 0 ≤ c ∧ c ≤ (m : Int) ∧ m < 2 ^ 60
theorem isSack.keep {H : Nat → Prop} {s s' : Store} {k m : Nat} (h : isSack s k m) (hk : Keep H s s') (hn : ¬ H k) : isSack s' k m := by
  obtain ⟨a, b, c, h, r⟩ := h
  exact ⟨a, b, c, hk.at_ h hn, r⟩
theorem isSack.le {s : Store} {k m m' : Nat} (h : isSack s k m) (hm : m ≤ m') (h' : m' < 2 ^ 60) : isSack s k m' := by
  obtain ⟨a, b, c, h, h1, h2, h3, h4, h5⟩ := h
  exact ⟨a, b, c, h, h1, h2, h3, by omega, h'⟩

theorem opSetS_at {s : Store} {r : Nat} {l : List Val} (h : s[r]? = some ⟨.lst l, false⟩) {k : Nat} (hk : k < l.length) (v : Val) : opSetS (.ref r) (.int (k : Int)) v s = some (s.set r ⟨.lst (l.set k v), false⟩) := by
  have h1 : (0 : Int) ≤ (k : Int) := by omega
  have h2 : (k : Int) < (l.length : Int) := by omega
  simp [opSetS, h, L2.ixN, h1, h2, hk]

theorem pow_small {i : Int} (h : i.natAbs < 2 ^ 200) : i.natAbs < 2 ^ 1000 := Nat.lt_of_lt_of_le h (Nat.pow_le_pow_right (by decide) (by decide))

theorem draw_w (hP : Has P "_law_draw" KD.d_law_draw) {s : Store} {k m : Nat} (hs : isSack s k m) (hm : m + 1 < 2 ^ 60) {many : Int} (h0 : 0 < many) (h1 : many < 1000000) {n : Nat} (hn : 1 ≤ n) :
    wpx (callF P n "_law_draw" [.ref k, .int many] s) (fun v s' => Keep (fun r => r = k) s s' ∧ isSack s' k (m + 1) ∧ ∃ r : Int, v = .int r ∧ 0 ≤ r ∧ r < many) NoX := by
  obtain ⟨a, b, c, h, hb0, hb1, hc0, hc1, hm0⟩ := hs
  have hlog : many.natAbs.log2 < 9000 := by
    have : many.natAbs < 2 ^ 20 := by omega
    have := (Nat.log2_lt (by omega)).2 this
    omega
  refine callF_def hP.df (by omega) rfl ?_
  simp only [KD.d_law_draw]
  (simp only [e_var, e_non, e_bl, e_int, e_str, e_bin, e_neg, e_cmp, e_tup, e_lst, e_bi, e_sub, e_attr, e_bm, e_om, e_ife, sH_var, sH_int, sH_neg, sL_bin, s2_vb, l_nil, l_cons, wt_and, wt_or, wt_not, wt_cmp, wt_chn, t_bi, t_var, i_var, i_sub, i_attr, i_call, i_slc, wi_rng1, wi_rng2, c_lt, c_le, c_gt, c_ge, c_in, c_nin, wpx_ok, wpx_err, of_some, List.getElem?_cons_zero, List.getElem?_cons_succ, Option.bind_some, Option.map_some, id_eq, assign_nm, assign_tp, item_f, item_t, item_s, wipe, List.foldr_cons, List.foldr_nil, List.foldl_cons, List.foldl_nil, List.set_cons_zero, List.set_cons_succ, Option.some.injEq, exists_eq_left', x_skip, x_seq, x_asg, x_asgA, x_asgS, x_drop, x_ret, x_retN, x_ifs, x_for, startE, List.map_cons, List.map_nil, List.length_cons, List.length_nil, List.replicate_succ, List.replicate_zero, List.cons_append, List.nil_append, Nat.sub_self, Nat.zero_add, Nat.reduceAdd, Nat.reduceSub, List.zip_cons_cons, List.zip_nil_left, if_true, Bool.false_eq_true, if_false, insAt_tup, insAt_str, insAt_int, opSub_tup, atI0, atI1, atI2, atI3, Val.int.injEq])
  simp only [insAt_lst h, opSub_lst h]
  (simp only [e_var, e_non, e_bl, e_int, e_str, e_bin, e_neg, e_cmp, e_tup, e_lst, e_bi, e_sub, e_attr, e_bm, e_om, e_ife, sH_var, sH_int, sH_neg, sL_bin, s2_vb, l_nil, l_cons, wt_and, wt_or, wt_not, wt_cmp, wt_chn, t_bi, t_var, i_var, i_sub, i_attr, i_call, i_slc, wi_rng1, wi_rng2, c_lt, c_le, c_gt, c_ge, c_in, c_nin, wpx_ok, wpx_err, of_some, List.getElem?_cons_zero, List.getElem?_cons_succ, Option.bind_some, Option.map_some, id_eq, assign_nm, assign_tp, item_f, item_t, item_s, wipe, List.foldr_cons, List.foldr_nil, List.foldl_cons, List.foldl_nil, List.set_cons_zero, List.set_cons_succ, Option.some.injEq, exists_eq_left', x_skip, x_seq, x_asg, x_asgA, x_asgS, x_drop, x_ret, x_retN, x_ifs, x_for, startE, List.map_cons, List.map_nil, List.length_cons, List.length_nil, List.replicate_succ, List.replicate_zero, List.cons_append, List.nil_append, Nat.sub_self, Nat.zero_add, Nat.reduceAdd, Nat.reduceSub, List.zip_cons_cons, List.zip_nil_left, if_true, Bool.false_eq_true, if_false, insAt_tup, insAt_str, insAt_int, opSub_tup, atI0, atI1, atI2, atI3, Val.int.injEq])
  split
  · simp only [insAt_lst h, opSub_lst h, atI0, of_some, wpx_ok, bip_int]
    rw [o_mod s h0]
    simp only [wpx_ok, insAt_lst h, opSub_lst h, atI0, of_some]
    rw [o_div s h0 hlog]
    simp only [wpx_ok]
    have h' := h
    refine ⟨_, opSetS_at h (k := 0) (by simp) _, Keep.set _ _ _ _ (fun _ => rfl), ⟨a / many, b, c, set_at (lt_of_at h), hb0, hb1, hc0, by omega, hm⟩, _, rfl, Int.emod_nonneg _ (by omega), Int.emod_lt_of_pos _ h0⟩
  · simp only [insAt_lst h, opSub_lst h, atI2, of_some, wpx_ok, o_add]
    have hset : opSetS (.ref k) (.int 2) (.int (c + 1)) s = some (s.set k ⟨.lst [.int a, .int b, .int (c + 1)], false⟩) := opSetS_at h (k := 2) (by simp) _
    refine ⟨_, hset, ?_⟩
    have h4 : (s.set k ⟨.lst [.int a, .int b, .int (c + 1)], false⟩)[k]? = some ⟨.lst [.int a, .int b, .int (c + 1)], false⟩ := set_at (lt_of_at h)
    generalize hg : s.set k ⟨.lst [.int a, .int b, .int (c + 1)], false⟩ = s4 at h4
    have hk4 : Keep (fun r => r = k) s s4 := hg ▸ Keep.set _ _ _ _ (fun _ => rfl)
    simp only [insAt_lst h4, opSub_lst h4, atI2, atI1, of_some, wpx_ok]
    rw [o_mulL s4 (by omega)]
    simp only [wpx_ok, o_add, bip_int]
    have e1 : (b + 179424673 * (c + 1)).natAbs < 2 ^ 200 := by
      have : (2 : Nat) ^ 60 = 1152921504606846976 := by decide
      have h10 : (10 : Int) ^ 25 = 10000000000000000000000000 := by decide
      have h2 : (2 : Nat) ^ 100 = 1267650600228229401496703205376 := by decide
      have : (b + 179424673 * (c + 1)).natAbs < 2 ^ 100 := by omega
      exact Nat.lt_trans this (by decide)
    rw [o_pow s4 (by omega) (pow_small e1)]
    simp only [wpx_ok]
    rw [o_pow s4 (by omega) (by decide)]
    simp only [wpx_ok, o_add]
    generalize (b + 179424673 * (c + 1)) ^ Int.toNat 3 = x1
    have hq1 : (10 : Int) ^ Int.toNat 26 + 67 = 100000000000000000000000067 := by decide
    rw [hq1, o_mod s4 (by omega)]
    simp only [wpx_ok, insAt_lst h4, opSub_lst h4, atI2, of_some]
    rw [o_mulL s4 (by omega)]
    simp only [wpx_ok, o_add, bip_int]
    have g1 : 0 ≤ x1 % 100000000000000000000000067 := Int.emod_nonneg _ (by omega)
    have g2 : x1 % 100000000000000000000000067 < 100000000000000000000000067 := Int.emod_lt_of_pos _ (by omega)
    generalize x1 % 100000000000000000000000067 = x2 at g1 g2
    have e2 : (x2 + 86028121 * (c + 1)).natAbs < 2 ^ 200 := by
      have : (2 : Nat) ^ 60 = 1152921504606846976 := by decide
      have h2 : (2 : Nat) ^ 100 = 1267650600228229401496703205376 := by decide
      have : (x2 + 86028121 * (c + 1)).natAbs < 2 ^ 100 := by omega
      exact Nat.lt_trans this (by decide)
    rw [o_pow s4 (by omega) (pow_small e2)]
    simp only [wpx_ok]
    rw [o_pow s4 (by omega) (by decide)]
    simp only [wpx_ok, o_add]
    generalize (x2 + 86028121 * (c + 1)) ^ Int.toNat 2 = x3
    have hq2 : (10 : Int) ^ Int.toNat 25 + 13 = 10000000000000000000000013 := by decide
    rw [hq2, o_mod s4 (by omega)]
    simp only [wpx_ok]
    rw [o_div s4 (by omega) (by decide)]
    simp only [wpx_ok, bip_int]
    rw [o_mod s4 h0]
    exact ⟨hk4, ⟨a, b, c + 1, h4, hb0, hb1, by omega, by omega, hm⟩, _, rfl, Int.emod_nonneg _ (by omega), Int.emod_lt_of_pos _ h0⟩

theorem source_w (hP : Has P "_law_source" KD.d_law_source) {s : Store} {r0 : Nat} {ns : List Int} {lk : Bool} (h : s[r0]? = some ⟨.lst (ns.map .int), lk⟩) {pl : Nat} (hp : pl < 1000) {n : Nat} (hn : 1 ≤ n) :
    wpx (callF P n "_law_source" [.ref r0, .int (pl : Int)] s) (fun v s' => Keep No s s' ∧ v = .ref s.length ∧ isSack s' s.length 0) NoX := by
  refine callF_def hP.df (by omega) rfl ?_
  simp only [KD.d_law_source, x_seq, x_asg, x_ret]
  have cut : wpx (ev P (callF P (n - 1)) (E.ife (E.cmp .Lt (E.var 1) (E.bi "len" (E.cons (E.var 0) E.nil))) (E.sub (E.var 0) (E.var 1)) (E.int 0)) { s := [some (.ref r0), some (.int (pl : Int)), none] } s) (fun v s1 => s1 = s ∧ ∃ cell, v = .int cell) NoX := by
    (simp only [e_var, e_non, e_bl, e_int, e_str, e_bin, e_neg, e_cmp, e_tup, e_lst, e_bi, e_sub, e_attr, e_bm, e_om, e_ife, sH_var, sH_int, sH_neg, sL_bin, s2_vb, l_nil, l_cons, wt_and, wt_or, wt_not, wt_cmp, wt_chn, t_bi, t_var, i_var, i_sub, i_attr, i_call, i_slc, wi_rng1, wi_rng2, c_lt, c_le, c_gt, c_ge, c_in, c_nin, wpx_ok, wpx_err, of_some, List.getElem?_cons_zero, List.getElem?_cons_succ, Option.bind_some, Option.map_some, id_eq, assign_nm, assign_tp, item_f, item_t, item_s, wipe, List.foldr_cons, List.foldr_nil, List.foldl_cons, List.foldl_nil, List.set_cons_zero, List.set_cons_succ, Option.some.injEq, exists_eq_left', x_skip, x_seq, x_asg, x_asgA, x_asgS, x_drop, x_ret, x_retN, x_ifs, x_for, startE, List.map_cons, List.map_nil, List.length_cons, List.length_nil, List.replicate_succ, List.replicate_zero, List.cons_append, List.nil_append, Nat.sub_self, Nat.zero_add, Nat.reduceAdd, Nat.reduceSub, List.zip_cons_cons, List.zip_nil_left, if_true, Bool.false_eq_true, if_false, insAt_tup, insAt_str, insAt_int, opSub_tup, atI0, atI1, atI2, atI3, Val.int.injEq])
    rw [opBiP_none (by simp [insAt_lst h]), bi_len_lst h]
    (simp only [e_var, e_non, e_bl, e_int, e_str, e_bin, e_neg, e_cmp, e_tup, e_lst, e_bi, e_sub, e_attr, e_bm, e_om, e_ife, sH_var, sH_int, sH_neg, sL_bin, s2_vb, l_nil, l_cons, wt_and, wt_or, wt_not, wt_cmp, wt_chn, t_bi, t_var, i_var, i_sub, i_attr, i_call, i_slc, wi_rng1, wi_rng2, c_lt, c_le, c_gt, c_ge, c_in, c_nin, wpx_ok, wpx_err, of_some, List.getElem?_cons_zero, List.getElem?_cons_succ, Option.bind_some, Option.map_some, id_eq, assign_nm, assign_tp, item_f, item_t, item_s, wipe, List.foldr_cons, List.foldr_nil, List.foldl_cons, List.foldl_nil, List.set_cons_zero, List.set_cons_succ, Option.some.injEq, exists_eq_left', x_skip, x_seq, x_asg, x_asgA, x_asgS, x_drop, x_ret, x_retN, x_ifs, x_for, startE, List.map_cons, List.map_nil, List.length_cons, List.length_nil, List.replicate_succ, List.replicate_zero, List.cons_append, List.nil_append, Nat.sub_self, Nat.zero_add, Nat.reduceAdd, Nat.reduceSub, List.zip_cons_cons, List.zip_nil_left, if_true, Bool.false_eq_true, if_false, insAt_tup, insAt_str, insAt_int, opSub_tup, atI0, atI1, atI2, atI3, Val.int.injEq])
    split
    · rename_i hd
      simp at hd
      rw [insAt_lst h]
      dsimp only
      rw [opSub_lst h, atI_k (x := .int ns[pl]) (by simp [hd])]
      exact ⟨rfl, _, rfl⟩
    · exact ⟨trivial, _, rfl⟩
  refine cut.to ?_
  rintro _ _ ⟨rfl, cell, rfl⟩
  refine ⟨_, rfl, ?_⟩
  rename_i s
  (simp only [e_var, e_non, e_bl, e_int, e_str, e_bin, e_neg, e_cmp, e_tup, e_lst, e_bi, e_sub, e_attr, e_bm, e_om, e_ife, sH_var, sH_int, sH_neg, sL_bin, s2_vb, l_nil, l_cons, wt_and, wt_or, wt_not, wt_cmp, wt_chn, t_bi, t_var, i_var, i_sub, i_attr, i_call, i_slc, wi_rng1, wi_rng2, c_lt, c_le, c_gt, c_ge, c_in, c_nin, wpx_ok, wpx_err, of_some, List.getElem?_cons_zero, List.getElem?_cons_succ, Option.bind_some, Option.map_some, id_eq, assign_nm, assign_tp, item_f, item_t, item_s, wipe, List.foldr_cons, List.foldr_nil, List.foldl_cons, List.foldl_nil, List.set_cons_zero, List.set_cons_succ, Option.some.injEq, exists_eq_left', x_skip, x_seq, x_asg, x_asgA, x_asgS, x_drop, x_ret, x_retN, x_ifs, x_for, startE, List.map_cons, List.map_nil, List.length_cons, List.length_nil, List.replicate_succ, List.replicate_zero, List.cons_append, List.nil_append, Nat.sub_self, Nat.zero_add, Nat.reduceAdd, Nat.reduceSub, List.zip_cons_cons, List.zip_nil_left, if_true, Bool.false_eq_true, if_false, insAt_tup, insAt_str, insAt_int, opSub_tup, atI0, atI1, atI2, atI3, Val.int.injEq])
  rw [opBiP_none rfl, wbi_abs]
  simp only [wpx_ok]
  rw [o_pow s (by omega) (by decide)]
  simp only [wpx_ok, o_sub]
  rw [opBiP_none rfl, wbi_max]
  simp only [wpx_ok]
  rw [o_mulR s (by omega)]
  simp only [wpx_ok]
  rw [o_mulR s (by omega)]
  simp only [wpx_ok, o_add, bip_int]
  rw [o_pow s (by omega) (by decide)]
  simp only [wpx_ok, o_add]
  have hq : (10 : Int) ^ Int.toNat 24 + 7 = 1000000000000000000000007 := by decide
  rw [hq, o_mod s (by omega)]
  simp only [wpx_ok]
  generalize cell * 60013 + (pl : Int) * 15485863 + 32452843 = x
  have g1 : 0 ≤ x % 1000000000000000000000007 := Int.emod_nonneg _ (by omega)
  have g2 : x % 1000000000000000000000007 < 1000000000000000000000007 := Int.emod_lt_of_pos _ (by omega)
  have h10 : (10 : Int) ^ 25 = 10000000000000000000000000 := by decide
  exact ⟨Keep.push _ _ _, trivial, _, _, 0, push_at _ _, g1, by omega, by omega, by omega, by decide⟩
end AM
end

section
namespace AM
open Rep (is)
open PySem (Str PyData Operator CmpOp)
variable {P : Prog}

/-- a text's signs -/
abbrev codes (s : Str) : List Nat := s.cps.toList
theorem codes_inj {a b : Str} (h : codes a = codes b) : a = b := by
  cases a
  cases b
  simp only [codes, Array.toList_inj] at h
  simp [h]
theorem codes_len (s : Str) : (codes s).length = s.length := Array.length_toList
theorem codes_app (a b : Str) : codes (a ++ b) = codes a ++ codes b := by
  show (a.cps ++ b.cps).toList = _
  simp
theorem codes_join : ∀ l : List Str, codes (PySem.Txt.join "" l) = l.flatMap codes := by
  intro l
  show codes (PySem.Builtin.Str.glued (PySem.Str.ofString "") l) = _
  rw [PySem.StrLaws.glued_eq_join]
  induction l with
  | nil => rfl
  | cons a r ih =>
    cases r with
    | nil => simp [PySem.Str.join]
    | cons b r =>
      show codes (a ++ (PySem.Str.ofString "") ++ PySem.Str.join (PySem.Str.ofString "") (b :: r)) = _
      rw [codes_app, codes_app, ih]
      simp
      rfl
theorem erase_perm {α : Type} : ∀ {l : List α} {i : Nat} {x : α}, l[i]? = some x → List.Perm (x :: l.eraseIdx i) l
  | a :: l, 0, x, h => by
    simp at h
    subst h
    exact List.Perm.refl _
  | a :: l, i + 1, x, h => by
    simp at h
    simp only [List.eraseIdx_cons_succ]
    exact (List.Perm.swap a x _).trans ((erase_perm h).cons a)
  | [], i, x, h => by simp at h

/-- a comprehension over a range -/
theorem lc_rng {C : Call} {el it : E} {t0 : Nat} {vs : List Nat} {e : Env} {st : Store} {Q : Val → Store → Prop} {X : Str → Val → Store → Prop}
    (h : wpx (evI P C it e st) (fun k s2 => ∃ (lo : Int) (cnt : Nat) (I : Nat → List Val → Store → Prop), k = .snap (rangeL lo cnt) ∧ cnt ≤ line ∧
      I 0 [] (s2 ++ [⟨.lst [], false⟩]) ∧
      (∀ i acc s, i < cnt → acc.length = i → I i acc s → s[s2.length]? = some ⟨.lst acc, false⟩ →
        wpx (ev P C el { wipe vs e with s := (wipe vs e).s.set t0 (some (.int (lo + (i : Int)))) } s) (fun w s' => s'[s2.length]? = some ⟨.lst acc, false⟩ ∧ I (i + 1) (acc ++ [w]) (s'.set s2.length ⟨.lst (acc ++ [w]), false⟩)) NoX) ∧
      (∀ acc s, acc.length = cnt → I cnt acc s → s[s2.length]? = some ⟨.lst acc, false⟩ → Q (.ref s2.length) s)) X) : wpx (ev P C (.lc el (.nm t0) it .nil vs) e st) Q X := by
  refine lc_turns (h.mono (fun k s2 h => ?_) (fun _ _ _ h => h))
  obtain ⟨lo, cnt, I, rfl, hc, h0, hs, hq⟩ := h
  have hlen : (rangeL lo cnt).length = cnt := by simp [rangeL]
  refine ⟨rangeL lo cnt, fun i acc s => acc.length = i ∧ I i acc s, rfl, ⟨rfl, h0⟩, fun _ _ _ _ => rfl, ?_, ?_⟩
  · rintro i v acc s hv ⟨hl, hi⟩ ha
    have hic : i < cnt := hlen ▸ getElem?_some_lt hv
    have hv2 : v = .int (lo + (i : Int)) := by
      simp [rangeL, hic] at hv
      exact hv.symm
    subst hv2
    refine ⟨_, rfl, ?_⟩
    simp only [noneE_nil, if_true, wpx_ok]
    exact (hs i acc s hic hl hi ha).mono (fun w s' h => ⟨h.1, by omega, by simp [hl], h.2⟩) (fun _ _ _ h => h)
  · rintro acc s ⟨hl, hi⟩ ha
    rw [hlen] at hi hl
    exact hq acc s hl hi ha

def ltr (r : Nat) : Str := ⟨#[97 + r]⟩
theorem len_letters : letters.length = 26 := by decide +kernel
theorem sub_letters (s : Store) {r : Int} (h0 : 0 ≤ r) (h : r < 26) : opSub s (.str letters) (.int r) = some (.str (ltr r.toNat)) := by
  simp only [opSub, len_letters]
  rw [if_pos (by decide)]
  obtain ⟨k, rfl⟩ : ∃ k : Nat, r = (k : Int) := ⟨r.toNat, by omega⟩
  have hk : k < 26 := by omega
  have e : letters.cps.toList[k]? = some (97 + k) := by
    rw [letters_list]
    simp [hk]
  rw [atI_k e]
  simp [ltr]
/-- a text of letters -/
def Low (s : Str) : Prop := ∀ c ∈ codes s, letterB c = true
theorem low_ltr {r : Nat} (h : r < 26) : Low (ltr r) := by
  intro c hc
  simp [ltr, codes] at hc
  subst hc
  simp [letterB]
  omega
theorem low_laid {s : Str} (h : Low s) : PyData.canLay0 (.str s) = true := by
  simp only [PyData.canLay0, PyData.strOk]
  rw [← Array.all_toList]
  simp only [List.all_eq_true, decide_eq_true_eq]
  intro c hc
  have := h c hc
  simp [letterB] at this
  omega
theorem word_of {s : Str} (h : Low s) (h1 : 1 ≤ s.length) (h2 : s.length ≤ 8) : wordB s = true := by
  simp only [wordB, h1, h2, and_self, decide_true, Bool.true_and, List.all_eq_true]
  exact h
theorem word_low {s : Str} (h : wordB s = true) : Low s := by
  simp only [wordB, Bool.and_eq_true, List.all_eq_true] at h
  exact h.2
theorem word_len {s : Str} (h : wordB s = true) : 1 ≤ s.length ∧ s.length ≤ 8 := by
  simp only [wordB, Bool.and_eq_true, decide_eq_true_eq] at h
  exact h.1
theorem allStr_map : ∀ l : List Str, allStr (l.map .str) = some l
  | [] => rfl
  | x :: l => by simp [allStr, allStr_map l]
theorem sum_ones : ∀ {xs : List Str}, (∀ x ∈ xs, Low x ∧ x.length = 1) → (xs.map (·.length)).sum = xs.length
  | [], _ => rfl
  | x :: xs, h => by
    have := sum_ones (xs := xs) fun y hy => h y (by simp [hy])
    simp only [List.map_cons, List.sum_cons, this, (h x (by simp)).2, List.length_cons]
    omega
/-- ''.join of single letters -/
theorem join_w {H : Nat → Prop} {s : Store} {v : Val} {xs : List Str} {Q : Val → Store → Prop} {X : Str → Val → Store → Prop} (h : is H s v xs) (hl : ∀ x ∈ xs, Low x ∧ x.length = 1) (hn : xs.length ≤ 1000)
    (hq : ∀ t, Low t → t.length = xs.length → Q (.str t) s) : wpx (opBm s (.str "") "join" [v]) Q X := by
  obtain ⟨r, rfl, hr, ha⟩ := is_strs.1 h
  have hsum : (xs.map (·.length)).sum = xs.length := sum_ones hl
  have e0 : (PySem.Str.ofString "").length = 0 := by decide
  simp only [opBm, lstAt, ha, Option.bind_some, allStr_map, hsum, e0]
  rw [if_pos trivial, if_pos (by unfold line; omega)]
  refine hq _ ?_ ?_
  · intro c hc
    rw [codes_join] at hc
    obtain ⟨x, hx, hc⟩ := List.mem_flatMap.1 hc
    exact (hl x hx).1 c hc
  · rw [← codes_len, codes_join, List.length_flatMap]
    have : xs.map (fun x => (codes x).length) = xs.map (·.length) := List.map_congr_left fun x _ => codes_len x
    rw [this, hsum]
end AM
end

section
namespace AM
open Rep (is)
open PySem (Str PyData Operator CmpOp)
variable {P : Prog}

theorem draw_e (hP : Has P "_law_draw" KD.d_law_draw) {s : Store} {e : Env} {k m : Nat} {a : E} {many : Int} {n : Nat} (he : e.s[0]? = some (some (.ref k))) (hs : isSack s k m) (ha : ev P (callF P n) a e s = .ok (.int many) s) (hm : m + 1 < 2 ^ 60) (h0 : 0 < many) (h1 : many < 1000000) (hn : 1 ≤ n)
    {Q : Val → Store → Prop} {X : Str → Val → Store → Prop} (hq : ∀ (r : Int) s', Keep (fun r => r = k) s s' → isSack s' k (m + 1) → 0 ≤ r → r < many → Q (.int r) s') :
    wpx (ev P (callF P n) (.call "_law_draw" (.cons (.var 0) (.cons a .nil))) e s) Q X := by
  rw [e_call hP]
  simp only [l_cons, l_nil, e_var, he, Option.bind_some, id_eq, of_some, wpx_ok, ha]
  refine (draw_w hP hs hm h0 h1 hn).to ?_
  rintro _ s' ⟨k1, h2, r, rfl, h3, h4⟩
  exact hq r s' k1 h2 h3 h4
theorem wev_int (C : Call) (i : Int) (e : Env) (s : Store) : ev P C (.int i) e s = .ok (.int i) s := by simp only [ev]
theorem ev_len {C : Call} {j r : Nat} {l : List Val} {lk : Bool} {e : Env} {s : Store} (he : e.s[j]? = some (some (.ref r))) (h : s[r]? = some ⟨.lst l, lk⟩) : ev P C (.bi "len" (.cons (.var j) .nil)) e s = .ok (.int l.length) s := by
  simp only [ev, evL, he, Option.bind_some, id_eq, of_some, Res.bind]
  rw [opBiP_none (by simp [insAt_lst h]), bi_len_lst h]

/-- l.pop(draw(len(l))) -/
theorem pop_e (hP : Has P "_law_draw" KD.d_law_draw) {s : Store} {e : Env} {k m j mr : Nat} {l : List Val} {n : Nat} (he : e.s[0]? = some (some (.ref k))) (hj : e.s[j]? = some (some (.ref mr))) (hs : isSack s k m) (hl : s[mr]? = some ⟨.lst l, false⟩) (hk : mr ≠ k) (hm : m + 1 < 2 ^ 60) (h0 : 0 < l.length) (h1 : l.length < 1000000) (hn : 1 ≤ n)
    {Q : Val → Store → Prop} {X : Str → Val → Store → Prop} (hq : ∀ (r : Nat) v s', l[r]? = some v → Keep (fun r => r = k ∨ r = mr) s s' → isSack s' k (m + 1) → s'[mr]? = some ⟨.lst (l.eraseIdx r), false⟩ → Q v s') :
    wpx (ev P (callF P n) (.bm (.var j) "pop" (.cons (.call "_law_draw" (.cons (.var 0) (.cons (.bi "len" (.cons (.var j) .nil)) .nil))) .nil)) e s) Q X := by
  rw [e_bm]
  simp only [e_var, hj, Option.bind_some, id_eq, of_some, wpx_ok]
  refine ⟨wbmOk_lst hl (by decide), ?_⟩
  simp only [l_cons, l_nil]
  refine draw_e hP he hs (ev_len hj hl) hm (by omega) (by omega) hn fun r s' k1 h2 h3 h4 => ?_
  obtain ⟨q, rfl⟩ : ∃ q : Nat, r = (q : Int) := ⟨r.toNat, by omega⟩
  have hq1 : q < l.length := by omega
  have hl' := k1.at_ hl hk
  have hv : l[q]? = some l[q] := by simp [hq1]
  rw [bm_popk hl' hv (by omega)]
  refine hq q _ _ hv ((k1.weak fun _ _ h => .inl h).tr (Keep.set _ _ _ _ fun _ => .inr rfl)) ?_ (set_at (lt_of_at hl'))
  obtain ⟨a, b, c, h, rest⟩ := h2
  exact ⟨a, b, c, by rw [List.getElem?_set_ne hk]; exact h, rest⟩

theorem no_k {s : Store} {k m : Nat} (h : isSack s k m) : k < s.length := by
  obtain ⟨a, b, c, h, _⟩ := h
  exact lt_of_at h

theorem keep_new {H : Nat → Prop} {s2 s' : Store} {n : Nat} {c : Cell} (k : Keep H s2 s') (h : s2.length ≤ n) : Keep H s2 (s'.set n c) :=
  ⟨by simpa using k.le, fun r hr hn => by rw [List.getElem?_set_ne (by omega)]; exact k.here r hr hn⟩
theorem isSack.set {s : Store} {k m n : Nat} {c : Cell} (h : isSack s k m) (hn : n ≠ k) : isSack (s.set n c) k m := by
  obtain ⟨a, b, d, h, rest⟩ := h
  exact ⟨a, b, d, by rw [List.getElem?_set_ne hn]; exact h, rest⟩
theorem isSack.push {s : Store} {k m : Nat} {c : Cell} (h : isSack s k m) : isSack (s ++ [c]) k m := h.keep (Keep.push c No s) id
theorem wipe1 {t0 i : Nat} {e : Env} {v : Val} (h : t0 ≠ i) : ({ wipe [t0] e with s := (wipe [t0] e).s.set t0 (some v) } : Env).s[i]? = e.s[i]? := by
  simp only [wipe, List.foldr_cons, List.foldr_nil]
  rw [List.getElem?_set_ne h, List.getElem?_set_ne h]
theorem wipe1_at {t0 : Nat} {e : Env} {v : Val} (h : t0 < e.s.length) : ({ wipe [t0] e with s := (wipe [t0] e).s.set t0 (some v) } : Env).s[t0]? = some (some v) := by
  simp [wipe, List.getElem?_set, h]

/-- ''.join([letters[draw(26)] for ..]) -/
theorem word_e (hP : Has P "_law_draw" KD.d_law_draw) {s : Store} {e : Env} {k t0 : Nat} {it : E} {n : Nat} (ht : t0 ≠ 0) (ht2 : t0 ≠ 5) (he : e.s[0]? = some (some (.ref k))) (h5 : e.s[5]? = some (some (.str letters))) (hn : 1 ≤ n)
    {Q : Val → Store → Prop} {X : Str → Val → Store → Prop}
    (hi : wpx (evI P (callF P n) it e s) (fun k2 s2 => ∃ cnt m, k2 = .snap (rangeL 0 cnt) ∧ cnt ≤ 100 ∧ m + 200 < 2 ^ 60 ∧ isSack s2 k m ∧ ∀ t s', Low t → t.length = cnt → Keep (fun r => r = k) s2 s' → isSack s' k (m + cnt) → Q (.str t) s') X) :
    wpx (ev P (callF P n) (.bm (.str "") "join" (.cons (.lc (.sub (.var 5) (.call "_law_draw" (.cons (.var 0) (.cons (.int 26) .nil)))) (.nm t0) it .nil [t0]) .nil)) e s) Q X := by
  rw [e_bm]
  simp only [e_str, wpx_ok]
  refine ⟨by simp only [bmOk]; decide, ?_⟩
  simp only [l_cons, l_nil]
  refine lc_rng (hi.mono (fun k2 s2 h => ?_) (fun _ _ _ h => h))
  obtain ⟨cnt, m, rfl, hc, hm, hs2, hq⟩ := h
  have hk := no_k hs2
  refine ⟨0, cnt, fun i acc s' => Keep (fun r => r = k) s2 s' ∧ isSack s' k (m + i) ∧ ∃ xs : List Str, acc = xs.map .str ∧ ∀ x ∈ xs, Low x ∧ x.length = 1, rfl, by unfold line; omega, ⟨Keep.push _ _ _, hs2.push, [], rfl, by simp⟩, ?_, ?_⟩
  · rintro i acc s' hi1 hl ⟨k1, h2, xs, rfl, hxs⟩ ha
    rw [e_sub, e_var, wipe1 ht2, h5]
    simp only [Option.bind_some, id_eq, of_some, wpx_ok]
    refine draw_e hP (by rw [wipe1 ht]; exact he) h2 (wev_int _ _ _ _) (by omega) (by omega) (by omega) hn fun r s3 k3 h3 h4 h5 => ?_
    rw [insAt_str]
    dsimp only
    rw [sub_letters s3 h4 h5]
    simp only [of_some, wpx_ok]
    refine ⟨k3.at_ ha (by omega), keep_new (k1.tr k3) (Nat.le_refl _), ?_, xs ++ [ltr r.toNat], by simp, ?_⟩
    · exact (h3.set (by omega)).le (by omega) (by omega)
    · intro x hx
      rcases List.mem_append.1 hx with hx | hx
      · exact hxs x hx
      · simp at hx
        subst hx
        exact ⟨low_ltr (by omega), rfl⟩
  · rintro acc s' hl ⟨k1, h2, xs, rfl, hxs⟩ ha
    have his : is No s' (.ref s2.length) xs := is_strs.2 ⟨_, rfl, id, ha⟩
    simp at hl
    refine join_w his hxs (by omega) fun t h6 h7 => hq t s' h6 (by omega) k1 h2
/-- what lies behind a walk over range(c) -/
theorem rng1_e {C : Call} {e : Env} {s : Store} {c : Nat} {QI : Iter → Store → Prop} {X : Str → Val → Store → Prop} (hc : c < 1000000000) (hq : QI (.snap (rangeL 0 c)) s) : wpx (evI P C (.rng1 (.int (c : Int))) e s) QI X := by
  rw [wi_rng1, e_int]
  exact ⟨_, rfl, ⟨by omega, by omega⟩, by simpa using hq⟩
end AM
end

section
namespace AM
open Rep (is)
open PySem (Str PyData Operator CmpOp)
variable {P : Prog}

structure Titles (ts : List Str) : Prop where
  nodup : ts.Nodup
  word : ∀ t ∈ ts, wordB t = true
def menu1 : List Str := ["plain", "put", "set", "rewrite", "edition", "read", "follows", "stays", "a", "b", "told", "now", "old"]
def menu2 : List Str := ["lacks", "nobody", "formula"]
theorem menu_titles : Titles (menu1 ++ menu2) := ⟨by decide +kernel, by decide +kernel⟩

theorem map_erase {α β : Type} (f : α → β) : ∀ (l : List α) (i : Nat), (l.map f).eraseIdx i = (l.eraseIdx i).map f
  | [], _ => rfl
  | a :: l, 0 => rfl
  | a :: l, i + 1 => by simp [map_erase f l i]
/-- what is left and what was taken -/
theorem perm_pop {α : Type} {ts ms us : List α} {r : Nat} {x : α} (h : List.Perm (ts ++ ms) us) (hx : ms[r]? = some x) : List.Perm ((ts ++ [x]) ++ ms.eraseIdx r) us := by
  refine List.Perm.trans ?_ h
  rw [List.append_assoc]
  exact List.Perm.append_left ts (erase_perm hx)
theorem titles_part {ts ms us : List Str} (h : List.Perm (ts ++ ms) us) (hu : Titles us) : Titles ts := by
  refine ⟨?_, fun t ht => hu.word t (h.subset (by simp [ht]))⟩
  have := h.symm.nodup hu.nodup
  exact this.sublist (List.sublist_append_left _ _)

/-- the post of the titles -/
def TitlesQ (s : Store) (k m many : Nat) (v : Val) (s' : Store) : Prop := Keep (fun r => r = k) s s' ∧ isSack s' k (m + 1000) ∧ ∃ ts, is (Old s) s' v ts ∧ Titles ts ∧ ts.length = many

/-- from the menu -/
theorem titles0 (hD : Has P "_law_draw" KD.d_law_draw) {s s4 : Store} {e : Env} {k m many mr : Nat} (hk : k < s.length) (k4 : Keep (fun r => r = k) s s4) (h4 : isSack s4 k (m + 1)) (hmany : many ≤ 14) (hm : m + 2000 < 2 ^ 60) {n : Nat} (hn : 1 ≤ n)
    (e0 : e.s[0]? = some (some (.ref k))) (e1 : e.s[1]? = some (some (.int (many : Int)))) (e2 : e.s[2]? = some (some (.ref mr))) (hmr : s.length ≤ mr) (hmen : s4[mr]? = some ⟨.lst ((menu1 ++ menu2).map .str), false⟩) {X : Str → Val → Store → Prop} :
    wpx (ev P (callF P n) (E.lc (E.bm (E.var 2) "pop" (E.cons (E.call "_law_draw" (E.cons (E.var 0) (E.cons (E.bi "len" (E.cons (E.var 2) E.nil)) E.nil))) E.nil)) (Tg.nm 4) (E.rng1 (E.var 1)) E.nil [4]) e s4) (TitlesQ s k m many) X := by
  refine lc_rng ?_
  rw [wi_rng1, e_var, e1]
  simp only [Option.bind_some, id_eq, of_some, wpx_ok]
  have hlt := lt_of_at hmen
  refine ⟨_, rfl, ⟨by omega, by omega⟩, 0, many, fun i acc s' => Keep (fun r => r = k) s s' ∧ isSack s' k (m + 1 + i) ∧ ∃ ts ms : List Str, acc = ts.map .str ∧ s'[mr]? = some ⟨.lst (ms.map .str), false⟩ ∧ List.Perm (ts ++ ms) (menu1 ++ menu2), by simp, by unfold line; omega, ⟨k4.tr (Keep.push _ _ _), h4.push, [], _, rfl, (Keep.push _ No _).at_ hmen id, List.Perm.refl _⟩, ?_, ?_⟩
  · rintro i acc s' hi hl ⟨k1, h1, ts, ms, rfl, hms, hp⟩ ha
    have hlen := hp.length_eq
    simp [menu1, menu2] at hlen hl
    refine pop_e hD (by rw [wipe1 (by decide)]; exact e0) (by rw [wipe1 (by decide)]; exact e2) h1 hms (by omega) (by omega) (by simp; omega) (by simp; omega) hn fun r v s5 hv k5 h5 hm5 => ?_
    obtain ⟨x, hx, rfl⟩ : ∃ x, ms[r]? = some x ∧ Val.str x = v := by simpa using hv
    refine ⟨k5.at_ ha (by omega), keep_new (k1.trans k5 fun r hr h => by omega) (by have := k4.le; omega), (h5.set (by have := k4.le; omega)).le (by omega) (by omega), ts ++ [x], ms.eraseIdx r, by simp, ?_, perm_pop hp hx⟩
    rw [List.getElem?_set_ne (by omega), hm5, map_erase]
  · rintro acc s' hl ⟨k1, h1, ts, ms, rfl, hms, hp⟩ ha
    simp at hl
    exact ⟨k1, h1.le (by omega) (by omega), ts, is_strs.2 ⟨_, rfl, Nat.not_lt.2 k4.le, ha⟩, titles_part hp menu_titles, hl⟩

theorem sub_len {α : Type} [DecidableEq α] : ∀ {l m : List α}, l.Nodup → (∀ x ∈ l, x ∈ m) → l.length ≤ m.length
  | [], _, _, _ => Nat.zero_le _
  | a :: l, m, hn, h => by
    rw [List.nodup_cons] at hn
    have ha := h a (by simp)
    have := sub_len (m := m.erase a) hn.2 fun x hx => by
      have hne : x ≠ a := fun e => hn.1 (e ▸ hx)
      exact (List.mem_erase_of_ne hne).2 (h x (by simp [hx]))
    rw [List.length_erase_of_mem ha] at this
    have := List.length_pos_of_mem ha
    simp only [List.length_cons]
    omega
def titlesB : S := (S.seq (S.for (Tg.nm 4) (E.rng1 (E.var 1)) (S.seq (S.asg (Tg.nm 10) (E.bm (E.str "") "join" (E.cons (E.lc (E.sub (E.var 5) (E.call "_law_draw" (E.cons (E.var 0) (E.cons (E.int 26) E.nil)))) (Tg.nm 14) (E.rng1 (E.bin .Add (E.int 1) (E.call "_law_draw" (E.cons (E.var 0) (E.cons (E.int 8) E.nil))))) E.nil [14]) E.nil))) (S.seq (S.ifs (E.cmp .In (E.var 10) (E.var 7)) (S.asg (Tg.nm 10) (E.sub (E.lc (E.var 15) (Tg.nm 15) (E.var 5) (E.cmp .NotIn (E.var 15) (E.var 7)) [15]) (E.int 0))) S.skip) (S.drop (E.bm (E.var 7) "append" (E.cons (E.var 10) E.nil)))))) (S.ret (E.var 7)))
theorem titles3 (hD : Has P "_law_draw" KD.d_law_draw) {s s4 : Store} {k m many fr : Nat} {a2 a3 a4 a6 a8 a9 a10 a11 a12 a13 a14 a15 : Option Val} (hk : k < s.length) (k4 : Keep (fun r => r = k) s s4) (h4 : isSack s4 k (m + 100)) (hmany : many ≤ 14) (hm : m + 2000 < 2 ^ 60) {n : Nat} (hn : 1 ≤ n)
    (hfr : s.length ≤ fr) (hf : s4[fr]? = some ⟨.lst [], false⟩) {N : Env → Store → Prop} {X : Str → Val → Env → Store → Prop} :
    wps (exec P (callF P n) titlesB { s := [some (.ref k), some (.int (many : Int)), a2, a3, a4, some (.str letters), a6, some (.ref fr), a8, a9, a10, a11, a12, a13, a14, a15] } s4) N (TitlesQ s k m many) X := by
  simp only [titlesB]
  (simp only [e_var, e_non, e_bl, e_int, e_str, e_bin, e_neg, e_cmp, e_tup, e_lst, e_bi, e_sub, e_attr, e_om, e_ife, sH_var, sH_int, sH_neg, sL_bin, s2_vb, l_nil, l_cons, wt_and, wt_or, wt_not, wt_cmp, wt_chn, t_bi, t_var, i_var, i_sub, i_attr, i_call, i_slc, wi_rng1, wi_rng2, c_lt, c_le, c_gt, c_ge, c_in, c_nin, wpx_ok, wpx_err, of_some, List.getElem?_cons_zero, List.getElem?_cons_succ, Option.bind_some, Option.map_some, id_eq, assign_nm, assign_tp, item_f, item_t, item_s, wipe, List.foldr_cons, List.foldr_nil, List.foldl_cons, List.foldl_nil, List.set_cons_zero, List.set_cons_succ, Option.some.injEq, exists_eq_left', x_skip, x_seq, x_asg, x_asgA, x_asgS, x_drop, x_ret, x_retN, x_ifs, x_for, startE, List.map_cons, List.map_nil, List.length_cons, List.length_nil, List.replicate_succ, List.replicate_zero, List.cons_append, List.nil_append, Nat.sub_self, Nat.zero_add, Nat.reduceAdd, Nat.reduceSub, List.zip_cons_cons, List.zip_nil_left, if_true, Bool.false_eq_true, if_false, insAt_tup, insAt_str, insAt_int, opSub_tup, atI0, atI1, atI2, atI3, Val.int.injEq])
  refine ⟨⟨by omega, by omega⟩, ?_⟩
  simp only [Int.toNat_natCast]
  refine goes_rule (l := rangeL 0 many) (fun i e s' => Keep (fun r => r = k) s s' ∧ isSack s' k (m + 100 + 20 * i) ∧ (∃ a4 a10 a14 a15, e = { s := [some (.ref k), some (.int (many : Int)), a2, a3, a4, some (.str letters), a6, some (.ref fr), a8, a9, a10, a11, a12, a13, a14, a15] }) ∧ ∃ ts : List Str, s'[fr]? = some ⟨.lst (ts.map .str), false⟩ ∧ Titles ts ∧ ts.length = i) ?_ ?_ ?_ ?_
  · exact ⟨k4, h4, ⟨_, _, _, _, rfl⟩, [], hf, ⟨List.nodup_nil, by simp⟩, rfl⟩
  · intro i e s' _
    rfl
  · rintro i v e s5 hv ⟨k5, h5, ⟨b4, b10, b14, b15, rfl⟩, ts, hts, hT, hlt⟩
    have hi : i < many := by
      have := getElem?_some_lt hv
      simpa [rangeL] using this
    refine ⟨_, rfl, ?_⟩
    (simp only [e_var, e_non, e_bl, e_int, e_str, e_bin, e_neg, e_cmp, e_tup, e_lst, e_bi, e_sub, e_attr, e_om, e_ife, sH_var, sH_int, sH_neg, sL_bin, s2_vb, l_nil, l_cons, wt_and, wt_or, wt_not, wt_cmp, wt_chn, t_bi, t_var, i_var, i_sub, i_attr, i_call, i_slc, wi_rng1, wi_rng2, c_lt, c_le, c_gt, c_ge, c_in, c_nin, wpx_ok, wpx_err, of_some, List.getElem?_cons_zero, List.getElem?_cons_succ, Option.bind_some, Option.map_some, id_eq, assign_nm, assign_tp, item_f, item_t, item_s, wipe, List.foldr_cons, List.foldr_nil, List.foldl_cons, List.foldl_nil, List.set_cons_zero, List.set_cons_succ, Option.some.injEq, exists_eq_left', x_skip, x_seq, x_asg, x_asgA, x_asgS, x_drop, x_ret, x_retN, x_ifs, x_for, startE, List.map_cons, List.map_nil, List.length_cons, List.length_nil, List.replicate_succ, List.replicate_zero, List.cons_append, List.nil_append, Nat.sub_self, Nat.zero_add, Nat.reduceAdd, Nat.reduceSub, List.zip_cons_cons, List.zip_nil_left, if_true, Bool.false_eq_true, if_false, insAt_tup, insAt_str, insAt_int, opSub_tup, atI0, atI1, atI2, atI3, Val.int.injEq])
    refine word_e hD (by decide) (by decide) rfl rfl hn ?_
    rw [wi_rng1, e_bin, e_int]
    refine draw_e hD rfl h5 (wev_int _ _ _ _) (by omega) (by omega) (by omega) hn fun d s6 k6 h6 g1 g2 => ?_
    simp only [o_add, wpx_ok]
    obtain ⟨dn, rfl⟩ : ∃ q : Nat, d = (q : Int) := ⟨d.toNat, by omega⟩
    refine ⟨_, rfl, ⟨by omega, by omega⟩, 1 + dn, _, by rw [show (1 + (dn : Int)).toNat = 1 + dn from by omega], by omega, ?_, h6, ?_⟩
    · omega
    intro t s7 hlow htl k7 h7
    have k57 := k6.tr k7
    have hts7 := k57.at_ hts (by omega)
    have isf : is No s7 (.ref fr) ts := is_strs.2 ⟨_, rfl, id, hts7⟩
    have hok : OkS ts := fun x hx => low_laid (word_low (hT.word x hx))
    rw [in_strs isf hok (low_laid hlow)]
    refine ⟨_, rfl, ?_⟩
    have fin : ∀ (w : Str) (s8 : Store), Keep No s7 s8 → wordB w = true → w ∉ ts → Keep (fun r => r = k) s s8 ∧ isSack s8 k (m + 100 + 20 * i + 1 + (1 + dn)) ∧ s8[fr]? = some ⟨.lst (ts.map .str), false⟩ := fun w s8 k8 _ _ =>
      ⟨(k5.tr k57).trNo k8, h7.keep k8 id, k8.at_ hts7 id⟩
    have last : ∀ (w : Str) (s8 : Store), Keep No s7 s8 → wordB w = true → w ∉ ts → Keep (fun r => r = k) s (s8.set fr ⟨.lst (ts.map .str ++ [.str w]), false⟩) ∧ isSack (s8.set fr ⟨.lst (ts.map .str ++ [.str w]), false⟩) k (m + 100 + 20 * (i + 1)) ∧ ∃ ts2 : List Str, (s8.set fr ⟨.lst (ts.map .str ++ [.str w]), false⟩)[fr]? = some ⟨.lst (ts2.map .str), false⟩ ∧ Titles ts2 ∧ ts2.length = i + 1 := by
      intro w s8 k8 hw hn
      obtain ⟨a1, a2, a3⟩ := fin w s8 k8 hw hn
      refine ⟨keep_new a1 hfr, (a2.set (by omega)).le (by omega) (by omega), ts ++ [w], ?_, ⟨?_, ?_⟩, by simp [hlt]⟩
      · rw [set_at (lt_of_at a3)]
        simp
      · rw [List.nodup_append]
        exact ⟨hT.nodup, by simp, fun a ha b hb => by simp at hb; subst hb; exact fun e => hn (e ▸ ha)⟩
      · intro x hx
        rcases List.mem_append.1 hx with hx | hx
        · exact hT.word x hx
        · simp at hx
          subst hx
          exact hw
    split
    · refine lc_fil (α := Str) (β := Str) rfl ?_
      (simp only [e_var, e_non, e_bl, e_int, e_str, e_bin, e_neg, e_cmp, e_tup, e_lst, e_bi, e_sub, e_attr, e_om, e_ife, sH_var, sH_int, sH_neg, sL_bin, s2_vb, l_nil, l_cons, wt_and, wt_or, wt_not, wt_cmp, wt_chn, t_bi, t_var, i_var, i_sub, i_attr, i_call, i_slc, wi_rng1, wi_rng2, c_lt, c_le, c_gt, c_ge, c_in, c_nin, wpx_ok, wpx_err, of_some, List.getElem?_cons_zero, List.getElem?_cons_succ, Option.bind_some, Option.map_some, id_eq, assign_nm, assign_tp, item_f, item_t, item_s, wipe, List.foldr_cons, List.foldr_nil, List.foldl_cons, List.foldl_nil, List.set_cons_zero, List.set_cons_succ, Option.some.injEq, exists_eq_left', x_skip, x_seq, x_asg, x_asgA, x_asgS, x_drop, x_ret, x_retN, x_ifs, x_for, startE, List.map_cons, List.map_nil, List.length_cons, List.length_nil, List.replicate_succ, List.replicate_zero, List.cons_append, List.nil_append, Nat.sub_self, Nat.zero_add, Nat.reduceAdd, Nat.reduceSub, List.zip_cons_cons, List.zip_nil_left, if_true, Bool.false_eq_true, if_false, insAt_tup, insAt_str, insAt_int, opSub_tup, atI0, atI1, atI2, atI3, Val.int.injEq])
      simp only [iterV, of_some, wpx_ok]
      refine ⟨_, signs letters, fun z => decide (z ∉ ts), id, No, Old s7, rfl, ?_, old_no _, by decide +kernel, ?_, fun s8 k8 h8 => ?_⟩
      · rw [chars_signs]
        exact (all2_eq (f := Val.str)).2 rfl
      · rintro j u z s8 hu hz k8 hlt8 rfl
        have hzl : Low z := by
          have := List.mem_of_getElem? hz
          simp only [signs, List.mem_map] at this
          obtain ⟨c, hc, rfl⟩ := this
          intro c' hc'
          simp [codes] at hc'
          subst hc'
          exact (mem_letters c').1 hc
        rw [item_s, in_strs (Rep.frame isf (k8.weak fun _ _ h => h.elim)) hok (low_laid hzl)]
        exact ⟨_, rfl, Keep.refl _ _, by simp, fun _ => ⟨Keep.refl _ _, rfl⟩⟩
      · have hne : (signs letters).filter (fun z => decide (z ∉ ts)) ≠ [] := by
          intro he
          rw [List.filter_eq_nil_iff] at he
          have hsub : ∀ z ∈ signs letters, z ∈ ts := fun z hz => by simpa using he z hz
          have := sub_len (by decide +kernel : (signs letters).Nodup) hsub
          have h26 : (signs letters).length = 26 := by decide +kernel
          omega
        rw [List.map_id] at h8
        cases hc : (signs letters).filter (fun z => decide (z ∉ ts)) with
        | nil => exact absurd hc hne
        | cons w ws =>
          rw [hc] at h8
          have hwm : w ∈ (signs letters).filter (fun z => decide (z ∉ ts)) := by rw [hc]; simp
          rw [List.mem_filter] at hwm
          have hww : wordB w = true := (by decide +kernel : ∀ z ∈ signs letters, wordB z = true) w hwm.1
          have hnt : w ∉ ts := by simpa using hwm.2
          obtain ⟨r8, hr8, _, hc8⟩ := is_strs.1 h8
          cases hr8
          rw [insAt_lst hc8]
          dsimp only
          rw [opSub_lst hc8, List.map_cons, atI0]
          simp only [of_some, wpx_ok]
          rw [e_bm]
          (simp only [e_var, e_non, e_bl, e_int, e_str, e_bin, e_neg, e_cmp, e_tup, e_lst, e_bi, e_sub, e_attr, e_om, e_ife, sH_var, sH_int, sH_neg, sL_bin, s2_vb, l_nil, l_cons, wt_and, wt_or, wt_not, wt_cmp, wt_chn, t_bi, t_var, i_var, i_sub, i_attr, i_call, i_slc, wi_rng1, wi_rng2, c_lt, c_le, c_gt, c_ge, c_in, c_nin, wpx_ok, wpx_err, of_some, List.getElem?_cons_zero, List.getElem?_cons_succ, Option.bind_some, Option.map_some, id_eq, assign_nm, assign_tp, item_f, item_t, item_s, wipe, List.foldr_cons, List.foldr_nil, List.foldl_cons, List.foldl_nil, List.set_cons_zero, List.set_cons_succ, Option.some.injEq, exists_eq_left', x_skip, x_seq, x_asg, x_asgA, x_asgS, x_drop, x_ret, x_retN, x_ifs, x_for, startE, List.map_cons, List.map_nil, List.length_cons, List.length_nil, List.replicate_succ, List.replicate_zero, List.cons_append, List.nil_append, Nat.sub_self, Nat.zero_add, Nat.reduceAdd, Nat.reduceSub, List.zip_cons_cons, List.zip_nil_left, if_true, Bool.false_eq_true, if_false, insAt_tup, insAt_str, insAt_int, opSub_tup, atI0, atI1, atI2, atI3, Val.int.injEq])
          obtain ⟨a1, a2, a3⟩ := fin w s8 k8 hww hnt
          refine ⟨wbmOk_lst a3 (by decide), ?_⟩
          rw [bm_append a3 (by simp; unfold line; omega)]
          obtain ⟨b1, b2, b3⟩ := last w s8 k8 hww hnt
          exact ⟨b1, b2, ⟨_, _, _, _, rfl⟩, b3⟩
    · rename_i hd
      rw [e_bm]
      (simp only [e_var, e_non, e_bl, e_int, e_str, e_bin, e_neg, e_cmp, e_tup, e_lst, e_bi, e_sub, e_attr, e_om, e_ife, sH_var, sH_int, sH_neg, sL_bin, s2_vb, l_nil, l_cons, wt_and, wt_or, wt_not, wt_cmp, wt_chn, t_bi, t_var, i_var, i_sub, i_attr, i_call, i_slc, wi_rng1, wi_rng2, c_lt, c_le, c_gt, c_ge, c_in, c_nin, wpx_ok, wpx_err, of_some, List.getElem?_cons_zero, List.getElem?_cons_succ, Option.bind_some, Option.map_some, id_eq, assign_nm, assign_tp, item_f, item_t, item_s, wipe, List.foldr_cons, List.foldr_nil, List.foldl_cons, List.foldl_nil, List.set_cons_zero, List.set_cons_succ, Option.some.injEq, exists_eq_left', x_skip, x_seq, x_asg, x_asgA, x_asgS, x_drop, x_ret, x_retN, x_ifs, x_for, startE, List.map_cons, List.map_nil, List.length_cons, List.length_nil, List.replicate_succ, List.replicate_zero, List.cons_append, List.nil_append, Nat.sub_self, Nat.zero_add, Nat.reduceAdd, Nat.reduceSub, List.zip_cons_cons, List.zip_nil_left, if_true, Bool.false_eq_true, if_false, insAt_tup, insAt_str, insAt_int, opSub_tup, atI0, atI1, atI2, atI3, Val.int.injEq])
      have hw : wordB t = true := word_of hlow (by omega) (by omega)
      have hnt : t ∉ ts := by simpa using hd
      refine ⟨wbmOk_lst hts7 (by decide), ?_⟩
      rw [bm_append hts7 (by simp; unfold line; omega)]
      obtain ⟨a1, a2, a3⟩ := last t s7 (Keep.refl _ _) hw hnt
      exact ⟨a1, a2, ⟨_, _, _, _, rfl⟩, a3⟩
  · rintro e s5 ⟨k5, h5, ⟨b4, b10, b14, b15, rfl⟩, ts, hts, hT, hlt⟩
    have e1 : (rangeL 0 many).length = many := by simp [rangeL]
    rw [e1] at h5 hlt
    (simp only [e_var, e_non, e_bl, e_int, e_str, e_bin, e_neg, e_cmp, e_tup, e_lst, e_bi, e_sub, e_attr, e_om, e_ife, sH_var, sH_int, sH_neg, sL_bin, s2_vb, l_nil, l_cons, wt_and, wt_or, wt_not, wt_cmp, wt_chn, t_bi, t_var, i_var, i_sub, i_attr, i_call, i_slc, wi_rng1, wi_rng2, c_lt, c_le, c_gt, c_ge, c_in, c_nin, wpx_ok, wpx_err, of_some, List.getElem?_cons_zero, List.getElem?_cons_succ, Option.bind_some, Option.map_some, id_eq, assign_nm, assign_tp, item_f, item_t, item_s, wipe, List.foldr_cons, List.foldr_nil, List.foldl_cons, List.foldl_nil, List.set_cons_zero, List.set_cons_succ, Option.some.injEq, exists_eq_left', x_skip, x_seq, x_asg, x_asgA, x_asgS, x_drop, x_ret, x_retN, x_ifs, x_for, startE, List.map_cons, List.map_nil, List.length_cons, List.length_nil, List.replicate_succ, List.replicate_zero, List.cons_append, List.nil_append, Nat.sub_self, Nat.zero_add, Nat.reduceAdd, Nat.reduceSub, List.zip_cons_cons, List.zip_nil_left, if_true, Bool.false_eq_true, if_false, insAt_tup, insAt_str, insAt_int, opSub_tup, atI0, atI1, atI2, atI3, Val.int.injEq])
    exact ⟨k5, h5.le (by omega) (by omega), ts, is_strs.2 ⟨_, rfl, Nat.not_lt.2 hfr, hts⟩, hT, hlt⟩

theorem slc_str {st : Store} {z : Str} (h : z.length ≤ line) (lo hi : Option Int) : opSlc st (.str z) (lo.map .int) (hi.map .int) = .ok (.str (L2.cutS z lo hi)) st := by
  cases lo <;> cases hi <;> simp only [opSlc, Option.map_some, Option.map_none, optI, h, if_true]
theorem codes_cut (z : Str) (lo hi : Option Int) : codes (L2.cutS z lo hi) = cut (codes z) lo hi := by
  simp only [L2.cutS, codes, cut, Array.length_toList, PySem.Str.length]
theorem low_cut {z : Str} (h : Low z) (lo hi : Option Int) : Low (L2.cutS z lo hi) := by
  intro c hc
  rw [codes_cut] at hc
  exact h c (List.mem_of_mem_drop (List.mem_of_mem_take hc))
theorem low_app {a b : Str} (ha : Low a) (hb : Low b) : Low (a ++ b) := by
  intro c hc
  rw [codes_app] at hc
  rcases List.mem_append.1 hc with h | h
  · exact ha c h
  · exact hb c h
theorem len_app (a b : Str) : (a ++ b).length = a.length + b.length := by
  rw [← codes_len, codes_app, List.length_append, codes_len, codes_len]
theorem add_str {s : Store} {a b : Str} (h : a.length + b.length ≤ line) : opBin s .Add (.str a) (.str b) = .ok (.str (a ++ b)) s := by
  simp only [opBin, h, if_true]
theorem nodup_range {α : Type} {f : Nat → α} {n : Nat} (h : ∀ i j, i < n → j < n → f i = f j → i = j) : ((List.range n).map f).Nodup := by
  rw [List.nodup_iff_pairwise_ne, List.pairwise_map]
  refine List.Pairwise.imp_of_mem ?_ (List.nodup_iff_pairwise_ne.1 List.nodup_range)
  intro i j hi hj hne he
  exact hne (h i j (List.mem_range.1 hi) (List.mem_range.1 hj) he)

/-- one stem, one letter changed -/
def titleF (A T : Str) (b st : Int) (i : Nat) : Str := A ++ ltr (((b + st * (i : Int)) % 26).toNat) ++ T
theorem titlesF {A T : Str} {b st : Int} (hA : Low A) (hT : Low T) (hl : A.length + T.length ≤ 7) (hst : st = 1 ∨ st = 3 ∨ st = 7 ∨ st = 11 ∨ st = 25) {many : Nat} (hm : many ≤ 14) : Titles ((List.range many).map (titleF A T b st)) := by
  refine ⟨nodup_range fun i j hi hj he => ?_, ?_⟩
  · have he := congrArg codes he
    simp only [titleF, codes_app, List.append_assoc, List.append_cancel_left_eq] at he
    have he := (List.append_inj he rfl).1
    simp [ltr, codes] at he
    rcases hst with h | h | h | h | h <;> subst h <;> omega
  · intro t ht
    obtain ⟨i, hi, rfl⟩ := List.mem_map.1 ht
    have h1 : (titleF A T b st i).length = A.length + 1 + T.length := by
      simp only [titleF, len_app]
      rfl
    refine word_of (low_app (low_app hA (low_ltr (by omega))) hT) (by omega) (by omega)
def sizesL : List Int := [1, 2, 3, 4, 5, 6, 7, 8]

theorem titles_w (hD : Has P "_law_draw" KD.d_law_draw) (hT : Has P "_law_some_titles" KD.d_law_some_titles) {s : Store} {k m many : Nat} (hs : isSack s k m) (hmany : many ≤ 14) (hm : m + 2000 < 2 ^ 60) {n : Nat} (hn : 2 ≤ n) :
    wpx (callF P n "_law_some_titles" [.ref k, .int (many : Int)] s) (TitlesQ s k m many) NoX := by
  have hk := no_k hs
  refine callF_def hT.df (by omega) rfl ?_
  change wps (exec P _ (S.seq _ (S.seq _ (S.seq _ (S.seq _ (S.seq _ (S.seq _ (S.seq _ titlesB))))))) (startE 16 _) _) _ _ _
  simp only [x_seq, x_asg, e_tup, l_cons, e_str]
  refine draw_e hD rfl hs (wev_int _ _ _ _) (by omega) (by omega) (by omega) (by omega) fun mode s1 k1 h1 g1 g2 => ?_
  (simp only [e_var, e_non, e_bl, e_int, e_str, e_bin, e_neg, e_cmp, e_tup, e_lst, e_bi, e_sub, e_attr, e_om, e_ife, sH_var, sH_int, sH_neg, sL_bin, s2_vb, l_nil, l_cons, wt_and, wt_or, wt_not, wt_cmp, wt_chn, t_bi, t_var, i_var, i_sub, i_attr, i_call, i_slc, wi_rng1, wi_rng2, c_lt, c_le, c_gt, c_ge, c_in, c_nin, wpx_ok, wpx_err, of_some, List.getElem?_cons_zero, List.getElem?_cons_succ, Option.bind_some, Option.map_some, id_eq, assign_nm, assign_tp, item_f, item_t, item_s, wipe, List.foldr_cons, List.foldr_nil, List.foldl_cons, List.foldl_nil, List.set_cons_zero, List.set_cons_succ, Option.some.injEq, exists_eq_left', x_skip, x_seq, x_asg, x_asgA, x_asgS, x_drop, x_ret, x_retN, x_ifs, x_for, startE, List.map_cons, List.map_nil, List.length_cons, List.length_nil, List.replicate_succ, List.replicate_zero, List.cons_append, List.nil_append, Nat.sub_self, Nat.zero_add, Nat.reduceAdd, Nat.reduceSub, List.zip_cons_cons, List.zip_nil_left, if_true, Bool.false_eq_true, if_false, insAt_tup, insAt_str, insAt_int, opSub_tup, atI0, atI1, atI2, atI3, Val.int.injEq])
  have hnew : s1.length < (s1 ++ [⟨.lst [], false⟩] : Store).length := by simp
  have p1 := Keep.push ⟨.lst [], false⟩ No s1
  have p2 := Keep.push ⟨.lst (menu1.map .str), false⟩ No (s1 ++ [⟨.lst [], false⟩])
  have p3 := Keep.push ⟨.lst (menu2.map .str), false⟩ No (s1 ++ [⟨.lst [], false⟩] ++ [⟨.lst (menu1.map .str), false⟩])
  have m1 := new_flat (s := s1 ++ [⟨.lst [], false⟩]) (H := No) (s' := s1) (vs := menu1.map .str) (xs := menu1) ((all2_eq (f := Val.str)).2 rfl)
  have m2 := new_flat (s := s1 ++ [⟨.lst [], false⟩] ++ [⟨.lst (menu1.map .str), false⟩]) (H := No) (s' := s1) (vs := menu2.map .str) (xs := menu2) ((all2_eq (f := Val.str)).2 rfl)
  refine add_w (Rep.frame m1 (p3.weak fun _ _ h => h.elim)) m2 (by decide) fun s4 k4 h4 => ?_
  obtain ⟨_, hmr, hnmr, hmen⟩ := is_strs.1 h4
  cases hmr
  have kk : Keep No s1 s4 := p1.tr (p2.tr (p3.tr k4))
  have hle := kk.le
  have hfound : s4[s1.length]? = some ⟨.lst [], false⟩ := (p2.tr (p3.tr k4)).at_ (push_at _ _) id
  have hs4 := h1.keep kk id
  have ks4 := k1.trNo kk
  rw [c_eqi]
  refine ⟨_, rfl, ?_⟩
  split
  · refine titles0 hD hk ks4 hs4 hmany hm (by omega) rfl rfl rfl ?_ hmen
    have := k1.le
    simp
    omega
  · refine word_e hD (by decide) (by decide) rfl rfl (by omega) ?_
    rw [wi_rng1, e_int]
    refine ⟨_, rfl, ⟨by omega, by omega⟩, 8, _, rfl, by omega, ?_, hs4, ?_⟩
    · omega
    intro stem s5 hlow hlen k5 h5
    have ks5 := ks4.tr k5
    have hk1 := k1.le
    rw [c_eqi]
    refine ⟨_, rfl, ?_⟩
    split
    · refine draw_e hD rfl h5 (wev_int _ _ _ _) (by omega) (by omega) (by omega) (by omega) fun a s6 k6 h6 a1 a2 => ?_
      refine draw_e hD rfl h6 (wev_int _ _ _ _) (by omega) (by omega) (by omega) (by omega) fun b s7 k7 h7 b1 b2 => ?_
      refine draw_e hD rfl h7.push (wev_int _ _ _ _) (by omega) (by omega) (by omega) (by omega) fun c s8 k8 h8 c1 c2 => ?_
      have hk7 := no_k h7
      have hc7 := k8.at_ (push_at s7 _) (by omega)
      obtain ⟨cn, rfl⟩ : ∃ q : Nat, c = (q : Int) := ⟨c.toNat, by omega⟩
      obtain ⟨st, hst, hmem⟩ : ∃ st : Int, ([.int 1, .int 3, .int 7, .int 11, .int 25] : List Val)[cn]? = some (.int st) ∧ (st = 1 ∨ st = 3 ∨ st = 7 ∨ st = 11 ∨ st = 25) := by
        have : cn = 0 ∨ cn = 1 ∨ cn = 2 ∨ cn = 3 ∨ cn = 4 := by omega
        rcases this with h | h | h | h | h <;> subst h <;> exact ⟨_, rfl, by simp⟩
      rw [insAt_lst hc7]
      dsimp only
      rw [opSub_lst hc7, atI_k hst]
      refine ⟨a, rfl, ?_⟩
      obtain ⟨an, rfl⟩ : ∃ q : Nat, a = (q : Int) := ⟨a.toNat, by omega⟩
      refine draw_e hD rfl h8 (many := 8 - (an : Int)) (by simp only [ev, Res.bind]; rfl) (by omega) (by omega) (by omega) (by omega) fun d s9 k9 h9 d1 d2 => ?_
      obtain ⟨dn, rfl⟩ : ∃ q : Nat, d = (q : Int) := ⟨d.toNat, by omega⟩
      rw [o_add]
      refine ⟨_, rfl, ?_⟩
      rw [show opSlc s9 (.str stem) (some (.int (an : Int))) (some (.int ((an : Int) + (dn : Int)))) = _ from slc_str (by unfold line; omega) (some (an : Int)) (some ((an : Int) + (dn : Int)))]
      simp only [wpx_ok]
      have ks9 : Keep (fun r => r = k) s s9 := (((ks5.tr k6).tr k7).trNo (Keep.push _ _ _)).tr (k8.tr k9)
      refine lc_rng ?_
      (simp only [e_var, e_non, e_bl, e_int, e_str, e_bin, e_neg, e_cmp, e_tup, e_lst, e_bi, e_sub, e_attr, e_om, e_ife, sH_var, sH_int, sH_neg, sL_bin, s2_vb, l_nil, l_cons, wt_and, wt_or, wt_not, wt_cmp, wt_chn, t_bi, t_var, i_var, i_sub, i_attr, i_call, i_slc, wi_rng1, wi_rng2, c_lt, c_le, c_gt, c_ge, c_in, c_nin, wpx_ok, wpx_err, of_some, List.getElem?_cons_zero, List.getElem?_cons_succ, Option.bind_some, Option.map_some, id_eq, assign_nm, assign_tp, item_f, item_t, item_s, wipe, List.foldr_cons, List.foldr_nil, List.foldl_cons, List.foldl_nil, List.set_cons_zero, List.set_cons_succ, Option.some.injEq, exists_eq_left', x_skip, x_seq, x_asg, x_asgA, x_asgS, x_drop, x_ret, x_retN, x_ifs, x_for, startE, List.map_cons, List.map_nil, List.length_cons, List.length_nil, List.replicate_succ, List.replicate_zero, List.cons_append, List.nil_append, Nat.sub_self, Nat.zero_add, Nat.reduceAdd, Nat.reduceSub, List.zip_cons_cons, List.zip_nil_left, if_true, Bool.false_eq_true, if_false, insAt_tup, insAt_str, insAt_int, opSub_tup, atI0, atI1, atI2, atI3, Val.int.injEq])
      have lA : (L2.cutS stem none (some (an : Int))).length = an := by
        rw [← codes_len, codes_cut, cut_to, List.length_take, codes_len]
        omega
      have lT : (L2.cutS stem (some (an : Int)) (some ((an : Int) + (dn : Int)))).length ≤ 7 - an := by
        rw [← codes_len, codes_cut, show ((an : Int) + (dn : Int)) = ((an + dn : Nat) : Int) from by omega, cut_part, List.length_take]
        omega
      refine ⟨⟨by omega, by omega⟩, 0, many, fun i acc s' => Keep (fun r => r = k) s s' ∧ isSack s' k (m + 1000) ∧ acc = ((List.range i).map (titleF (L2.cutS stem none (some (an : Int))) (L2.cutS stem (some (an : Int)) (some ((an : Int) + (dn : Int)))) b st)).map .str, by simp, by unfold line; omega, ⟨ks9.trNo (Keep.push _ _ _), (h9.le (by omega) (by omega)).push, rfl⟩, ?_, ?_⟩
      · rintro i acc s' hi hl ⟨q1, q2, rfl⟩ ha
        rw [Int.zero_add]
        rw [show opSlc s' (.str stem) none (some (.int (an : Int))) = _ from slc_str (by unfold line; omega) none (some (an : Int))]
        simp only [wpx_ok]
        rw [o_mulL s' (by rcases hmem with h | h | h | h | h <;> subst h <;> omega)]
        simp only [wpx_ok, o_add, bip_int]
        rw [o_mod s' (by omega)]
        simp only [wpx_ok]
        rw [show ("abcdefghijklmnopqrstuvwxyz" : Str) = letters from rfl]
        rw [sub_letters s' (Int.emod_nonneg _ (by omega)) (Int.emod_lt_of_pos _ (by omega))]
        simp only [of_some, wpx_ok]
        rw [add_str (by rw [lA]; show an + 1 ≤ line; unfold line; omega)]
        simp only [wpx_ok]
        rw [add_str (by rw [len_app, lA]; show an + 1 + _ ≤ line; unfold line; omega)]
        refine ⟨ha, keep_new q1 (by have := ks9.le; omega), q2.set (by have := ks9.le; omega), ?_⟩
        rw [List.range_succ]
        simp [titleF]
      · rintro acc s' hl ⟨q1, q2, rfl⟩ ha
        exact ⟨q1, q2, _, is_strs.2 ⟨_, rfl, Nat.not_lt.2 ks9.le, ha⟩, titlesF (low_cut hlow _ _) (low_cut hlow _ _) (by omega) hmem hmany, by simp⟩
    · rw [c_eqi]
      refine ⟨_, rfl, ?_⟩
      have hfr5 := k5.at_ hfound (by have := no_k h1; omega)
      have hfr : s.length ≤ s1.length := hk1
      split
      · split
        · refine lc_rng ?_
          (simp only [e_var, e_non, e_bl, e_int, e_str, e_bin, e_neg, e_cmp, e_tup, e_lst, e_bi, e_sub, e_attr, e_om, e_ife, sH_var, sH_int, sH_neg, sL_bin, s2_vb, l_nil, l_cons, wt_and, wt_or, wt_not, wt_cmp, wt_chn, t_bi, t_var, i_var, i_sub, i_attr, i_call, i_slc, wi_rng1, wi_rng2, c_lt, c_le, c_gt, c_ge, c_in, c_nin, wpx_ok, wpx_err, of_some, List.getElem?_cons_zero, List.getElem?_cons_succ, Option.bind_some, Option.map_some, id_eq, assign_nm, assign_tp, item_f, item_t, item_s, wipe, List.foldr_cons, List.foldr_nil, List.foldl_cons, List.foldl_nil, List.set_cons_zero, List.set_cons_succ, Option.some.injEq, exists_eq_left', x_skip, x_seq, x_asg, x_asgA, x_asgS, x_drop, x_ret, x_retN, x_ifs, x_for, startE, List.map_cons, List.map_nil, List.length_cons, List.length_nil, List.replicate_succ, List.replicate_zero, List.cons_append, List.nil_append, Nat.sub_self, Nat.zero_add, Nat.reduceAdd, Nat.reduceSub, List.zip_cons_cons, List.zip_nil_left, if_true, Bool.false_eq_true, if_false, insAt_tup, insAt_str, insAt_int, opSub_tup, atI0, atI1, atI2, atI3, Val.int.injEq])
          have hsz : (s5 ++ [⟨.lst (sizesL.map .int), false⟩] : Store)[s5.length]? = some ⟨.lst (sizesL.map .int), false⟩ := push_at _ _
          have h5p := (h5.push (c := ⟨.lst (sizesL.map .int), false⟩)).le (m' := m + 100) (by omega) (by omega)
          have ks5p := ks5.trNo (Keep.push ⟨.lst (sizesL.map .int), false⟩ No s5)
          refine ⟨⟨by omega, by omega⟩, 0, many, fun i acc s' => Keep (fun r => r = k) s s' ∧ isSack s' k (m + 100 + i) ∧ ∃ zs ms : List Int, acc = (zs.map fun z => L2.cutS stem none (some z)).map .str ∧ s'[s5.length]? = some ⟨.lst (ms.map .int), false⟩ ∧ List.Perm (zs ++ ms) sizesL, by simp, by unfold line; omega, ⟨ks5p.trNo (Keep.push _ _ _), h5p.push, [], _, rfl, (Keep.push _ No _).at_ hsz id, List.Perm.refl _⟩, ?_, ?_⟩
          · rintro i acc s' hi hl ⟨q1, q2, zs, ms, rfl, hms, hp⟩ ha
            have hlen := hp.length_eq
            rename_i hmn
            simp [sizesL] at hlen hl hmn
            have hl5 := ks5.le
            rw [e_slcH _ _ rfl]
            simp only [e_var, List.getElem?_cons_zero, List.getElem?_cons_succ, Option.bind_some, id_eq, of_some, wpx_ok]
            refine pop_e hD rfl rfl q2 hms (by omega) (by omega) (by simp; omega) (by simp; omega) (by omega) fun r v s6 hv k6 h6 hm6 => ?_
            obtain ⟨x, hx, rfl⟩ : ∃ x, ms[r]? = some x ∧ Val.int x = v := by simpa using hv
            refine ⟨x, rfl, ?_⟩
            rw [show opSlc s6 (.str stem) none (some (.int x)) = _ from slc_str (by unfold line; omega) none (some x)]
            refine ⟨k6.at_ ha (by simp; omega), keep_new (q1.trans k6 fun r hr h => by omega) (by simp; omega), (h6.set (by simp; omega)).le (by omega) (by omega), zs ++ [x], ms.eraseIdx r, by simp, ?_, perm_pop hp hx⟩
            rw [List.getElem?_set_ne (by simp), hm6, map_erase]
          · rintro acc s' hl ⟨q1, q2, zs, ms, rfl, hms, hp⟩ ha
            simp at hl
            have hzs : ∀ z ∈ zs, 1 ≤ z ∧ z ≤ 8 := fun z hz => (by decide : ∀ z ∈ sizesL, 1 ≤ z ∧ z ≤ 8) z (hp.subset (by simp [hz]))
            have hcl : ∀ z ∈ zs, (L2.cutS stem none (some z)).length = z.toNat := by
              intro z hz
              have := hzs z hz
              rw [← codes_len, codes_cut, show z = ((z.toNat : Nat) : Int) from by omega, cut_to, List.length_take, codes_len]
              omega
            have hnd : zs.Nodup := (hp.symm.nodup (by decide)).sublist (List.sublist_append_left _ _)
            refine ⟨q1, q2.le (by omega) (by omega), _, is_strs.2 ⟨_, rfl, Nat.not_lt.2 ks5p.le, ha⟩, ⟨?_, ?_⟩, by simpa using hl⟩
            · rw [List.nodup_iff_pairwise_ne, List.pairwise_map]
              refine List.Pairwise.imp_of_mem ?_ (List.nodup_iff_pairwise_ne.1 hnd)
              intro y z hy hz hne he
              have := congrArg PySem.Str.length he
              rw [hcl y hy, hcl z hz] at this
              have := hzs y hy
              have := hzs z hz
              omega
            · intro t ht
              obtain ⟨z, hz, rfl⟩ := List.mem_map.1 ht
              have := hzs z hz
              have := hcl z hz
              exact word_of (low_cut hlow _ _) (by omega) (by omega)
        · exact titles3 hD hk ks5 (h5.le (by omega) (by omega)) hmany hm (by omega) hfr hfr5
      · exact titles3 hD hk ks5 (h5.le (by omega) (by omega)) hmany hm (by omega) hfr hfr5
end AM
end

section
namespace AM
open Rep (is)
open PySem (Str PyData Operator CmpOp)
variable {P : Prog}

def planC : S := (S.for (Tg.nm 9) (E.rng2 (E.var 4) (E.bin .Add (E.var 4) (E.var 5))) (S.seq (S.asg (Tg.tp [13, 14]) (E.tup (E.cons (E.bi "list" (E.cons (E.slc (E.var 6) E.nil (E.var 9)) E.nil)) (E.cons (E.lst E.nil) E.nil)))) (S.seq (S.for (Tg.nm 10) (E.rng1 (E.bi "min" (E.cons (E.var 9) (E.cons (E.call "_law_draw" (E.cons (E.var 0) (E.cons (E.bin .Add (E.sub (E.var 1) (E.int 3)) (E.int 1)) E.nil))) E.nil)))) (S.drop (E.bm (E.var 14) "append" (E.cons (E.bm (E.var 13) "pop" (E.cons (E.call "_law_draw" (E.cons (E.var 0) (E.cons (E.bi "len" (E.cons (E.var 13) E.nil)) E.nil))) E.nil)) E.nil)))) (S.seq (S.ifs (E.and (E.cmp .NotEq (E.var 8) (E.lst E.nil)) (E.cmp .Eq (E.call "_law_draw" (E.cons (E.var 0) (E.cons (E.int 4) E.nil))) (E.int 0))) (S.asg (Tg.nm 14) (E.bin .Add (E.lst (E.cons (E.sub (E.var 6) (E.bin .Sub (E.var 9) (E.int 1))) E.nil)) (E.slc (E.sub (E.sub (E.var 8) (E.neg (E.int 1))) (E.int 2)) E.nil (E.int 1)))) S.skip) (S.seq (S.asg (Tg.nm 11) (E.sub (E.lst (E.cons (E.str "read") (E.cons (E.str "follows") (E.cons (E.str "stays") E.nil)))) (E.call "_law_draw" (E.cons (E.var 0) (E.cons (E.int 3) E.nil))))) (S.drop (E.bm (E.var 8) "append" (E.cons (E.tup (E.cons (E.sub (E.var 6) (E.var 9)) (E.cons (E.sub (E.var 7) (E.call "_law_draw" (E.cons (E.var 0) (E.cons (E.bi "len" (E.cons (E.var 7) E.nil)) E.nil)))) (E.cons (E.var 14) (E.cons (E.var 11) E.nil))))) E.nil))))))))

/-- a rule for the title at i -/
structure RuleAt (ts : List Str) (i : Nat) (x : Rul) : Prop where
  nm : ts[i]? = some x.nm
  fm : wordB x.fm = true
  nd : x.src.Nodup
  sub : ∀ y ∈ x.src, y ∈ ts.take i
  len : x.src.length ≤ 14
  hd : x.hd ∈ heldL
def RulesOk (ts : List Str) (c : Nat) (rs : List Rul) : Prop := ∀ j x, rs[j]? = some x → RuleAt ts (c + j) x
theorem held_laid : ∀ h ∈ heldL, PyData.canLay0 (.str h) = true := by decide +kernel
theorem RuleAt.laid {ts : List Str} (hT : Titles ts) {i : Nat} {x : Rul} (h : RuleAt ts i x) : PyData.canLay0 (Rep.d x) = true := by
  have hn : PyData.canLay0 (.str x.nm) = true := low_laid (word_low (hT.word _ (List.mem_of_getElem? h.nm)))
  have hs : PyData.canLay0 (.list (x.src.map PyData.str)) = true := okS_laid fun y hy => low_laid (word_low (hT.word y (List.mem_of_mem_take (h.sub y hy))))
  have hf : PyData.canLay0 (.str x.fm) = true := low_laid (word_low h.fm)
  have hh := held_laid _ h.hd
  show PyData.canLay0 (.tuple [.str x.nm, .str x.fm, .list (x.src.map PyData.str), .str x.hd]) = true
  simp only [PyData.canLay0, PyData.canLayAll0, Bool.and_true, Bool.and_eq_true] at hn hs hf hh ⊢
  exact ⟨hn, hf, hs, hh⟩
theorem rules_laid {ts : List Str} (hT : Titles ts) {c : Nat} {rs : List Rul} (h : RulesOk ts c rs) : PyData.canLay0 (Rep.d rs) = true := by
  show PyData.canLay0 (.list (rs.map Rep.d)) = true
  simp only [PyData.canLay0, laidAll, List.all_map, List.all_eq_true]
  intro x hx
  obtain ⟨j, hj⟩ := List.getElem?_of_mem hx
  exact (h j x hj).laid hT
theorem ev_subt {C : Call} {j : Nat} {i x : Int} {l : List Val} {e : Env} {s : Store} (he : e.s[j]? = some (some (.tup l))) (h : L2.atI l i = some (.int x)) : ev P C (.sub (.var j) (.int i)) e s = .ok (.int x) s := by
  simp only [ev, he, Option.bind_some, id_eq, of_some, Res.bind, insAt_tup, opSub_tup, h]
theorem atI_last {α : Type} {l : List α} {x : α} (h : l[l.length - 1]? = some x) : L2.atI l (-1) = some x := by
  have hl := getElem?_some_lt h
  have h1 : ¬ (0 : Int) ≤ -1 := by decide
  have h2 : -(l.length : Int) ≤ -1 := by omega
  have h3 : (-1 + (l.length : Int)).toNat = l.length - 1 := by omega
  simp [L2.atI, L2.ixN, h2, h3, h]
theorem eqv_nil (xs : List PyData) : PyData.eqv (.list xs) (.list []) = xs.isEmpty := by
  cases xs <;> simp [PyData.eqv, PyData.eqvAll]
theorem dp_new (s : Store) : dp (s ++ [⟨.lst [], false⟩]) (.ref s.length) = some (.list []) := by
  have h := push_at s ⟨.lst [], false⟩
  simp only [dp, deep, h]
  rfl

def envC (k : Nat) (sz : Val) (r2 : Nat) (a3 : Option Val) (cnt mny : Nat) (rt rw r8 : Nat) (a9 a10 a11 a12 a13 a14 : Option Val) : Env :=
  { s := [some (.ref k), some sz, some (.ref r2), a3, some (.int (cnt : Int)), some (.int (mny : Int)), some (.ref rt), some (.ref rw), some (.ref r8), a9, a10, a11, a12, a13, a14] }

theorem rules_w (hD : Has P "_law_draw" KD.d_law_draw) {s0 : Store} {k m r2 cnt mny rt rw r8 : Nat} {z0 z1 z2 : Int} {z3 : Nat} {a3 a9 a10 a11 a12 a13 a14 : Option Val} {H : Nat → Prop} {ts ws : List Str} (hs : isSack s0 k m) (hm : m + 1000 < 2 ^ 60) (hT : Titles ts) (hW : Titles ws) (hw0 : ws ≠ []) (hwl : ws.length ≤ 14) (ht : is H s0 (.ref rt) ts) (hw : is H s0 (.ref rw) ws) (h8 : s0[r8]? = some ⟨.lst [], false⟩) (hk : r8 ≠ k) (ht8 : rt ≠ r8) (hw8 : rw ≠ r8) (htk : rt ≠ k) (hwk : rw ≠ k) (hz3 : z3 ≤ 6) (hc : 1 ≤ cnt) (hcm : ts.length = cnt + mny) (hmny : cnt + mny ≤ 14) {n : Nat} (hn : 1 ≤ n)
    {N : Env → Store → Prop} {R : Val → Store → Prop} {X : Str → Val → Env → Store → Prop}
    (hq : ∀ a9 a10 a11 a12 a13 a14 s' vs rs, Keep (fun r => r = k ∨ r = r8) s0 s' → isSack s' k (m + 20 * mny) → s'[r8]? = some ⟨.lst vs, false⟩ → isL (Old s0) s' vs rs → RulesOk ts cnt rs → rs.length = mny → N (envC k (.tup [.int z0, .int z1, .int z2, .int (z3 : Int)]) r2 a3 cnt mny rt rw r8 a9 a10 a11 a12 a13 a14) s') :
    wps (exec P (callF P n) planC (envC k (.tup [.int z0, .int z1, .int z2, .int (z3 : Int)]) r2 a3 cnt mny rt rw r8 a9 a10 a11 a12 a13 a14) s0) N R X := by
  have h8lt := lt_of_at h8
  simp only [planC, envC]
  (simp only [e_var, e_non, e_bl, e_int, e_str, e_bin, e_neg, e_cmp, e_tup, e_lst, e_bi, e_sub, e_attr, e_om, e_ife, sH_var, sH_int, sH_neg, sL_bin, s2_vb, l_nil, l_cons, wt_and, wt_or, wt_not, wt_cmp, wt_chn, t_bi, t_var, i_var, i_sub, i_attr, i_call, i_slc, wi_rng1, wi_rng2, c_lt, c_le, c_gt, c_ge, c_in, c_nin, wpx_ok, wpx_err, of_some, List.getElem?_cons_zero, List.getElem?_cons_succ, Option.bind_some, Option.map_some, id_eq, assign_nm, assign_tp, item_f, item_t, item_s, wipe, List.foldr_cons, List.foldr_nil, List.foldl_cons, List.foldl_nil, List.set_cons_zero, List.set_cons_succ, Option.some.injEq, exists_eq_left', x_skip, x_seq, x_asg, x_asgA, x_asgS, x_drop, x_ret, x_retN, x_ifs, x_for, startE, List.map_cons, List.map_nil, List.length_cons, List.length_nil, List.replicate_succ, List.replicate_zero, List.cons_append, List.nil_append, Nat.sub_self, Nat.zero_add, Nat.reduceAdd, Nat.reduceSub, List.zip_cons_cons, List.zip_nil_left, if_true, Bool.false_eq_true, if_false, insAt_tup, insAt_str, insAt_int, opSub_tup, atI0, atI1, atI2, atI3, Val.int.injEq])
  simp only [o_add, wpx_ok]
  refine ⟨_, _, rfl, rfl, ⟨⟨by omega, by omega⟩, by omega, by omega⟩, ?_⟩
  have e1 : ((cnt : Int) + (mny : Int) - (cnt : Int)).toNat = mny := by omega
  rw [e1]
  refine goes_rule (l := rangeL (cnt : Int) mny) (fun i e s' => Keep (fun r => r = k ∨ r = r8) s0 s' ∧ isSack s' k (m + 20 * i) ∧ (∃ a9 a10 a11 a13 a14, e = envC k (.tup [.int z0, .int z1, .int z2, .int (z3 : Int)]) r2 a3 cnt mny rt rw r8 a9 a10 a11 a12 a13 a14) ∧ ∃ vs rs, s'[r8]? = some ⟨.lst vs, false⟩ ∧ isL (Old s0) s' vs rs ∧ RulesOk ts cnt rs ∧ rs.length = i) ⟨Keep.refl _ _, hs, ⟨_, _, _, _, _, rfl⟩, [], [], h8, trivial, by intro j x h; simp at h, rfl⟩ (fun _ _ _ _ => rfl) ?_ ?_
  · rintro i v e s1 hv ⟨k1, h1, ⟨b9, b10, b11, b13, b14, rfl⟩, vs, rs, hvs, hrs, hok, hlen⟩
    have hi : i < mny := by
      have := getElem?_some_lt hv
      simpa [rangeL] using this
    have hv2 : v = .int ((cnt + i : Nat) : Int) := by
      simp [rangeL, hi] at hv
      rw [← hv]
      simp
    subst hv2
    refine ⟨_, rfl, ?_⟩
    simp only [envC]
    rw [x_seq]
    (simp only [e_var, e_non, e_bl, e_int, e_str, e_bin, e_neg, e_cmp, e_tup, e_lst, e_bi, e_sub, e_attr, e_om, e_ife, sH_var, sH_int, sH_neg, sL_bin, s2_vb, l_nil, l_cons, wt_and, wt_or, wt_not, wt_cmp, wt_chn, t_bi, t_var, i_var, i_sub, i_attr, i_call, i_slc, wi_rng1, wi_rng2, c_lt, c_le, c_gt, c_ge, c_in, c_nin, wpx_ok, wpx_err, of_some, List.getElem?_cons_zero, List.getElem?_cons_succ, Option.bind_some, Option.map_some, id_eq, assign_nm, assign_tp, item_f, item_t, item_s, wipe, List.foldr_cons, List.foldr_nil, List.foldl_cons, List.foldl_nil, List.set_cons_zero, List.set_cons_succ, Option.some.injEq, exists_eq_left', x_skip, x_asg, x_asgA, x_asgS, x_drop, x_ret, x_retN, startE, List.map_cons, List.map_nil, List.length_cons, List.length_nil, List.replicate_succ, List.replicate_zero, List.cons_append, List.nil_append, Nat.sub_self, Nat.zero_add, Nat.reduceAdd, Nat.reduceSub, List.zip_cons_cons, List.zip_nil_left, if_true, Bool.false_eq_true, if_false, insAt_tup, insAt_str, insAt_int, opSub_tup, atI0, atI1, atI2, atI3, Val.int.injEq])
    have ht1 : is (fun r => r = k ∨ r = r8) s1 (.ref rt) ts := by
      obtain ⟨_, e, _, hc⟩ := is_strs.1 ht
      cases e
      exact is_strs.2 ⟨_, rfl, by omega, k1.at_ hc (by omega)⟩
    refine slc_to_w ht1 fun s2 k2 h2 => ?_
    refine list_w h2 fun s3 k3 h3 => ?_
    have hkl := no_k h1
    have k13 : Keep No s1 s3 := k2.tr k3
    have hle := k13.le
    have hle2 := k2.le
    have k01 := k1.le
    obtain ⟨_, eL, _, hL⟩ := is_strs.1 h3
    cases eL
    have hLlt := lt_of_at hL
    have p4 := Keep.push ⟨.lst [], false⟩ No s3
    have hs4 := (h1.keep k13 id).push (c := ⟨.lst [], false⟩)
    rw [x_seq, x_for]
    (simp only [e_var, e_non, e_bl, e_int, e_str, e_bin, e_neg, e_cmp, e_tup, e_lst, e_bi, e_sub, e_attr, e_om, e_ife, sH_var, sH_int, sH_neg, sL_bin, s2_vb, l_nil, l_cons, wt_and, wt_or, wt_not, wt_cmp, wt_chn, t_bi, t_var, i_var, i_sub, i_attr, i_call, i_slc, wi_rng1, wi_rng2, c_lt, c_le, c_gt, c_ge, c_in, c_nin, wpx_ok, wpx_err, of_some, List.getElem?_cons_zero, List.getElem?_cons_succ, Option.bind_some, Option.map_some, id_eq, assign_nm, assign_tp, item_f, item_t, item_s, wipe, List.foldr_cons, List.foldr_nil, List.foldl_cons, List.foldl_nil, List.set_cons_zero, List.set_cons_succ, Option.some.injEq, exists_eq_left', x_skip, x_asg, x_asgA, x_asgS, x_drop, x_ret, x_retN, startE, List.map_cons, List.map_nil, List.length_cons, List.length_nil, List.replicate_succ, List.replicate_zero, List.cons_append, List.nil_append, Nat.sub_self, Nat.zero_add, Nat.reduceAdd, Nat.reduceSub, List.zip_cons_cons, List.zip_nil_left, if_true, Bool.false_eq_true, if_false, insAt_tup, insAt_str, insAt_int, opSub_tup, atI0, atI1, atI2, atI3, Val.int.injEq])
    refine draw_e hD rfl hs4 (many := (z3 : Int) + 1) (by simp only [ev, Res.bind]; rfl) (by omega) (by omega) (by omega) hn fun d s5 k5 h5 d1 d2 => ?_
    rw [opBiP_none rfl, wbi_min]
    simp only [wpx_ok]
    obtain ⟨c, hc, hcl⟩ : ∃ c : Nat, (if d < ((cnt + i : Nat) : Int) then d else ((cnt + i : Nat) : Int)) = (c : Int) ∧ c ≤ cnt + i := by
      split
      · exact ⟨d.toNat, by omega, by omega⟩
      · exact ⟨cnt + i, rfl, Nat.le_refl _⟩
    rw [hc]
    refine ⟨_, rfl, ⟨by omega, by omega⟩, ?_⟩
    rw [Int.toNat_natCast]
    have hL5 := k5.at_ (p4.at_ hL id) (by omega)
    have hS5 := k5.at_ (push_at s3 ⟨.lst [], false⟩) (by omega)
    have k15 : Keep (fun r => r = k) s1 s5 := (Keep.weak (k13.tr p4) fun _ _ h => h.elim).tr k5
    have htl : (ts.take (cnt + i)).length = cnt + i := by simp; omega
    refine goes_rule (l := rangeL 0 c) (fun j e s' => Keep (fun r => r = k) s1 s' ∧ isSack s' k (m + 20 * i + 1 + j) ∧ (∃ a10, e = { s := [some (.ref k), some (.tup [.int z0, .int z1, .int z2, .int (z3 : Int)]), some (.ref r2), a3, some (.int (cnt : Int)), some (.int (mny : Int)), some (.ref rt), some (.ref rw), some (.ref r8), some (.int ((cnt + i : Nat) : Int)), a10, b11, a12, some (.ref s2.length), some (.ref s3.length)] }) ∧ ∃ xs ys : List Str, s'[s2.length]? = some ⟨.lst (xs.map .str), false⟩ ∧ s'[s3.length]? = some ⟨.lst (ys.map .str), false⟩ ∧ List.Perm (ys ++ xs) (ts.take (cnt + i)) ∧ ys.length = j) ⟨k15, h5, ⟨_, rfl⟩, _, [], hL5, hS5, List.Perm.refl _, rfl⟩ (fun _ _ _ _ => rfl) ?_ ?_
    · rintro j v e s6 hv ⟨k6, h6, ⟨c10, rfl⟩, xs, ys, hxs, hys, hp, hyl⟩
      have hj : j < c := by
        have := getElem?_some_lt hv
        simpa [rangeL] using this
      have hpl := hp.length_eq
      rw [List.length_append, htl] at hpl
      refine ⟨_, rfl, ?_⟩
      rw [x_drop, e_bm]
      simp only [e_var, List.set_cons_succ, List.set_cons_zero, List.getElem?_cons_zero, List.getElem?_cons_succ, Option.bind_some, id_eq, of_some, wpx_ok]
      refine ⟨wbmOk_lst hys (by decide), ?_⟩
      simp only [l_cons, l_nil]
      have hle6 := k6.le
      refine pop_e hD rfl rfl h6 hxs (by omega) (by omega) (by simp; omega) (by simp; omega) hn fun r v s7 hv7 k7 h7 hm7 => ?_
      obtain ⟨x, hx, rfl⟩ : ∃ x, xs[r]? = some x ∧ Val.str x = v := by simpa using hv7
      have hys7 := k7.at_ hys (by omega)
      rw [bm_append hys7 (by simp; unfold line; omega)]
      refine ⟨keep_new (k6.trans k7 fun r hr h => by omega) (by omega), (h7.set (by omega)).le (by omega) (by omega), ⟨_, rfl⟩, xs.eraseIdx r, ys ++ [x], ?_, ?_, perm_pop hp hx, by simp [hyl]⟩
      · rw [List.getElem?_set_ne (by omega), hm7, map_erase]
      · rw [set_at (lt_of_at hys7)]
        simp
    · rintro e s6 ⟨k6, h6, ⟨c10, rfl⟩, xs, ys, hxs, hys, hp, hyl⟩
      have hr0 : (rangeL 0 c).length = c := by simp [rangeL]
      rw [hr0] at h6 hyl
      have hle6 := k6.le
      have hysub : ∀ y ∈ ys, y ∈ ts.take (cnt + i) := fun y hy => hp.subset (by simp [hy])
      have hynd : ys.Nodup := (hp.symm.nodup (hT.nodup.sublist (List.take_sublist _ _))).sublist (List.sublist_append_left _ _)
      have k06 : Keep (fun r => r = k ∨ r = r8) s0 s6 := k1.tr (k6.weak fun _ _ h => .inl h)
      have hvs6 := k6.at_ hvs hk
      have hrs6 : isL (Old s0) s6 vs rs := hrs.frame (k6.weak fun r _ h => by subst h; exact no_k hs)
      have hyl2 : ys.length ≤ 14 := by omega
      have his6 : is No s6 (.ref s3.length) ys := is_strs.2 ⟨_, rfl, id, hys⟩
      rw [x_seq]
      refine wps.mono (N := fun e1 s7 => ∃ (q : Nat) (src : List Str), e1 = { s := [some (.ref k), some (.tup [.int z0, .int z1, .int z2, .int (z3 : Int)]), some (.ref r2), a3, some (.int (cnt : Int)), some (.int (mny : Int)), some (.ref rt), some (.ref rw), some (.ref r8), some (.int ((cnt + i : Nat) : Int)), c10, b11, a12, some (.ref s2.length), some (.ref q)] } ∧ Keep (fun r => r = k) s6 s7 ∧ isSack s7 k (m + 20 * i + 17) ∧ s0.length ≤ q ∧ s7[q]? = some ⟨.lst (src.map .str), false⟩ ∧ src.Nodup ∧ (∀ y ∈ src, y ∈ ts.take (cnt + i)) ∧ src.length ≤ 14) ?_ ?_ (fun _ _ h => h) (fun _ _ _ _ h => h)
      · rw [x_ifs, wt_and, wt_cmp]
        (simp only [e_var, e_non, e_bl, e_int, e_str, e_bin, e_neg, e_cmp, e_tup, e_lst, e_bi, e_sub, e_attr, e_om, e_ife, sH_var, sH_int, sH_neg, sL_bin, s2_vb, l_nil, l_cons, wt_and, wt_or, wt_not, wt_cmp, wt_chn, t_bi, t_var, i_var, i_sub, i_attr, i_call, i_slc, wi_rng1, wi_rng2, c_lt, c_le, c_gt, c_ge, c_in, c_nin, wpx_ok, wpx_err, of_some, List.getElem?_cons_zero, List.getElem?_cons_succ, Option.bind_some, Option.map_some, id_eq, assign_nm, assign_tp, item_f, item_t, item_s, wipe, List.foldr_cons, List.foldr_nil, List.foldl_cons, List.foldl_nil, List.set_cons_zero, List.set_cons_succ, Option.some.injEq, exists_eq_left', x_skip, x_asg, x_asgA, x_asgS, x_drop, x_ret, x_retN, startE, List.map_cons, List.map_nil, List.length_cons, List.length_nil, List.replicate_succ, List.replicate_zero, List.cons_append, List.nil_append, Nat.sub_self, Nat.zero_add, Nat.reduceAdd, Nat.reduceSub, List.zip_cons_cons, List.zip_nil_left, if_true, Bool.false_eq_true, if_false, insAt_tup, insAt_str, insAt_int, opSub_tup, atI0, atI1, atI2, atI3, Val.int.injEq])
        have p7 := Keep.push ⟨.lst [], false⟩ No s6
        have hrs7 : is No (s6 ++ [⟨.lst [], false⟩]) (.ref r8) rs := ⟨_, vs, rfl, id, p7.at_ hvs6 id, (hrs6.frame (p7.weak fun _ _ h => h.elim)).weak fun _ _ h => h.elim⟩
        rw [c_ned (Rep.dp hrs7 (by decide) (rules_laid hT hok)) (dp_new s6)]
        refine ⟨_, rfl, ?_⟩
        have stay : ∀ s7, Keep (fun r => r = k) s6 s7 → isSack s7 k (m + 20 * i + 17) → ∃ (q : Nat) (src : List Str), ({ s := [some (.ref k), some (.tup [.int z0, .int z1, .int z2, .int (z3 : Int)]), some (.ref r2), a3, some (.int (cnt : Int)), some (.int (mny : Int)), some (.ref rt), some (.ref rw), some (.ref r8), some (.int ((cnt + i : Nat) : Int)), c10, b11, a12, some (.ref s2.length), some (.ref s3.length)] } : Env) = { s := [some (.ref k), some (.tup [.int z0, .int z1, .int z2, .int (z3 : Int)]), some (.ref r2), a3, some (.int (cnt : Int)), some (.int (mny : Int)), some (.ref rt), some (.ref rw), some (.ref r8), some (.int ((cnt + i : Nat) : Int)), c10, b11, a12, some (.ref s2.length), some (.ref q)] } ∧ Keep (fun r => r = k) s6 s7 ∧ isSack s7 k (m + 20 * i + 17) ∧ s0.length ≤ q ∧ s7[q]? = some ⟨.lst (src.map .str), false⟩ ∧ src.Nodup ∧ (∀ y ∈ src, y ∈ ts.take (cnt + i)) ∧ src.length ≤ 14 := fun s7 k7 h7 =>
          ⟨s3.length, ys, rfl, k7, h7, by omega, k7.at_ hys (by omega), hynd, hysub, hyl2⟩
        split
        · rename_i hne
          refine draw_e hD rfl (h6.push (c := ⟨.lst [], false⟩)) (wev_int _ _ _ _) (by omega) (by omega) (by omega) hn fun g s8 k8 h8' g1 g2 => ?_
          rw [c_eqi]
          refine ⟨_, rfl, ?_⟩
          have k68 : Keep (fun r => r = k) s6 s8 := (p7.weak fun _ _ h => h.elim).tr k8
          split
          · have hne' : rs ≠ [] := by
              intro e
              subst e
              simp [Rep.d, PyData.eqv, PyData.eqvAll] at hne
            have hi1 : 1 ≤ i := by
              cases rs with
              | nil => exact absurd rfl hne'
              | cons _ _ => simp at hlen; omega
            have k08 : Keep (fun r => r = k ∨ r = r8) s0 s8 := k06.tr (k68.weak fun _ _ h => .inl h)
            obtain ⟨_, eT, _, hct⟩ := is_strs.1 ht
            cases eT
            have hct8 := k08.at_ hct (by omega)
            have hvs8 := k68.at_ hvs6 hk
            have hvl : vs.length = i := by rw [hrs6.len]; exact hlen
            obtain ⟨w, hw1⟩ : ∃ w, vs[vs.length - 1]? = some w := ⟨vs[vs.length - 1], by simp <;> omega⟩
            obtain ⟨last, hlast, hwl2⟩ := hrs6.get hw1
            have hra := hok _ _ hlast
            rw [hvl] at hra
            have hx : ts[cnt + (i - 1)]? = some last.nm := hra.nm
            obtain ⟨u, rfl, hu⟩ := hwl2
            rw [o_sub]
            simp only [wpx_ok]
            rw [insAt_lst hct8]
            dsimp only
            have ei : ((cnt + i : Nat) : Int) - 1 = ((cnt + (i - 1) : Nat) : Int) := by omega
            rw [ei, opSub_lst hct8, atI_k (x := .str last.nm) (by simp [hx])]
            simp only [of_some, wpx_ok]
            have p9 := Keep.push ⟨.lst [.str last.nm], false⟩ No s8
            have hvs9 := p9.at_ hvs8 id
            rw [insAt_lst hvs9]
            dsimp only
            rw [opSub_lst hvs9, atI_last hw1]
            simp only [of_some, wpx_ok, insAt_tup, opSub_tup, atI2]
            have hu9 : is No (s8 ++ [⟨.lst [.str last.nm], false⟩]) u last.src := Rep.weak (Rep.frame (Rep.frame hu (k68.weak fun r _ h => by subst h; exact no_k hs)) (p9.weak fun _ _ h => h.elim)) fun _ _ h => h.elim
            refine slc_to_w (k := 1) hu9 fun s10 k10 h10 => ?_
            have hn1 := new_flat (s := s8) (H := No) (s' := s8) (vs := [.str last.nm]) (xs := [last.nm]) ⟨rfl, trivial⟩
            refine add_w (Rep.frame hn1 (k10.weak fun _ _ h => h.elim)) h10 (by simp; unfold line; omega) fun s11 k11 h11 => ?_
            obtain ⟨_, eq, _, hcq⟩ := is_strs.1 h11
            cases eq
            have k610 : Keep (fun r => r = k) s6 s11 := ((k68.trNo p9).trNo k10).trNo k11
            refine ⟨_, [last.nm] ++ last.src.take 1, rfl, k610, (h8'.keep (p9.tr (k10.tr k11)) id).le (by omega) (by omega), ?_, hcq, ?_, ?_, ?_⟩
            · have := k08.le
              have := (p9.tr k10).le
              omega
            · have hnx : last.nm ∉ last.src := fun hm => by
                obtain ⟨q, hq⟩ := List.getElem?_of_mem (hra.sub _ hm)
                have hq1 := getElem?_some_lt hq
                have hq2 : ts[q]? = some last.nm := by
                  rw [List.getElem?_take] at hq
                  split at hq
                  · exact hq
                  · cases hq
                have hq3 : q < cnt + (i - 1) := by simp at hq1; omega
                have := (List.nodup_iff_pairwise_ne.1 hT.nodup)
                rw [List.pairwise_iff_getElem] at this
                have h1 := getElem?_some_lt hx
                refine this q (cnt + (i - 1)) (by omega) h1 hq3 ?_
                rw [List.getElem?_eq_getElem (by omega)] at hq2
                rw [List.getElem?_eq_getElem h1] at hx
                exact (Option.some.inj hq2).trans (Option.some.inj hx).symm
              simp only [List.singleton_append, List.nodup_cons]
              exact ⟨fun hm => hnx (List.mem_of_mem_take hm), hra.nd.sublist (List.take_sublist _ _)⟩
            · intro y hy
              simp only [List.singleton_append, List.mem_cons] at hy
              rcases hy with rfl | hy
              · refine List.mem_of_getElem? (i := cnt + (i - 1)) ?_
                rw [List.getElem?_take, if_pos (by omega)]
                exact hx
              · have := hra.sub y (List.mem_of_mem_take hy)
                exact (List.take_subset_take_left ts (by omega)) this
            · simp
              omega
          · exact stay s8 k68 (h8'.le (by omega) (by omega))
        · exact stay _ (p7.weak fun _ _ h => h.elim) ((h6.push).le (by omega) (by omega))
      · rintro e s7 ⟨q, src, rfl, k7, h7, hq0, hsrc, hnd, hsub, hsl⟩
        rw [x_seq]
        (simp only [e_var, e_non, e_bl, e_int, e_str, e_bin, e_neg, e_cmp, e_tup, e_lst, e_bi, e_sub, e_attr, e_om, e_ife, sH_var, sH_int, sH_neg, sL_bin, s2_vb, l_nil, l_cons, wt_and, wt_or, wt_not, wt_cmp, wt_chn, t_bi, t_var, i_var, i_sub, i_attr, i_call, i_slc, wi_rng1, wi_rng2, c_lt, c_le, c_gt, c_ge, c_in, c_nin, wpx_ok, wpx_err, of_some, List.getElem?_cons_zero, List.getElem?_cons_succ, Option.bind_some, Option.map_some, id_eq, assign_nm, assign_tp, item_f, item_t, item_s, wipe, List.foldr_cons, List.foldr_nil, List.foldl_cons, List.foldl_nil, List.set_cons_zero, List.set_cons_succ, Option.some.injEq, exists_eq_left', x_skip, x_asg, x_asgA, x_asgS, x_drop, x_ret, x_retN, startE, List.map_cons, List.map_nil, List.length_cons, List.length_nil, List.replicate_succ, List.replicate_zero, List.cons_append, List.nil_append, Nat.sub_self, Nat.zero_add, Nat.reduceAdd, Nat.reduceSub, List.zip_cons_cons, List.zip_nil_left, if_true, Bool.false_eq_true, if_false, insAt_tup, insAt_str, insAt_int, opSub_tup, atI0, atI1, atI2, atI3, Val.int.injEq])
        refine draw_e hD rfl (h7.push (c := ⟨.lst (heldL.map .str), false⟩)) (wev_int _ _ _ _) (by omega) (by omega) (by omega) hn fun g s8 k8 h8' g1 g2 => ?_
        have p7 := Keep.push ⟨.lst (heldL.map .str), false⟩ No s7
        have hc8 := k8.at_ (push_at s7 ⟨.lst (heldL.map .str), false⟩) (by have := no_k h7; omega)
        obtain ⟨gn, rfl⟩ : ∃ q : Nat, g = (q : Int) := ⟨g.toNat, by omega⟩
        obtain ⟨hh, hhm, hhe⟩ : ∃ hh ∈ heldL, (heldL.map Val.str)[gn]? = some (.str hh) := by
          have hgl : gn < heldL.length := by show gn < 3; omega
          exact ⟨heldL[gn], List.getElem_mem _, by simp [hgl]⟩
        rw [insAt_lst hc8]
        dsimp only
        rw [opSub_lst hc8, atI_k hhe]
        simp only [of_some, wpx_ok]
        have k78 : Keep (fun r => r = k) s7 s8 := (p7.weak fun _ _ h => h.elim).tr k8
        have k68 := k7.tr k78
        have k08 : Keep (fun r => r = k ∨ r = r8) s0 s8 := k06.tr (k68.weak fun _ _ h => .inl h)
        have hle8 := k08.le
        obtain ⟨_, eT, _, hct⟩ := is_strs.1 ht
        cases eT
        obtain ⟨_, eW, _, hcw⟩ := is_strs.1 hw
        cases eW
        have hct8 := k08.at_ hct (by omega)
        have hcw8 := k08.at_ hcw (by omega)
        have hvs8 := k68.at_ hvs6 hk
        have hti : cnt + i < ts.length := by omega
        rw [e_bm]
        (simp only [e_var, e_non, e_bl, e_int, e_str, e_bin, e_neg, e_cmp, e_tup, e_lst, e_bi, e_sub, e_attr, e_om, e_ife, sH_var, sH_int, sH_neg, sL_bin, s2_vb, l_nil, l_cons, wt_and, wt_or, wt_not, wt_cmp, wt_chn, t_bi, t_var, i_var, i_sub, i_attr, i_call, i_slc, wi_rng1, wi_rng2, c_lt, c_le, c_gt, c_ge, c_in, c_nin, wpx_ok, wpx_err, of_some, List.getElem?_cons_zero, List.getElem?_cons_succ, Option.bind_some, Option.map_some, id_eq, assign_nm, assign_tp, item_f, item_t, item_s, wipe, List.foldr_cons, List.foldr_nil, List.foldl_cons, List.foldl_nil, List.set_cons_zero, List.set_cons_succ, Option.some.injEq, exists_eq_left', x_skip, x_asg, x_asgA, x_asgS, x_drop, x_ret, x_retN, startE, List.map_cons, List.map_nil, List.length_cons, List.length_nil, List.replicate_succ, List.replicate_zero, List.cons_append, List.nil_append, Nat.sub_self, Nat.zero_add, Nat.reduceAdd, Nat.reduceSub, List.zip_cons_cons, List.zip_nil_left, if_true, Bool.false_eq_true, if_false, insAt_tup, insAt_str, insAt_int, opSub_tup, atI0, atI1, atI2, atI3, Val.int.injEq])
        refine ⟨wbmOk_lst hvs8 (by decide), ?_⟩
        rw [insAt_lst hct8]
        dsimp only
        rw [opSub_lst hct8, atI_k (x := .str ts[cnt + i]) (by simp [hti])]
        simp only [of_some, wpx_ok]
        have hwpos : 0 < ws.length := List.length_pos_iff.2 hw0
        refine draw_e hD rfl h8' (ev_len rfl hcw8) (by omega) (by simp; omega) (by simp; omega) hn fun f s9 k9 h9 f1 f2 => ?_
        simp only [List.length_map] at f2
        obtain ⟨fn, rfl⟩ : ∃ q : Nat, f = (q : Int) := ⟨f.toNat, by omega⟩
        have hfl : fn < ws.length := by omega
        have hcw9 := k9.at_ hcw8 hwk
        rw [insAt_lst hcw9]
        dsimp only
        rw [opSub_lst hcw9, atI_k (x := .str ws[fn]) (by simp [hfl])]
        simp only [of_some, wpx_ok]
        have hvs9 := k9.at_ hvs8 hk
        have hvl : vs.length = i := by rw [hrs6.len]; exact hlen
        rw [bm_append hvs9 (by unfold line; omega)]
        simp only [wpx_ok]
        have hkq : k < s0.length := no_k hs
        have hsrc9 := k9.at_ (k78.at_ hsrc (by omega)) (by omega)
        have k09 : Keep (fun r => r = k ∨ r = r8) s0 s9 := k08.tr (k9.weak fun _ _ h => .inl h)
        have k69 := k68.tr k9
        refine ⟨k09.tr (Keep.set _ _ _ _ fun _ => .inr rfl), (h9.set hk).le (by omega) (by omega), ⟨_, _, _, _, _, rfl⟩, _, rs ++ [⟨ts[cnt + i], ws[fn], src, hh⟩], set_at (lt_of_at hvs9), ?_, ?_, by simp [hlen]⟩
        · have hrs9 : isL (Old s0) s9 vs rs := hrs6.frame (k69.weak fun r _ h => by subst h; exact hkq)
          have stt := Keep.set r8 ⟨.lst (vs ++ [.tup [.str ts[cnt + i], .str ws[fn], .ref q, .str hh]]), false⟩ (Old s0) s9 (fun _ => h8lt)
          refine (hrs9.frame stt).app ⟨⟨.ref q, rfl, is_strs.2 ⟨q, rfl, Nat.not_lt.2 hq0, ?_⟩⟩, trivial⟩
          rw [List.getElem?_set_ne (by omega)]
          exact hsrc9
        · intro j x hj
          by_cases hjl : j < rs.length
          · rw [List.getElem?_append_left hjl] at hj
            exact hok j x hj
          · have hje : j = rs.length := by
              have := getElem?_some_lt hj
              simp at this
              omega
            subst hje
            simp at hj
            subst hj
            rw [hlen]
            exact ⟨by simp [hti], hW.word _ (List.getElem_mem _), hnd, hsub, hsl, hhm⟩
  · rintro e s1 ⟨k1, h1, ⟨b9, b10, b11, b13, b14, rfl⟩, vs, rs, hvs, hrs, hok, hlen⟩
    have e2 : (rangeL (cnt : Int) mny).length = mny := by simp [rangeL]
    rw [e2] at hlen h1
    exact hq _ _ _ _ _ _ s1 vs rs k1 h1 hvs hrs hok hlen
end AM
end

section
set_option maxRecDepth 20000
namespace AM
open Rep (is)
open PySem (Str PyData Operator CmpOp)
variable {P : Prog}

structure Plan (pl : List Str) (es : List (List Rul)) : Prop where
  ts : Titles (pl ++ (es.headD []).map Rul.nm)
  ne : es ≠ []
  names : ∀ e ∈ es, e.map Rul.nm = (es.headD []).map Rul.nm
  rules : ∀ e ∈ es, RulesOk (pl ++ (es.headD []).map Rul.nm) pl.length e
  lp : 1 ≤ pl.length ∧ pl.length ≤ 6
  le : es.length ≤ 8
  ln : (es.headD []).length ≤ 8

theorem rules_names {ts : List Str} {c n : Nat} {rs : List Rul} (h : RulesOk ts c rs) (hl : rs.length = n) (ht : ts.length = c + n) : rs.map Rul.nm = ts.drop c := by
  apply List.ext_getElem?
  intro j
  rw [List.getElem?_map, List.getElem?_drop]
  cases hj : rs[j]? with
  | none =>
    have : rs.length ≤ j := List.getElem?_eq_none_iff.1 hj
    rw [List.getElem?_eq_none (by omega)]
    rfl
  | some x => exact (h j x hj).nm.symm
theorem mix_at {α : Type} {xs ys : List α} {a j : Nat} {x : α} (ha : a < xs.length) (hy : ys.length = xs.length) (h : (xs.take a ++ (ys.drop a).take (a + 1 - a) ++ xs.drop (a + 1))[j]? = some x) : xs[j]? = some x ∨ ys[j]? = some x := by
  have e1 : (xs.take a).length = a := by simp; omega
  have e2 : ((ys.drop a).take (a + 1 - a)).length = 1 := by simp; omega
  by_cases h1 : j < a
  · left
    rw [List.append_assoc, List.getElem?_append_left (by omega), List.getElem?_take, if_pos h1] at h
    exact h
  · rw [List.append_assoc, List.getElem?_append_right (by omega), e1] at h
    by_cases h2 : j - a < 1
    · right
      rw [List.getElem?_append_left (by omega), List.getElem?_take, if_pos (by omega), List.getElem?_drop] at h
      rw [show a + (j - a) = j from by omega] at h
      exact h
    · left
      rw [List.getElem?_append_right (by omega), e2, List.getElem?_drop] at h
      rw [show a + 1 + (j - a - 1) = j from by omega] at h
      exact h
theorem mix_len {α : Type} {xs ys : List α} {a : Nat} (ha : a < xs.length) (hy : ys.length = xs.length) : (xs.take a ++ (ys.drop a).take (a + 1 - a) ++ xs.drop (a + 1)).length = xs.length := by
  simp
  omega

section
variable {α : Type} [Rep α] {H : Nat → Prop} {s : Store} {v : Val} {xs : List α} {Q : Val → Store → Prop} {X : Str → Val → Store → Prop}
theorem slcG_to {k : Nat} (h : is H s v xs) (hn : ¬ H s.length) (hq : ∀ s', Keep No s s' → is H s' (.ref s.length) (xs.take k) → Q (.ref s.length) s') : wpx (opSlc s v none (some (.int (k : Int)))) Q X := by
  obtain ⟨r, l, rfl, hr, ha, hl⟩ := h
  rw [show opSlc s (.ref r) none (some (.int (k : Int))) = _ from slc_lst ha none (some (k : Int)), cut_to]
  exact hq _ (Keep.push _ _ _) (new_is (hl.take k) hn)
theorem slcG_from {k : Nat} (h : is H s v xs) (hn : ¬ H s.length) (hq : ∀ s', Keep No s s' → is H s' (.ref s.length) (xs.drop k) → Q (.ref s.length) s') : wpx (opSlc s v (some (.int (k : Int))) none) Q X := by
  obtain ⟨r, l, rfl, hr, ha, hl⟩ := h
  rw [show opSlc s (.ref r) (some (.int (k : Int))) none = _ from slc_lst ha (some (k : Int)) none, cut_from]
  exact hq _ (Keep.push _ _ _) (new_is (hl.drop k) hn)
theorem slcG_part {j k : Nat} (h : is H s v xs) (hn : ¬ H s.length) (hq : ∀ s', Keep No s s' → is H s' (.ref s.length) ((xs.drop j).take (k - j)) → Q (.ref s.length) s') : wpx (opSlc s v (some (.int (j : Int))) (some (.int (k : Int)))) Q X := by
  obtain ⟨r, l, rfl, hr, ha, hl⟩ := h
  rw [show opSlc s (.ref r) (some (.int (j : Int))) (some (.int (k : Int))) = _ from slc_lst ha (some (j : Int)) (some (k : Int)), cut_part]
  exact hq _ (Keep.push _ _ _) (new_is ((hl.drop j).take (k - j)) hn)
end

def PlanQ (s : Store) (k m : Nat) (v : Val) (s' : Store) : Prop := Keep (fun r => r = k) s s' ∧ isSack s' k (m + 10000) ∧ ∃ pl es a b, v = .tup [a, b] ∧ is (Old s) s' a pl ∧ is (Old s) s' b es ∧ Plan pl es

theorem any_plan_w (hD : Has P "_law_draw" KD.d_law_draw) (hT : Has P "_law_some_titles" KD.d_law_some_titles) (hA : Has P "_law_any_plan" KD.d_law_any_plan) {s : Store} {k m : Nat} {z0 z1 z2 z3 : Nat} (hs : isSack s k m) (hm : m + 20000 < 2 ^ 60) (hz0 : 1 ≤ z0 ∧ z0 ≤ 6) (hz1 : 1 ≤ z1 ∧ z1 ≤ 8) (hz2 : 1 ≤ z2 ∧ z2 ≤ 8) (hz3 : z3 ≤ 6) {n : Nat} (hn : 3 ≤ n) :
    wpx (callF P n "_law_any_plan" [.ref k, .tup [.int (z0 : Int), .int (z1 : Int), .int (z2 : Int), .int (z3 : Int)]] s) (PlanQ s k m) NoX := by
  have hk := no_k hs
  refine callF_def hA.df (by omega) rfl ?_
  simp only [KD.d_law_any_plan]
  rw [x_seq]
  (simp only [e_var, e_non, e_bl, e_int, e_str, e_bin, e_neg, e_cmp, e_tup, e_lst, e_bi, e_sub, e_attr, e_om, e_ife, sH_var, sH_int, sH_neg, sL_bin, s2_vb, l_nil, l_cons, wt_and, wt_or, wt_not, wt_cmp, wt_chn, t_bi, t_var, i_var, i_sub, i_attr, i_call, i_slc, wi_rng1, wi_rng2, c_lt, c_le, c_gt, c_ge, c_in, c_nin, wpx_ok, wpx_err, of_some, List.getElem?_cons_zero, List.getElem?_cons_succ, Option.bind_some, Option.map_some, id_eq, assign_nm, assign_tp, item_f, item_t, item_s, wipe, List.foldr_cons, List.foldr_nil, List.foldl_cons, List.foldl_nil, List.set_cons_zero, List.set_cons_succ, Option.some.injEq, exists_eq_left', x_skip, x_asg, x_asgA, x_asgS, x_drop, x_ret, x_retN, startE, List.map_cons, List.map_nil, List.length_cons, List.length_nil, List.replicate_succ, List.replicate_zero, List.cons_append, List.nil_append, Nat.sub_self, Nat.zero_add, Nat.reduceAdd, Nat.reduceSub, List.zip_cons_cons, List.zip_nil_left, if_true, Bool.false_eq_true, if_false, insAt_tup, insAt_str, insAt_int, opSub_tup, atI0, atI1, atI2, atI3, Val.int.injEq])
  refine draw_e hD rfl hs (ev_subt rfl rfl) (by omega) (by omega) (by omega) (by omega) fun c0 s1 k1 h1 c1 c2 => ?_
  obtain ⟨cn, rfl⟩ : ∃ q : Nat, c0 = (q : Int) := ⟨c0.toNat, by omega⟩
  rw [o_add]
  simp only [wpx_ok]
  refine draw_e hD rfl h1 (ev_subt rfl rfl) (by omega) (by omega) (by omega) (by omega) fun m0 s2 k2 h2 m1 m2 => ?_
  obtain ⟨mn, rfl⟩ : ∃ q : Nat, m0 = (q : Int) := ⟨m0.toNat, by omega⟩
  rw [o_add]
  simp only [wpx_ok]
  rw [x_seq]
  refine wps.mono (N := fun e1 s3 => ∃ mny : Nat, mny ≤ 8 ∧ e1 = { s := [some (.ref k), some (.tup [.int (z0 : Int), .int (z1 : Int), .int (z2 : Int), .int (z3 : Int)]), none, none, some (.int ((1 + cn : Nat) : Int)), some (.int (mny : Int)), none, none, none, none, none, none, none, none, none] } ∧ Keep (fun r => r = k) s s3 ∧ isSack s3 k (m + 10)) ?_ ?_ (fun _ _ h => h) (fun _ _ _ _ h => h)
  · rw [x_ifs]
    (simp only [e_var, e_non, e_bl, e_int, e_str, e_bin, e_neg, e_cmp, e_tup, e_lst, e_bi, e_sub, e_attr, e_om, e_ife, sH_var, sH_int, sH_neg, sL_bin, s2_vb, l_nil, l_cons, wt_and, wt_or, wt_not, wt_cmp, wt_chn, t_bi, t_var, i_var, i_sub, i_attr, i_call, i_slc, wi_rng1, wi_rng2, c_lt, c_le, c_gt, c_ge, c_in, c_nin, wpx_ok, wpx_err, of_some, List.getElem?_cons_zero, List.getElem?_cons_succ, Option.bind_some, Option.map_some, id_eq, assign_nm, assign_tp, item_f, item_t, item_s, wipe, List.foldr_cons, List.foldr_nil, List.foldl_cons, List.foldl_nil, List.set_cons_zero, List.set_cons_succ, Option.some.injEq, exists_eq_left', x_skip, x_asg, x_asgA, x_asgS, x_drop, x_ret, x_retN, startE, List.map_cons, List.map_nil, List.length_cons, List.length_nil, List.replicate_succ, List.replicate_zero, List.cons_append, List.nil_append, Nat.sub_self, Nat.zero_add, Nat.reduceAdd, Nat.reduceSub, List.zip_cons_cons, List.zip_nil_left, if_true, Bool.false_eq_true, if_false, insAt_tup, insAt_str, insAt_int, opSub_tup, atI0, atI1, atI2, atI3, Val.int.injEq])
    refine draw_e hD rfl h2 (wev_int _ _ _ _) (by omega) (by omega) (by omega) (by omega) fun g s3 k3 h3 g1 g2 => ?_
    rw [c_eqi]
    refine ⟨_, rfl, ?_⟩
    split
    · exact ⟨0, by omega, by simp, (k1.tr k2).tr k3, h3.le (by omega) (by omega)⟩
    · exact ⟨1 + mn, by omega, by simp, (k1.tr k2).tr k3, h3.le (by omega) (by omega)⟩
  rintro e s3 ⟨mny, hmny, rfl, k3, h3⟩
  rw [x_seq]
  (simp only [e_var, e_non, e_bl, e_int, e_str, e_bin, e_neg, e_cmp, e_tup, e_lst, e_bi, e_sub, e_attr, e_om, e_ife, sH_var, sH_int, sH_neg, sL_bin, s2_vb, l_nil, l_cons, wt_and, wt_or, wt_not, wt_cmp, wt_chn, t_bi, t_var, i_var, i_sub, i_attr, i_call, i_slc, wi_rng1, wi_rng2, c_lt, c_le, c_gt, c_ge, c_in, c_nin, wpx_ok, wpx_err, of_some, List.getElem?_cons_zero, List.getElem?_cons_succ, Option.bind_some, Option.map_some, id_eq, assign_nm, assign_tp, item_f, item_t, item_s, wipe, List.foldr_cons, List.foldr_nil, List.foldl_cons, List.foldl_nil, List.set_cons_zero, List.set_cons_succ, Option.some.injEq, exists_eq_left', x_skip, x_asg, x_asgA, x_asgS, x_drop, x_ret, x_retN, startE, List.map_cons, List.map_nil, List.length_cons, List.length_nil, List.replicate_succ, List.replicate_zero, List.cons_append, List.nil_append, Nat.sub_self, Nat.zero_add, Nat.reduceAdd, Nat.reduceSub, List.zip_cons_cons, List.zip_nil_left, if_true, Bool.false_eq_true, if_false, insAt_tup, insAt_str, insAt_int, opSub_tup, atI0, atI1, atI2, atI3, Val.int.injEq])
  rw [e_call hT]
  (simp only [e_var, e_non, e_bl, e_int, e_str, e_bin, e_neg, e_cmp, e_tup, e_lst, e_bi, e_sub, e_attr, e_om, e_ife, sH_var, sH_int, sH_neg, sL_bin, s2_vb, l_nil, l_cons, wt_and, wt_or, wt_not, wt_cmp, wt_chn, t_bi, t_var, i_var, i_sub, i_attr, i_call, i_slc, wi_rng1, wi_rng2, c_lt, c_le, c_gt, c_ge, c_in, c_nin, wpx_ok, wpx_err, of_some, List.getElem?_cons_zero, List.getElem?_cons_succ, Option.bind_some, Option.map_some, id_eq, assign_nm, assign_tp, item_f, item_t, item_s, wipe, List.foldr_cons, List.foldr_nil, List.foldl_cons, List.foldl_nil, List.set_cons_zero, List.set_cons_succ, Option.some.injEq, exists_eq_left', x_skip, x_asg, x_asgA, x_asgS, x_drop, x_ret, x_retN, startE, List.map_cons, List.map_nil, List.length_cons, List.length_nil, List.replicate_succ, List.replicate_zero, List.cons_append, List.nil_append, Nat.sub_self, Nat.zero_add, Nat.reduceAdd, Nat.reduceSub, List.zip_cons_cons, List.zip_nil_left, if_true, Bool.false_eq_true, if_false, insAt_tup, insAt_str, insAt_int, opSub_tup, atI0, atI1, atI2, atI3, Val.int.injEq])
  rw [o_add]
  simp only [wpx_ok]
  refine (titles_w hD hT (many := 1 + cn + mny) h3 (by omega) (by omega) (by omega)).to ?_
  rintro v4 s4 ⟨k4, h4, ts, hts, hTs, htl⟩
  rw [e_call hT]
  (simp only [e_var, e_non, e_bl, e_int, e_str, e_bin, e_neg, e_cmp, e_tup, e_lst, e_bi, e_sub, e_attr, e_om, e_ife, sH_var, sH_int, sH_neg, sL_bin, s2_vb, l_nil, l_cons, wt_and, wt_or, wt_not, wt_cmp, wt_chn, t_bi, t_var, i_var, i_sub, i_attr, i_call, i_slc, wi_rng1, wi_rng2, c_lt, c_le, c_gt, c_ge, c_in, c_nin, wpx_ok, wpx_err, of_some, List.getElem?_cons_zero, List.getElem?_cons_succ, Option.bind_some, Option.map_some, id_eq, assign_nm, assign_tp, item_f, item_t, item_s, wipe, List.foldr_cons, List.foldr_nil, List.foldl_cons, List.foldl_nil, List.set_cons_zero, List.set_cons_succ, Option.some.injEq, exists_eq_left', x_skip, x_asg, x_asgA, x_asgS, x_drop, x_ret, x_retN, startE, List.map_cons, List.map_nil, List.length_cons, List.length_nil, List.replicate_succ, List.replicate_zero, List.cons_append, List.nil_append, Nat.sub_self, Nat.zero_add, Nat.reduceAdd, Nat.reduceSub, List.zip_cons_cons, List.zip_nil_left, if_true, Bool.false_eq_true, if_false, insAt_tup, insAt_str, insAt_int, opSub_tup, atI0, atI1, atI2, atI3, Val.int.injEq])
  refine draw_e hD rfl h4 (wev_int _ _ _ _) (by omega) (by omega) (by omega) (by omega) fun w0 s5 k5 h5 w1 w2 => ?_
  obtain ⟨wn, rfl⟩ : ∃ q : Nat, w0 = (q : Int) := ⟨w0.toNat, by omega⟩
  rw [o_add]
  simp only [wpx_ok]
  refine (titles_w hD hT (many := 1 + wn) h5 (by omega) (by omega) (by omega)).to ?_
  rintro v6 s6 ⟨k6, h6, ws, hws, hWs, hwl⟩
  rw [x_seq]
  (simp only [e_var, e_non, e_bl, e_int, e_str, e_bin, e_neg, e_cmp, e_tup, e_lst, e_bi, e_sub, e_attr, e_om, e_ife, sH_var, sH_int, sH_neg, sL_bin, s2_vb, l_nil, l_cons, wt_and, wt_or, wt_not, wt_cmp, wt_chn, t_bi, t_var, i_var, i_sub, i_attr, i_call, i_slc, wi_rng1, wi_rng2, c_lt, c_le, c_gt, c_ge, c_in, c_nin, wpx_ok, wpx_err, of_some, List.getElem?_cons_zero, List.getElem?_cons_succ, Option.bind_some, Option.map_some, id_eq, assign_nm, assign_tp, item_f, item_t, item_s, wipe, List.foldr_cons, List.foldr_nil, List.foldl_cons, List.foldl_nil, List.set_cons_zero, List.set_cons_succ, Option.some.injEq, exists_eq_left', x_skip, x_asg, x_asgA, x_asgS, x_drop, x_ret, x_retN, startE, List.map_cons, List.map_nil, List.length_cons, List.length_nil, List.replicate_succ, List.replicate_zero, List.cons_append, List.nil_append, Nat.sub_self, Nat.zero_add, Nat.reduceAdd, Nat.reduceSub, List.zip_cons_cons, List.zip_nil_left, if_true, Bool.false_eq_true, if_false, insAt_tup, insAt_str, insAt_int, opSub_tup, atI0, atI1, atI2, atI3, Val.int.injEq])
  obtain ⟨rt, rfl, hrt, hct⟩ := is_strs.1 hts
  obtain ⟨rw', rfl, hrw, hcw⟩ := is_strs.1 hws
  have hrt' : ¬ rt < s3.length := hrt
  have hrw' : ¬ rw' < s5.length := hrw
  have l3 := k3.le
  have l4 := k4.le
  have l5 := k5.le
  have l6 := k6.le
  have lct := lt_of_at hct
  have lcw := lt_of_at hcw
  have hct6 := k6.at_ (k5.at_ hct (by omega)) (by omega)
  rw [x_seq, x_for]
  (simp only [e_var, e_non, e_bl, e_int, e_str, e_bin, e_neg, e_cmp, e_tup, e_lst, e_bi, e_sub, e_attr, e_om, e_ife, sH_var, sH_int, sH_neg, sL_bin, s2_vb, l_nil, l_cons, wt_and, wt_or, wt_not, wt_cmp, wt_chn, t_bi, t_var, i_var, i_sub, i_attr, i_call, i_slc, wi_rng1, wi_rng2, c_lt, c_le, c_gt, c_ge, c_in, c_nin, wpx_ok, wpx_err, of_some, List.getElem?_cons_zero, List.getElem?_cons_succ, Option.bind_some, Option.map_some, id_eq, assign_nm, assign_tp, item_f, item_t, item_s, wipe, List.foldr_cons, List.foldr_nil, List.foldl_cons, List.foldl_nil, List.set_cons_zero, List.set_cons_succ, Option.some.injEq, exists_eq_left', x_skip, x_asg, x_asgA, x_asgS, x_drop, x_ret, x_retN, startE, List.map_cons, List.map_nil, List.length_cons, List.length_nil, List.replicate_succ, List.replicate_zero, List.cons_append, List.nil_append, Nat.sub_self, Nat.zero_add, Nat.reduceAdd, Nat.reduceSub, List.zip_cons_cons, List.zip_nil_left, if_true, Bool.false_eq_true, if_false, insAt_tup, insAt_str, insAt_int, opSub_tup, atI0, atI1, atI2, atI3, Val.int.injEq])
  have ks6 : Keep (fun r => r = k) s s6 := ((k3.tr k4).tr k5).tr k6
  have p7 := Keep.push ⟨.lst [], false⟩ No s6
  refine draw_e hD rfl (h6.push (c := ⟨.lst [], false⟩)) (ev_subt rfl rfl) (by omega) (by omega) (by omega) (by omega) fun t0 s8 k8 h8 t1 t2 => ?_
  obtain ⟨tn, rfl⟩ : ∃ q : Nat, t0 = (q : Int) := ⟨t0.toNat, by omega⟩
  rw [o_add]
  simp only [wpx_ok]
  refine ⟨_, rfl, ⟨by omega, by omega⟩, ?_⟩
  rw [show (1 + (tn : Int)).toNat = 1 + tn from by omega]
  have ks8 : Keep (fun r => r = k) s s8 := (ks6.trNo p7).tr k8
  have hf8 := k8.at_ (push_at s6 ⟨.lst [], false⟩) (by omega)
  have hct8 := k8.at_ (p7.at_ hct6 id) (by omega)
  have hcw8 := k8.at_ (p7.at_ hcw id) (by omega)
  have htsl : ts.length = (1 + cn) + mny := by omega
  refine goes_rule (l := rangeL 0 (1 + tn)) (fun i e s' => Keep (fun r => r = k) s s' ∧ isSack s' k (m + 2020 + 400 * i) ∧ (∃ a3 a8 a9 a10 a11 a12 a13 a14, e = { s := [some (.ref k), some (.tup [.int (z0 : Int), .int (z1 : Int), .int (z2 : Int), .int (z3 : Int)]), some (.ref s6.length), a3, some (.int ((1 + cn : Nat) : Int)), some (.int (mny : Int)), some (.ref rt), some (.ref rw'), a8, a9, a10, a11, a12, a13, a14] }) ∧ s'[rt]? = some ⟨.lst (ts.map .str), false⟩ ∧ s'[rw']? = some ⟨.lst (ws.map .str), false⟩ ∧ ∃ (vs : List Val) (es : List (List Rul)), s'[s6.length]? = some ⟨.lst vs, false⟩ ∧ isL (N s6.length (Old s)) s' vs es ∧ (∀ e ∈ es, RulesOk ts (1 + cn) e ∧ e.length = mny) ∧ es.length = i) ⟨ks8, h8.le (by omega) (by omega), ⟨_, _, _, _, _, _, _, _, rfl⟩, hct8, hcw8, [], [], hf8, trivial, by simp, rfl⟩ (fun _ _ _ _ => rfl) ?_ ?_
  · rintro i v e s9 hv ⟨k9, h9, ⟨a3, a8, a9, a10, a11, a12, a13, a14, rfl⟩, hct9, hcw9, vs, es, hvs, hes, hok, hel⟩
    have hi : i < 1 + tn := by
      have := getElem?_some_lt hv
      simpa [rangeL] using this
    have hi8 : i ≤ 8 := by omega
    have hb1 : m + 2020 + 400 * i + 300 ≤ m + 2020 + 400 * (i + 1) := by
      have : 400 * (i + 1) = 400 * i + 400 := Nat.mul_add 400 i 1
      omega
    have hb0 : m + 2020 + 400 * (i + 1) ≤ m + 20000 := by
      have : 400 * (i + 1) = 400 * i + 400 := Nat.mul_add 400 i 1
      omega
    have hb2 : m + 2020 + 400 * (i + 1) < 2 ^ 60 := Nat.lt_of_le_of_lt hb0 hm
    have l9 := k9.le
    have lvs := lt_of_at hvs
    refine ⟨_, rfl, ?_⟩
    rw [x_seq]
    (simp only [e_var, e_non, e_bl, e_int, e_str, e_bin, e_neg, e_cmp, e_tup, e_lst, e_bi, e_sub, e_attr, e_om, e_ife, sH_var, sH_int, sH_neg, sL_bin, s2_vb, l_nil, l_cons, wt_and, wt_or, wt_not, wt_cmp, wt_chn, t_bi, t_var, i_var, i_sub, i_attr, i_call, i_slc, wi_rng1, wi_rng2, c_lt, c_le, c_gt, c_ge, c_in, c_nin, wpx_ok, wpx_err, of_some, List.getElem?_cons_zero, List.getElem?_cons_succ, Option.bind_some, Option.map_some, id_eq, assign_nm, assign_tp, item_f, item_t, item_s, wipe, List.foldr_cons, List.foldr_nil, List.foldl_cons, List.foldl_nil, List.set_cons_zero, List.set_cons_succ, Option.some.injEq, exists_eq_left', x_skip, x_asg, x_asgA, x_asgS, x_drop, x_ret, x_retN, startE, List.map_cons, List.map_nil, List.length_cons, List.length_nil, List.replicate_succ, List.replicate_zero, List.cons_append, List.nil_append, Nat.sub_self, Nat.zero_add, Nat.reduceAdd, Nat.reduceSub, List.zip_cons_cons, List.zip_nil_left, if_true, Bool.false_eq_true, if_false, insAt_tup, insAt_str, insAt_int, opSub_tup, atI0, atI1, atI2, atI3, Val.int.injEq])
    rw [x_seq]
    have p10 := Keep.push ⟨.lst [], false⟩ No s9
    refine rules_w hD (m := m + 2020 + 400 * i) (H := No) (ts := ts) (ws := ws) h9.push (by omega) hTs hWs (by intro e; subst e; simp at hwl; omega) (by omega) (is_strs.2 ⟨_, rfl, id, p10.at_ hct9 id⟩) (is_strs.2 ⟨_, rfl, id, p10.at_ hcw9 id⟩) (push_at _ _) (by omega) (by omega) (by omega) (by omega) (by omega) hz3 (by omega) htsl (by omega) (by omega) ?_
    rintro b9 b10 b11 b12 b13 b14 s11 us rs k11 h11 hus hrs hrok hrl
    have l11 := k11.le
    simp at l11
    have k911 : Keep (fun r => r = k) s9 s11 := (Keep.push ⟨.lst [], false⟩ (fun r => r = k) s9).trans k11 fun r hr h => by omega
    have hvs11 := k911.at_ hvs (by omega)
    have hes11 : isL (N s6.length (Old s)) s11 vs es := hes.frame (k911.weak fun r _ h => by subst h; exact .inl hk)
    have hfound11 : is (Old s) s11 (.ref s6.length) es := ⟨_, vs, rfl, by show ¬ s6.length < s.length; omega, hvs11, hes11.weak fun r _ h => .inl h⟩
    have nn8 : ¬ N s6.length (Old s) s9.length := by
      rintro (h | h)
      · have : s9.length < s.length := h
        omega
      · omega
    have wk : ∀ r, r < s11.length → N s6.length (Old s) r → Old (s9 ++ [⟨.lst [], false⟩]) r := by
      rintro r _ (h | h)
      · have : r < s.length := h
        show r < (s9 ++ [⟨.lst [], false⟩] : Store).length
        simp
        omega
      · show r < (s9 ++ [⟨.lst [], false⟩] : Store).length
        simp
        omega
    have hrules11 : is (N s6.length (Old s)) s11 (.ref s9.length) rs := ⟨_, us, rfl, nn8, hus, hrs.weak wk⟩
    simp only [envC]
    rw [x_seq]
    refine wps.mono (N := fun e1 s12 => ∃ (q : Nat) (us : List Val) (rs : List Rul) (c12 : Option Val), e1 = { s := [some (.ref k), some (.tup [.int (z0 : Int), .int (z1 : Int), .int (z2 : Int), .int (z3 : Int)]), some (.ref s6.length), some v, some (.int ((1 + cn : Nat) : Int)), some (.int (mny : Int)), some (.ref rt), some (.ref rw'), some (.ref q), b9, b10, b11, c12, b13, b14] } ∧ Keep (fun r => r = k) s11 s12 ∧ isSack s12 k (m + 2020 + 400 * i + 300) ∧ is (N s6.length (Old s)) s12 (.ref q) rs ∧ RulesOk ts (1 + cn) rs ∧ rs.length = mny) ?_ ?_ (fun _ _ h => h) (fun _ _ _ _ h => h)
    · rw [x_ifs, wt_and, wt_cmp]
      (simp only [e_var, e_non, e_bl, e_int, e_str, e_bin, e_neg, e_cmp, e_tup, e_lst, e_bi, e_sub, e_attr, e_om, e_ife, sH_var, sH_int, sH_neg, sL_bin, s2_vb, l_nil, l_cons, wt_and, wt_or, wt_not, wt_cmp, wt_chn, t_bi, t_var, i_var, i_sub, i_attr, i_call, i_slc, wi_rng1, wi_rng2, c_lt, c_le, c_gt, c_ge, c_in, c_nin, wpx_ok, wpx_err, of_some, List.getElem?_cons_zero, List.getElem?_cons_succ, Option.bind_some, Option.map_some, id_eq, assign_nm, assign_tp, item_f, item_t, item_s, wipe, List.foldr_cons, List.foldr_nil, List.foldl_cons, List.foldl_nil, List.set_cons_zero, List.set_cons_succ, Option.some.injEq, exists_eq_left', x_skip, x_asg, x_asgA, x_asgS, x_drop, x_ret, x_retN, startE, List.map_cons, List.map_nil, List.length_cons, List.length_nil, List.replicate_succ, List.replicate_zero, List.cons_append, List.nil_append, Nat.sub_self, Nat.zero_add, Nat.reduceAdd, Nat.reduceSub, List.zip_cons_cons, List.zip_nil_left, if_true, Bool.false_eq_true, if_false, insAt_tup, insAt_str, insAt_int, opSub_tup, atI0, atI1, atI2, atI3, Val.int.injEq])
      have p12 := Keep.push ⟨.lst [], false⟩ No s11
      have hf12 : is No (s11 ++ [⟨.lst [], false⟩]) (.ref s6.length) es := Rep.weak (Rep.frame hfound11 (p12.weak fun _ _ h => h.elim)) fun _ _ h => h.elim
      have hlaid : PyData.canLay0 (Rep.d es) = true := by
        show PyData.canLay0 (.list (es.map Rep.d)) = true
        simp only [PyData.canLay0, laidAll, List.all_map, List.all_eq_true]
        intro x hx
        exact rules_laid hTs (hok x hx).1
      rw [c_ned (Rep.dp hf12 (by decide) hlaid) (dp_new s11)]
      refine ⟨_, rfl, ?_⟩
      have stay : ∀ s12, Keep (fun r => r = k) s11 s12 → isSack s12 k (m + 2020 + 400 * i + 300) → ∃ (q : Nat) (us : List Val) (rs : List Rul) (c12 : Option Val), ({ s := [some (.ref k), some (.tup [.int (z0 : Int), .int (z1 : Int), .int (z2 : Int), .int (z3 : Int)]), some (.ref s6.length), some v, some (.int ((1 + cn : Nat) : Int)), some (.int (mny : Int)), some (.ref rt), some (.ref rw'), some (.ref s9.length), b9, b10, b11, b12, b13, b14] } : Env) = { s := [some (.ref k), some (.tup [.int (z0 : Int), .int (z1 : Int), .int (z2 : Int), .int (z3 : Int)]), some (.ref s6.length), some v, some (.int ((1 + cn : Nat) : Int)), some (.int (mny : Int)), some (.ref rt), some (.ref rw'), some (.ref q), b9, b10, b11, c12, b13, b14] } ∧ Keep (fun r => r = k) s11 s12 ∧ isSack s12 k (m + 2020 + 400 * i + 300) ∧ is (N s6.length (Old s)) s12 (.ref q) rs ∧ RulesOk ts (1 + cn) rs ∧ rs.length = mny :=
        fun s12 k12 h12 => ⟨_, us, rs, _, rfl, k12, h12, Rep.frame hrules11 (k12.weak fun r _ h => by subst h; exact .inl hk), hrok, hrl⟩
      split
      · rename_i hne
        split
        · rename_i hpos
          simp at hpos
          refine draw_e hD rfl (h11.push (c := ⟨.lst [], false⟩)) (wev_int _ _ _ _) (by omega) (by omega) (by omega) (by omega) fun g s13 k13 h13 g1 g2 => ?_
          rw [c_eqi]
          refine ⟨_, rfl, ?_⟩
          have k1113 : Keep (fun r => r = k) s11 s13 := (p12.weak fun _ _ h => h.elim).tr k13
          have l13 := k1113.le
          split
          · rw [x_seq]
            (simp only [e_var, e_non, e_bl, e_int, e_str, e_bin, e_neg, e_cmp, e_tup, e_lst, e_bi, e_sub, e_attr, e_om, e_ife, sH_var, sH_int, sH_neg, sL_bin, s2_vb, l_nil, l_cons, wt_and, wt_or, wt_not, wt_cmp, wt_chn, t_bi, t_var, i_var, i_sub, i_attr, i_call, i_slc, wi_rng1, wi_rng2, c_lt, c_le, c_gt, c_ge, c_in, c_nin, wpx_ok, wpx_err, of_some, List.getElem?_cons_zero, List.getElem?_cons_succ, Option.bind_some, Option.map_some, id_eq, assign_nm, assign_tp, item_f, item_t, item_s, wipe, List.foldr_cons, List.foldr_nil, List.foldl_cons, List.foldl_nil, List.set_cons_zero, List.set_cons_succ, Option.some.injEq, exists_eq_left', x_skip, x_asg, x_asgA, x_asgS, x_drop, x_ret, x_retN, startE, List.map_cons, List.map_nil, List.length_cons, List.length_nil, List.replicate_succ, List.replicate_zero, List.cons_append, List.nil_append, Nat.sub_self, Nat.zero_add, Nat.reduceAdd, Nat.reduceSub, List.zip_cons_cons, List.zip_nil_left, if_true, Bool.false_eq_true, if_false, insAt_tup, insAt_str, insAt_int, opSub_tup, atI0, atI1, atI2, atI3, Val.int.injEq])
            refine draw_e hD rfl h13 (by simp only [ev]; rfl) (by omega) (by omega) (by omega) (by omega) fun a0 s14 k14 h14 a1 a2 => ?_
            obtain ⟨an, rfl⟩ : ∃ q : Nat, a0 = (q : Int) := ⟨a0.toNat, by omega⟩
            have k1114 := k1113.tr k14
            have l14 := k1114.le
            have hvs14 := k1114.at_ hvs11 (by omega)
            have hes14 : isL (N s6.length (Old s)) s14 vs es := hes11.frame (k1114.weak fun r _ h => by subst h; exact .inl hk)
            have hru14 : is (N s6.length (Old s)) s14 (.ref s9.length) rs := Rep.frame hrules11 (k1114.weak fun r _ h => by subst h; exact .inl hk)
            have hne' : es ≠ [] := by
              intro e
              subst e
              simp [Rep.d, PyData.eqv, PyData.eqvAll] at hne
            have hi1 : 1 ≤ es.length := by
              cases es with
              | nil => exact absurd rfl hne'
              | cons _ _ => simp
            have hvl := hes14.len
            obtain ⟨w, hw1⟩ : ∃ w, vs[vs.length - 1]? = some w := ⟨vs[vs.length - 1], by simp <;> omega⟩
            obtain ⟨last, hlast, hwl2⟩ := hes14.get hw1
            have hlm := hok last (List.mem_of_getElem? hlast)
            have nn : ∀ s' : Store, s14.length ≤ s'.length → ¬ N s6.length (Old s) s'.length := by
              rintro s' h1 (h | h)
              · have : s'.length < s.length := h
                omega
              · omega
            rw [insAt_lst hvs14]
            dsimp only
            rw [opSub_lst hvs14, atI_last hw1]
            simp only [of_some, wpx_ok]
            refine ⟨_, rfl, ?_⟩
            refine slcG_to hwl2 (nn _ (Nat.le_refl _)) fun s15 k15 h15 => ?_
            refine ⟨_, rfl, ?_⟩
            rw [o_add]
            refine ⟨_, rfl, ?_⟩
            refine slcG_part (k := an + 1) (Rep.frame hru14 (k15.weak fun _ _ h => h.elim)) (nn _ k15.le) fun s16 k16 h16 => ?_
            refine addG_w (Rep.frame h15 (k16.weak fun _ _ h => h.elim)) h16 (nn _ (k15.tr k16).le) (by simp; unfold line; omega) fun s17 k17 h17 => ?_
            have k1417 := (k15.tr k16).tr k17
            have hvs17 := k1417.at_ hvs14 id
            rw [insAt_lst hvs17]
            dsimp only
            rw [opSub_lst hvs17, atI_last hw1]
            simp only [of_some, wpx_ok]
            rw [o_add]
            refine ⟨_, rfl, ?_⟩
            refine slcG_from (k := an + 1) (Rep.frame hwl2 (k1417.weak fun _ _ h => h.elim)) (nn _ k1417.le) fun s18 k18 h18 => ?_
            refine addG_w (Rep.frame h17 (k18.weak fun _ _ h => h.elim)) h18 (nn _ (k1417.tr k18).le) (by simp; unfold line; omega) fun s19 k19 h19 => ?_
            have hal : an < last.length := by rw [hlm.2]; omega
            have hrl2 : rs.length = last.length := by rw [hlm.2, hrl]
            have k1419 := (k1417.tr k18).tr k19
            refine ⟨_, us, _, _, rfl, k1114.trNo k1419, (h14.keep k1419 id).le (by omega) (by omega), h19, ?_, ?_⟩
            · intro j x hj
              rcases mix_at hal hrl2 hj with h | h
              · exact hlm.1 j x h
              · exact hrok j x h
            · exact (mix_len hal hrl2).trans hlm.2
          · exact stay s13 k1113 (h13.le (by omega) (by omega))
        · exact stay _ (p12.weak fun _ _ h => h.elim) ((h11.push).le (by omega) (by omega))
      · exact stay _ (p12.weak fun _ _ h => h.elim) ((h11.push).le (by omega) (by omega))
    · rintro e s12 ⟨q, us2, rs2, c12, rfl, k12, h12, hq, hqok, hql⟩
      rw [x_drop, e_bm]
      (simp only [e_var, e_non, e_bl, e_int, e_str, e_bin, e_neg, e_cmp, e_tup, e_lst, e_bi, e_sub, e_attr, e_om, e_ife, sH_var, sH_int, sH_neg, sL_bin, s2_vb, l_nil, l_cons, wt_and, wt_or, wt_not, wt_cmp, wt_chn, t_bi, t_var, i_var, i_sub, i_attr, i_call, i_slc, wi_rng1, wi_rng2, c_lt, c_le, c_gt, c_ge, c_in, c_nin, wpx_ok, wpx_err, of_some, List.getElem?_cons_zero, List.getElem?_cons_succ, Option.bind_some, Option.map_some, id_eq, assign_nm, assign_tp, item_f, item_t, item_s, wipe, List.foldr_cons, List.foldr_nil, List.foldl_cons, List.foldl_nil, List.set_cons_zero, List.set_cons_succ, Option.some.injEq, exists_eq_left', x_skip, x_asg, x_asgA, x_asgS, x_drop, x_ret, x_retN, startE, List.map_cons, List.map_nil, List.length_cons, List.length_nil, List.replicate_succ, List.replicate_zero, List.cons_append, List.nil_append, Nat.sub_self, Nat.zero_add, Nat.reduceAdd, Nat.reduceSub, List.zip_cons_cons, List.zip_nil_left, if_true, Bool.false_eq_true, if_false, insAt_tup, insAt_str, insAt_int, opSub_tup, atI0, atI1, atI2, atI3, Val.int.injEq])
      have hvs12 := k12.at_ hvs11 (by omega)
      have hvl : vs.length = i := by rw [hes.len]; exact hel
      refine ⟨wbmOk_lst hvs12 (by decide), ?_⟩
      rw [bm_append hvs12 (by unfold line; omega)]
      simp only [wpx_ok]
      have k912 := k911.tr k12
      have l12 := k912.le
      have hes12 : isL (N s6.length (Old s)) s12 vs es := hes11.frame (k12.weak fun r _ h => by subst h; exact .inl hk)
      have stt := Keep.set s6.length ⟨.lst (vs ++ [.ref q]), false⟩ (N s6.length (Old s)) s12 (fun _ => .inr rfl)
      have h12' : isSack (s12.set s6.length ⟨.lst (vs ++ [.ref q]), false⟩) k (m + 2020 + 400 * i + 300) := h12.set (by omega)
      have h12'' := h12'.le hb1 hb2
      refine ⟨keep_new (k9.tr k912) (by omega), h12'', ⟨_, _, _, _, _, _, _, _, rfl⟩, ?_, ?_, _, es ++ [rs2], set_at (lt_of_at hvs12), (hes12.frame stt).app ⟨Rep.frame hq stt, trivial⟩, ?_, by simp [hel]⟩
      · rw [List.getElem?_set_ne (by omega)]
        exact k912.at_ hct9 (by omega)
      · rw [List.getElem?_set_ne (by omega)]
        exact k912.at_ hcw9 (by omega)
      · intro e he
        rcases List.mem_append.1 he with he | he
        · exact hok e he
        · simp at he
          subst he
          exact ⟨hqok, hql⟩
  · rintro e s9 ⟨k9, h9, ⟨a3, a8, a9, a10, a11, a12, a13, a14, rfl⟩, hct9, hcw9, vs, es, hvs, hes, hok, hel⟩
    have hr0 : (rangeL 0 (1 + tn)).length = 1 + tn := by simp [rangeL]
    rw [hr0] at h9 hel
    have l9 := k9.le
    (simp only [e_var, e_non, e_bl, e_int, e_str, e_bin, e_neg, e_cmp, e_tup, e_lst, e_bi, e_sub, e_attr, e_om, e_ife, sH_var, sH_int, sH_neg, sL_bin, s2_vb, l_nil, l_cons, wt_and, wt_or, wt_not, wt_cmp, wt_chn, t_bi, t_var, i_var, i_sub, i_attr, i_call, i_slc, wi_rng1, wi_rng2, c_lt, c_le, c_gt, c_ge, c_in, c_nin, wpx_ok, wpx_err, of_some, List.getElem?_cons_zero, List.getElem?_cons_succ, Option.bind_some, Option.map_some, id_eq, assign_nm, assign_tp, item_f, item_t, item_s, wipe, List.foldr_cons, List.foldr_nil, List.foldl_cons, List.foldl_nil, List.set_cons_zero, List.set_cons_succ, Option.some.injEq, exists_eq_left', x_skip, x_asg, x_asgA, x_asgS, x_drop, x_ret, x_retN, startE, List.map_cons, List.map_nil, List.length_cons, List.length_nil, List.replicate_succ, List.replicate_zero, List.cons_append, List.nil_append, Nat.sub_self, Nat.zero_add, Nat.reduceAdd, Nat.reduceSub, List.zip_cons_cons, List.zip_nil_left, if_true, Bool.false_eq_true, if_false, insAt_tup, insAt_str, insAt_int, opSub_tup, atI0, atI1, atI2, atI3, Val.int.injEq])
    have ht9 : is (Old s) s9 (.ref rt) ts := is_strs.2 ⟨_, rfl, by show ¬ rt < s.length; omega, hct9⟩
    refine slc_to_w ht9 fun s10 k10 h10 => ?_
    have hx : ∀ e ∈ es, e.map Rul.nm = ts.drop (1 + cn) := fun e he => rules_names (hok e he).1 (hok e he).2 htsl
    have hne : es ≠ [] := by intro e; subst e; simp at hel; omega
    have hhd : (es.headD []) ∈ es := by
      cases es with
      | nil => exact absurd rfl hne
      | cons a l => simp
    have hpl : ts.take (1 + cn) ++ (es.headD []).map Rul.nm = ts := by rw [hx _ hhd, List.take_append_drop]
    have htk : (ts.take (1 + cn)).length = 1 + cn := by simp; omega
    refine ⟨k9.trNo k10, (h9.keep k10 id).le (by omega) (by omega), _, es, _, _, rfl, isOld h10 l9, ⟨s6.length, vs, rfl, by show ¬ s6.length < s.length; omega, k10.at_ hvs id, (hes.frame (k10.weak fun _ _ h => h.elim)).weak fun r _ h => .inl h⟩, ⟨by rw [hpl]; exact hTs, hne, fun e he => by rw [hx e he, hx _ hhd], fun e he => by rw [hpl, htk]; exact (hok e he).1, by omega, by omega, by rw [(hok _ hhd).2]; omega⟩⟩
end AM
end

section
namespace AM
open Rep (is)
open PySem (Str PyData Operator CmpOp)
variable {P : Prog}

theorem lcopied_w (hC : Has P "_law_copied" KD.d_law_copied) {H : Nat → Prop} {st : Store} {v : Val} {es : List (List Rul)} (h : is H st v es) (hm : es.length < line) (hm2 : ∀ x ∈ es, x.length ≤ line) {n : Nat} (hn : 1 ≤ n) :
    wpx (callF P n "_law_copied" [v] st) (fun w s => Keep No st s ∧ is (Old st) s w es) NoX := by
  refine callF_def hC.df (by omega) rfl ?_
  simp only [KD.d_law_copied]
  rw [x_seq]
  (simp only [e_var, e_non, e_bl, e_int, e_str, e_bin, e_neg, e_cmp, e_tup, e_lst, e_bi, e_sub, e_attr, e_om, e_ife, sH_var, sH_int, sH_neg, sL_bin, s2_vb, l_nil, l_cons, wt_and, wt_or, wt_not, wt_cmp, wt_chn, t_bi, t_var, i_var, i_sub, i_attr, i_call, i_slc, wi_rng1, wi_rng2, c_lt, c_le, c_gt, c_ge, c_in, c_nin, wpx_ok, wpx_err, of_some, List.getElem?_cons_zero, List.getElem?_cons_succ, Option.bind_some, Option.map_some, id_eq, assign_nm, assign_tp, item_f, item_t, item_s, wipe, List.foldr_cons, List.foldr_nil, List.foldl_cons, List.foldl_nil, List.set_cons_zero, List.set_cons_succ, Option.some.injEq, exists_eq_left', x_skip, x_asg, x_asgA, x_asgS, x_drop, x_ret, x_retN, startE, List.map_cons, List.map_nil, List.length_cons, List.length_nil, List.replicate_succ, List.replicate_zero, List.cons_append, List.nil_append, Nat.sub_self, Nat.zero_add, Nat.reduceAdd, Nat.reduceSub, List.zip_cons_cons, List.zip_nil_left, if_true, Bool.false_eq_true, if_false, insAt_tup, insAt_str, insAt_int, opSub_tup, atI0, atI1, atI2, atI3, Val.int.injEq])
  rw [x_seq, x_for]
  (simp only [e_var, e_non, e_bl, e_int, e_str, e_bin, e_neg, e_cmp, e_tup, e_lst, e_bi, e_sub, e_attr, e_om, e_ife, sH_var, sH_int, sH_neg, sL_bin, s2_vb, l_nil, l_cons, wt_and, wt_or, wt_not, wt_cmp, wt_chn, t_bi, t_var, i_var, i_sub, i_attr, i_call, i_slc, wi_rng1, wi_rng2, c_lt, c_le, c_gt, c_ge, c_in, c_nin, wpx_ok, wpx_err, of_some, List.getElem?_cons_zero, List.getElem?_cons_succ, Option.bind_some, Option.map_some, id_eq, assign_nm, assign_tp, item_f, item_t, item_s, wipe, List.foldr_cons, List.foldr_nil, List.foldl_cons, List.foldl_nil, List.set_cons_zero, List.set_cons_succ, Option.some.injEq, exists_eq_left', x_skip, x_asg, x_asgA, x_asgS, x_drop, x_ret, x_retN, startE, List.map_cons, List.map_nil, List.length_cons, List.length_nil, List.replicate_succ, List.replicate_zero, List.cons_append, List.nil_append, Nat.sub_self, Nat.zero_add, Nat.reduceAdd, Nat.reduceSub, List.zip_cons_cons, List.zip_nil_left, if_true, Bool.false_eq_true, if_false, insAt_tup, insAt_str, insAt_int, opSub_tup, atI0, atI1, atI2, atI3, Val.int.injEq])
  have p0 := Keep.push ⟨.lst [], false⟩ No st
  refine w_iterK h p0 fun r l hv hr hat hl => ?_
  refine goes_rule (l := l) (fun i e s => Keep No st s ∧ (∃ a b, e = { s := [some v, some (.ref st.length), a, b] }) ∧ ∃ vs, s[st.length]? = some ⟨.lst vs, false⟩ ∧ isL (N st.length (Old st)) s vs (es.take i)) ⟨p0, ⟨_, _, rfl⟩, [], push_at _ _, trivial⟩ (fun i e s h => ⟨_, h.1.at_ hat id⟩) ?_ ?_
  · rintro i w e s hw ⟨k, ⟨a, b, rfl⟩, vs, hvs, hes⟩
    obtain ⟨x, hx, hwx⟩ := hl.get hw
    have hwx := Rep.frame (H := H) hwx (k.weak fun _ _ h => h.elim)
    have hi := getElem?_some_lt hx
    have hlt := lt_of_at hvs
    refine ⟨_, rfl, ?_⟩
    rw [x_drop, e_bm]
    (simp only [e_var, e_non, e_bl, e_int, e_str, e_bin, e_neg, e_cmp, e_tup, e_lst, e_bi, e_sub, e_attr, e_om, e_ife, sH_var, sH_int, sH_neg, sL_bin, s2_vb, l_nil, l_cons, wt_and, wt_or, wt_not, wt_cmp, wt_chn, t_bi, t_var, i_var, i_sub, i_attr, i_call, i_slc, wi_rng1, wi_rng2, c_lt, c_le, c_gt, c_ge, c_in, c_nin, wpx_ok, wpx_err, of_some, List.getElem?_cons_zero, List.getElem?_cons_succ, Option.bind_some, Option.map_some, id_eq, assign_nm, assign_tp, item_f, item_t, item_s, wipe, List.foldr_cons, List.foldr_nil, List.foldl_cons, List.foldl_nil, List.set_cons_zero, List.set_cons_succ, Option.some.injEq, exists_eq_left', x_skip, x_asg, x_asgA, x_asgS, x_drop, x_ret, x_retN, startE, List.map_cons, List.map_nil, List.length_cons, List.length_nil, List.replicate_succ, List.replicate_zero, List.cons_append, List.nil_append, Nat.sub_self, Nat.zero_add, Nat.reduceAdd, Nat.reduceSub, List.zip_cons_cons, List.zip_nil_left, if_true, Bool.false_eq_true, if_false, insAt_tup, insAt_str, insAt_int, opSub_tup, atI0, atI1, atI2, atI3, Val.int.injEq])
    refine ⟨wbmOk_lst hvs (by decide), ?_⟩
    refine lc_map (α := Rul) (β := Rul) (wi_var rfl hwx fun r l hv hr ha hl => ?_)
    refine ⟨l, x, id, _, Old s, ⟨_, ha⟩, hl, old_no _, hm2 x (List.mem_of_getElem? hx), ?_, fun s3 k3 h3 => ?_⟩
    · rintro j w y s2 hv hy hk2 hlt2 ⟨u, rfl, hu⟩
      (simp only [e_var, e_non, e_bl, e_int, e_str, e_bin, e_neg, e_cmp, e_tup, e_lst, e_bi, e_sub, e_attr, e_om, e_ife, sH_var, sH_int, sH_neg, sL_bin, s2_vb, l_nil, l_cons, wt_and, wt_or, wt_not, wt_cmp, wt_chn, t_bi, t_var, i_var, i_sub, i_attr, i_call, i_slc, wi_rng1, wi_rng2, c_lt, c_le, c_gt, c_ge, c_in, c_nin, wpx_ok, wpx_err, of_some, List.getElem?_cons_zero, List.getElem?_cons_succ, Option.bind_some, Option.map_some, id_eq, assign_nm, assign_tp, item_f, item_t, item_s, wipe, List.foldr_cons, List.foldr_nil, List.foldl_cons, List.foldl_nil, List.set_cons_zero, List.set_cons_succ, Option.some.injEq, exists_eq_left', x_skip, x_asg, x_asgA, x_asgS, x_drop, x_ret, x_retN, startE, List.map_cons, List.map_nil, List.length_cons, List.length_nil, List.replicate_succ, List.replicate_zero, List.cons_append, List.nil_append, Nat.sub_self, Nat.zero_add, Nat.reduceAdd, Nat.reduceSub, List.zip_cons_cons, List.zip_nil_left, if_true, Bool.false_eq_true, if_false, insAt_tup, insAt_str, insAt_int, opSub_tup, atI0, atI1, atI2, atI3, Val.int.injEq])
      refine list_w hu fun s' k1 h1 => ?_
      exact ⟨k1, _, rfl, isOldN h1 hlt2⟩
    · have hvs3 := k3.at_ hvs id
      have hvl := hes.len
      simp at hvl
      rw [bm_append hvs3 (by omega)]
      have stt := Keep.set st.length ⟨.lst (vs ++ [.ref s.length]), false⟩ (N st.length (Old st)) s3 (fun _ => .inr rfl)
      refine ⟨keep_new (k.tr k3) (Nat.le_refl _), ⟨_, _, rfl⟩, _, set_at (lt_of_at hvs3), ?_⟩
      rw [List.take_add_one, hx]
      refine ((hes.frame (k3.weak fun _ _ h => h.elim)).frame stt).app ⟨Rep.frame ?_ stt, trivial⟩
      rw [List.map_id] at h3
      exact Rep.weak h3 fun r _ h => by
        rcases h with h | h
        · exact Nat.lt_of_lt_of_le h k.le
        · subst h
          exact hlt
  · rintro e s ⟨k, ⟨a, b, rfl⟩, vs, hvs, hes⟩
    (simp only [e_var, e_non, e_bl, e_int, e_str, e_bin, e_neg, e_cmp, e_tup, e_lst, e_bi, e_sub, e_attr, e_om, e_ife, sH_var, sH_int, sH_neg, sL_bin, s2_vb, l_nil, l_cons, wt_and, wt_or, wt_not, wt_cmp, wt_chn, t_bi, t_var, i_var, i_sub, i_attr, i_call, i_slc, wi_rng1, wi_rng2, c_lt, c_le, c_gt, c_ge, c_in, c_nin, wpx_ok, wpx_err, of_some, List.getElem?_cons_zero, List.getElem?_cons_succ, Option.bind_some, Option.map_some, id_eq, assign_nm, assign_tp, item_f, item_t, item_s, wipe, List.foldr_cons, List.foldr_nil, List.foldl_cons, List.foldl_nil, List.set_cons_zero, List.set_cons_succ, Option.some.injEq, exists_eq_left', x_skip, x_asg, x_asgA, x_asgS, x_drop, x_ret, x_retN, startE, List.map_cons, List.map_nil, List.length_cons, List.length_nil, List.replicate_succ, List.replicate_zero, List.cons_append, List.nil_append, Nat.sub_self, Nat.zero_add, Nat.reduceAdd, Nat.reduceSub, List.zip_cons_cons, List.zip_nil_left, if_true, Bool.false_eq_true, if_false, insAt_tup, insAt_str, insAt_int, opSub_tup, atI0, atI1, atI2, atI3, Val.int.injEq])
    rw [hl.len, List.take_length] at hes
    exact ⟨k, _, vs, rfl, Nat.lt_irrefl _, hvs, hes.weak fun r _ h => .inl h⟩

/-- a plan in a store -/
def isPlan (H : Nat → Prop) (s : Store) (v : Val) (pl : List Str) (es : List (List Rul)) : Prop := ∃ a b, v = .tup [a, b] ∧ is H s a pl ∧ is H s b es
theorem isPlan.frame {H : Nat → Prop} {s s' : Store} {v : Val} {pl : List Str} {es : List (List Rul)} (h : isPlan H s v pl es) (k : Keep H s s') : isPlan H s' v pl es := by
  obtain ⟨a, b, hv, h1, h2⟩ := h
  exact ⟨a, b, hv, Rep.frame h1 k, Rep.frame h2 k⟩
theorem isPlan.weak {H H' : Nat → Prop} {s : Store} {v : Val} {pl : List Str} {es : List (List Rul)} (h : isPlan H s v pl es) (k : ∀ r, r < s.length → H' r → H r) : isPlan H' s v pl es := by
  obtain ⟨a, b, hv, h1, h2⟩ := h
  exact ⟨a, b, hv, Rep.weak h1 k, Rep.weak h2 k⟩

section
variable {pl : List Str} {es : List (List Rul)}
theorem Plan.lt (p : Plan pl es) : ∀ e ∈ es, e.length = (es.headD []).length := fun e he => by
  have := congrArg List.length (p.names e he)
  simpa using this
theorem Plan.okP (p : Plan pl es) : OkP pl es := by
  have hlow : ∀ t ∈ pl ++ (es.headD []).map Rul.nm, PyData.canLay0 (.str t) = true ∧ t.length ≤ line := fun t ht => by
    have := p.ts.word t ht
    exact ⟨low_laid (word_low this), by have := word_len this; unfold line; omega⟩
  refine ⟨fun x hx => (hlow x (by simp [hx])).1, fun x hx => (hlow x (by simp [hx])).2, fun e he x hx => ?_, fun e he => by have := p.lt e he; have := p.ln; have := p.lp; unfold line; omega, by have := p.le; unfold line; omega⟩
  obtain ⟨j, hj⟩ := List.getElem?_of_mem hx
  have hr := p.rules e he j x hj
  have hn := hlow x.nm (List.mem_of_getElem? hr.nm)
  exact ⟨hn.1, held_laid _ hr.hd, fun y hy => (hlow y (List.mem_of_mem_take (hr.sub y hy))).1, hn.2, by have := word_len hr.fm; unfold line; omega⟩
theorem take_no_dup {ts : List Str} (h : ts.Nodup) {i : Nat} {x : Str} (hx : ts[i]? = some x) : x ∉ ts.take i := by
  intro hm
  obtain ⟨q, hq⟩ := List.getElem?_of_mem hm
  have hq1 := getElem?_some_lt hq
  rw [List.length_take] at hq1
  rw [List.getElem?_take, if_pos (by omega)] at hq
  have := (List.nodup_iff_pairwise_ne.1 h)
  rw [List.pairwise_iff_getElem] at this
  have h1 := getElem?_some_lt hx
  refine this q i (by omega) h1 (by omega) ?_
  rw [List.getElem?_eq_getElem (by omega)] at hq
  rw [List.getElem?_eq_getElem h1] at hx
  exact (Option.some.inj hq).trans (Option.some.inj hx).symm
/-- such a plan has no fault -/
theorem Plan.noF (p : Plan pl es) : initF pl es = none := by
  have hw : ∀ t ∈ pl ++ (es.headD []).map Rul.nm, nameF t = none := fun t ht => by simp [nameF, p.ts.word t ht]
  have h1 : plainF pl = none := by
    rw [plainF, firstF_none]
    intro i hi
    have hx : pl[i]? = some pl[i] := by simp [hi]
    have hg : pl.getD i "" = pl[i] := by simp [hi]
    simp only [plainF1, hg, hw pl[i] (by simp), Option.none_or]
    rw [if_neg (take_no_dup (p.ts.nodup.sublist (List.sublist_append_left _ _)) hx)]
  have h2 : firstF (initF1 pl es) es.length = none := by
    rw [firstF_none]
    intro i hi
    have hx : es[i]? = some es[i] := by simp [hi]
    have he : es[i] ∈ es := List.getElem_mem _
    simp only [initF1, hx]
    have h3 : editionF pl es[i] = none := by
      rw [editionF, firstF_none]
      intro j hj
      have hy : es[i][j]? = some es[i][j] := by simp [hj]
      have hr := p.rules _ he j _ hy
      have hah : pl ++ (es[i].take j).map Rul.nm = (pl ++ (es.headD []).map Rul.nm).take (pl.length + j) := by
        rw [List.map_take, ← p.names _ he, List.take_append, List.take_of_length_le (Nat.le_add_right pl.length j), Nat.add_sub_cancel_left]
      simp only [editionF1, hy]
      have hsrc : sourcesF (pl ++ (es[i].take j).map Rul.nm) es[i][j].src = none := by
        rw [sourcesF, firstF_none]
        intro q hq
        have hz : es[i][j].src[q]? = some es[i][j].src[q] := by simp [hq]
        have hg : es[i][j].src.getD q "" = es[i][j].src[q] := by simp [hq]
        simp only [sourcesF1, hg]
        rw [if_pos (by rw [hah]; exact hr.sub _ (List.getElem_mem _)), if_neg (take_no_dup hr.nd hz)]
        rfl
      have hfm : nameF es[i][j].fm = none := by simp [nameF, hr.fm]
      simp only [ruleF, hw _ (List.mem_of_getElem? hr.nm), hfm, hsrc, Option.none_or]
      rw [if_neg (by rw [hah]; exact take_no_dup p.ts.nodup hr.nm), if_pos hr.hd]
      rfl
    rw [h3, Option.none_or, if_pos (p.names _ he)]
  simp only [initF, h1, h2, Option.none_or]
  rw [if_neg p.ne]
  rfl

theorem table_of_w {ci : Cinfo} (hT : Tab P ci) (D : TabD P) (hC : Has P "_law_copied" KD.d_law_copied) (hO : Has P "_law_table_of" KD.d_law_table_of) {H : Nat → Prop} {s : Store} {v : Val} (h : isPlan H s v pl es) (p : Plan pl es) {n : Nat} (hn : 5 ≤ n) :
    wpx (callF P n "_law_table_of" [v] s) (fun w s' => Keep No s s' ∧ isTable (Old s) s' w pl es) NoX := by
  obtain ⟨a, b, rfl, ha, hb⟩ := h
  refine callF_def hO.df (by omega) rfl ?_
  simp only [KD.d_law_table_of]
  rw [x_ret, e_make (by rw [hT.cl]; rfl)]
  (simp only [e_var, e_non, e_bl, e_int, e_str, e_bin, e_neg, e_cmp, e_tup, e_lst, e_bi, e_sub, e_attr, e_om, e_ife, sH_var, sH_int, sH_neg, sL_bin, s2_vb, l_nil, l_cons, wt_and, wt_or, wt_not, wt_cmp, wt_chn, t_bi, t_var, i_var, i_sub, i_attr, i_call, i_slc, wi_rng1, wi_rng2, c_lt, c_le, c_gt, c_ge, c_in, c_nin, wpx_ok, wpx_err, of_some, List.getElem?_cons_zero, List.getElem?_cons_succ, Option.bind_some, Option.map_some, id_eq, assign_nm, assign_tp, item_f, item_t, item_s, wipe, List.foldr_cons, List.foldr_nil, List.foldl_cons, List.foldl_nil, List.set_cons_zero, List.set_cons_succ, Option.some.injEq, exists_eq_left', x_skip, x_asg, x_asgA, x_asgS, x_drop, x_ret, x_retN, startE, List.map_cons, List.map_nil, List.length_cons, List.length_nil, List.replicate_succ, List.replicate_zero, List.cons_append, List.nil_append, Nat.sub_self, Nat.zero_add, Nat.reduceAdd, Nat.reduceSub, List.zip_cons_cons, List.zip_nil_left, if_true, Bool.false_eq_true, if_false, insAt_tup, insAt_str, insAt_int, opSub_tup, atI0, atI1, atI2, atI3, Val.int.injEq])
  refine list_w ha fun s1 k1 h1 => ?_
  rw [e_call hC]
  (simp only [e_var, e_non, e_bl, e_int, e_str, e_bin, e_neg, e_cmp, e_tup, e_lst, e_bi, e_sub, e_attr, e_om, e_ife, sH_var, sH_int, sH_neg, sL_bin, s2_vb, l_nil, l_cons, wt_and, wt_or, wt_not, wt_cmp, wt_chn, t_bi, t_var, i_var, i_sub, i_attr, i_call, i_slc, wi_rng1, wi_rng2, c_lt, c_le, c_gt, c_ge, c_in, c_nin, wpx_ok, wpx_err, of_some, List.getElem?_cons_zero, List.getElem?_cons_succ, Option.bind_some, Option.map_some, id_eq, assign_nm, assign_tp, item_f, item_t, item_s, wipe, List.foldr_cons, List.foldr_nil, List.foldl_cons, List.foldl_nil, List.set_cons_zero, List.set_cons_succ, Option.some.injEq, exists_eq_left', x_skip, x_asg, x_asgA, x_asgS, x_drop, x_ret, x_retN, startE, List.map_cons, List.map_nil, List.length_cons, List.length_nil, List.replicate_succ, List.replicate_zero, List.cons_append, List.nil_append, Nat.sub_self, Nat.zero_add, Nat.reduceAdd, Nat.reduceSub, List.zip_cons_cons, List.zip_nil_left, if_true, Bool.false_eq_true, if_false, insAt_tup, insAt_str, insAt_int, opSub_tup, atI0, atI1, atI2, atI3, Val.int.injEq])
  refine (lcopied_w hC (Rep.frame hb (k1.weak fun _ _ h => h.elim)) (by have := p.le; unfold line; omega) (fun x hx => by have := p.lt x hx; have := p.ln; unfold line; omega) (by omega)).to ?_
  rintro w s2 ⟨k2, h2⟩
  refine (make_w hT D (H := No) (Rep.weak (Rep.frame h1 (k2.weak fun _ _ h => h.elim)) fun _ _ h => h.elim) (Rep.weak h2 fun _ _ h => h.elim) p.okP (by omega)).mono ?_ ?_
  · rintro w s3 ⟨k3, h3, _⟩
    exact ⟨(k1.tr k2).tr k3, h3.weak fun r _ h => Nat.lt_of_lt_of_le h (k1.tr k2).le⟩
  · rintro c w s3 ⟨_, h3⟩
    rw [p.noF] at h3
    cases h3

theorem every_deed_w (hE : Has P "_law_every_deed" KD.d_law_every_deed) {H : Nat → Prop} {s : Store} {v : Val} (h : isPlan H s v pl es) (p : Plan pl es) {n : Nat} (hn : 1 ≤ n) :
    wpx (callF P n "_law_every_deed" [v] s) (fun w s' => Keep No s s' ∧ is (Old s) s' w (deedsL pl ((es.headD []).map Rul.nm))) NoX := by
  obtain ⟨a, b, rfl, ha, hb⟩ := h
  have hlp := p.lp
  have hln := p.ln
  refine callF_def hE.df (by omega) rfl ?_
  simp only [KD.d_law_every_deed]
  rw [x_seq]
  (simp only [e_var, e_non, e_bl, e_int, e_str, e_bin, e_neg, e_cmp, e_tup, e_lst, e_bi, e_sub, e_attr, e_om, e_ife, sH_var, sH_int, sH_neg, sL_bin, s2_vb, l_nil, l_cons, wt_and, wt_or, wt_not, wt_cmp, wt_chn, t_bi, t_var, i_var, i_sub, i_attr, i_call, i_slc, wi_rng1, wi_rng2, c_lt, c_le, c_gt, c_ge, c_in, c_nin, wpx_ok, wpx_err, of_some, List.getElem?_cons_zero, List.getElem?_cons_succ, Option.bind_some, Option.map_some, id_eq, assign_nm, assign_tp, item_f, item_t, item_s, wipe, List.foldr_cons, List.foldr_nil, List.foldl_cons, List.foldl_nil, List.set_cons_zero, List.set_cons_succ, Option.some.injEq, exists_eq_left', x_skip, x_asg, x_asgA, x_asgS, x_drop, x_ret, x_retN, startE, List.map_cons, List.map_nil, List.length_cons, List.length_nil, List.replicate_succ, List.replicate_zero, List.cons_append, List.nil_append, Nat.sub_self, Nat.zero_add, Nat.reduceAdd, Nat.reduceSub, List.zip_cons_cons, List.zip_nil_left, if_true, Bool.false_eq_true, if_false, insAt_tup, insAt_str, insAt_int, opSub_tup, atI0, atI1, atI2, atI3, Val.int.injEq])
  have a1 := new_flat (s := s) (H := No) (s' := s) (vs := [.tup [.str "put"]]) (xs := [(⟨["put"]⟩ : TS)]) ⟨rfl, trivial⟩
  have p1 := Keep.push ⟨.lst [.tup [.str "put"]], false⟩ No s
  refine lc_map (α := Str) (β := TS) ?_
  (simp only [e_var, e_non, e_bl, e_int, e_str, e_bin, e_neg, e_cmp, e_tup, e_lst, e_bi, e_sub, e_attr, e_om, e_ife, sH_var, sH_int, sH_neg, sL_bin, s2_vb, l_nil, l_cons, wt_and, wt_or, wt_not, wt_cmp, wt_chn, t_bi, t_var, i_var, i_sub, i_attr, i_call, i_slc, wi_rng1, wi_rng2, c_lt, c_le, c_gt, c_ge, c_in, c_nin, wpx_ok, wpx_err, of_some, List.getElem?_cons_zero, List.getElem?_cons_succ, Option.bind_some, Option.map_some, id_eq, assign_nm, assign_tp, item_f, item_t, item_s, wipe, List.foldr_cons, List.foldr_nil, List.foldl_cons, List.foldl_nil, List.set_cons_zero, List.set_cons_succ, Option.some.injEq, exists_eq_left', x_skip, x_asg, x_asgA, x_asgS, x_drop, x_ret, x_retN, startE, List.map_cons, List.map_nil, List.length_cons, List.length_nil, List.replicate_succ, List.replicate_zero, List.cons_append, List.nil_append, Nat.sub_self, Nat.zero_add, Nat.reduceAdd, Nat.reduceSub, List.zip_cons_cons, List.zip_nil_left, if_true, Bool.false_eq_true, if_false, insAt_tup, insAt_str, insAt_int, opSub_tup, atI0, atI1, atI2, atI3, Val.int.injEq])
  refine w_iterK ha p1 fun r l hv hr hat hl => ?_
  refine ⟨l, pl, fun c => ⟨["set", c]⟩, No, Old s, ⟨_, p1.at_ hat id⟩, hl.flat, fun r hr h => by have : r < s.length := h; simp at hr; omega, by unfold line; omega, ?_, ?_⟩
  · rintro i w x s2 hw hx k2 hlt rfl
    (simp only [e_var, e_non, e_bl, e_int, e_str, e_bin, e_neg, e_cmp, e_tup, e_lst, e_bi, e_sub, e_attr, e_om, e_ife, sH_var, sH_int, sH_neg, sL_bin, s2_vb, l_nil, l_cons, wt_and, wt_or, wt_not, wt_cmp, wt_chn, t_bi, t_var, i_var, i_sub, i_attr, i_call, i_slc, wi_rng1, wi_rng2, c_lt, c_le, c_gt, c_ge, c_in, c_nin, wpx_ok, wpx_err, of_some, List.getElem?_cons_zero, List.getElem?_cons_succ, Option.bind_some, Option.map_some, id_eq, assign_nm, assign_tp, item_f, item_t, item_s, wipe, List.foldr_cons, List.foldr_nil, List.foldl_cons, List.foldl_nil, List.set_cons_zero, List.set_cons_succ, Option.some.injEq, exists_eq_left', x_skip, x_asg, x_asgA, x_asgS, x_drop, x_ret, x_retN, startE, List.map_cons, List.map_nil, List.length_cons, List.length_nil, List.replicate_succ, List.replicate_zero, List.cons_append, List.nil_append, Nat.sub_self, Nat.zero_add, Nat.reduceAdd, Nat.reduceSub, List.zip_cons_cons, List.zip_nil_left, if_true, Bool.false_eq_true, if_false, insAt_tup, insAt_str, insAt_int, opSub_tup, atI0, atI1, atI2, atI3, Val.int.injEq])
    exact ⟨Keep.refl _ _, rfl⟩
  intro s3 k3 h3
  refine add_w (Rep.frame a1 (k3.weak fun _ _ h => h.elim)) h3 (by simp; unfold line; omega) fun s4 k4 h4 => ?_
  refine lc_map (α := Rul) (β := TS) ?_
  (simp only [e_var, e_non, e_bl, e_int, e_str, e_bin, e_neg, e_cmp, e_tup, e_lst, e_bi, e_sub, e_attr, e_om, e_ife, sH_var, sH_int, sH_neg, sL_bin, s2_vb, l_nil, l_cons, wt_and, wt_or, wt_not, wt_cmp, wt_chn, t_bi, t_var, i_var, i_sub, i_attr, i_call, i_slc, wi_rng1, wi_rng2, c_lt, c_le, c_gt, c_ge, c_in, c_nin, wpx_ok, wpx_err, of_some, List.getElem?_cons_zero, List.getElem?_cons_succ, Option.bind_some, Option.map_some, id_eq, assign_nm, assign_tp, item_f, item_t, item_s, wipe, List.foldr_cons, List.foldr_nil, List.foldl_cons, List.foldl_nil, List.set_cons_zero, List.set_cons_succ, Option.some.injEq, exists_eq_left', x_skip, x_asg, x_asgA, x_asgS, x_drop, x_ret, x_retN, startE, List.map_cons, List.map_nil, List.length_cons, List.length_nil, List.replicate_succ, List.replicate_zero, List.cons_append, List.nil_append, Nat.sub_self, Nat.zero_add, Nat.reduceAdd, Nat.reduceSub, List.zip_cons_cons, List.zip_nil_left, if_true, Bool.false_eq_true, if_false, insAt_tup, insAt_str, insAt_int, opSub_tup, atI0, atI1, atI2, atI3, Val.int.injEq])
  have k04 := (p1.tr k3).tr k4
  obtain ⟨rb, lb, rfl, hrb, hcb, hlb⟩ := hb
  have hcb4 := k04.at_ hcb id
  rw [insAt_lst hcb4]
  dsimp only
  cases hes : es with
  | nil => exact absurd hes p.ne
  | cons e0 es0 =>
    cases hlbe : lb with
    | nil => rw [hes, hlbe] at hlb; exact hlb.elim
    | cons w0 l0 =>
      rw [hes, hlbe] at hlb
      rw [opSub_lst hcb4, hlbe, atI0]
      simp only [of_some, wpx_ok]
      have he0 : is H s4 w0 e0 := Rep.frame hlb.1 (k04.weak fun _ _ h => h.elim)
      have hln0 : e0.length ≤ 8 := by rw [hes] at hln; exact hln
      refine w_iter he0 fun r l hv hr hat hl => ?_
      refine ⟨l, e0, fun x => ⟨["rewrite", x.nm]⟩, H, Old s, ⟨_, hat⟩, hl, fun r hr h => Nat.lt_irrefl _ (Nat.lt_of_lt_of_le h (Nat.le_trans k04.le hr)), by unfold line; omega, ?_, ?_⟩
      · rintro i w x s2 hw hx k2 hlt ⟨u, rfl, hu⟩
        (simp only [e_var, e_non, e_bl, e_int, e_str, e_bin, e_neg, e_cmp, e_tup, e_lst, e_bi, e_sub, e_attr, e_om, e_ife, sH_var, sH_int, sH_neg, sL_bin, s2_vb, l_nil, l_cons, wt_and, wt_or, wt_not, wt_cmp, wt_chn, t_bi, t_var, i_var, i_sub, i_attr, i_call, i_slc, wi_rng1, wi_rng2, c_lt, c_le, c_gt, c_ge, c_in, c_nin, wpx_ok, wpx_err, of_some, List.getElem?_cons_zero, List.getElem?_cons_succ, Option.bind_some, Option.map_some, id_eq, assign_nm, assign_tp, item_f, item_t, item_s, wipe, List.foldr_cons, List.foldr_nil, List.foldl_cons, List.foldl_nil, List.set_cons_zero, List.set_cons_succ, Option.some.injEq, exists_eq_left', x_skip, x_asg, x_asgA, x_asgS, x_drop, x_ret, x_retN, startE, List.map_cons, List.map_nil, List.length_cons, List.length_nil, List.replicate_succ, List.replicate_zero, List.cons_append, List.nil_append, Nat.sub_self, Nat.zero_add, Nat.reduceAdd, Nat.reduceSub, List.zip_cons_cons, List.zip_nil_left, if_true, Bool.false_eq_true, if_false, insAt_tup, insAt_str, insAt_int, opSub_tup, atI0, atI1, atI2, atI3, Val.int.injEq])
        exact ⟨Keep.refl _ _, rfl⟩
      intro s5 k5 h5
      refine add_w (Rep.frame h4 (k5.weak fun _ _ h => h.elim)) h5 (by simp; unfold line; omega) fun s6 k6 h6 => ?_
      have a2 := new_flat (s := s6) (H := No) (s' := s6) (vs := [.tup [.str "edition"]]) (xs := [(⟨["edition"]⟩ : TS)]) ⟨rfl, trivial⟩
      have p2 := Keep.push ⟨.lst [.tup [.str "edition"]], false⟩ No s6
      refine add_w (Rep.frame h6 (p2.weak fun _ _ h => h.elim)) a2 (by simp; unfold line; omega) fun s8 k8 h8 => ?_
      have kk : Keep No s (s6 ++ [⟨.lst [.tup [.str "edition"]], false⟩]) := ((k04.tr k5).tr k6).tr p2
      refine ⟨kk.tr k8, ?_⟩
      have := isOld h8 kk.le
      simpa [deedsL, Function.comp_def] using this
end
end AM
end

section
namespace AM
open Rep (is)
open PySem (Str PyData Operator CmpOp)
variable {P : Prog}

theorem copiedS_w (hP : Has P "_copied" KD.d_copied) {H : Nat → Prop} {st : Store} {v : Val} {xs : List (List Rul)} (h : is H st v xs) (hm : xs.length ≤ line) (hm2 : ∀ x ∈ xs, x.length ≤ line) {n : Nat} (hn : 1 ≤ n) :
    wpx (callF P n "_copied" [v] st) (fun w s => Keep No st s ∧ w = .ref st.length ∧ ∃ ws, s[st.length]? = some ⟨.lst ws, false⟩ ∧ isSL s (st.length + 1) s.length ws xs) NoX := by
  refine callF_def hP.df (by omega) rfl ?_
  simp only [KD.d_copied, x_ret]
  refine lc_mapS (α := List Rul) (β := List Rul) (wi_var rfl h fun r l hv hr ha hl => ?_)
  refine ⟨l, xs, id, H, ⟨_, ha⟩, hl, hm, ?_, fun s3 ws h1 h2 h3 => ⟨h1, rfl, ws, h2, by simpa using h3⟩⟩
  intro i w x s hv hx hk hlt hi
  refine ⟨_, rfl, ?_⟩
  refine lc_map (α := Rul) (β := Rul) (wi_var rfl hi fun r l hv hr ha hl => ?_)
  refine ⟨l, x, id, _, Old s, ⟨_, ha⟩, hl, old_no _, hm2 x (List.mem_of_getElem? hx), ?_, fun s3 h1 h2 => ⟨h1, by simpa using h2⟩⟩
  rintro j w y s2 hv hy hk2 hlt2 ⟨u, rfl, hu⟩
  (simp only [e_var, e_non, e_bl, e_int, e_str, e_bin, e_neg, e_cmp, e_tup, e_lst, e_bi, e_sub, e_attr, e_om, e_ife, sH_var, sH_int, sH_neg, sL_bin, s2_vb, l_nil, l_cons, wt_and, wt_or, wt_not, wt_cmp, wt_chn, t_bi, t_var, i_var, i_sub, i_attr, i_call, i_slc, wi_rng1, wi_rng2, c_lt, c_le, c_gt, c_ge, c_in, c_nin, wpx_ok, wpx_err, of_some, List.getElem?_cons_zero, List.getElem?_cons_succ, Option.bind_some, Option.map_some, id_eq, assign_nm, assign_tp, item_f, item_t, item_s, wipe, List.foldr_cons, List.foldr_nil, List.foldl_cons, List.foldl_nil, List.set_cons_zero, List.set_cons_succ, Option.some.injEq, exists_eq_left', x_skip, x_asg, x_asgA, x_asgS, x_drop, x_ret, x_retN, startE, List.map_cons, List.map_nil, List.length_cons, List.length_nil, List.replicate_succ, List.replicate_zero, List.cons_append, List.nil_append, Nat.sub_self, Nat.zero_add, Nat.reduceAdd, Nat.reduceSub, List.zip_cons_cons, List.zip_nil_left, if_true, Bool.false_eq_true, if_false, insAt_tup, insAt_str, insAt_int, opSub_tup, atI0, atI1, atI2, atI3, Val.int.injEq])
  refine list_w hu fun s' k1 h1 => ?_
  exact ⟨k1, _, rfl, isOldN h1 hlt2⟩

section
variable {ci : Cinfo} {H : Nat → Prop} {s : Store} {v : Val} {pl : List Str} {es : List (List Rul)} {Q : Val → Store → Prop} {X : Str → Val → Store → Prop} {C : Call}
theorem propT (hT : Tab P ci) (h : isTable H s v pl es) {f k : Str} (hf : ci.flds.contains f = false) (hk : ci.props.lookup f = some k) (hc : wpx (C k [v] s) Q NoX) : wpx (lookAttr P C v f s) Q X := by
  obtain ⟨r, a, b, rfl, hn, ha, h1, h2⟩ := h
  exact attr_prop hT ha hf hk hc
theorem ownT (hT : Tab P ci) (h : isTable H s v pl es) {m k : Str} (hk : ci.meths.lookup m = some k) (hm : ([("_plain", Val.non), ("_editions", Val.non)] : List (Str × Val)).lookup m = none) : ownAt P v m s = some k := by
  obtain ⟨r, a, b, rfl, hn, ha, h1, h2⟩ := h
  have e : ([("_plain", a), ("_editions", b)] : List (Str × Val)).lookup m = none := by
    simp only [List.lookup] at hm ⊢
    split at hm
    · cases hm
    · split at hm
      · cases hm
      · rfl
  simp only [ownAt, insAt_ins ha, e, ownKey, hT.cl, hk]
theorem insT (h : isTable H s v pl es) : ∃ p, insAt s v = some p := by
  obtain ⟨r, a, b, rfl, hn, ha, h1, h2⟩ := h
  exact ⟨_, insAt_ins ha⟩
theorem lenT (hT : Tab P ci) (M : TabM P) (h : isTable H s v pl es) (hl : es.length < 1000) {n : Nat} (hn : 1 ≤ n) (hq : Q (.int es.length) s) : wpx (opBiP P (callF P n) "len" [v] s) Q X := by
  obtain ⟨w, s', e, rfl, rfl⟩ := (len_w hT M h hn).ex
  obtain ⟨p, hp⟩ := insT h
  have e2 : callOwn P (callF P n) v "__len__" [] s' = .ok (.int es.length) s' := by
    simp only [callOwn, ownT hT h hT.len (by decide), e]
  simp only [opBiP, List.head?_cons, Option.bind_some, hp, e2, if_true, lenOk]
  rw [if_pos (by omega)]
  exact hq
theorem itemT (hT : Tab P ci) (h : isTable H s v pl es) {y : Val} (hc : wpx (C "Table.__getitem__" [v, y] s) Q X) : wpx (match insAt s v with
    | some _ => callOwn P C v "__getitem__" [y] s
    | none => Res.of (opSub s v y) s) Q X := by
  obtain ⟨p, hp⟩ := insT h
  rw [hp]
  simp only [callOwn, ownT hT h hT.item (by decide)]
  exact hc
theorem flat_len {α β : Type} {f : α → List β} {c : Nat} : ∀ {xs : List α}, (∀ x ∈ xs, (f x).length ≤ c) → (xs.flatMap f).length ≤ xs.length * c
  | [], _ => by simp
  | x :: xs, h => by
    have h1 := h x (by simp)
    have h2 := flat_len (xs := xs) fun y hy => h y (by simp [hy])
    simp only [List.flatMap_cons, List.length_append, List.length_cons]
    rw [Nat.add_mul]
    omega
theorem Plan.itm (p : Plan pl es) (c : Str) : ∀ i, ((es.take i).flatMap fun e => (e.filter fun x => x.nm == c).map itmOf).length < line - 1000 := by
  intro i
  have h1 := flat_len (f := fun e : List Rul => (e.filter fun x => x.nm == c).map itmOf) (c := 8) (xs := es.take i) fun e he => by
    rw [List.length_map]
    have h2 := List.length_filter_le (fun x : Rul => x.nm == c) e
    have := p.lt e (List.mem_of_mem_take he)
    have := p.ln
    omega
  have h2 : (es.take i).length ≤ es.length := by simp; omega
  have h3 := p.le
  unfold line
  omega

/-- what a table told -/
structure Told (L : Nat) (s : Store) (q : Nat) (pl : List Str) (es : List (List Rul)) (cs : List Str) (ds : List TS) (its : List (List Itm)) : Prop where
  ex : ∃ (a0 a2 a4 : Val) (ws1 ws5 : List Val) (L1 L2 L3 L4 L5 : Nat), s[q]? = some ⟨.lst [a0, .ref L1, a2, .int es.length, a4, .ref L4], false⟩ ∧ L ≤ L1 ∧ L1 < L2 ∧ L2 ≤ L3 ∧ L3 ≤ L4 ∧ L4 < L5 ∧ L5 ≤ q ∧ is (out L L1) s a0 pl ∧
    s[L1]? = some ⟨.lst ws1, false⟩ ∧ isSL s (L1 + 1) L2 ws1 es ∧ is (out L2 L3) s a2 cs ∧ is (out L3 L4) s a4 ds ∧ s[L4]? = some ⟨.lst ws5, false⟩ ∧ isSL s (L4 + 1) L5 ws5 its

theorem toOut {α : Type} [Rep α] {s s' : Store} {v : Val} {x : α} (h : is (Old s) s' v x) : is (out s.length s'.length) s' v x :=
  Rep.weak h fun r hr h => h.elim id fun h => by omega
theorem outK {α : Type} [Rep α] {a b : Nat} {s s' : Store} {v : Val} {x : α} (h : is (out a b) s v x) (k : Keep No s s') : is (out a b) s' v x :=
  Rep.frame h (k.weak fun _ _ h => h.elim)

theorem asked_w (hT : Tab P ci) (D : TabD P) (M : TabM P) (hA : Has P "_law_asked" KD.d_law_asked) (h : isTable H s v pl es) (p : Plan pl es) {u : Val} {H2 : Nat → Prop} (hu : is H2 s u ((es.headD []).map Rul.nm)) {n : Nat} (hn : 4 ≤ n) :
    wpx (callF P n "_law_asked" [v, u] s) (fun w s' => Keep No s s' ∧ ∃ q, w = .ref q ∧ Told s.length s' q pl es ((es.headD []).map Rul.nm) (deedsL pl ((es.headD []).map Rul.nm)) (((es.headD []).map Rul.nm).map (itemL es))) NoX := by
  have hO := p.okP
  have hlp := p.lp
  have hln := p.ln
  have hle := p.le
  refine callF_def hA.df (by omega) rfl ?_
  simp only [KD.d_law_asked]
  (simp only [e_var, e_non, e_bl, e_int, e_str, e_bin, e_neg, e_cmp, e_tup, e_lst, e_bi, e_sub, e_attr, e_om, e_ife, sH_var, sH_int, sH_neg, sL_bin, s2_vb, l_nil, l_cons, wt_and, wt_or, wt_not, wt_cmp, wt_chn, t_bi, t_var, i_var, i_sub, i_attr, i_call, i_slc, wi_rng1, wi_rng2, c_lt, c_le, c_gt, c_ge, c_in, c_nin, wpx_ok, wpx_err, of_some, List.getElem?_cons_zero, List.getElem?_cons_succ, Option.bind_some, Option.map_some, id_eq, assign_nm, assign_tp, item_f, item_t, item_s, wipe, List.foldr_cons, List.foldr_nil, List.foldl_cons, List.foldl_nil, List.set_cons_zero, List.set_cons_succ, Option.some.injEq, exists_eq_left', x_skip, x_asg, x_asgA, x_asgS, x_drop, x_ret, x_retN, startE, List.map_cons, List.map_nil, List.length_cons, List.length_nil, List.replicate_succ, List.replicate_zero, List.cons_append, List.nil_append, Nat.sub_self, Nat.zero_add, Nat.reduceAdd, Nat.reduceSub, List.zip_cons_cons, List.zip_nil_left, if_true, Bool.false_eq_true, if_false, insAt_tup, insAt_str, insAt_int, opSub_tup, atI0, atI1, atI2, atI3, Val.int.injEq])
  refine propT hT h (by rw [hT.flds]; decide) hT.plain ((plain_w hT M h (by omega)).to ?_)
  rintro a0 s1 ⟨k1, h1⟩
  have t1 := h.frame (k1.weak fun _ _ h => h.elim)
  refine propT hT t1 (by rw [hT.flds]; decide) hT.editions ?_
  refine callF_def M.editions (by omega) rfl ?_
  simp only [KD.d_Table_editions]
  (simp only [e_var, e_non, e_bl, e_int, e_str, e_bin, e_neg, e_cmp, e_tup, e_lst, e_bi, e_sub, e_attr, e_om, e_ife, sH_var, sH_int, sH_neg, sL_bin, s2_vb, l_nil, l_cons, wt_and, wt_or, wt_not, wt_cmp, wt_chn, t_bi, t_var, i_var, i_sub, i_attr, i_call, i_slc, wi_rng1, wi_rng2, c_lt, c_le, c_gt, c_ge, c_in, c_nin, wpx_ok, wpx_err, of_some, List.getElem?_cons_zero, List.getElem?_cons_succ, Option.bind_some, Option.map_some, id_eq, assign_nm, assign_tp, item_f, item_t, item_s, wipe, List.foldr_cons, List.foldr_nil, List.foldl_cons, List.foldl_nil, List.set_cons_zero, List.set_cons_succ, Option.some.injEq, exists_eq_left', x_skip, x_asg, x_asgA, x_asgS, x_drop, x_ret, x_retN, startE, List.map_cons, List.map_nil, List.length_cons, List.length_nil, List.replicate_succ, List.replicate_zero, List.cons_append, List.nil_append, Nat.sub_self, Nat.zero_add, Nat.reduceAdd, Nat.reduceSub, List.zip_cons_cons, List.zip_nil_left, if_true, Bool.false_eq_true, if_false, insAt_tup, insAt_str, insAt_int, opSub_tup, atI0, atI1, atI2, atI3, Val.int.injEq])
  rw [e_call D.copied]
  (simp only [e_var, e_non, e_bl, e_int, e_str, e_bin, e_neg, e_cmp, e_tup, e_lst, e_bi, e_sub, e_attr, e_om, e_ife, sH_var, sH_int, sH_neg, sL_bin, s2_vb, l_nil, l_cons, wt_and, wt_or, wt_not, wt_cmp, wt_chn, t_bi, t_var, i_var, i_sub, i_attr, i_call, i_slc, wi_rng1, wi_rng2, c_lt, c_le, c_gt, c_ge, c_in, c_nin, wpx_ok, wpx_err, of_some, List.getElem?_cons_zero, List.getElem?_cons_succ, Option.bind_some, Option.map_some, id_eq, assign_nm, assign_tp, item_f, item_t, item_s, wipe, List.foldr_cons, List.foldr_nil, List.foldl_cons, List.foldl_nil, List.set_cons_zero, List.set_cons_succ, Option.some.injEq, exists_eq_left', x_skip, x_asg, x_asgA, x_asgS, x_drop, x_ret, x_retN, startE, List.map_cons, List.map_nil, List.length_cons, List.length_nil, List.replicate_succ, List.replicate_zero, List.cons_append, List.nil_append, Nat.sub_self, Nat.zero_add, Nat.reduceAdd, Nat.reduceSub, List.zip_cons_cons, List.zip_nil_left, if_true, Bool.false_eq_true, if_false, insAt_tup, insAt_str, insAt_int, opSub_tup, atI0, atI1, atI2, atI3, Val.int.injEq])
  refine fld_editions hT t1 fun b hb => ?_
  refine (copiedS_w D.copied hb hO.n (fun x hx => Nat.le_trans (Nat.le_add_left _ _) (hO.les x hx)) (by omega)).to ?_
  rintro _ s2 ⟨k2, rfl, ws1, hc1, hS1⟩
  have t2 := t1.frame (k2.weak fun _ _ h => h.elim)
  refine propT hT t2 (by rw [hT.flds]; decide) hT.columns ((columnsP_w hT D M t2 hO p.ne (by omega)).to ?_)
  rintro a2 s3 ⟨k3, h3⟩
  have t3 := t2.frame (k3.weak fun _ _ h => h.elim)
  refine lenT hT M t3 (by omega) (by omega) ?_
  refine ⟨_, ownT hT t3 hT.deeds (by decide), ?_⟩
  refine (deeds_w hT D M t3 hO p.ne (by unfold line; omega) (by omega)).to ?_
  rintro a4 s4 ⟨k4, h4⟩
  have t4 := t3.frame (k4.weak fun _ _ h => h.elim)
  have k14 := ((k1.tr k2).tr k3).tr k4
  refine lc_mapS (α := Str) (β := List Itm) ?_
  (simp only [e_var, e_non, e_bl, e_int, e_str, e_bin, e_neg, e_cmp, e_tup, e_lst, e_bi, e_sub, e_attr, e_om, e_ife, sH_var, sH_int, sH_neg, sL_bin, s2_vb, l_nil, l_cons, wt_and, wt_or, wt_not, wt_cmp, wt_chn, t_bi, t_var, i_var, i_sub, i_attr, i_call, i_slc, wi_rng1, wi_rng2, c_lt, c_le, c_gt, c_ge, c_in, c_nin, wpx_ok, wpx_err, of_some, List.getElem?_cons_zero, List.getElem?_cons_succ, Option.bind_some, Option.map_some, id_eq, assign_nm, assign_tp, item_f, item_t, item_s, wipe, List.foldr_cons, List.foldr_nil, List.foldl_cons, List.foldl_nil, List.set_cons_zero, List.set_cons_succ, Option.some.injEq, exists_eq_left', x_skip, x_asg, x_asgA, x_asgS, x_drop, x_ret, x_retN, startE, List.map_cons, List.map_nil, List.length_cons, List.length_nil, List.replicate_succ, List.replicate_zero, List.cons_append, List.nil_append, Nat.sub_self, Nat.zero_add, Nat.reduceAdd, Nat.reduceSub, List.zip_cons_cons, List.zip_nil_left, if_true, Bool.false_eq_true, if_false, insAt_tup, insAt_str, insAt_int, opSub_tup, atI0, atI1, atI2, atI3, Val.int.injEq])
  refine w_iterK hu k14 fun r l hv hr hat hl => ?_
  refine ⟨l, _, itemL es, H2, ⟨_, k14.at_ hat id⟩, hl.flat, by simp [-List.headD_eq_head?_getD]; unfold line; omega, ?_, ?_⟩
  · rintro i w x s5 hw hx k5 hlt rfl
    have t5 := t4.frame (k5.weak fun _ _ h => h.elim)
    refine itemT hT t5 ?_
    have hxm : x ∈ (es.headD []).map Rul.nm := List.mem_of_getElem? hx
    have hcl : PyData.canLay0 (.str x) = true := low_laid (word_low (p.ts.word x (by simp only [List.mem_append]; exact .inr hxm)))
    refine (item_w hT D M t5 hO p.ne hcl (p.itm x) (fun e he => by have := p.lt e he; omega) (by omega)).mono ?_ ?_
    · rintro w s6 ⟨k6, h6, _⟩
      exact ⟨k6, h6⟩
    · rintro c w s6 ⟨_, _, _, hx'⟩
      exact hx' hxm
  · intro s5 ws5 k5 hc5 hS5
    have p6 := Keep.push ⟨.lst [a0, .ref s1.length, a2, .int es.length, a4, .ref s4.length], false⟩ No s5
    have k16 := k14.tr (k5.tr p6)
    have l1 := k1.le
    have l2 := lt_of_at hc1
    have l3 := k3.le
    have l4 := k4.le
    have l5 := lt_of_at hc5
    have k26 := (k3.tr k4).tr (k5.tr p6)
    have k46 := k5.tr p6
    refine ⟨k16, _, rfl, ⟨a0, a2, a4, ws1, ws5, s1.length, s2.length, s3.length, s4.length, s5.length, push_at _ _, l1, l2, l3, l4, l5, Nat.le_refl _, outK (toOut h1) (k2.tr k26), k26.at_ hc1 id, hS1.frame k26 fun _ _ _ h => h, outK (toOut h3) (k4.tr k46), outK (toOut h4) k46, p6.at_ hc5 id, hS5.frame p6 fun _ _ _ h => h⟩⟩
end
end AM
end

section
namespace AM
open Rep (is)
open PySem (Str PyData Operator CmpOp)
variable {P : Prog}

theorem x_tri {C : Call} {b h : S} {e : Env} {st : Store} {N : Env → Store → Prop} {R : Val → Store → Prop} {X : Str → Val → Env → Store → Prop} (hh : hsOk P h = true)
    (hb : wps (exec P C b e st) N R (fun c v e1 s1 => wps (exec P C h { e1 with x := some (c, v) } s1) N R X)) : wps (exec P C (.tri b h) e st) N R X := by
  simp only [exec, hh, Bool.true_eq_false, if_false]
  cases hr : exec P C b e st with
  | nx e s => rw [hr] at hb; exact hb
  | rt v s => rw [hr] at hb; exact hb
  | er c v e s => rw [hr] at hb; exact hb
  | stk => rw [hr] at hb; exact hb

section
variable {ci : Cinfo} {H : Nat → Prop} {s : Store} {v : Val} {pl : List Str} {es : List (List Rul)}
theorem refused_w (hT : Tab P ci) (D : TabD P) (M : TabM P) (hR : Has P "_law_refused" KD.d_law_refused) (h : isTable H s v pl es) (p : Plan pl es) {x : Str} (hx : x ∉ (es.headD []).map Rul.nm) (hc : PyData.canLay0 (.str x) = true) {n : Nat} (hn : 4 ≤ n) :
    wpx (callF P n "_law_refused" [v, .str x] s) (fun w s' => Keep No s s' ∧ w = .str x) NoX := by
  have hln := p.ln
  refine callF_def hR.df (by omega) rfl ?_
  simp only [KD.d_law_refused]
  rw [x_seq]
  (simp only [e_var, e_non, e_bl, e_int, e_str, e_bin, e_neg, e_cmp, e_tup, e_lst, e_bi, e_sub, e_attr, e_om, e_ife, sH_var, sH_int, sH_neg, sL_bin, s2_vb, l_nil, l_cons, wt_and, wt_or, wt_not, wt_cmp, wt_chn, t_bi, t_var, i_var, i_sub, i_attr, i_call, i_slc, wi_rng1, wi_rng2, c_lt, c_le, c_gt, c_ge, c_in, c_nin, wpx_ok, wpx_err, of_some, List.getElem?_cons_zero, List.getElem?_cons_succ, Option.bind_some, Option.map_some, id_eq, assign_nm, assign_tp, item_f, item_t, item_s, wipe, List.foldr_cons, List.foldr_nil, List.foldl_cons, List.foldl_nil, List.set_cons_zero, List.set_cons_succ, Option.some.injEq, exists_eq_left', x_skip, x_asg, x_asgA, x_asgS, x_drop, x_ret, x_retN, startE, List.map_cons, List.map_nil, List.length_cons, List.length_nil, List.replicate_succ, List.replicate_zero, List.cons_append, List.nil_append, Nat.sub_self, Nat.zero_add, Nat.reduceAdd, Nat.reduceSub, List.zip_cons_cons, List.zip_nil_left, if_true, Bool.false_eq_true, if_false, insAt_tup, insAt_str, insAt_int, opSub_tup, atI0, atI1, atI2, atI3, Val.int.injEq])
  rw [x_seq]
  refine x_tri (by simp only [hsOk, D.c.x3]; rfl) ?_
  (simp only [e_var, e_non, e_bl, e_int, e_str, e_bin, e_neg, e_cmp, e_tup, e_lst, e_bi, e_sub, e_attr, e_om, e_ife, sH_var, sH_int, sH_neg, sL_bin, s2_vb, l_nil, l_cons, wt_and, wt_or, wt_not, wt_cmp, wt_chn, t_bi, t_var, i_var, i_sub, i_attr, i_call, i_slc, wi_rng1, wi_rng2, c_lt, c_le, c_gt, c_ge, c_in, c_nin, wpx_ok, wpx_err, of_some, List.getElem?_cons_zero, List.getElem?_cons_succ, Option.bind_some, Option.map_some, id_eq, assign_nm, assign_tp, item_f, item_t, item_s, wipe, List.foldr_cons, List.foldr_nil, List.foldl_cons, List.foldl_nil, List.set_cons_zero, List.set_cons_succ, Option.some.injEq, exists_eq_left', x_skip, x_asg, x_asgA, x_asgS, x_drop, x_ret, x_retN, startE, List.map_cons, List.map_nil, List.length_cons, List.length_nil, List.replicate_succ, List.replicate_zero, List.cons_append, List.nil_append, Nat.sub_self, Nat.zero_add, Nat.reduceAdd, Nat.reduceSub, List.zip_cons_cons, List.zip_nil_left, if_true, Bool.false_eq_true, if_false, insAt_tup, insAt_str, insAt_int, opSub_tup, atI0, atI1, atI2, atI3, Val.int.injEq])
  refine itemT hT h ?_
  refine (item_w hT D M h p.okP p.ne hc (p.itm x) (fun e he => by have := p.lt e he; omega) (by omega)).mono ?_ ?_
  · rintro w s6 ⟨_, _, hm⟩
    exact absurd hm hx
  · rintro c w s6 ⟨k6, rfl, rfl, _⟩
    have e1 : hndOk (some 3) ({ s := [some v, some (.str x), some .non, none], x := some ("UnknownColumn", .str x) } : Env) = true := by simp [hndOk]
    simp only [exec, D.c.x3, e1, Bool.and_self, Bool.true_eq_false, if_false]
    rw [if_pos (by simp [isaP])]
    have e2 : ∀ e : Env, e.x = some (("UnknownColumn" : Str), Val.str x) → ev P (callF P (n - 1)) .exv e s6 = .ok (.str x) s6 := fun e h => by simp only [ev, h]
    rw [e2 _ rfl]
    exact ⟨k6, rfl⟩

/-- the inner walk over rules: 'x' behind each one's sources -/
theorem spoil_rules {n : Nat} {e a z : Nat} {l : List Val} {xs : List Rul} (hle : s[e]? = some ⟨.lst l, false⟩) (hl : isL (out a z) s l xs) (hae : a ≤ e ∧ e < z) (hne : xs.length ≤ 8) (hsl : ∀ x ∈ xs, x.src.length ≤ 14) (b1 b2 : Option Val)
    {N : Env → Store → Prop} {R : Val → Store → Prop} {X : Str → Val → Env → Store → Prop}
    (hq : ∀ b2 s', Keep (fun r => a ≤ r ∧ r < z ∧ r ≠ e) s s' → N { s := [b1, some (.ref e), b2] } s') :
    wps (goes (.live e false) (.nm 2) (exec P (callF P n) (S.drop (E.bm (E.sub (E.var 2) (E.int 2)) "append" (E.cons (E.str "x") E.nil)))) ((Iter.live e false).fuel s) 0 { s := [b1, some (.ref e), b2] } s) N R X := by
  -- the sources' cells
  have hsrc : ∀ (j : Nat) (w : Val), l[j]? = some w → ∃ (c1 c2 c4 : Str) (q : Nat) (ys : List Str), w = Val.tup [.str c1, .str c2, .ref q, .str c4] ∧ s[q]? = some ⟨.lst (ys.map .str), false⟩ ∧ ys.length ≤ 14 ∧ a ≤ q ∧ q < z ∧ q ≠ e := by
    intro j w hw
    obtain ⟨x, hx, u, rfl, hu⟩ := hl.get hw
    obtain ⟨q, rfl, hnq, hcq⟩ := is_strs.1 hu
    refine ⟨_, _, _, q, x.src, rfl, hcq, hsl x (List.mem_of_getElem? hx), ?_, ?_, ?_⟩
    · exact Nat.not_lt.1 fun h => hnq (.inl h)
    · exact Nat.not_le.1 fun h => hnq (.inr h)
    · rintro rfl
      rw [hcq] at hle
      cases hle
      have := List.mem_of_getElem? hw
      simp at this
  have hll := hl.len
  refine goes_rule (l := l) (fun i e' s' => Keep (fun r => a ≤ r ∧ r < z ∧ r ≠ e) s s' ∧ (∃ b2, e' = { s := [b1, some (.ref e), b2] }) ∧ ∀ (j : Nat) (w : Val), l[j]? = some w → ∃ (c1 c2 c4 : Str) (q : Nat) (l' : List Val), w = Val.tup [.str c1, .str c2, .ref q, .str c4] ∧ s'[q]? = some ⟨.lst l', false⟩ ∧ l'.length ≤ 14 + i ∧ a ≤ q ∧ q < z ∧ q ≠ e) ⟨Keep.refl _ _, ⟨_, rfl⟩, fun j w hw => by
      obtain ⟨c1, c2, c4, q, ys, h1, h2, h3, h4⟩ := hsrc j w hw
      exact ⟨c1, c2, c4, q, _, h1, h2, by simpa using h3, h4⟩⟩ (fun i e' s' h => ⟨_, h.1.at_ hle (by omega)⟩) ?_ ?_
  · rintro i w e' s' hw ⟨k, ⟨b2, rfl⟩, hs⟩
    obtain ⟨c1, c2, c4, q, l', rfl, hcq, hlq, hq1, hq2, hq3⟩ := hs i w hw
    have hi := getElem?_some_lt hw
    refine ⟨_, rfl, ?_⟩
    simp only [x_drop, e_bm]
    (simp only [e_var, e_non, e_bl, e_int, e_str, e_bin, e_neg, e_cmp, e_tup, e_lst, e_bi, e_sub, e_attr, e_om, e_ife, sH_var, sH_int, sH_neg, sL_bin, s2_vb, l_nil, l_cons, wt_and, wt_or, wt_not, wt_cmp, wt_chn, t_bi, t_var, i_var, i_sub, i_attr, i_call, i_slc, wi_rng1, wi_rng2, c_lt, c_le, c_gt, c_ge, c_in, c_nin, wpx_ok, wpx_err, of_some, List.getElem?_cons_zero, List.getElem?_cons_succ, Option.bind_some, Option.map_some, id_eq, assign_nm, assign_tp, item_f, item_t, item_s, wipe, List.foldr_cons, List.foldr_nil, List.foldl_cons, List.foldl_nil, List.set_cons_zero, List.set_cons_succ, Option.some.injEq, exists_eq_left', x_skip, x_asg, x_asgA, x_asgS, x_drop, x_ret, x_retN, startE, List.map_cons, List.map_nil, List.length_cons, List.length_nil, List.replicate_succ, List.replicate_zero, List.cons_append, List.nil_append, Nat.sub_self, Nat.zero_add, Nat.reduceAdd, Nat.reduceSub, List.zip_cons_cons, List.zip_nil_left, if_true, Bool.false_eq_true, if_false, insAt_tup, insAt_str, insAt_int, opSub_tup, atI0, atI1, atI2, atI3, Val.int.injEq])
    refine ⟨wbmOk_lst hcq (by decide), ?_⟩
    rw [bm_append hcq (by unfold line; omega)]
    simp only [wpx_ok]
    refine ⟨k.tr (Keep.set _ _ _ _ fun _ => ⟨hq1, hq2, hq3⟩), ⟨_, rfl⟩, ?_⟩
    intro j w hw
    obtain ⟨d1, d2, d4, q2, l2, rfl, hc2, hl2, h3⟩ := hs j w hw
    by_cases hqq : q2 = q
    · subst hqq
      rw [hcq] at hc2
      cases hc2
      exact ⟨d1, d2, d4, q2, _, rfl, set_at (lt_of_at hcq), by simp; omega, h3⟩
    · exact ⟨d1, d2, d4, q2, l2, rfl, by rw [List.getElem?_set_ne (fun h => hqq h.symm)]; exact hc2, by omega, h3⟩
  · rintro e' s' ⟨k, ⟨b2, rfl⟩, _⟩
    exact hq b2 s' k

/-- the inner walk over items: 'x' ahead of each one's sources -/
theorem spoil_items {n : Nat} {e a z : Nat} {l : List Val} {xs : List Itm} (hle : s[e]? = some ⟨.lst l, false⟩) (hl : isL (out a z) s l xs) (hae : a ≤ e ∧ e < z) (hne : xs.length ≤ 1000) (hsl : ∀ x ∈ xs, x.src.length ≤ 14) (b1 b2 : Option Val)
    {N : Env → Store → Prop} {R : Val → Store → Prop} {X : Str → Val → Env → Store → Prop}
    (hq : ∀ b2 s', Keep (fun r => a ≤ r ∧ r < z ∧ r ≠ e) s s' → N { s := [b1, some (.ref e), b2] } s') :
    wps (goes (.live e false) (.nm 2) (exec P (callF P n) (S.drop (E.bm (E.sub (E.var 2) (E.int 1)) "insert" (E.cons (E.int 0) (E.cons (E.str "x") E.nil))))) ((Iter.live e false).fuel s) 0 { s := [b1, some (.ref e), b2] } s) N R X := by
  have hsrc : ∀ (j : Nat) (w : Val), l[j]? = some w → ∃ (c2 c4 : Str) (q : Nat) (ys : List Str), w = Val.tup [.str c2, .ref q, .str c4] ∧ s[q]? = some ⟨.lst (ys.map .str), false⟩ ∧ ys.length ≤ 14 ∧ a ≤ q ∧ q < z ∧ q ≠ e := by
    intro j w hw
    obtain ⟨x, hx, u, rfl, hu⟩ := hl.get hw
    obtain ⟨q, rfl, hnq, hcq⟩ := is_strs.1 hu
    refine ⟨_, _, q, x.src, rfl, hcq, hsl x (List.mem_of_getElem? hx), ?_, ?_, ?_⟩
    · exact Nat.not_lt.1 fun h => hnq (.inl h)
    · exact Nat.not_le.1 fun h => hnq (.inr h)
    · rintro rfl
      rw [hcq] at hle
      cases hle
      have := List.mem_of_getElem? hw
      simp at this
  have hll := hl.len
  refine goes_rule (l := l) (fun i e' s' => Keep (fun r => a ≤ r ∧ r < z ∧ r ≠ e) s s' ∧ (∃ b2, e' = { s := [b1, some (.ref e), b2] }) ∧ ∀ (j : Nat) (w : Val), l[j]? = some w → ∃ (c2 c4 : Str) (q : Nat) (l' : List Val), w = Val.tup [.str c2, .ref q, .str c4] ∧ s'[q]? = some ⟨.lst l', false⟩ ∧ l'.length ≤ 14 + i ∧ a ≤ q ∧ q < z ∧ q ≠ e) ⟨Keep.refl _ _, ⟨_, rfl⟩, fun j w hw => by
      obtain ⟨c2, c4, q, ys, h1, h2, h3, h4⟩ := hsrc j w hw
      exact ⟨c2, c4, q, _, h1, h2, by simpa using h3, h4⟩⟩ (fun i e' s' h => ⟨_, h.1.at_ hle (by omega)⟩) ?_ ?_
  · rintro i w e' s' hw ⟨k, ⟨b2, rfl⟩, hs⟩
    obtain ⟨c2, c4, q, l', rfl, hcq, hlq, hq1, hq2, hq3⟩ := hs i w hw
    have hi := getElem?_some_lt hw
    refine ⟨_, rfl, ?_⟩
    simp only [x_drop, e_bm]
    (simp only [e_var, e_non, e_bl, e_int, e_str, e_bin, e_neg, e_cmp, e_tup, e_lst, e_bi, e_sub, e_attr, e_om, e_ife, sH_var, sH_int, sH_neg, sL_bin, s2_vb, l_nil, l_cons, wt_and, wt_or, wt_not, wt_cmp, wt_chn, t_bi, t_var, i_var, i_sub, i_attr, i_call, i_slc, wi_rng1, wi_rng2, c_lt, c_le, c_gt, c_ge, c_in, c_nin, wpx_ok, wpx_err, of_some, List.getElem?_cons_zero, List.getElem?_cons_succ, Option.bind_some, Option.map_some, id_eq, assign_nm, assign_tp, item_f, item_t, item_s, wipe, List.foldr_cons, List.foldr_nil, List.foldl_cons, List.foldl_nil, List.set_cons_zero, List.set_cons_succ, Option.some.injEq, exists_eq_left', x_skip, x_asg, x_asgA, x_asgS, x_drop, x_ret, x_retN, startE, List.map_cons, List.map_nil, List.length_cons, List.length_nil, List.replicate_succ, List.replicate_zero, List.cons_append, List.nil_append, Nat.sub_self, Nat.zero_add, Nat.reduceAdd, Nat.reduceSub, List.zip_cons_cons, List.zip_nil_left, if_true, Bool.false_eq_true, if_false, insAt_tup, insAt_str, insAt_int, opSub_tup, atI0, atI1, atI2, atI3, Val.int.injEq])
    refine ⟨wbmOk_lst hcq (by decide), ?_⟩
    rw [bm_insert0 hcq (by unfold line; omega)]
    simp only [wpx_ok]
    refine ⟨k.tr (Keep.set _ _ _ _ fun _ => ⟨hq1, hq2, hq3⟩), ⟨_, rfl⟩, ?_⟩
    intro j w hw
    obtain ⟨d2, d4, q2, l2, rfl, hc2, hl2, h3⟩ := hs j w hw
    by_cases hqq : q2 = q
    · subst hqq
      rw [hcq] at hc2
      cases hc2
      exact ⟨d2, d4, q2, _, rfl, set_at (lt_of_at hcq), by simp; omega, h3⟩
    · exact ⟨d2, d4, q2, l2, rfl, by rw [List.getElem?_set_ne (fun h => hqq h.symm)]; exact hc2, by omega, h3⟩
  · rintro e' s' ⟨k, ⟨b2, rfl⟩, _⟩
    exact hq b2 s' k

theorem spoilt_w (hS : Has P "_law_items_spoilt" KD.d_law_items_spoilt) {L q : Nat} {cs : List Str} {ds : List TS} {its : List (List Itm)} (hT : Told L s q pl es cs ds its) (hes : es ≠ []) (hes8 : es.length ≤ 8) (he8 : ∀ e ∈ es, e.length ≤ 8) (hsl : ∀ e ∈ es, ∀ x ∈ e, x.src.length ≤ 14) (hpl : pl.length ≤ 100) (hcs : cs.length ≤ 100)
    (hi0 : ∀ y ∈ its, y ≠ []) (hi1 : ∀ y ∈ its, y.length ≤ 1000) (hi2 : ∀ y ∈ its, ∀ x ∈ y, x.src.length ≤ 14) {n : Nat} (hn : 1 ≤ n) :
    wpx (callF P n "_law_items_spoilt" [.ref q] s) (fun w s' => Keep (fun r => L ≤ r) s s') NoX := by
  obtain ⟨a0, a2, a4, ws1, ws5, L1, L2, L3, L4, L5, hq, l1, l2, l3, l4, l5, l6, h0, c1, S1, h2, h4, c5, S5⟩ := hT.ex
  refine callF_def hS.df (by omega) rfl ?_
  simp only [KD.d_law_items_spoilt]
  rw [x_seq, x_for]
  (simp only [e_var, e_non, e_bl, e_int, e_str, e_bin, e_neg, e_cmp, e_tup, e_lst, e_bi, e_sub, e_attr, e_om, e_ife, sH_var, sH_int, sH_neg, sL_bin, s2_vb, l_nil, l_cons, wt_and, wt_or, wt_not, wt_cmp, wt_chn, t_bi, t_var, i_var, i_sub, i_attr, i_call, i_slc, wi_rng1, wi_rng2, c_lt, c_le, c_gt, c_ge, c_in, c_nin, wpx_ok, wpx_err, of_some, List.getElem?_cons_zero, List.getElem?_cons_succ, Option.bind_some, Option.map_some, id_eq, assign_nm, assign_tp, item_f, item_t, item_s, wipe, List.foldr_cons, List.foldr_nil, List.foldl_cons, List.foldl_nil, List.set_cons_zero, List.set_cons_succ, Option.some.injEq, exists_eq_left', x_skip, x_asg, x_asgA, x_asgS, x_drop, x_ret, x_retN, startE, List.map_cons, List.map_nil, List.length_cons, List.length_nil, List.replicate_succ, List.replicate_zero, List.cons_append, List.nil_append, Nat.sub_self, Nat.zero_add, Nat.reduceAdd, Nat.reduceSub, List.zip_cons_cons, List.zip_nil_left, if_true, Bool.false_eq_true, if_false, insAt_tup, insAt_str, insAt_int, opSub_tup, atI0, atI1, atI2, atI3, Val.int.injEq])
  rw [insAt_lst hq]
  dsimp only
  rw [opSub_lst hq, atI1]
  simp only [of_some, wpx_ok, iterV, c1]
  obtain ⟨b, b0, bm, bz, bi, bb⟩ := S1.ix
  have hl1 := S1.toL.len
  refine goes_rule (l := ws1) (fun i e s' => Keep (fun r => L1 + 1 ≤ r ∧ r < b i) s s' ∧ ∃ x1 x2, e = { s := [some (.ref q), x1, x2] }) ⟨Keep.refl _ _, _, _, rfl⟩ (fun i e s' h => ⟨_, h.1.at_ c1 (by omega)⟩) ?_ ?_
  · rintro i w e s' hw ⟨k, x1, x2, rfl⟩
    have hi := getElem?_some_lt hw
    rw [hl1] at hi
    have hx : es[i]? = some es[i] := by simp [hi]
    have hwx := Rep.frame (H := out (b i) (b (i + 1))) (bi i w es[i] hw hx) (k.weak fun r _ h => .inl h.2)
    obtain ⟨r, l, rfl, hr, hat, hl⟩ := hwx
    have hr1 : b i ≤ r := Nat.not_lt.1 fun h => hr (.inl h)
    have hr2 : r < b (i + 1) := Nat.not_le.1 fun h => hr (.inr h)
    have hbi := (bb i (by omega)).2
    have hbm := bm i hi
    refine ⟨_, rfl, ?_⟩
    rw [x_seq, x_for]
    (simp only [e_var, e_non, e_bl, e_int, e_str, e_bin, e_neg, e_cmp, e_tup, e_lst, e_bi, e_sub, e_attr, e_om, e_ife, sH_var, sH_int, sH_neg, sL_bin, s2_vb, l_nil, l_cons, wt_and, wt_or, wt_not, wt_cmp, wt_chn, t_bi, t_var, i_var, i_sub, i_attr, i_call, i_slc, wi_rng1, wi_rng2, c_lt, c_le, c_gt, c_ge, c_in, c_nin, wpx_ok, wpx_err, of_some, List.getElem?_cons_zero, List.getElem?_cons_succ, Option.bind_some, Option.map_some, id_eq, assign_nm, assign_tp, item_f, item_t, item_s, wipe, List.foldr_cons, List.foldr_nil, List.foldl_cons, List.foldl_nil, List.set_cons_zero, List.set_cons_succ, Option.some.injEq, exists_eq_left', x_skip, x_asg, x_asgA, x_asgS, x_drop, x_ret, x_retN, startE, List.map_cons, List.map_nil, List.length_cons, List.length_nil, List.replicate_succ, List.replicate_zero, List.cons_append, List.nil_append, Nat.sub_self, Nat.zero_add, Nat.reduceAdd, Nat.reduceSub, List.zip_cons_cons, List.zip_nil_left, if_true, Bool.false_eq_true, if_false, insAt_tup, insAt_str, insAt_int, opSub_tup, atI0, atI1, atI2, atI3, Val.int.injEq])
    simp only [iterV, hat, of_some, wpx_ok]
    refine spoil_rules hat hl ⟨hr1, hr2⟩ (he8 _ (List.getElem_mem _)) (hsl _ (List.getElem_mem _)) _ _ fun x3 s2 k2 => ?_
    simp only [x_drop, e_bm]
    (simp only [e_var, e_non, e_bl, e_int, e_str, e_bin, e_neg, e_cmp, e_tup, e_lst, e_bi, e_sub, e_attr, e_om, e_ife, sH_var, sH_int, sH_neg, sL_bin, s2_vb, l_nil, l_cons, wt_and, wt_or, wt_not, wt_cmp, wt_chn, t_bi, t_var, i_var, i_sub, i_attr, i_call, i_slc, wi_rng1, wi_rng2, c_lt, c_le, c_gt, c_ge, c_in, c_nin, wpx_ok, wpx_err, of_some, List.getElem?_cons_zero, List.getElem?_cons_succ, Option.bind_some, Option.map_some, id_eq, assign_nm, assign_tp, item_f, item_t, item_s, wipe, List.foldr_cons, List.foldr_nil, List.foldl_cons, List.foldl_nil, List.set_cons_zero, List.set_cons_succ, Option.some.injEq, exists_eq_left', x_skip, x_asg, x_asgA, x_asgS, x_drop, x_ret, x_retN, startE, List.map_cons, List.map_nil, List.length_cons, List.length_nil, List.replicate_succ, List.replicate_zero, List.cons_append, List.nil_append, Nat.sub_self, Nat.zero_add, Nat.reduceAdd, Nat.reduceSub, List.zip_cons_cons, List.zip_nil_left, if_true, Bool.false_eq_true, if_false, insAt_tup, insAt_str, insAt_int, opSub_tup, atI0, atI1, atI2, atI3, Val.int.injEq])
    have hat2 := k2.at_ hat (by omega)
    have hll := hl.len
    have := he8 _ (List.getElem_mem hi)
    refine ⟨wbmOk_lst hat2 (by decide), ?_⟩
    rw [bm_append hat2 (by unfold line; omega)]
    refine ⟨((k.weak fun r _ h => ⟨h.1, by omega⟩).trans k2 fun r _ h => ⟨by omega, h.2.1⟩).tr (Keep.set _ _ _ _ fun _ => ⟨by omega, hr2⟩), _, _, rfl⟩
  rintro e s1 ⟨k1, x1, x2, rfl⟩
  rw [hl1] at k1
  have k1' : Keep (fun r => L1 + 1 ≤ r ∧ r < L2) s s1 := k1.weak fun r _ h => ⟨h.1, by omega⟩
  rw [x_seq, x_for]
  (simp only [e_var, e_non, e_bl, e_int, e_str, e_bin, e_neg, e_cmp, e_tup, e_lst, e_bi, e_sub, e_attr, e_om, e_ife, sH_var, sH_int, sH_neg, sL_bin, s2_vb, l_nil, l_cons, wt_and, wt_or, wt_not, wt_cmp, wt_chn, t_bi, t_var, i_var, i_sub, i_attr, i_call, i_slc, wi_rng1, wi_rng2, c_lt, c_le, c_gt, c_ge, c_in, c_nin, wpx_ok, wpx_err, of_some, List.getElem?_cons_zero, List.getElem?_cons_succ, Option.bind_some, Option.map_some, id_eq, assign_nm, assign_tp, item_f, item_t, item_s, wipe, List.foldr_cons, List.foldr_nil, List.foldl_cons, List.foldl_nil, List.set_cons_zero, List.set_cons_succ, Option.some.injEq, exists_eq_left', x_skip, x_asg, x_asgA, x_asgS, x_drop, x_ret, x_retN, startE, List.map_cons, List.map_nil, List.length_cons, List.length_nil, List.replicate_succ, List.replicate_zero, List.cons_append, List.nil_append, Nat.sub_self, Nat.zero_add, Nat.reduceAdd, Nat.reduceSub, List.zip_cons_cons, List.zip_nil_left, if_true, Bool.false_eq_true, if_false, insAt_tup, insAt_str, insAt_int, opSub_tup, atI0, atI1, atI2, atI3, Val.int.injEq])
  have hq1 := k1'.at_ hq (by omega)
  have c51 := k1'.at_ c5 (by omega)
  have S51 := S5.frame k1' fun r h5 h6 h => by omega
  rw [insAt_lst hq1]
  dsimp only
  rw [opSub_lst hq1, show _root_.L2.atI [a0, Val.ref L1, a2, Val.int es.length, a4, Val.ref L4] 5 = some (.ref L4) from atI_k (k := 5) rfl]
  simp only [of_some, wpx_ok, iterV, c51]
  obtain ⟨b, b0, bm, bz, bi, bb⟩ := S51.ix
  have hl5 := S51.toL.len
  refine goes_rule (l := ws5) (fun i e s' => Keep (fun r => L4 + 1 ≤ r ∧ r < b i) s1 s' ∧ ∃ x1 x2, e = { s := [some (.ref q), x1, x2] }) ⟨Keep.refl _ _, _, _, rfl⟩ (fun i e s' h => ⟨_, h.1.at_ c51 (by omega)⟩) ?_ ?_
  · rintro i w e s' hw ⟨k, x1, x2, rfl⟩
    have hi := getElem?_some_lt hw
    rw [hl5] at hi
    have hx : its[i]? = some its[i] := by simp [hi]
    have hwx := Rep.frame (H := out (b i) (b (i + 1))) (bi i w its[i] hw hx) (k.weak fun r _ h => .inl h.2)
    obtain ⟨r, l, rfl, hr, hat, hl⟩ := hwx
    have hr1 : b i ≤ r := Nat.not_lt.1 fun h => hr (.inl h)
    have hr2 : r < b (i + 1) := Nat.not_le.1 fun h => hr (.inr h)
    have hbi := (bb i (by omega)).2
    have hbm := bm i hi
    refine ⟨_, rfl, ?_⟩
    rw [x_seq, x_for]
    (simp only [e_var, e_non, e_bl, e_int, e_str, e_bin, e_neg, e_cmp, e_tup, e_lst, e_bi, e_sub, e_attr, e_om, e_ife, sH_var, sH_int, sH_neg, sL_bin, s2_vb, l_nil, l_cons, wt_and, wt_or, wt_not, wt_cmp, wt_chn, t_bi, t_var, i_var, i_sub, i_attr, i_call, i_slc, wi_rng1, wi_rng2, c_lt, c_le, c_gt, c_ge, c_in, c_nin, wpx_ok, wpx_err, of_some, List.getElem?_cons_zero, List.getElem?_cons_succ, Option.bind_some, Option.map_some, id_eq, assign_nm, assign_tp, item_f, item_t, item_s, wipe, List.foldr_cons, List.foldr_nil, List.foldl_cons, List.foldl_nil, List.set_cons_zero, List.set_cons_succ, Option.some.injEq, exists_eq_left', x_skip, x_asg, x_asgA, x_asgS, x_drop, x_ret, x_retN, startE, List.map_cons, List.map_nil, List.length_cons, List.length_nil, List.replicate_succ, List.replicate_zero, List.cons_append, List.nil_append, Nat.sub_self, Nat.zero_add, Nat.reduceAdd, Nat.reduceSub, List.zip_cons_cons, List.zip_nil_left, if_true, Bool.false_eq_true, if_false, insAt_tup, insAt_str, insAt_int, opSub_tup, atI0, atI1, atI2, atI3, Val.int.injEq])
    simp only [iterV, hat, of_some, wpx_ok]
    refine spoil_items hat hl ⟨hr1, hr2⟩ (hi1 _ (List.getElem_mem _)) (hi2 _ (List.getElem_mem _)) _ _ fun x3 s2 k2 => ?_
    simp only [x_drop, e_bm]
    (simp only [e_var, e_non, e_bl, e_int, e_str, e_bin, e_neg, e_cmp, e_tup, e_lst, e_bi, e_sub, e_attr, e_om, e_ife, sH_var, sH_int, sH_neg, sL_bin, s2_vb, l_nil, l_cons, wt_and, wt_or, wt_not, wt_cmp, wt_chn, t_bi, t_var, i_var, i_sub, i_attr, i_call, i_slc, wi_rng1, wi_rng2, c_lt, c_le, c_gt, c_ge, c_in, c_nin, wpx_ok, wpx_err, of_some, List.getElem?_cons_zero, List.getElem?_cons_succ, Option.bind_some, Option.map_some, id_eq, assign_nm, assign_tp, item_f, item_t, item_s, wipe, List.foldr_cons, List.foldr_nil, List.foldl_cons, List.foldl_nil, List.set_cons_zero, List.set_cons_succ, Option.some.injEq, exists_eq_left', x_skip, x_asg, x_asgA, x_asgS, x_drop, x_ret, x_retN, startE, List.map_cons, List.map_nil, List.length_cons, List.length_nil, List.replicate_succ, List.replicate_zero, List.cons_append, List.nil_append, Nat.sub_self, Nat.zero_add, Nat.reduceAdd, Nat.reduceSub, List.zip_cons_cons, List.zip_nil_left, if_true, Bool.false_eq_true, if_false, insAt_tup, insAt_str, insAt_int, opSub_tup, atI0, atI1, atI2, atI3, Val.int.injEq])
    have hat2 := k2.at_ hat (by omega)
    have hll := hl.len
    have hpos : 0 < its[i].length := List.length_pos_iff.2 (hi0 _ (List.getElem_mem _))
    obtain ⟨u, hu⟩ : ∃ u, l[l.length - 1]? = some u := ⟨l[l.length - 1], by simp <;> omega⟩
    refine ⟨wbmOk_lst hat2 (by decide), ?_⟩
    rw [bm_pop hat2 hu]
    refine ⟨((k.weak fun r _ h => ⟨h.1, by omega⟩).trans k2 fun r _ h => ⟨by omega, h.2.1⟩).tr (Keep.set _ _ _ _ fun _ => ⟨by omega, hr2⟩), _, _, rfl⟩
  rintro e s2 ⟨k2, x3, x4, rfl⟩
  rw [hl5] at k2
  have k2' : Keep (fun r => L4 + 1 ≤ r ∧ r < L5) s1 s2 := k2.weak fun r _ h => ⟨h.1, by omega⟩
  have k02 : Keep (fun r => L1 + 1 ≤ r ∧ r < L2 ∨ L4 + 1 ≤ r ∧ r < L5) s s2 := (k1'.weak fun r _ h => .inl h).trans k2' fun r _ h => .inr h
  have hq2 := k02.at_ hq (by omega)
  have c12 := k02.at_ c1 (by omega)
  obtain ⟨r0, rfl, hr0, hc0⟩ := is_strs.1 h0
  obtain ⟨r2, rfl, hr2, hc2⟩ := is_strs.1 h2
  obtain ⟨r4, l4', rfl, hr4, hc4, _⟩ := h4
  have r0a : L ≤ r0 := Nat.not_lt.1 fun h => hr0 (.inl h)
  have r0b : r0 < L1 := Nat.not_le.1 fun h => hr0 (.inr h)
  have r2a : L2 ≤ r2 := Nat.not_lt.1 fun h => hr2 (.inl h)
  have r2b : r2 < L3 := Nat.not_le.1 fun h => hr2 (.inr h)
  have r4a : L3 ≤ r4 := Nat.not_lt.1 fun h => hr4 (.inl h)
  have r4b : r4 < L4 := Nat.not_le.1 fun h => hr4 (.inr h)
  have hc02 := k02.at_ hc0 (by omega)
  have hc22 := k02.at_ hc2 (by omega)
  have hc42 := k02.at_ hc4 (by omega)
  -- told[0].append
  rw [x_seq, x_drop, e_bm]
  (simp only [e_var, e_non, e_bl, e_int, e_str, e_bin, e_neg, e_cmp, e_tup, e_lst, e_bi, e_sub, e_attr, e_om, e_ife, sH_var, sH_int, sH_neg, sL_bin, s2_vb, l_nil, l_cons, wt_and, wt_or, wt_not, wt_cmp, wt_chn, t_bi, t_var, i_var, i_sub, i_attr, i_call, i_slc, wi_rng1, wi_rng2, c_lt, c_le, c_gt, c_ge, c_in, c_nin, wpx_ok, wpx_err, of_some, List.getElem?_cons_zero, List.getElem?_cons_succ, Option.bind_some, Option.map_some, id_eq, assign_nm, assign_tp, item_f, item_t, item_s, wipe, List.foldr_cons, List.foldr_nil, List.foldl_cons, List.foldl_nil, List.set_cons_zero, List.set_cons_succ, Option.some.injEq, exists_eq_left', x_skip, x_asg, x_asgA, x_asgS, x_drop, x_ret, x_retN, startE, List.map_cons, List.map_nil, List.length_cons, List.length_nil, List.replicate_succ, List.replicate_zero, List.cons_append, List.nil_append, Nat.sub_self, Nat.zero_add, Nat.reduceAdd, Nat.reduceSub, List.zip_cons_cons, List.zip_nil_left, if_true, Bool.false_eq_true, if_false, insAt_tup, insAt_str, insAt_int, opSub_tup, atI0, atI1, atI2, atI3, Val.int.injEq])
  rw [insAt_lst hq2]
  dsimp only
  rw [opSub_lst hq2, atI0]
  simp only [of_some, wpx_ok]
  refine ⟨wbmOk_lst hc02 (by decide), ?_⟩
  rw [bm_append hc02 (by simp; unfold line; omega)]
  simp only [wpx_ok]
  have k3 := Keep.set r0 ⟨.lst (pl.map .str ++ [.str "x"]), false⟩ (fun r => r = r0) s2 fun _ => rfl
  generalize s2.set r0 ⟨.lst (pl.map .str ++ [.str "x"]), false⟩ = s3 at k3 ⊢
  have hq3 := k3.at_ hq2 (by omega)
  have c13 := k3.at_ c12 (by omega)
  have hc23 := k3.at_ hc22 (by omega)
  have hc43 := k3.at_ hc42 (by omega)
  -- told[1].pop
  rw [x_seq, x_drop, e_bm]
  (simp only [e_var, e_non, e_bl, e_int, e_str, e_bin, e_neg, e_cmp, e_tup, e_lst, e_bi, e_sub, e_attr, e_om, e_ife, sH_var, sH_int, sH_neg, sL_bin, s2_vb, l_nil, l_cons, wt_and, wt_or, wt_not, wt_cmp, wt_chn, t_bi, t_var, i_var, i_sub, i_attr, i_call, i_slc, wi_rng1, wi_rng2, c_lt, c_le, c_gt, c_ge, c_in, c_nin, wpx_ok, wpx_err, of_some, List.getElem?_cons_zero, List.getElem?_cons_succ, Option.bind_some, Option.map_some, id_eq, assign_nm, assign_tp, item_f, item_t, item_s, wipe, List.foldr_cons, List.foldr_nil, List.foldl_cons, List.foldl_nil, List.set_cons_zero, List.set_cons_succ, Option.some.injEq, exists_eq_left', x_skip, x_asg, x_asgA, x_asgS, x_drop, x_ret, x_retN, startE, List.map_cons, List.map_nil, List.length_cons, List.length_nil, List.replicate_succ, List.replicate_zero, List.cons_append, List.nil_append, Nat.sub_self, Nat.zero_add, Nat.reduceAdd, Nat.reduceSub, List.zip_cons_cons, List.zip_nil_left, if_true, Bool.false_eq_true, if_false, insAt_tup, insAt_str, insAt_int, opSub_tup, atI0, atI1, atI2, atI3, Val.int.injEq])
  rw [insAt_lst hq3]
  dsimp only
  rw [opSub_lst hq3, atI1]
  simp only [of_some, wpx_ok]
  have hpos : 0 < es.length := List.length_pos_iff.2 hes
  obtain ⟨u, hu⟩ : ∃ u, ws1[ws1.length - 1]? = some u := ⟨ws1[ws1.length - 1], by simp <;> omega⟩
  refine ⟨wbmOk_lst c13 (by decide), ?_⟩
  rw [bm_pop c13 hu]
  simp only [wpx_ok]
  have k4 := Keep.set L1 ⟨.lst ws1.dropLast, false⟩ (fun r => r = L1) s3 fun _ => rfl
  generalize s3.set L1 ⟨.lst ws1.dropLast, false⟩ = s4 at k4 ⊢
  have hq4 := k4.at_ hq3 (by omega)
  have hc24 := k4.at_ hc23 (by omega)
  have hc44 := k4.at_ hc43 (by omega)
  -- told[2].insert
  rw [x_seq, x_drop, e_bm]
  (simp only [e_var, e_non, e_bl, e_int, e_str, e_bin, e_neg, e_cmp, e_tup, e_lst, e_bi, e_sub, e_attr, e_om, e_ife, sH_var, sH_int, sH_neg, sL_bin, s2_vb, l_nil, l_cons, wt_and, wt_or, wt_not, wt_cmp, wt_chn, t_bi, t_var, i_var, i_sub, i_attr, i_call, i_slc, wi_rng1, wi_rng2, c_lt, c_le, c_gt, c_ge, c_in, c_nin, wpx_ok, wpx_err, of_some, List.getElem?_cons_zero, List.getElem?_cons_succ, Option.bind_some, Option.map_some, id_eq, assign_nm, assign_tp, item_f, item_t, item_s, wipe, List.foldr_cons, List.foldr_nil, List.foldl_cons, List.foldl_nil, List.set_cons_zero, List.set_cons_succ, Option.some.injEq, exists_eq_left', x_skip, x_asg, x_asgA, x_asgS, x_drop, x_ret, x_retN, startE, List.map_cons, List.map_nil, List.length_cons, List.length_nil, List.replicate_succ, List.replicate_zero, List.cons_append, List.nil_append, Nat.sub_self, Nat.zero_add, Nat.reduceAdd, Nat.reduceSub, List.zip_cons_cons, List.zip_nil_left, if_true, Bool.false_eq_true, if_false, insAt_tup, insAt_str, insAt_int, opSub_tup, atI0, atI1, atI2, atI3, Val.int.injEq])
  rw [insAt_lst hq4]
  dsimp only
  rw [opSub_lst hq4, atI2]
  simp only [of_some, wpx_ok]
  refine ⟨wbmOk_lst hc24 (by decide), ?_⟩
  rw [bm_insert0 hc24 (by simp; unfold line; omega)]
  simp only [wpx_ok]
  have k5 := Keep.set r2 ⟨.lst (.str "x" :: cs.map .str), false⟩ (fun r => r = r2) s4 fun _ => rfl
  generalize s4.set r2 ⟨.lst (.str "x" :: cs.map .str), false⟩ = s5 at k5 ⊢
  have hq5 := k5.at_ hq4 (by omega)
  have hc45 := k5.at_ hc44 (by omega)
  -- told[4].clear
  simp only [x_drop, e_bm]
  (simp only [e_var, e_non, e_bl, e_int, e_str, e_bin, e_neg, e_cmp, e_tup, e_lst, e_bi, e_sub, e_attr, e_om, e_ife, sH_var, sH_int, sH_neg, sL_bin, s2_vb, l_nil, l_cons, wt_and, wt_or, wt_not, wt_cmp, wt_chn, t_bi, t_var, i_var, i_sub, i_attr, i_call, i_slc, wi_rng1, wi_rng2, c_lt, c_le, c_gt, c_ge, c_in, c_nin, wpx_ok, wpx_err, of_some, List.getElem?_cons_zero, List.getElem?_cons_succ, Option.bind_some, Option.map_some, id_eq, assign_nm, assign_tp, item_f, item_t, item_s, wipe, List.foldr_cons, List.foldr_nil, List.foldl_cons, List.foldl_nil, List.set_cons_zero, List.set_cons_succ, Option.some.injEq, exists_eq_left', x_skip, x_asg, x_asgA, x_asgS, x_drop, x_ret, x_retN, startE, List.map_cons, List.map_nil, List.length_cons, List.length_nil, List.replicate_succ, List.replicate_zero, List.cons_append, List.nil_append, Nat.sub_self, Nat.zero_add, Nat.reduceAdd, Nat.reduceSub, List.zip_cons_cons, List.zip_nil_left, if_true, Bool.false_eq_true, if_false, insAt_tup, insAt_str, insAt_int, opSub_tup, atI0, atI1, atI2, atI3, Val.int.injEq])
  rw [insAt_lst hq5]
  dsimp only
  rw [opSub_lst hq5, show _root_.L2.atI [Val.ref r0, Val.ref L1, Val.ref r2, Val.int es.length, Val.ref r4, Val.ref L4] 4 = some (.ref r4) from atI_k (k := 4) rfl]
  simp only [of_some, wpx_ok]
  refine ⟨wbmOk_lst hc45 (by decide), ?_⟩
  rw [bm_clear hc45]
  have k6 := Keep.set r4 ⟨.lst [], false⟩ (fun r => r = r4) s5 fun _ => rfl
  exact (((((k02.weak fun r _ h => by rcases h with h | h <;> omega).trans k3 fun r _ h => by omega).trans k4 fun r _ h => by omega).trans k5 fun r _ h => by omega).trans k6 fun r _ h => by omega)
end
end AM
end

section
namespace AM
open Rep (is)
open PySem (Str PyData Operator CmpOp)
open PySem.PyData (shown shownAll showable showableAll canLay0 canLayAll0)

def okB (s : Str) : Prop := ∀ c ∈ codes s, c < 0x110000
theorem okB_app {a b : Str} (ha : okB a) (hb : okB b) : okB (a ++ b) := by
  intro c hc
  rw [codes_app] at hc
  rcases List.mem_append.1 hc with h | h
  · exact ha c h
  · exact hb c h
theorem okB_laid {s : Str} : canLay0 (.str s) = true ↔ okB s := by
  simp only [canLay0, PyData.strOk]
  rw [← Array.all_toList]
  simp only [List.all_eq_true, decide_eq_true_eq]
  exact Iff.rfl
theorem lit_okB {s : Str} (h : canLay0 (.str s) = true) : okB s := okB_laid.1 h

theorem reprChar_ok {q c : Nat} (hq : q < 0x110000) (hc : c < 0x110000) : ∀ x ∈ PySem.Builtin.Str.reprChar q c, x < 0x110000 := by
  have hd : ∀ w : Nat, ∀ x ∈ List.replicate w 48 ++ (Nat.toDigits 16 c).map Char.toNat, x < 0x110000 := by
    intro w x hx
    rcases List.mem_append.1 hx with h | h
    · have := (List.mem_replicate.1 h).2
      omega
    · obtain ⟨ch, _, rfl⟩ := List.mem_map.1 h
      have hv := ch.valid
      simp only [UInt32.isValidChar, Nat.isValidChar] at hv
      show ch.val.toNat < 0x110000
      omega
  intro x hx
  unfold PySem.Builtin.Str.reprChar at hx
  dsimp only at hx
  repeat' split at hx
  all_goals try (simp only [List.mem_cons, List.not_mem_nil, or_false] at hx; omega)
  all_goals
    rcases List.mem_append.1 hx with h | h
    · simp only [List.mem_cons, List.not_mem_nil, or_false] at h
      omega
    · exact hd _ x h
theorem fold_ok {q : Nat} (hq : q < 0x110000) : ∀ (l : List Nat) (acc : Array Nat), (∀ c ∈ l, c < 0x110000) → (∀ c ∈ acc.toList, c < 0x110000) → ∀ c ∈ (l.foldl (fun out c => out ++ (PySem.Builtin.Str.reprChar q c).toArray) acc).toList, c < 0x110000
  | [], acc, _, h => h
  | c :: l, acc, hl, h => by
    refine fold_ok hq l _ (fun d hd => hl d (by simp [hd])) ?_
    intro d hd
    simp only [Array.toList_append, List.mem_append] at hd
    rcases hd with hd | hd
    · exact h d hd
    · exact reprChar_ok hq (hl c (by simp)) d (by simpa using hd)
theorem quote_ok (x : Str) : PySem.reprQuote x < 0x110000 := by
  unfold PySem.reprQuote
  split <;> decide
theorem repr_okB {x : Str} (h : okB x) : okB (PySem.reprText x) := by
  intro c hc
  unfold PySem.reprText at hc
  simp only [codes, Array.toList_push, List.mem_append, List.mem_singleton] at hc
  rcases hc with hc | hc
  · rw [← Array.foldl_toList] at hc
    refine fold_ok (quote_ok x) _ _ h (fun d hd => ?_) c hc
    simp at hd
    rw [hd]
    exact quote_ok x
  · rw [hc]
    exact quote_ok x

theorem textFrom_le : ∀ (ts : List Str) (k : Nat) (acc : Str), (PySem.textFrom k acc ts).length ≤ acc.length + PySem.piled ts
  | [], k, acc => by simp [PySem.textFrom]
  | t :: r, k, acc => by
    have h := textFrom_le r (k + 1) (acc ++ (if k > 0 then ", " else "" : String) ++ t)
    have e : (acc ++ (if k > 0 then ", " else "" : String) ++ t).length ≤ acc.length + 2 + t.length := by
      rw [len_app, len_app]
      split
      · have : (PySem.Str.ofString ", ").length = 2 := by decide
        omega
      · have : (PySem.Str.ofString "").length = 0 := by decide
        omega
    rw [PySem.piled_cons]
    show (PySem.textFrom (k + 1) _ r).length ≤ _
    omega
theorem textFrom_ok : ∀ (ts : List Str) (k : Nat) (acc : Str), okB acc → (∀ t ∈ ts, okB t) → okB (PySem.textFrom k acc ts)
  | [], k, acc, h, _ => h
  | t :: r, k, acc, h, ht => by
    refine textFrom_ok r (k + 1) _ (okB_app (okB_app h ?_) (ht t (by simp))) fun u hu => ht u (by simp [hu])
    split <;> exact lit_okB (by decide +kernel)
theorem join_ok : ∀ (ts : List Str), (∀ t ∈ ts, okB t) → okB (PySem.Str.join ", " ts)
  | [], _ => lit_okB (by decide +kernel)
  | [x], h => h x (by simp)
  | x :: y :: r, h => okB_app (okB_app (h x (by simp)) (lit_okB (by decide +kernel))) (join_ok (y :: r) fun t ht => h t (by simp [List.mem_cons.1 ht]))

mutual
def sz : PyData → Nat
  | .none => 4
  | .bool _ => 5
  | .int _ => 1
  | .str s => 10 * s.length + 2
  | .list xs => szL xs + 2
  | .tuple xs => szL xs + 3
  | .dict _ => 0
def szL : List PyData → Nat
  | [] => 0
  | x :: xs => sz x + 2 + szL xs
end
mutual
/-- no dict, and no number but 0 to 9 -/
def smalld : PyData → Bool
  | .none => true
  | .bool _ => true
  | .int i => decide (0 ≤ i ∧ i ≤ 9)
  | .str _ => true
  | .list xs => smallL xs
  | .tuple xs => smallL xs
  | .dict _ => false
def smallL : List PyData → Bool
  | [] => true
  | x :: xs => smalld x && smallL xs
end
theorem int_shown : ∀ i : Int, 0 ≤ i → i ≤ 9 → (shown (.int i)).length ≤ 1 ∧ okB (shown (.int i)) ∧ showable (.int i) = true := by
  intro i h0 h1
  have : i = 0 ∨ i = 1 ∨ i = 2 ∨ i = 3 ∨ i = 4 ∨ i = 5 ∨ i = 6 ∨ i = 7 ∨ i = 8 ∨ i = 9 := by omega
  rcases this with h | h | h | h | h | h | h | h | h | h <;> subst h <;> exact ⟨by decide +kernel, lit_okB (by decide +kernel), by decide +kernel⟩
mutual
theorem shown_le : ∀ d : PyData, canLay0 d = true → smalld d = true → (shown d).length ≤ sz d ∧ okB (shown d) ∧ showable d = true
  | .none, _, _ => ⟨by decide +kernel, lit_okB (by decide +kernel), by simp [showable]⟩
  | .bool b, _, _ => by cases b <;> exact ⟨by decide +kernel, lit_okB (by decide +kernel), by simp [showable]⟩
  | .int i, _, h => by
    simp only [smalld, decide_eq_true_eq] at h
    have := int_shown i h.1 h.2
    simpa [sz] using this
  | .str x, h, _ => by
    have hx := okB_laid.1 h
    refine ⟨?_, ?_, by simp [showable]⟩
    · simp only [shown, sz]
      exact PySem.StrLaws.reprText_len x fun c hc => Nat.lt_trans (hx c hc) (by decide)
    · simp only [shown]
      exact repr_okB hx
  | .list xs, h, hs => by
    obtain ⟨h1, h2, h3⟩ := shownAll_le xs (by simpa [canLay0] using h) (by simpa [smalld] using hs)
    have hb : (PySem.Str.ofString "[").length = 1 := by decide
    have hc : (PySem.Str.ofString "]").length = 1 := by decide
    have := textFrom_le (shownAll xs) 0 "["
    refine ⟨?_, ?_, by simpa [showable] using h3⟩
    · simp only [shown, sz, PySem.listText, len_app]
      omega
    · simp only [shown, PySem.listText]
      exact okB_app (textFrom_ok _ _ _ (lit_okB (by decide +kernel)) h2) (lit_okB (by decide +kernel))
  | .tuple xs, h, hs => by
    obtain ⟨h1, h2, h3⟩ := shownAll_le xs (by simpa [canLay0] using h) (by simpa [smalld] using hs)
    have hb : (PySem.Str.ofString "(").length = 1 := by decide
    refine ⟨?_, ?_, by simpa [showable] using h3⟩
    · simp only [shown, sz, PySem.tupleText, len_app]
      have hj : (PySem.Str.join ", " (shownAll xs)).length ≤ PySem.piled (shownAll xs) := by
        cases he : shownAll xs with
        | nil => decide
        | cons a r =>
          have := PySem.join_length_add (a :: r) (by simp)
          omega
      split
      · have hc : (PySem.Str.ofString ",)").length = 2 := by decide
        omega
      · have hc : (PySem.Str.ofString ")").length = 1 := by decide
        omega
    · simp only [shown, PySem.tupleText]
      refine okB_app (okB_app (lit_okB (by decide +kernel)) (join_ok _ h2)) ?_
      split <;> exact lit_okB (by decide +kernel)
  | .dict _, h, _ => by simp [canLay0] at h
theorem shownAll_le : ∀ xs : List PyData, canLayAll0 xs = true → smallL xs = true → PySem.piled (shownAll xs) ≤ szL xs ∧ (∀ t ∈ shownAll xs, okB t) ∧ showableAll xs = true
  | [], _, _ => ⟨by simp [shownAll, szL, PySem.piled], by simp [shownAll], by simp [showableAll]⟩
  | x :: xs, h, hs => by
    have h' : canLay0 x = true ∧ canLayAll0 xs = true := by simpa [canLayAll0] using h
    have hs' : smalld x = true ∧ smallL xs = true := by simpa [smallL] using hs
    obtain ⟨a1, a2, a3⟩ := shown_le x h'.1 hs'.1
    obtain ⟨b1, b2, b3⟩ := shownAll_le xs h'.2 hs'.2
    refine ⟨?_, ?_, by simp [showableAll, a3, b3]⟩
    · simp only [shownAll, szL, PySem.piled_cons]
      omega
    · intro t ht
      simp only [shownAll, List.mem_cons] at ht
      rcases ht with rfl | ht
      · exact a2
      · exact b2 t ht
end
theorem szL_le {c : Nat} : ∀ {xs : List PyData}, (∀ x ∈ xs, sz x + 2 ≤ c) → szL xs ≤ xs.length * c
  | [], _ => by simp [szL]
  | x :: xs, h => by
    have h1 := h x (by simp)
    have h2 := szL_le (xs := xs) fun y hy => h y (by simp [hy])
    simp only [szL, List.length_cons, Nat.add_mul]
    omega
theorem smallL_of : ∀ {xs : List PyData}, (∀ x ∈ xs, smalld x = true) → smallL xs = true
  | [], _ => by simp [smallL]
  | x :: xs, h => by simp [smallL, h x (by simp), smallL_of (xs := xs) fun y hy => h y (by simp [hy])]
end AM
end

section
namespace AM
open Rep (is)
open PySem (Str PyData Operator CmpOp)
open PySem.PyData (canLay0)
variable {P : Prog}

structure Small (d : PyData) (c : Nat) : Prop where
  laid : canLay0 d = true
  small : smalld d = true
  sz : AM.sz d ≤ c
theorem Small.le {d : PyData} {c c' : Nat} (h : Small d c) (hc : c ≤ c') : Small d c' := ⟨h.laid, h.small, Nat.le_trans h.sz hc⟩
theorem small_str {x : Str} {k : Nat} (h : canLay0 (.str x) = true) (hl : x.length ≤ k) : Small (.str x) (10 * k + 2) := ⟨h, by simp [smalld], by simp only [sz]; omega⟩
theorem small_list {ds : List PyData} {c : Nat} (h : ∀ d ∈ ds, Small d c) : Small (.list ds) (ds.length * (c + 2) + 2) := by
  refine ⟨?_, ?_, ?_⟩
  · simp only [canLay0, laidAll, List.all_eq_true]
    exact fun d hd => (h d hd).laid
  · simp only [smalld]
    exact smallL_of fun d hd => (h d hd).small
  · simp only [sz]
    have := szL_le (c := c + 2) (xs := ds) fun d hd => by have := (h d hd).sz; omega
    omega
theorem small_tuple {ds : List PyData} {c : Nat} (h : ∀ d ∈ ds, Small d c) : Small (.tuple ds) (ds.length * (c + 2) + 3) := by
  refine ⟨?_, ?_, ?_⟩
  · simp only [canLay0, laidAll, List.all_eq_true]
    exact fun d hd => (h d hd).laid
  · simp only [smalld]
    exact smallL_of fun d hd => (h d hd).small
  · simp only [sz]
    have := szL_le (c := c + 2) (xs := ds) fun d hd => by have := (h d hd).sz; omega
    omega
theorem small_map {α : Type} [Rep α] {xs : List α} {c k : Nat} (h : ∀ x ∈ xs, Small (Rep.d x) c) (hk : xs.length ≤ k) : Small (.list (xs.map Rep.d)) (k * (c + 2) + 2) := by
  refine (small_list (c := c) (ds := xs.map Rep.d) fun d hd => ?_).le ?_
  · obtain ⟨x, hx, rfl⟩ := List.mem_map.1 hd
    exact h x hx
  · rw [List.length_map]
    have := Nat.mul_le_mul_right (c + 2) hk
    omega
theorem held_len : ∀ h ∈ heldL, h.length ≤ 8 := by decide +kernel

section
variable {pl : List Str} {es : List (List Rul)}
theorem Plan.title (p : Plan pl es) {t : Str} (h : t ∈ pl ++ (es.headD []).map Rul.nm) : Small (.str t) 82 :=
  small_str (low_laid (word_low (p.ts.word t h))) (word_len (p.ts.word t h)).2
theorem RuleAt.parts {ts : List Str} (hT : Titles ts) {i : Nat} {x : Rul} (h : RuleAt ts i x) : Small (.str x.nm) 82 ∧ Small (.str x.fm) 82 ∧ Small (.list (x.src.map Rep.d)) 1178 ∧ Small (.str x.hd) 82 := by
  have tt : ∀ t ∈ ts, Small (.str t) 82 := fun t ht => small_str (low_laid (word_low (hT.word t ht))) (word_len (hT.word t ht)).2
  exact ⟨tt _ (List.mem_of_getElem? h.nm), small_str (low_laid (word_low h.fm)) (word_len h.fm).2, small_map (c := 82) (k := 14) (fun y hy => tt y (List.mem_of_mem_take (h.sub y hy))) h.len, small_str (held_laid _ h.hd) (held_len _ h.hd)⟩
theorem RuleAt.small {ts : List Str} (hT : Titles ts) {i : Nat} {x : Rul} (h : RuleAt ts i x) : Small (Rep.d x) 4723 ∧ Small (Rep.d (itmOf x)) 3543 := by
  obtain ⟨a, b, c, d⟩ := h.parts hT
  constructor
  · refine (small_tuple (c := 1178) (ds := [.str x.nm, .str x.fm, .list (x.src.map Rep.d), .str x.hd]) ?_).le (by simp)
    intro y hy
    simp only [List.mem_cons, List.not_mem_nil, or_false] at hy
    rcases hy with rfl | rfl | rfl | rfl
    · exact a.le (by omega)
    · exact b.le (by omega)
    · exact c
    · exact d.le (by omega)
  · refine (small_tuple (c := 1178) (ds := [.str x.fm, .list (x.src.map Rep.d), .str x.hd]) ?_).le (by simp)
    intro y hy
    simp only [List.mem_cons, List.not_mem_nil, or_false] at hy
    rcases hy with rfl | rfl | rfl
    · exact b.le (by omega)
    · exact c
    · exact d.le (by omega)
theorem Plan.ruleAt (p : Plan pl es) {e : List Rul} (he : e ∈ es) {x : Rul} (hx : x ∈ e) : ∃ i, RuleAt (pl ++ (es.headD []).map Rul.nm) i x := by
  obtain ⟨j, hj⟩ := List.getElem?_of_mem hx
  exact ⟨_, p.rules e he j x hj⟩

/-- the column at i of an edition -/
def colOf (i : Nat) (e : List Rul) : Itm := match e[i]? with
  | some x => itmOf x
  | none => ⟨"", [], ""⟩
theorem one_filter : ∀ {e : List Rul} {i : Nat} {x : Rul}, (e.map Rul.nm).Nodup → e[i]? = some x → e.filter (fun y => y.nm == x.nm) = [x]
  | a :: e, 0, x, hn, h => by
    simp at h
    subst h
    rw [List.map_cons, List.nodup_cons] at hn
    rw [List.filter_cons, if_pos (by simp)]
    rw [List.filter_eq_nil_iff.2]
    intro y hy hyx
    have hyx : y.nm = a.nm := by simpa using hyx
    exact hn.1 (hyx ▸ List.mem_map_of_mem hy)
  | a :: e, i + 1, x, hn, h => by
    simp at h
    rw [List.map_cons, List.nodup_cons] at hn
    have hne : ¬ (a.nm = x.nm) := fun e1 => hn.1 (e1 ▸ List.mem_map_of_mem (List.mem_of_getElem? h))
    rw [List.filter_cons, if_neg (by simpa using hne)]
    exact one_filter hn.2 h
  | [], i, x, hn, h => by simp at h
theorem Plan.items (p : Plan pl es) : ((es.headD []).map Rul.nm).map (itemL es) = (List.range (es.headD []).length).map fun i => es.map (colOf i) := by
  apply List.ext_getElem?
  intro i
  rw [List.getElem?_map, List.getElem?_map, List.getElem?_map]
  by_cases hi : i < (es.headD []).length
  · rw [List.getElem?_range hi, List.getElem?_eq_getElem hi]
    simp only [Option.map_some, Option.some.injEq]
    have key : ∀ l : List (List Rul), (∀ e ∈ l, e ∈ es) → itemL l (es.headD [])[i].nm = l.map (colOf i) := by
      intro l
      induction l with
      | nil => intro _; rfl
      | cons e l ih =>
        intro hl
        have he := hl e (by simp)
        have hel : i < e.length := by rw [p.lt e he]; exact hi
        have hnm : e[i].nm = (es.headD [])[i].nm := by
          have h1 := congrArg (fun l => l[i]?) (p.names e he)
          simp only [List.getElem?_map, List.getElem?_eq_getElem hel, List.getElem?_eq_getElem hi, Option.map_some, Option.some.injEq] at h1
          exact h1
        have hnd : (e.map Rul.nm).Nodup := by
          rw [p.names e he]
          exact p.ts.nodup.sublist (List.sublist_append_right _ _)
        have hx : e[i]? = some e[i] := by simp [hel]
        have h2 := one_filter hnd hx
        show (e.filter fun x => x.nm == (es.headD [])[i].nm).map itmOf ++ itemL l (es.headD [])[i].nm = _
        rw [← hnm, h2, hnm, ih fun e he => hl e (by simp [he])]
        simp [colOf, hel]
    exact key es fun e he => he
  · rw [List.getElem?_eq_none (by simpa using hi)]
    rw [List.getElem?_eq_none (by simpa using hi)]
    rfl
theorem Plan.col (p : Plan pl es) {i : Nat} (hi : i < (es.headD []).length) {e : List Rul} (he : e ∈ es) : ∃ x ∈ e, colOf i e = itmOf x := by
  have hel : i < e.length := by rw [p.lt e he]; exact hi
  exact ⟨e[i], List.getElem_mem _, by simp [colOf, hel]⟩

/-- what is told, as data -/
def toldD (pl : List Str) (es : List (List Rul)) : PyData := .list [Rep.d pl, Rep.d es, Rep.d ((es.headD []).map Rul.nm), .int es.length, Rep.d (deedsL pl ((es.headD []).map Rul.nm)), Rep.d ((List.range (es.headD []).length).map fun i => es.map (colOf i))]
theorem small_told (p : Plan pl es) : Small (toldD pl es) 999998 := by
  have hlp := p.lp
  have hln := p.ln
  have hle := p.le
  have s0 : Small (Rep.d pl) 506 := small_map (c := 82) (k := 6) (fun t ht => p.title (by simp [ht])) hlp.2
  have s1 : Small (Rep.d es) 302434 := by
    refine small_map (α := List Rul) (c := 37802) (k := 8) (fun e he => ?_) hle
    refine small_map (α := Rul) (c := 4723) (k := 8) (fun x hx => ?_) (by rw [p.lt e he]; exact hln)
    obtain ⟨i, h⟩ := p.ruleAt he hx
    exact (h.small p.ts).1
  have s2 : Small (Rep.d ((es.headD []).map Rul.nm)) 674 := small_map (c := 82) (k := 8) (fun t ht => p.title (by simp only [List.mem_append]; exact .inr ht)) (by simpa using hln)
  have s3 : Small (.int es.length) 1 := ⟨by simp [canLay0], by simp only [smalld, decide_eq_true_eq]; omega, by simp [sz]⟩
  have s4 : Small (Rep.d (deedsL pl ((es.headD []).map Rul.nm))) 2770 := by
    refine (small_map (α := TS) (c := 171) (k := 16) (fun x hx => ?_) (by simp [deedsL, -List.headD_eq_head?_getD]; omega)).le (by omega)
    have w1 : ∀ t ∈ (["put", "set", "rewrite", "edition"] : List Str), Small (.str t) 82 := fun t ht => small_str ((by decide +kernel : ∀ t ∈ (["put", "set", "rewrite", "edition"] : List Str), canLay0 (.str t) = true) t ht) ((by decide +kernel : ∀ t ∈ (["put", "set", "rewrite", "edition"] : List Str), t.length ≤ 8) t ht)
    have two : ∀ a b : Str, Small (.str a) 82 → Small (.str b) 82 → Small (Rep.d (⟨[a, b]⟩ : TS)) 171 := fun a b ha hb => small_tuple (c := 82) (ds := [.str a, .str b]) fun d hd => by
      simp only [List.mem_cons, List.not_mem_nil, or_false] at hd
      rcases hd with rfl | rfl
      · exact ha
      · exact hb
    have one : ∀ a : Str, Small (.str a) 82 → Small (Rep.d (⟨[a]⟩ : TS)) 171 := fun a ha => (small_tuple (c := 82) (ds := [.str a]) fun d hd => by
      simp only [List.mem_cons, List.not_mem_nil, or_false] at hd
      subst hd
      exact ha).le (by simp)
    simp only [deedsL, List.mem_append, List.mem_singleton, List.mem_map] at hx
    rcases hx with ((rfl | ⟨t, ht, rfl⟩) | ⟨t, ht, rfl⟩) | rfl
    · exact one _ (w1 _ (by simp))
    · exact two _ _ (w1 _ (by simp)) (p.title (by simp [ht]))
    · exact two _ _ (w1 _ (by simp)) (p.title (by simp only [List.mem_append, List.mem_map]; exact .inr ht))
    · exact one _ (w1 _ (by simp))
  have s5 : Small (Rep.d ((List.range (es.headD []).length).map fun i => es.map (colOf i))) 226914 := by
    refine small_map (α := List Itm) (c := 28362) (k := 8) (fun y hy => ?_) (by simpa using hln)
    obtain ⟨i, hi, rfl⟩ := List.mem_map.1 hy
    refine small_map (α := Itm) (c := 3543) (k := 8) (fun x hx => ?_) (by simpa using hle)
    obtain ⟨e, he, rfl⟩ := List.mem_map.1 hx
    obtain ⟨z, hz, hc⟩ := p.col (List.mem_range.1 hi) he
    rw [hc]
    obtain ⟨j, h⟩ := p.ruleAt he hz
    exact (h.small p.ts).2
  refine ⟨?_, ?_, ?_⟩
  · simp only [toldD, canLay0, PyData.canLayAll0, s0.laid, s1.laid, s2.laid, s4.laid, s5.laid, Bool.and_self]
  · simp only [toldD, smalld, smallL, s0.small, s1.small, s2.small, s4.small, s5.small, Bool.and_true, Bool.true_and]
    have := s3.small
    simpa [smalld] using this
  · have a0 := s0.sz
    have a1 := s1.sz
    have a2 := s2.sz
    have a3 := s3.sz
    have a4 := s4.sz
    have a5 := s5.sz
    simp only [toldD, sz, szL] at a3 ⊢
    omega
end

theorem repr_e {C : Call} {s : Store} {v : Val} {d : PyData} (hi : insAt s v = none) (hd : dp s v = some d) (h : Small d 1000000) : opBiP P C "repr" [v] s = .ok (.str d.shown) s := by
  obtain ⟨a, b, c⟩ := shown_le d h.laid h.small
  rw [opBiP_none (by simp [hi]), wbi_repr hd c (Nat.le_trans a h.sz)]
theorem shown_laid {d : PyData} {c : Nat} (h : Small d c) : canLay0 (.str d.shown) = true := okB_laid.2 (shown_le d h.laid h.small).2.1
theorem deep6 {s : Store} {q : Nat} {v0 v1 v2 v4 v5 : Val} {m : Int} {d0 d1 d2 d4 d5 : PyData} (h : s[q]? = some ⟨.lst [v0, v1, v2, .int m, v4, v5], false⟩) (h0 : deep s 59 v0 = some d0) (h1 : deep s 59 v1 = some d1) (h2 : deep s 59 v2 = some d2) (h4 : deep s 59 v4 = some d4) (h5 : deep s 59 v5 = some d5) (hc : canLay0 (.list [d0, d1, d2, .int m, d4, d5]) = true) : dp s (.ref q) = some (.list [d0, d1, d2, .int m, d4, d5]) := by
  have e3 : deep s 59 (.int m) = some (.int m) := rfl
  have e : deep s 60 (.ref q) = some (.list [d0, d1, d2, .int m, d4, d5]) := by
    show (match s[q]? with
      | some ⟨.lst l, _⟩ => (l.mapM (deep s 59)).map PyData.list
      | _ => none) = _
    rw [h]
    simp [List.mapM_cons, h0, h1, h2, e3, h4, h5]
  simp only [dp, e, hc, if_true]
theorem deep59 {α : Type} [Rep α] {H : Nat → Prop} {s : Store} {v : Val} {x : α} (h : is H s v x) (hb : Rep.b α ≤ 59) : deep s 59 v = some (Rep.d x) := deep_le (Rep.deep h) hb
end AM
end

section
set_option maxRecDepth 20000
namespace AM
open Rep (is)
open PySem (Str PyData Operator CmpOp)
open PySem.PyData (canLay0)
variable {P : Prog}

/-- v[0] of a list of editions -/
theorem sub0_w {H : Nat → Prop} {s : Store} {b : Val} {es : List (List Rul)} (h : is H s b es) (hne : es ≠ []) {Q : Val → Store → Prop} {X : Str → Val → Store → Prop} {C : Call} (hq : ∀ w, is H s w (es.headD []) → Q w s) : wpx (match insAt s b with
    | some _ => callOwn P C b "__getitem__" [.int 0] s
    | none => Res.of (opSub s b (.int 0)) s) Q X := by
  obtain ⟨r, l, rfl, hr, ha, hl⟩ := h
  rw [insAt_lst ha]
  dsimp only
  rw [opSub_lst ha]
  cases es with
  | nil => exact absurd rfl hne
  | cons e0 es =>
    cases l with
    | nil => exact hl.elim
    | cons w l =>
      rw [atI0]
      exact hq w hl.1
theorem bm_index {s : Store} {r : Nat} {xs : List Str} {x : Str} {i : Nat} (h : s[r]? = some ⟨.lst (xs.map .str), false⟩) (hx : xs[i]? = some x) (hn : x ∉ xs.take i) : opBm s (.ref r) "index" [.str x] = .ok (.int i) s := by
  have hi := getElem?_some_lt hx
  have hc : xs.contains x = true := by simpa using List.mem_of_getElem? hx
  have hf : xs.findIdx (· == x) = i := by
    rw [List.findIdx_eq hi]
    rw [List.getElem?_eq_getElem hi] at hx
    refine ⟨by simpa using Option.some.inj hx, fun j hj => ?_⟩
    have hne : xs[j] ≠ x := fun e => hn (e ▸ by
      refine List.mem_of_getElem? (i := j) ?_
      rw [List.getElem?_take, if_pos hj, List.getElem?_eq_getElem (by omega)])
    simpa using hne
  simp only [opBm, h, allStr_map, hc, hf, if_true]
  rw [if_neg (by decide), if_neg (by decide), if_neg (by decide), if_neg (by decide), if_neg (by decide)]

structure Law2 (P : Prog) : Prop where
  deed : Has P "_law_every_deed" KD.d_law_every_deed
  asked : Has P "_law_asked" KD.d_law_asked
  refused : Has P "_law_refused" KD.d_law_refused
  spoilt : Has P "_law_items_spoilt" KD.d_law_items_spoilt
  right : Has P "_law_table_right" KD.d_law_table_right

theorem right_w {ci : Cinfo} (hT : Tab P ci) (D : TabD P) (M : TabM P) (W : Law2 P) {s : Store} {vp vm vs : Val} {pl : List Str} {es : List (List Rul)} {sts : List Str} (hp : isPlan No s vp pl es) (p : Plan pl es) (ht : isTable No s vm pl es) (hst : is No s vs sts) (hso : ∀ x ∈ sts, canLay0 (.str x) = true ∧ x.length ≤ 100) {n : Nat} (hn : 6 ≤ n) :
    wpx (callF P n "_law_table_right" [vp, vm, vs] s) (fun w s' => Keep No s s' ∧ w = .bl true) NoX := by
  obtain ⟨va, vb, rfl, ha, hb⟩ := hp
  have hlp := p.lp
  have hln := p.ln
  have hle := p.le
  refine callF_def W.right.df (by omega) rfl ?_
  simp only [KD.d_law_table_right]
  rw [x_seq, x_asg]
  refine lc_map (α := Rul) (β := Str) ?_
  (simp only [e_var, e_non, e_bl, e_int, e_str, e_bin, e_neg, e_cmp, e_tup, e_lst, e_bi, e_sub, e_attr, e_om, e_ife, sH_var, sH_int, sH_neg, sL_bin, s2_vb, l_nil, l_cons, wt_and, wt_or, wt_not, wt_cmp, wt_chn, t_bi, t_var, i_var, i_sub, i_attr, i_call, i_slc, wi_rng1, wi_rng2, c_lt, c_le, c_gt, c_ge, c_in, c_nin, wpx_ok, wpx_err, of_some, List.getElem?_cons_zero, List.getElem?_cons_succ, Option.bind_some, Option.map_some, id_eq, assign_nm, assign_tp, item_f, item_t, item_s, wipe, List.foldr_cons, List.foldr_nil, List.foldl_cons, List.foldl_nil, List.set_cons_zero, List.set_cons_succ, Option.some.injEq, exists_eq_left', x_skip, x_asg, x_asgA, x_asgS, x_drop, x_ret, x_retN, startE, List.map_cons, List.map_nil, List.length_cons, List.length_nil, List.replicate_succ, List.replicate_zero, List.cons_append, List.nil_append, Nat.sub_self, Nat.zero_add, Nat.reduceAdd, Nat.reduceSub, List.zip_cons_cons, List.zip_nil_left, if_true, Bool.false_eq_true, if_false, insAt_tup, insAt_str, insAt_int, opSub_tup, atI0, atI1, atI2, atI3, Val.int.injEq])
  refine sub0_w hb p.ne fun w0 hw0 => ?_
  refine w_iter hw0 fun r l hv hr hat hl => ?_
  refine ⟨l, _, Rul.nm, No, Old s, ⟨_, hat⟩, hl, old_no _, by unfold line; omega, ?_, ?_⟩
  · rintro i w x s2 hw hx hk hlt ⟨u, rfl, hu⟩
    (simp only [e_var, e_non, e_bl, e_int, e_str, e_bin, e_neg, e_cmp, e_tup, e_lst, e_bi, e_sub, e_attr, e_om, e_ife, sH_var, sH_int, sH_neg, sL_bin, s2_vb, l_nil, l_cons, wt_and, wt_or, wt_not, wt_cmp, wt_chn, t_bi, t_var, i_var, i_sub, i_attr, i_call, i_slc, wi_rng1, wi_rng2, c_lt, c_le, c_gt, c_ge, c_in, c_nin, wpx_ok, wpx_err, of_some, List.getElem?_cons_zero, List.getElem?_cons_succ, Option.bind_some, Option.map_some, id_eq, assign_nm, assign_tp, item_f, item_t, item_s, wipe, List.foldr_cons, List.foldr_nil, List.foldl_cons, List.foldl_nil, List.set_cons_zero, List.set_cons_succ, Option.some.injEq, exists_eq_left', x_skip, x_asg, x_asgA, x_asgS, x_drop, x_ret, x_retN, startE, List.map_cons, List.map_nil, List.length_cons, List.length_nil, List.replicate_succ, List.replicate_zero, List.cons_append, List.nil_append, Nat.sub_self, Nat.zero_add, Nat.reduceAdd, Nat.reduceSub, List.zip_cons_cons, List.zip_nil_left, if_true, Bool.false_eq_true, if_false, insAt_tup, insAt_str, insAt_int, opSub_tup, atI0, atI1, atI2, atI3, Val.int.injEq])
    exact ⟨Keep.refl _ _, rfl⟩
  intro s1 k1 h1
  have hnm : ∀ x ∈ (es.headD []).map Rul.nm, Small (.str x) 82 := fun x hx => p.title (by simp only [List.mem_append]; exact .inr hx)
  have hon : OkS ((es.headD []).map Rul.nm) := fun x hx => (hnm x hx).laid
  have hndn : ((es.headD []).map Rul.nm).Nodup := p.ts.nodup.sublist (List.sublist_append_right _ _)
  rw [x_seq]
  (simp only [e_var, e_non, e_bl, e_int, e_str, e_bin, e_neg, e_cmp, e_tup, e_lst, e_bi, e_sub, e_attr, e_om, e_ife, sH_var, sH_int, sH_neg, sL_bin, s2_vb, l_nil, l_cons, wt_and, wt_or, wt_not, wt_cmp, wt_chn, t_bi, t_var, i_var, i_sub, i_attr, i_call, i_slc, wi_rng1, wi_rng2, c_lt, c_le, c_gt, c_ge, c_in, c_nin, wpx_ok, wpx_err, of_some, List.getElem?_cons_zero, List.getElem?_cons_succ, Option.bind_some, Option.map_some, id_eq, assign_nm, assign_tp, item_f, item_t, item_s, wipe, List.foldr_cons, List.foldr_nil, List.foldl_cons, List.foldl_nil, List.set_cons_zero, List.set_cons_succ, Option.some.injEq, exists_eq_left', x_skip, x_asg, x_asgA, x_asgS, x_drop, x_ret, x_retN, startE, List.map_cons, List.map_nil, List.length_cons, List.length_nil, List.replicate_succ, List.replicate_zero, List.cons_append, List.nil_append, Nat.sub_self, Nat.zero_add, Nat.reduceAdd, Nat.reduceSub, List.zip_cons_cons, List.zip_nil_left, if_true, Bool.false_eq_true, if_false, insAt_tup, insAt_str, insAt_int, opSub_tup, atI0, atI1, atI2, atI3, Val.int.injEq])
  rw [x_seq, x_for]
  (simp only [e_var, e_non, e_bl, e_int, e_str, e_bin, e_neg, e_cmp, e_tup, e_lst, e_bi, e_sub, e_attr, e_om, e_ife, sH_var, sH_int, sH_neg, sL_bin, s2_vb, l_nil, l_cons, wt_and, wt_or, wt_not, wt_cmp, wt_chn, t_bi, t_var, i_var, i_sub, i_attr, i_call, i_slc, wi_rng1, wi_rng2, c_lt, c_le, c_gt, c_ge, c_in, c_nin, wpx_ok, wpx_err, of_some, List.getElem?_cons_zero, List.getElem?_cons_succ, Option.bind_some, Option.map_some, id_eq, assign_nm, assign_tp, item_f, item_t, item_s, wipe, List.foldr_cons, List.foldr_nil, List.foldl_cons, List.foldl_nil, List.set_cons_zero, List.set_cons_succ, Option.some.injEq, exists_eq_left', x_skip, x_asg, x_asgA, x_asgS, x_drop, x_ret, x_retN, startE, List.map_cons, List.map_nil, List.length_cons, List.length_nil, List.replicate_succ, List.replicate_zero, List.cons_append, List.nil_append, Nat.sub_self, Nat.zero_add, Nat.reduceAdd, Nat.reduceSub, List.zip_cons_cons, List.zip_nil_left, if_true, Bool.false_eq_true, if_false, insAt_tup, insAt_str, insAt_int, opSub_tup, atI0, atI1, atI2, atI3, Val.int.injEq])
  have p2 := Keep.push ⟨.lst [], false⟩ No s1
  have lk1 := k1.le
  refine w_iterK h1 p2 fun r3 l3 hv3 hr3 hat3 hl3 => ?_
  have hl3e : l3 = ((es.headD []).map Rul.nm).map Val.str := (all2_eq (f := Val.str)).1 hl3
  subst hl3e
  cases hv3
  refine goes_rule (l := ((es.headD []).map Rul.nm).map Val.str) (fun i e s' => Keep No s1 s' ∧ (∃ a5 a8 a12, e = { s := [some (.tup [va, vb]), some vm, some vs, some (.ref s.length), some (.ref s1.length), a5, none, none, a8, none, none, none, a12] }) ∧ ∃ ws, s'[s1.length]? = some ⟨.lst ws, false⟩ ∧ isL (N s1.length No) s' ws ((List.range i).map fun i => es.map (colOf i))) ⟨p2, ⟨_, _, _, rfl⟩, [], push_at _ _, trivial⟩ (fun i e s' h => ⟨_, h.1.at_ hat3 id⟩) ?_ ?_
  · rintro i w e s2 hw ⟨k2, ⟨a5, a8, a12, rfl⟩, ws, hws, his⟩
    obtain ⟨x, hx, rfl⟩ := hl3.get hw
    have hi := getElem?_some_lt hx
    rw [List.length_map] at hi
    have hlt := lt_of_at hws
    refine ⟨_, rfl, ?_⟩
    rw [x_seq, x_asg, e_bm]
    (simp only [e_var, e_non, e_bl, e_int, e_str, e_bin, e_neg, e_cmp, e_tup, e_lst, e_bi, e_sub, e_attr, e_om, e_ife, sH_var, sH_int, sH_neg, sL_bin, s2_vb, l_nil, l_cons, wt_and, wt_or, wt_not, wt_cmp, wt_chn, t_bi, t_var, i_var, i_sub, i_attr, i_call, i_slc, wi_rng1, wi_rng2, c_lt, c_le, c_gt, c_ge, c_in, c_nin, wpx_ok, wpx_err, of_some, List.getElem?_cons_zero, List.getElem?_cons_succ, Option.bind_some, Option.map_some, id_eq, assign_nm, assign_tp, item_f, item_t, item_s, wipe, List.foldr_cons, List.foldr_nil, List.foldl_cons, List.foldl_nil, List.set_cons_zero, List.set_cons_succ, Option.some.injEq, exists_eq_left', x_skip, x_asg, x_asgA, x_asgS, x_drop, x_ret, x_retN, startE, List.map_cons, List.map_nil, List.length_cons, List.length_nil, List.replicate_succ, List.replicate_zero, List.cons_append, List.nil_append, Nat.sub_self, Nat.zero_add, Nat.reduceAdd, Nat.reduceSub, List.zip_cons_cons, List.zip_nil_left, if_true, Bool.false_eq_true, if_false, insAt_tup, insAt_str, insAt_int, opSub_tup, atI0, atI1, atI2, atI3, Val.int.injEq])
    refine ⟨wbmOk_lst (k2.at_ hat3 id) (by decide), ?_⟩
    rw [bm_index (k2.at_ hat3 id) hx (take_no_dup hndn hx)]
    simp only [wpx_ok]
    simp only [x_drop, e_bm]
    (simp only [e_var, e_non, e_bl, e_int, e_str, e_bin, e_neg, e_cmp, e_tup, e_lst, e_bi, e_sub, e_attr, e_om, e_ife, sH_var, sH_int, sH_neg, sL_bin, s2_vb, l_nil, l_cons, wt_and, wt_or, wt_not, wt_cmp, wt_chn, t_bi, t_var, i_var, i_sub, i_attr, i_call, i_slc, wi_rng1, wi_rng2, c_lt, c_le, c_gt, c_ge, c_in, c_nin, wpx_ok, wpx_err, of_some, List.getElem?_cons_zero, List.getElem?_cons_succ, Option.bind_some, Option.map_some, id_eq, assign_nm, assign_tp, item_f, item_t, item_s, wipe, List.foldr_cons, List.foldr_nil, List.foldl_cons, List.foldl_nil, List.set_cons_zero, List.set_cons_succ, Option.some.injEq, exists_eq_left', x_skip, x_asg, x_asgA, x_asgS, x_drop, x_ret, x_retN, startE, List.map_cons, List.map_nil, List.length_cons, List.length_nil, List.replicate_succ, List.replicate_zero, List.cons_append, List.nil_append, Nat.sub_self, Nat.zero_add, Nat.reduceAdd, Nat.reduceSub, List.zip_cons_cons, List.zip_nil_left, if_true, Bool.false_eq_true, if_false, insAt_tup, insAt_str, insAt_int, opSub_tup, atI0, atI1, atI2, atI3, Val.int.injEq])
    refine ⟨wbmOk_lst hws (by decide), ?_⟩
    refine lc_map (α := List Rul) (β := Itm) ?_
    (simp only [e_var, e_non, e_bl, e_int, e_str, e_bin, e_neg, e_cmp, e_tup, e_lst, e_bi, e_sub, e_attr, e_om, e_ife, sH_var, sH_int, sH_neg, sL_bin, s2_vb, l_nil, l_cons, wt_and, wt_or, wt_not, wt_cmp, wt_chn, t_bi, t_var, i_var, i_sub, i_attr, i_call, i_slc, wi_rng1, wi_rng2, c_lt, c_le, c_gt, c_ge, c_in, c_nin, wpx_ok, wpx_err, of_some, List.getElem?_cons_zero, List.getElem?_cons_succ, Option.bind_some, Option.map_some, id_eq, assign_nm, assign_tp, item_f, item_t, item_s, wipe, List.foldr_cons, List.foldr_nil, List.foldl_cons, List.foldl_nil, List.set_cons_zero, List.set_cons_succ, Option.some.injEq, exists_eq_left', x_skip, x_asg, x_asgA, x_asgS, x_drop, x_ret, x_retN, startE, List.map_cons, List.map_nil, List.length_cons, List.length_nil, List.replicate_succ, List.replicate_zero, List.cons_append, List.nil_append, Nat.sub_self, Nat.zero_add, Nat.reduceAdd, Nat.reduceSub, List.zip_cons_cons, List.zip_nil_left, if_true, Bool.false_eq_true, if_false, insAt_tup, insAt_str, insAt_int, opSub_tup, atI0, atI1, atI2, atI3, Val.int.injEq])
    refine w_iterK (H := fun r => s.length ≤ r) (Rep.weak hb fun r hr h => by omega) (k1.tr k2) fun rb lb hvb hrb hatb hlb => ?_
    have hlb2 := hlb.frame (s' := s2) ((k1.tr k2).weak fun _ _ h => h.elim)
    refine ⟨lb, es, colOf i, fun r => s.length ≤ r, N s1.length No, ⟨_, (k1.tr k2).at_ hatb id⟩, hlb2, ?_, by unfold line; omega, ?_, ?_⟩
    · rintro r hr (h | h)
      · exact h
      · omega
    · rintro j w e s5 hw he k5 hlt5 ⟨re, le, rfl, hre, hae, hle⟩
      have hem := List.mem_of_getElem? he
      have hil : i < e.length := by rw [p.lt e hem]; exact hi
      have hxe : e[i]? = some e[i] := by simp [hil]
      obtain ⟨wt, hwt, u, rfl, hu⟩ := hle.get' hxe
      simp only [item_f]
      rw [insAt_lst hae]
      dsimp only
      rw [opSub_lst hae, atI_k hwt]
      simp only [of_some, wpx_ok, insAt_tup, opSub_tup, atI1, insAt_lst hae, opSub_lst hae, atI_k hwt, atI2, atI3]
      refine ⟨Keep.refl _ _, ?_⟩
      have hce : colOf i e = itmOf e[i] := by simp [colOf, hil]
      rw [hce]
      refine ⟨u, rfl, Rep.weak hu ?_⟩
      rintro r hr ((h | h) | h)
      · exact h.elim
      · exact .inl (by omega)
      · have := (k1.tr k2).le
        exact .inl (by omega)
    · intro s3 k3 h3
      have hws3 := k3.at_ hws id
      have hwl := his.len
      simp at hwl
      rw [bm_append hws3 (by unfold line; omega)]
      have stt := Keep.set s1.length ⟨.lst (ws ++ [.ref s2.length]), false⟩ (N s1.length No) s3 (fun _ => .inr rfl)
      refine ⟨keep_new (k2.tr k3) (Nat.le_refl _), ⟨_, _, _, rfl⟩, _, set_at (lt_of_at hws3), ?_⟩
      rw [List.range_succ, List.map_append]
      exact ((his.frame (k3.weak fun _ _ h => h.elim)).frame stt).app ⟨Rep.frame h3 stt, trivial⟩
  rintro e s2 ⟨k2, ⟨a5, a8, a12, rfl⟩, ws, hws, his⟩
  simp only [List.length_map] at his
  rw [x_seq]
  (simp only [e_var, e_non, e_bl, e_int, e_str, e_bin, e_neg, e_cmp, e_tup, e_lst, e_bi, e_sub, e_attr, e_om, e_ife, sH_var, sH_int, sH_neg, sL_bin, s2_vb, l_nil, l_cons, wt_and, wt_or, wt_not, wt_cmp, wt_chn, t_bi, t_var, i_var, i_sub, i_attr, i_call, i_slc, wi_rng1, wi_rng2, c_lt, c_le, c_gt, c_ge, c_in, c_nin, wpx_ok, wpx_err, of_some, List.getElem?_cons_zero, List.getElem?_cons_succ, Option.bind_some, Option.map_some, id_eq, assign_nm, assign_tp, item_f, item_t, item_s, wipe, List.foldr_cons, List.foldr_nil, List.foldl_cons, List.foldl_nil, List.set_cons_zero, List.set_cons_succ, Option.some.injEq, exists_eq_left', x_skip, x_asg, x_asgA, x_asgS, x_drop, x_ret, x_retN, startE, List.map_cons, List.map_nil, List.length_cons, List.length_nil, List.replicate_succ, List.replicate_zero, List.cons_append, List.nil_append, Nat.sub_self, Nat.zero_add, Nat.reduceAdd, Nat.reduceSub, List.zip_cons_cons, List.zip_nil_left, if_true, Bool.false_eq_true, if_false, insAt_tup, insAt_str, insAt_int, opSub_tup, atI0, atI1, atI2, atI3, Val.int.injEq])
  have k12 := k1.tr k2
  obtain ⟨rb, lb, rfl, hrb, hcb, hlb⟩ := hb
  have hcb2 := k12.at_ hcb id
  rw [opBiP_none (by simp [insAt_lst hcb2]), bi_len_lst hcb2, hlb.len]
  simp only [wpx_ok]
  rw [e_call W.deed]
  (simp only [e_var, e_non, e_bl, e_int, e_str, e_bin, e_neg, e_cmp, e_tup, e_lst, e_bi, e_sub, e_attr, e_om, e_ife, sH_var, sH_int, sH_neg, sL_bin, s2_vb, l_nil, l_cons, wt_and, wt_or, wt_not, wt_cmp, wt_chn, t_bi, t_var, i_var, i_sub, i_attr, i_call, i_slc, wi_rng1, wi_rng2, c_lt, c_le, c_gt, c_ge, c_in, c_nin, wpx_ok, wpx_err, of_some, List.getElem?_cons_zero, List.getElem?_cons_succ, Option.bind_some, Option.map_some, id_eq, assign_nm, assign_tp, item_f, item_t, item_s, wipe, List.foldr_cons, List.foldr_nil, List.foldl_cons, List.foldl_nil, List.set_cons_zero, List.set_cons_succ, Option.some.injEq, exists_eq_left', x_skip, x_asg, x_asgA, x_asgS, x_drop, x_ret, x_retN, startE, List.map_cons, List.map_nil, List.length_cons, List.length_nil, List.replicate_succ, List.replicate_zero, List.cons_append, List.nil_append, Nat.sub_self, Nat.zero_add, Nat.reduceAdd, Nat.reduceSub, List.zip_cons_cons, List.zip_nil_left, if_true, Bool.false_eq_true, if_false, insAt_tup, insAt_str, insAt_int, opSub_tup, atI0, atI1, atI2, atI3, Val.int.injEq])
  have hb : is No s (.ref rb) es := ⟨rb, lb, rfl, hrb, hcb, hlb⟩
  have hp : isPlan No s (.tup [va, .ref rb]) pl es := ⟨va, .ref rb, rfl, ha, hb⟩
  refine (every_deed_w W.deed (hp.frame k12) p (by omega)).to ?_
  rintro v3 s3 ⟨k3, h3⟩
  have k23 := k2.tr k3
  have k13 := k12.tr k3
  have lk13 := k13.le
  have lk2 := k2.le
  have p6 := Keep.push ⟨.lst [va, .ref rb, .ref s.length, .int es.length, v3, .ref s1.length], false⟩ No s3
  generalize hs6 : s3 ++ [⟨.lst [va, .ref rb, .ref s.length, .int es.length, v3, .ref s1.length], false⟩] = s6 at p6
  have hc6 : s6[s3.length]? = some ⟨.lst [va, .ref rb, .ref s.length, .int es.length, v3, .ref s1.length], false⟩ := hs6 ▸ push_at _ _
  have hsm := small_told p
  have hdue : ∀ s', Keep No s6 s' → dp s' (.ref s3.length) = some (toldD pl es) := by
    intro s' k
    have k6 := p6.tr k
    refine deep6 (k.at_ hc6 id) (deep59 (Rep.frame ha (k13.tr k6)) (by decide)) (deep59 (Rep.frame hb (k13.tr k6)) (by decide)) (deep59 (Rep.frame h1 ((k23.tr k6).weak fun _ _ h => h.elim)) (by decide)) (deep59 (Rep.frame h3 (k6.weak fun _ _ h => h.elim)) (by decide)) (deep59 (H := No) (x := (List.range (es.headD []).length).map fun i => es.map (colOf i)) ⟨_, ws, rfl, id, (k3.tr k6).at_ hws id, (his.frame ((k3.tr k6).weak fun _ _ h => h.elim)).weak fun _ _ h => h.elim⟩ (by decide)) hsm.laid
  have k06 : Keep No s s6 := k13.tr p6
  rw [x_seq, x_for]
  rw [show (3 : Int) = ((3 : Nat) : Int) from rfl]
  refine rng1_e (by decide) ?_
  refine goes_rule (l := rangeL 0 3) (fun i e s' => Keep No s6 s' ∧ (∃ a7 a9 a10, e = { s := [some (.tup [va, .ref rb]), some vm, some vs, some (.ref s.length), some (.ref s1.length), a5, some (.ref s3.length), a7, a8, a9, a10, none, a12] })) ⟨Keep.refl _ _, _, _, _, rfl⟩ (fun _ _ _ _ => rfl) ?_ ?_
  · rintro i w e s7 hw ⟨k7, a7, a9, a10, rfl⟩
    have k07 := k06.tr k7
    have ht7 := ht.frame k07
    refine ⟨_, rfl, ?_⟩
    rw [x_seq, x_asg, e_call W.asked]
    (simp only [e_var, e_non, e_bl, e_int, e_str, e_bin, e_neg, e_cmp, e_tup, e_lst, e_bi, e_sub, e_attr, e_om, e_ife, sH_var, sH_int, sH_neg, sL_bin, s2_vb, l_nil, l_cons, wt_and, wt_or, wt_not, wt_cmp, wt_chn, t_bi, t_var, i_var, i_sub, i_attr, i_call, i_slc, wi_rng1, wi_rng2, c_lt, c_le, c_gt, c_ge, c_in, c_nin, wpx_ok, wpx_err, of_some, List.getElem?_cons_zero, List.getElem?_cons_succ, Option.bind_some, Option.map_some, id_eq, assign_nm, assign_tp, item_f, item_t, item_s, wipe, List.foldr_cons, List.foldr_nil, List.foldl_cons, List.foldl_nil, List.set_cons_zero, List.set_cons_succ, Option.some.injEq, exists_eq_left', x_skip, x_asg, x_asgA, x_asgS, x_drop, x_ret, x_retN, startE, List.map_cons, List.map_nil, List.length_cons, List.length_nil, List.replicate_succ, List.replicate_zero, List.cons_append, List.nil_append, Nat.sub_self, Nat.zero_add, Nat.reduceAdd, Nat.reduceSub, List.zip_cons_cons, List.zip_nil_left, if_true, Bool.false_eq_true, if_false, insAt_tup, insAt_str, insAt_int, opSub_tup, atI0, atI1, atI2, atI3, Val.int.injEq])
    have h17 : is (Old s) s7 (.ref s.length) ((es.headD []).map Rul.nm) := Rep.frame h1 ((k23.tr (p6.tr k7)).weak fun _ _ h => h.elim)
    refine (asked_w hT D M W.asked ht7 p h17 (by omega)).to ?_
    rintro _ s8 ⟨k8, q, rfl, hTold⟩
    rw [p.items] at hTold
    have k68 := k7.tr k8
    have hdt : dp s8 (.ref q) = some (toldD pl es) := by
      obtain ⟨b0, b2, b4, ws1, ws5, L1, L2, L3, L4, L5, hq, l1, l2, l3, l4, l5, l6, g0, c1, S1, g2, g4, c5, S5⟩ := hTold.ex
      exact deep6 hq (deep59 g0 (by decide)) (deep59 (H := No) (x := es) ⟨_, ws1, rfl, id, c1, S1.toL.weak fun _ _ h => h.elim⟩ (by decide)) (deep59 g2 (by decide)) (deep59 g4 (by decide)) (deep59 (H := No) ⟨_, ws5, rfl, id, c5, S5.toL.weak fun _ _ h => h.elim⟩ (by decide)) hsm.laid
    have hqi : insAt s8 (.ref q) = none := by
      obtain ⟨b0, b2, b4, ws1, ws5, L1, L2, L3, L4, L5, hq, _⟩ := hTold.ex
      exact insAt_lst hq
    have hlt := (shown_laid hsm)
    rw [x_seq, x_ifs, wt_cmp]
    (simp only [e_var, e_non, e_bl, e_int, e_str, e_bin, e_neg, e_cmp, e_tup, e_lst, e_bi, e_sub, e_attr, e_om, e_ife, sH_var, sH_int, sH_neg, sL_bin, s2_vb, l_nil, l_cons, wt_and, wt_or, wt_not, wt_cmp, wt_chn, t_bi, t_var, i_var, i_sub, i_attr, i_call, i_slc, wi_rng1, wi_rng2, c_lt, c_le, c_gt, c_ge, c_in, c_nin, wpx_ok, wpx_err, of_some, List.getElem?_cons_zero, List.getElem?_cons_succ, Option.bind_some, Option.map_some, id_eq, assign_nm, assign_tp, item_f, item_t, item_s, wipe, List.foldr_cons, List.foldr_nil, List.foldl_cons, List.foldl_nil, List.set_cons_zero, List.set_cons_succ, Option.some.injEq, exists_eq_left', x_skip, x_asg, x_asgA, x_asgS, x_drop, x_ret, x_retN, startE, List.map_cons, List.map_nil, List.length_cons, List.length_nil, List.replicate_succ, List.replicate_zero, List.cons_append, List.nil_append, Nat.sub_self, Nat.zero_add, Nat.reduceAdd, Nat.reduceSub, List.zip_cons_cons, List.zip_nil_left, if_true, Bool.false_eq_true, if_false, insAt_tup, insAt_str, insAt_int, opSub_tup, atI0, atI1, atI2, atI3, Val.int.injEq])
    rw [repr_e hqi hdt (hsm.le (by omega))]
    simp only [wpx_ok]
    rw [repr_e (insAt_lst (k68.at_ hc6 id)) (hdue s8 k68) (hsm.le (by omega))]
    simp only [wpx_ok]
    rw [c_ned (dp_str hlt) (dp_str hlt)]
    refine ⟨_, rfl, ?_⟩
    rw [eqv_refl _ hlt]
    simp only [Bool.not_true, Bool.false_eq_true, if_false]
    rw [x_seq, x_for]
    (simp only [e_var, e_non, e_bl, e_int, e_str, e_bin, e_neg, e_cmp, e_tup, e_lst, e_bi, e_sub, e_attr, e_om, e_ife, sH_var, sH_int, sH_neg, sL_bin, s2_vb, l_nil, l_cons, wt_and, wt_or, wt_not, wt_cmp, wt_chn, t_bi, t_var, i_var, i_sub, i_attr, i_call, i_slc, wi_rng1, wi_rng2, c_lt, c_le, c_gt, c_ge, c_in, c_nin, wpx_ok, wpx_err, of_some, List.getElem?_cons_zero, List.getElem?_cons_succ, Option.bind_some, Option.map_some, id_eq, assign_nm, assign_tp, item_f, item_t, item_s, wipe, List.foldr_cons, List.foldr_nil, List.foldl_cons, List.foldl_nil, List.set_cons_zero, List.set_cons_succ, Option.some.injEq, exists_eq_left', x_skip, x_asg, x_asgA, x_asgS, x_drop, x_ret, x_retN, startE, List.map_cons, List.map_nil, List.length_cons, List.length_nil, List.replicate_succ, List.replicate_zero, List.cons_append, List.nil_append, Nat.sub_self, Nat.zero_add, Nat.reduceAdd, Nat.reduceSub, List.zip_cons_cons, List.zip_nil_left, if_true, Bool.false_eq_true, if_false, insAt_tup, insAt_str, insAt_int, opSub_tup, atI0, atI1, atI2, atI3, Val.int.injEq])
    have k08 := k07.tr k8
    refine w_iterK hst k08 fun rs ls hvs hrs hats hls => ?_
    have hnm8 : ∀ s', Keep No s8 s' → is (Old s) s' (.ref s.length) ((es.headD []).map Rul.nm) := fun s' k => Rep.frame h17 ((k8.tr k).weak fun _ _ h => h.elim)
    refine goes_rule (l := ls) (fun j e s' => Keep No s8 s' ∧ (∃ a10, e = { s := [some (.tup [va, .ref rb]), some vm, some vs, some (.ref s.length), some (.ref s1.length), a5, some (.ref s3.length), some w, a8, some (.ref q), a10, none, a12] })) ⟨Keep.refl _ _, _, rfl⟩ (fun j e s' h => ⟨_, (k08.tr h.1).at_ hats id⟩) ?_ ?_
    · rintro j u e s9 hu ⟨k9, b10, rfl⟩
      obtain ⟨x, hx, rfl⟩ := hls.get hu
      have hxo := hso x (List.mem_of_getElem? hx)
      refine ⟨_, rfl, ?_⟩
      rw [x_ifs, wt_and, wt_cmp]
      (simp only [e_var, e_non, e_bl, e_int, e_str, e_bin, e_neg, e_cmp, e_tup, e_lst, e_bi, e_sub, e_attr, e_om, e_ife, sH_var, sH_int, sH_neg, sL_bin, s2_vb, l_nil, l_cons, wt_and, wt_or, wt_not, wt_cmp, wt_chn, t_bi, t_var, i_var, i_sub, i_attr, i_call, i_slc, wi_rng1, wi_rng2, c_lt, c_le, c_gt, c_ge, c_in, c_nin, wpx_ok, wpx_err, of_some, List.getElem?_cons_zero, List.getElem?_cons_succ, Option.bind_some, Option.map_some, id_eq, assign_nm, assign_tp, item_f, item_t, item_s, wipe, List.foldr_cons, List.foldr_nil, List.foldl_cons, List.foldl_nil, List.set_cons_zero, List.set_cons_succ, Option.some.injEq, exists_eq_left', x_skip, x_asg, x_asgA, x_asgS, x_drop, x_ret, x_retN, startE, List.map_cons, List.map_nil, List.length_cons, List.length_nil, List.replicate_succ, List.replicate_zero, List.cons_append, List.nil_append, Nat.sub_self, Nat.zero_add, Nat.reduceAdd, Nat.reduceSub, List.zip_cons_cons, List.zip_nil_left, if_true, Bool.false_eq_true, if_false, insAt_tup, insAt_str, insAt_int, opSub_tup, atI0, atI1, atI2, atI3, Val.int.injEq])
      rw [in_strs (hnm8 s9 k9) hon hxo.1]
      simp only [Option.map_some, Option.some.injEq, exists_eq_left']
      split
      · rename_i hni
        have hni : x ∉ (es.headD []).map Rul.nm := by simpa using hni
        rw [e_call W.refused]
        (simp only [e_var, e_non, e_bl, e_int, e_str, e_bin, e_neg, e_cmp, e_tup, e_lst, e_bi, e_sub, e_attr, e_om, e_ife, sH_var, sH_int, sH_neg, sL_bin, s2_vb, l_nil, l_cons, wt_and, wt_or, wt_not, wt_cmp, wt_chn, t_bi, t_var, i_var, i_sub, i_attr, i_call, i_slc, wi_rng1, wi_rng2, c_lt, c_le, c_gt, c_ge, c_in, c_nin, wpx_ok, wpx_err, of_some, List.getElem?_cons_zero, List.getElem?_cons_succ, Option.bind_some, Option.map_some, id_eq, assign_nm, assign_tp, item_f, item_t, item_s, wipe, List.foldr_cons, List.foldr_nil, List.foldl_cons, List.foldl_nil, List.set_cons_zero, List.set_cons_succ, Option.some.injEq, exists_eq_left', x_skip, x_asg, x_asgA, x_asgS, x_drop, x_ret, x_retN, startE, List.map_cons, List.map_nil, List.length_cons, List.length_nil, List.replicate_succ, List.replicate_zero, List.cons_append, List.nil_append, Nat.sub_self, Nat.zero_add, Nat.reduceAdd, Nat.reduceSub, List.zip_cons_cons, List.zip_nil_left, if_true, Bool.false_eq_true, if_false, insAt_tup, insAt_str, insAt_int, opSub_tup, atI0, atI1, atI2, atI3, Val.int.injEq])
        refine (refused_w hT D M W.refused (ht7.frame (k8.tr k9)) p hni hxo.1 (by omega)).to ?_
        rintro _ s10 ⟨k10, rfl⟩
        have hsx : Small (.str x) 1002 := small_str hxo.1 hxo.2
        have hlx := shown_laid hsx
        rw [repr_e (insAt_str _ _) (dp_str hxo.1) (hsx.le (by omega))]
        simp only [wpx_ok]
        rw [repr_e (insAt_str _ _) (dp_str hxo.1) (hsx.le (by omega))]
        simp only [wpx_ok]
        rw [c_ned (dp_str hlx) (dp_str hlx)]
        refine ⟨_, rfl, ?_⟩
        rw [eqv_refl _ hlx]
        simp only [Bool.not_true, Bool.false_eq_true, if_false]
        exact ⟨k9.tr k10, _, rfl⟩
      · exact ⟨k9, _, rfl⟩
    · rintro e s9 ⟨k9, b10, rfl⟩
      rw [e_call W.spoilt]
      (simp only [e_var, e_non, e_bl, e_int, e_str, e_bin, e_neg, e_cmp, e_tup, e_lst, e_bi, e_sub, e_attr, e_om, e_ife, sH_var, sH_int, sH_neg, sL_bin, s2_vb, l_nil, l_cons, wt_and, wt_or, wt_not, wt_cmp, wt_chn, t_bi, t_var, i_var, i_sub, i_attr, i_call, i_slc, wi_rng1, wi_rng2, c_lt, c_le, c_gt, c_ge, c_in, c_nin, wpx_ok, wpx_err, of_some, List.getElem?_cons_zero, List.getElem?_cons_succ, Option.bind_some, Option.map_some, id_eq, assign_nm, assign_tp, item_f, item_t, item_s, wipe, List.foldr_cons, List.foldr_nil, List.foldl_cons, List.foldl_nil, List.set_cons_zero, List.set_cons_succ, Option.some.injEq, exists_eq_left', x_skip, x_asg, x_asgA, x_asgS, x_drop, x_ret, x_retN, startE, List.map_cons, List.map_nil, List.length_cons, List.length_nil, List.replicate_succ, List.replicate_zero, List.cons_append, List.nil_append, Nat.sub_self, Nat.zero_add, Nat.reduceAdd, Nat.reduceSub, List.zip_cons_cons, List.zip_nil_left, if_true, Bool.false_eq_true, if_false, insAt_tup, insAt_str, insAt_int, opSub_tup, atI0, atI1, atI2, atI3, Val.int.injEq])
      have hTold9 : Told s7.length s9 q pl es ((es.headD []).map Rul.nm) (deedsL pl ((es.headD []).map Rul.nm)) ((List.range (es.headD []).length).map fun i => es.map (colOf i)) := by
        obtain ⟨b0, b2, b4, ws1, ws5, L1, L2, L3, L4, L5, hq, l1, l2, l3, l4, l5, l6, g0, c1, S1, g2, g4, c5, S5⟩ := hTold.ex
        exact ⟨b0, b2, b4, ws1, ws5, L1, L2, L3, L4, L5, k9.at_ hq id, l1, l2, l3, l4, l5, l6, outK g0 k9, k9.at_ c1 id, S1.frame k9 fun _ _ _ h => h, outK g2 k9, outK g4 k9, k9.at_ c5 id, S5.frame k9 fun _ _ _ h => h⟩
      refine (spoilt_w W.spoilt hTold9 p.ne hle (fun e he => by rw [p.lt e he]; exact hln) (fun e he x hx => ?_) (by omega) (by simpa using Nat.le_trans hln (by decide)) ?_ ?_ ?_ (by omega)).to ?_
      · obtain ⟨i, h⟩ := p.ruleAt he hx
        exact h.len
      · intro y hy
        obtain ⟨i, hi, rfl⟩ := List.mem_map.1 hy
        simpa using p.ne
      · intro y hy
        obtain ⟨i, hi, rfl⟩ := List.mem_map.1 hy
        rw [List.length_map]
        omega
      · intro y hy x hx
        obtain ⟨i, hi, rfl⟩ := List.mem_map.1 hy
        obtain ⟨e, he, rfl⟩ := List.mem_map.1 hx
        obtain ⟨z, hz, hc⟩ := p.col (List.mem_range.1 hi) he
        rw [hc]
        obtain ⟨j, h⟩ := p.ruleAt he hz
        exact h.len
      · rintro _ s10 k10
        have k7' := k7.le
        refine ⟨k7.tr ((k8.tr k9).trans k10 fun r hr h => absurd h (by omega)), _, _, _, rfl⟩
  · rintro e s7 ⟨k7, a7, a9, a10, rfl⟩
    (simp only [e_var, e_non, e_bl, e_int, e_str, e_bin, e_neg, e_cmp, e_tup, e_lst, e_bi, e_sub, e_attr, e_om, e_ife, sH_var, sH_int, sH_neg, sL_bin, s2_vb, l_nil, l_cons, wt_and, wt_or, wt_not, wt_cmp, wt_chn, t_bi, t_var, i_var, i_sub, i_attr, i_call, i_slc, wi_rng1, wi_rng2, c_lt, c_le, c_gt, c_ge, c_in, c_nin, wpx_ok, wpx_err, of_some, List.getElem?_cons_zero, List.getElem?_cons_succ, Option.bind_some, Option.map_some, id_eq, assign_nm, assign_tp, item_f, item_t, item_s, wipe, List.foldr_cons, List.foldr_nil, List.foldl_cons, List.foldl_nil, List.set_cons_zero, List.set_cons_succ, Option.some.injEq, exists_eq_left', x_skip, x_asg, x_asgA, x_asgS, x_drop, x_ret, x_retN, startE, List.map_cons, List.map_nil, List.length_cons, List.length_nil, List.replicate_succ, List.replicate_zero, List.cons_append, List.nil_append, Nat.sub_self, Nat.zero_add, Nat.reduceAdd, Nat.reduceSub, List.zip_cons_cons, List.zip_nil_left, if_true, Bool.false_eq_true, if_false, insAt_tup, insAt_str, insAt_int, opSub_tup, atI0, atI1, atI2, atI3, Val.int.injEq])
    exact ⟨k06.tr k7, trivial⟩
end AM
end

section
set_option maxRecDepth 20000
namespace AM
open Rep (is)
open PySem (Str PyData Operator CmpOp)
open PySem.PyData (canLay0)
variable {P : Prog}

/-- a text that may be asked for -/
structure Good (x : Str) : Prop where
  laid : canLay0 (.str x) = true
  len : x.length ≤ 100
theorem upper_good {x : Str} (h : Low x) (hl : x.length ≤ 30) : Good (PySem.Txt.upper x) := by
  have key : ∀ c, c < 128 → ∀ d ∈ PySem.Unicode.upperOf c, d < 0x110000 := by decide +kernel
  refine ⟨okB_laid.2 ?_, by have := PyProof.Rows.len_upper x; omega⟩
  intro d hd
  simp only [codes, PySem.Txt.upper, PySem.placed, Array.toList_flatten, List.mem_flatten] at hd
  obtain ⟨l, hl, hd⟩ := hd
  simp only [Array.toList_map, Array.toList_mapIdx, List.mem_map, List.mem_mapIdx] at hl
  obtain ⟨a, ⟨i, hi, rfl⟩, rfl⟩ := hl
  have hc := of_decide_eq_true (h (x.cps.toList[i]) (List.getElem_mem _))
  exact key (x.cps.toList[i]) (by omega) d (by simpa using hd)
theorem low_good {x : Str} (h : Low x) (hl : x.length ≤ 100) : Good x := ⟨low_laid h, hl⟩
theorem app_good {x y : Str} (h : Good x) (h2 : Good y) (hl : x.length + y.length ≤ 100) : Good (x ++ y) := ⟨okB_laid.2 (okB_app (okB_laid.1 h.laid) (okB_laid.1 h2.laid)), by rw [len_app]; exact hl⟩

theorem cut_len (z : Str) (lo hi : Option Int) : (L2.cutS z lo hi).length ≤ z.length := by
  rw [← codes_len, codes_cut, ← codes_len z]
  simp only [cut, List.length_take, List.length_drop]
  omega

structure Law1 (P : Prog) : Prop where
  source : Has P "_law_source" KD.d_law_source
  draw : Has P "_law_draw" KD.d_law_draw
  titles : Has P "_law_some_titles" KD.d_law_some_titles
  plan : Has P "_law_any_plan" KD.d_law_any_plan
  copied : Has P "_law_copied" KD.d_law_copied
  table : Has P "_law_table_of" KD.d_law_table_of

/-- a walk over the first edition's rules that makes texts -/
theorem rules_lc {C : Call} {el it : E} {e : Env} {st : Store} {xs : List Rul} {Q : Val → Store → Prop} {X : Str → Val → Store → Prop} (g : Rul → Str) (hx8 : xs.length ≤ 8)
    (hel : ∀ x ∈ xs, ∀ u s, wpx (ev P C el { wipe [6] e with s := (wipe [6] e).s.set 6 (some (.tup [.str x.nm, .str x.fm, u, .str x.hd])) } s) (fun w s' => s' = s ∧ w = .str (g x)) NoX)
    (hit : wpx (evI P C it e st) (fun k s2 => ∃ (r : Nat) (l : List Val) (K : Nat → Prop), k = .live r false ∧ Keep No st s2 ∧ s2[r]? = some ⟨.lst l, false⟩ ∧ isL K s2 l xs) X)
    (hq : ∀ s3 r, Keep No st s3 → is (Old st) s3 (.ref r) (xs.map g) → Q (.ref r) s3) : wpx (ev P C (.lc el (.nm 6) it .nil [6]) e st) Q X := by
  refine lc_map (α := Rul) (β := Str) (hit.mono (fun k s2 h => ?_) (fun _ _ _ h => h))
  obtain ⟨r, l, K, rfl, k2, ha, hl⟩ := h
  refine ⟨l, xs, g, K, Old st, ⟨_, ha⟩, hl, fun r hr h => Nat.lt_irrefl _ (Nat.lt_of_lt_of_le h (Nat.le_trans k2.le hr)), by unfold line; omega, ?_, fun s3 k3 h3 => hq s3 _ (k2.tr k3) h3⟩
  rintro i w x s hw hx hk hlt ⟨u, rfl, hu⟩
  refine ⟨_, rfl, ?_⟩
  refine (hel x (List.mem_of_getElem? hx) u s).to ?_
  rintro _ _ ⟨rfl, rfl⟩
  exact ⟨Keep.refl _ _, rfl⟩

section
variable {C : Call} {e : Env} {s3 s' : Store} {va vb : Val} {es : List (List Rul)} {X : Str → Val → Store → Prop}
theorem it_e0 (he : e.s[3]? = some (some (.tup [va, vb]))) (hb : is No s3 vb es) (hne : es ≠ []) (k : Keep No s3 s') : wpx (evI P C (.sub (.sub (.var 3) (.int 1)) (.int 0)) e s') (fun k s2 => ∃ (r : Nat) (l : List Val) (K : Nat → Prop), k = .live r false ∧ Keep No s' s2 ∧ s2[r]? = some ⟨.lst l, false⟩ ∧ isL K s2 l (es.headD [])) X := by
  simp only [i_sub, e_sub, e_var, he, e_int, Option.bind_some, id_eq, of_some, wpx_ok, insAt_tup, opSub_tup, atI1]
  refine sub0_w (Rep.frame hb k) hne fun w hw => ?_
  exact w_iter hw fun r l hv hr ha hl => ⟨r, l, No, rfl, Keep.refl _ _, ha, hl⟩
theorem it_e3 (he : e.s[3]? = some (some (.tup [va, vb]))) (hb : is No s3 vb es) (hne : es ≠ []) (k : Keep No s3 s') : wpx (evI P C (.slc (.sub (.sub (.var 3) (.int 1)) (.int 0)) .nil (.int 3)) e s') (fun k s2 => ∃ (r : Nat) (l : List Val) (K : Nat → Prop), k = .live r false ∧ Keep No s' s2 ∧ s2[r]? = some ⟨.lst l, false⟩ ∧ isL K s2 l ((es.headD []).take 3)) X := by
  simp only [i_slc, sH_int, e_sub, e_var, he, e_int, Option.bind_some, id_eq, of_some, wpx_ok, insAt_tup, opSub_tup, atI1]
  refine sub0_w (Rep.frame hb k) hne fun w hw => ?_
  refine ⟨_, rfl, ?_⟩
  refine slcG_to (k := 3) hw id fun s4 k4 h4 => ?_
  exact w_iter h4 fun r l hv hr ha hl => ⟨r, l, No, rfl, k4, ha, hl⟩
end
theorem e_mk2 {C : Call} {e : Env} {st : Store} {Q : Val → Store → Prop} {X : Str → Val → Store → Prop} {c : Str} {ks : List Str} {l : E} (h1 : (P.clss.lookup c).isSome = true) (h2 : P.kws.contains (c, ks, [1, 0]) = true)
    (h : wpx (evL P C l e st) (fun vs s1 => ∃ a b, vs = [a, b] ∧ wpx (opMake P C c [b, a] s1) Q X) X) : wpx (ev P C (.makek c ks [1, 0] l) e st) Q X := by
  simp only [ev, h1, h2, Bool.and_self, Bool.true_eq_false, if_false, wpx_bind]
  refine h.mono (fun vs s h => ?_) (fun _ _ _ h => h)
  obtain ⟨a, b, rfl, h⟩ := h
  simpa using h
theorem draw_ej (hP : Has P "_law_draw" KD.d_law_draw) {s : Store} {e : Env} {j k m : Nat} {a : E} {many : Int} {n : Nat} (he : e.s[j]? = some (some (.ref k))) (hs : isSack s k m) (ha : ev P (callF P n) a e s = .ok (.int many) s) (hm : m + 1 < 2 ^ 60) (h0 : 0 < many) (h1 : many < 1000000) (hn : 1 ≤ n)
    {Q : Val → Store → Prop} {X : Str → Val → Store → Prop} (hq : ∀ (r : Int) s', Keep (fun r => r = k) s s' → isSack s' k (m + 1) → 0 ≤ r → r < many → Q (.int r) s') :
    wpx (ev P (callF P n) (.call "_law_draw" (.cons (.var j) (.cons a .nil))) e s) Q X := by
  rw [e_call hP]
  simp only [l_cons, l_nil, e_var, he, Option.bind_some, id_eq, of_some, wpx_ok, ha]
  refine (draw_w hP hs hm h0 h1 hn).to ?_
  rintro _ s' ⟨k1, h2, r, rfl, h3, h4⟩
  exact hq r s' k1 h2 h3 h4
theorem law2_w {ci : Cinfo} (hT : Tab P ci) (D : TabD P) (M : TabM P) (W : Law2 P) (V : Law1 P) (hL : P.defs.lookup ("law" : Str) = some K02.d_law) (hkw : P.kws.contains (("Table" : Str), (["editions", "plain"] : List Str), [1, 0]) = true) (ns : List Int) (hns : ns.length ≤ 63) {n : Nat} (hn : 10 ≤ n) :
    wpx (callF P n "law" [.ref 0] [⟨.lst (ns.map .int), true⟩]) (fun v _ => v = .bl true) NoX := by
  have h0 : ([⟨.lst (ns.map .int), true⟩] : Store)[0]? = some ⟨.lst (ns.map .int), true⟩ := rfl
  generalize ([⟨.lst (ns.map .int), true⟩] : Store) = s0 at h0 ⊢
  refine callF_def hL (by omega) rfl ?_
  simp only [K02.d_law]
  rw [x_seq, x_for]
  (simp only [e_var, e_non, e_bl, e_int, e_str, e_bin, e_neg, e_cmp, e_tup, e_lst, e_bi, e_sub, e_attr, e_om, e_ife, sH_var, sH_int, sH_neg, sL_bin, s2_vb, l_nil, l_cons, wt_and, wt_or, wt_not, wt_cmp, wt_chn, t_bi, t_var, i_var, i_sub, i_attr, i_call, i_slc, wi_rng1, wi_rng2, c_lt, c_le, c_gt, c_ge, c_in, c_nin, wpx_ok, wpx_err, of_some, List.getElem?_cons_zero, List.getElem?_cons_succ, Option.bind_some, Option.map_some, id_eq, assign_nm, assign_tp, item_f, item_t, item_s, wipe, List.foldr_cons, List.foldr_nil, List.foldl_cons, List.foldl_nil, List.set_cons_zero, List.set_cons_succ, Option.some.injEq, exists_eq_left', x_skip, x_asg, x_asgA, x_asgS, x_drop, x_ret, x_retN, startE, List.map_cons, List.map_nil, List.length_cons, List.length_nil, List.replicate_succ, List.replicate_zero, List.cons_append, List.nil_append, Nat.sub_self, Nat.zero_add, Nat.reduceAdd, Nat.reduceSub, List.zip_cons_cons, List.zip_nil_left, if_true, Bool.false_eq_true, if_false, insAt_tup, insAt_str, insAt_int, opSub_tup, atI0, atI1, atI2, atI3, Val.int.injEq])
  rw [opBiP_none (by simp [insAt_lst h0]), bi_len_lst h0]
  simp only [wpx_ok]
  rw [opBiP_none rfl, wbi_min]
  simp only [wpx_ok]
  rw [opBiP_none rfl, wbi_max]
  simp only [wpx_ok]
  obtain ⟨c, hc, hc6⟩ : ∃ c : Nat, (if (if ((ns.map Val.int).length : Int) < 6 then ((ns.map Val.int).length : Int) else 6) > 1 then (if ((ns.map Val.int).length : Int) < 6 then ((ns.map Val.int).length : Int) else 6) else 1) = (c : Int) ∧ c ≤ 6 := by
    generalize (ns.map Val.int).length = m
    by_cases h1 : (m : Int) < 6
    · rw [if_pos h1]
      by_cases h2 : (m : Int) > 1
      · exact ⟨m, by rw [if_pos h2], by omega⟩
      · exact ⟨1, by rw [if_neg h2]; rfl, by omega⟩
    · rw [if_neg h1]
      exact ⟨6, rfl, Nat.le_refl _⟩
  rw [hc]
  refine ⟨_, rfl, ⟨by omega, by omega⟩, ?_⟩
  rw [Int.toNat_natCast]
  refine goes_rule (l := rangeL 0 c) (fun i e s => Keep No s0 s ∧ (∃ a1 a2 a3 a4 a5 a6, e = { s := [some (.ref 0), a1, a2, a3, a4, a5, a6] })) ⟨Keep.refl _ _, _, _, _, _, _, _, rfl⟩ (fun _ _ _ _ => rfl) ?_ ?_
  · rintro i v e s hv ⟨k, a1, a2, a3, a4, a5, a6, rfl⟩
    have hi : i < c := by
      have := getElem?_some_lt hv
      simpa [rangeL] using this
    have hv2 : v = .int (i : Int) := by
      simp [rangeL, hi] at hv
      exact hv.symm
    subst hv2
    refine ⟨_, rfl, ?_⟩
    rw [x_seq, x_asg, e_call V.source]
    (simp only [e_var, e_non, e_bl, e_int, e_str, e_bin, e_neg, e_cmp, e_tup, e_lst, e_bi, e_sub, e_attr, e_om, e_ife, sH_var, sH_int, sH_neg, sL_bin, s2_vb, l_nil, l_cons, wt_and, wt_or, wt_not, wt_cmp, wt_chn, t_bi, t_var, i_var, i_sub, i_attr, i_call, i_slc, wi_rng1, wi_rng2, c_lt, c_le, c_gt, c_ge, c_in, c_nin, wpx_ok, wpx_err, of_some, List.getElem?_cons_zero, List.getElem?_cons_succ, Option.bind_some, Option.map_some, id_eq, assign_nm, assign_tp, item_f, item_t, item_s, wipe, List.foldr_cons, List.foldr_nil, List.foldl_cons, List.foldl_nil, List.set_cons_zero, List.set_cons_succ, Option.some.injEq, exists_eq_left', x_skip, x_asg, x_asgA, x_asgS, x_drop, x_ret, x_retN, startE, List.map_cons, List.map_nil, List.length_cons, List.length_nil, List.replicate_succ, List.replicate_zero, List.cons_append, List.nil_append, Nat.sub_self, Nat.zero_add, Nat.reduceAdd, Nat.reduceSub, List.zip_cons_cons, List.zip_nil_left, if_true, Bool.false_eq_true, if_false, insAt_tup, insAt_str, insAt_int, opSub_tup, atI0, atI1, atI2, atI3, Val.int.injEq])
    refine (source_w V.source (k.at_ h0 id) (pl := i) (by omega) (by omega)).to ?_
    rintro _ s1 ⟨k1, rfl, hs1⟩
    rw [x_seq, x_asg, e_call V.plan]
    (simp only [e_var, e_non, e_bl, e_int, e_str, e_bin, e_neg, e_cmp, e_tup, e_lst, e_bi, e_sub, e_attr, e_om, e_ife, sH_var, sH_int, sH_neg, sL_bin, s2_vb, l_nil, l_cons, wt_and, wt_or, wt_not, wt_cmp, wt_chn, t_bi, t_var, i_var, i_sub, i_attr, i_call, i_slc, wi_rng1, wi_rng2, c_lt, c_le, c_gt, c_ge, c_in, c_nin, wpx_ok, wpx_err, of_some, List.getElem?_cons_zero, List.getElem?_cons_succ, Option.bind_some, Option.map_some, id_eq, assign_nm, assign_tp, item_f, item_t, item_s, wipe, List.foldr_cons, List.foldr_nil, List.foldl_cons, List.foldl_nil, List.set_cons_zero, List.set_cons_succ, Option.some.injEq, exists_eq_left', x_skip, x_asg, x_asgA, x_asgS, x_drop, x_ret, x_retN, startE, List.map_cons, List.map_nil, List.length_cons, List.length_nil, List.replicate_succ, List.replicate_zero, List.cons_append, List.nil_append, Nat.sub_self, Nat.zero_add, Nat.reduceAdd, Nat.reduceSub, List.zip_cons_cons, List.zip_nil_left, if_true, Bool.false_eq_true, if_false, insAt_tup, insAt_str, insAt_int, opSub_tup, atI0, atI1, atI2, atI3, Val.int.injEq])
    have hc1 := no_k hs1
    have lk1 := k1.le
    refine draw_ej V.draw rfl hs1.push (wev_int _ _ _ _) (by omega) (by omega) (by omega) (by omega) fun g s2 k2 h2 g1 g2 => ?_
    have p2 := Keep.push ⟨.lst [.tup [.int 6, .int 8, .int 8, .int 6], .tup [.int 2, .int 3, .int 3, .int 2]], false⟩ No s1
    have hc2 := k2.at_ (push_at s1 ⟨.lst [.tup [.int 6, .int 8, .int 8, .int 6], .tup [.int 2, .int 3, .int 3, .int 2]], false⟩) (by omega)
    obtain ⟨gn, rfl⟩ : ∃ q : Nat, g = (q : Int) := ⟨g.toNat, by omega⟩
    obtain ⟨z0, z1, z2, z3, hz, hz0, hz1, hz2, hz3⟩ : ∃ z0 z1 z2 z3 : Nat, ([.tup [.int 6, .int 8, .int 8, .int 6], .tup [.int 2, .int 3, .int 3, .int 2]] : List Val)[gn]? = some (.tup [.int (z0 : Int), .int (z1 : Int), .int (z2 : Int), .int (z3 : Int)]) ∧ (1 ≤ z0 ∧ z0 ≤ 6) ∧ (1 ≤ z1 ∧ z1 ≤ 8) ∧ (1 ≤ z2 ∧ z2 ≤ 8) ∧ z3 ≤ 6 := by
      have : gn = 0 ∨ gn = 1 := by omega
      rcases this with h | h <;> subst h
      · exact ⟨6, 8, 8, 6, rfl, by omega, by omega, by omega, by omega⟩
      · exact ⟨2, 3, 3, 2, rfl, by omega, by omega, by omega, by omega⟩
    rw [insAt_lst hc2]
    dsimp only
    rw [opSub_lst hc2, atI_k hz]
    simp only [of_some, wpx_ok]
    refine (any_plan_w V.draw V.titles V.plan h2 (by omega) hz0 hz1 hz2 hz3 (by omega)).to ?_
    rintro _ s3 ⟨k3, _, pl, es, va, vb, rfl, hva, hvb, p⟩
    have k13 : Keep (fun r => s.length ≤ r) s s3 := ((k1.weak fun _ _ h => h.elim).tr (Keep.push _ _ s1)).tr ((k2.tr k3).weak fun r _ h => Nat.le_of_eq h.symm)
    have k03 : Keep No s0 s3 := k.trans k13 fun r hr h => absurd h (by have := k.le; omega)
    have hpl : isPlan No s3 (.tup [va, vb]) pl es := ⟨va, vb, rfl, Rep.weak hva fun _ _ h => h.elim, Rep.weak hvb fun _ _ h => h.elim⟩
    clear hva hvb k2 k3 p2 hc2 h2
    have hpl' := hpl
    obtain ⟨_, _, e1, hva, hvb⟩ := hpl'
    cases e1
    have hlp := p.lp
    have hln := p.ln
    have he0 : ∀ x ∈ es.headD [], ∃ i, RuleAt (pl ++ (es.headD []).map Rul.nm) i x := fun x hx => p.ruleAt (e := es.headD []) (by
      cases hes : es with
      | nil => exact absurd hes p.ne
      | cons a l => simp) hx
    have hw : ∀ t ∈ pl ++ (es.headD []).map Rul.nm, Low t ∧ t.length ≤ 8 := fun t ht => ⟨word_low (p.ts.word t ht), (word_len (p.ts.word t ht)).2⟩
    have hrw : ∀ x ∈ es.headD [], (Low x.nm ∧ x.nm.length ≤ 8) ∧ Good x.fm := fun x hx => by
      obtain ⟨i, h⟩ := he0 x hx
      exact ⟨hw _ (List.mem_of_getElem? h.nm), low_good (word_low h.fm) (by have := word_len h.fm; omega)⟩
    have g3 : ∀ t ∈ (["", "put", "edition"] : List Str), Good t := fun t ht => ⟨(by decide +kernel : ∀ t ∈ (["", "put", "edition"] : List Str), canLay0 (.str t) = true) t ht, (by decide +kernel : ∀ t ∈ (["", "put", "edition"] : List Str), t.length ≤ 100) t ht⟩
    -- the first texts
    rw [x_seq, x_asg]
    (simp only [e_var, e_non, e_bl, e_int, e_str, e_bin, e_neg, e_cmp, e_tup, e_lst, e_bi, e_sub, e_attr, e_om, e_ife, sH_var, sH_int, sH_neg, sL_bin, s2_vb, l_nil, l_cons, wt_and, wt_or, wt_not, wt_cmp, wt_chn, t_bi, t_var, i_var, i_sub, i_attr, i_call, i_slc, wi_rng1, wi_rng2, c_lt, c_le, c_gt, c_ge, c_in, c_nin, wpx_ok, wpx_err, of_some, List.getElem?_cons_zero, List.getElem?_cons_succ, Option.bind_some, Option.map_some, id_eq, assign_nm, assign_tp, item_f, item_t, item_s, wipe, List.foldr_cons, List.foldr_nil, List.foldl_cons, List.foldl_nil, List.set_cons_zero, List.set_cons_succ, Option.some.injEq, exists_eq_left', x_skip, x_asg, x_asgA, x_asgS, x_drop, x_ret, x_retN, startE, List.map_cons, List.map_nil, List.length_cons, List.length_nil, List.replicate_succ, List.replicate_zero, List.cons_append, List.nil_append, Nat.sub_self, Nat.zero_add, Nat.reduceAdd, Nat.reduceSub, List.zip_cons_cons, List.zip_nil_left, if_true, Bool.false_eq_true, if_false, insAt_tup, insAt_str, insAt_int, opSub_tup, atI0, atI1, atI2, atI3, Val.int.injEq])
    have n3 := new_flat (s := s3) (H := No) (s' := s3) (vs := (["", "put", "edition"] : List Str).map .str) (xs := (["", "put", "edition"] : List Str)) ((all2_eq (f := Val.str)).2 rfl)
    have q3 := Keep.push ⟨.lst ((["", "put", "edition"] : List Str).map .str), false⟩ No s3
    refine add_w n3 (Rep.weak (Rep.frame hva q3) fun _ _ h => h) (by simp; unfold line; omega) fun s4 k4 h4 => ?_
    have k34 := q3.tr k4
    refine rules_lc (C := callF P (n - 1)) (st := s4) Rul.fm hln (fun x hx u s' => ?_) (it_e0 rfl hvb p.ne k34) fun s5 r5 k5 h5 => ?_
    · (simp only [e_var, e_non, e_bl, e_int, e_str, e_bin, e_neg, e_cmp, e_tup, e_lst, e_bi, e_sub, e_attr, e_om, e_ife, sH_var, sH_int, sH_neg, sL_bin, s2_vb, l_nil, l_cons, wt_and, wt_or, wt_not, wt_cmp, wt_chn, t_bi, t_var, i_var, i_sub, i_attr, i_call, i_slc, wi_rng1, wi_rng2, c_lt, c_le, c_gt, c_ge, c_in, c_nin, wpx_ok, wpx_err, of_some, List.getElem?_cons_zero, List.getElem?_cons_succ, Option.bind_some, Option.map_some, id_eq, assign_nm, assign_tp, item_f, item_t, item_s, wipe, List.foldr_cons, List.foldr_nil, List.foldl_cons, List.foldl_nil, List.set_cons_zero, List.set_cons_succ, Option.some.injEq, exists_eq_left', x_skip, x_asg, x_asgA, x_asgS, x_drop, x_ret, x_retN, startE, List.map_cons, List.map_nil, List.length_cons, List.length_nil, List.replicate_succ, List.replicate_zero, List.cons_append, List.nil_append, Nat.sub_self, Nat.zero_add, Nat.reduceAdd, Nat.reduceSub, List.zip_cons_cons, List.zip_nil_left, if_true, Bool.false_eq_true, if_false, insAt_tup, insAt_str, insAt_int, opSub_tup, atI0, atI1, atI2, atI3, Val.int.injEq])
      exact ⟨trivial, trivial⟩
    have k35 := k34.tr k5
    refine add_w (Rep.frame h4 (k5.weak fun _ _ h => h.elim)) h5 (by simp [-List.headD_eq_head?_getD]; unfold line; omega) fun s6 k6 h6 => ?_
    have k36 := k35.tr k6
    have G6 : ∀ t ∈ (["", "put", "edition"] : List Str) ++ pl ++ (es.headD []).map Rul.fm, Good t := by
      intro t ht
      simp only [List.mem_append, List.mem_map] at ht
      rcases ht with (ht | ht) | ⟨x, hx, rfl⟩
      · exact g3 t ht
      · exact low_good (hw t (by simp [ht])).1 (by have := (hw t (by simp [ht])).2; omega)
      · exact (hrw x hx).2
    have L6 : ((["", "put", "edition"] : List Str) ++ pl ++ (es.headD []).map Rul.fm).length ≤ 30 := by simp [-List.headD_eq_head?_getD]; omega
    revert h6 G6 L6
    generalize (["", "put", "edition"] : List Str) ++ pl ++ (es.headD []).map Rul.fm = ls6
    intro h6 G6 L6
    -- shorter and longer ones
    rw [x_seq, x_asg]
    (simp only [e_var, e_non, e_bl, e_int, e_str, e_bin, e_neg, e_cmp, e_tup, e_lst, e_bi, e_sub, e_attr, e_om, e_ife, sH_var, sH_int, sH_neg, sL_bin, s2_vb, l_nil, l_cons, wt_and, wt_or, wt_not, wt_cmp, wt_chn, t_bi, t_var, i_var, i_sub, i_attr, i_call, i_slc, wi_rng1, wi_rng2, c_lt, c_le, c_gt, c_ge, c_in, c_nin, wpx_ok, wpx_err, of_some, List.getElem?_cons_zero, List.getElem?_cons_succ, Option.bind_some, Option.map_some, id_eq, assign_nm, assign_tp, item_f, item_t, item_s, wipe, List.foldr_cons, List.foldr_nil, List.foldl_cons, List.foldl_nil, List.set_cons_zero, List.set_cons_succ, Option.some.injEq, exists_eq_left', x_skip, x_asg, x_asgA, x_asgS, x_drop, x_ret, x_retN, startE, List.map_cons, List.map_nil, List.length_cons, List.length_nil, List.replicate_succ, List.replicate_zero, List.cons_append, List.nil_append, Nat.sub_self, Nat.zero_add, Nat.reduceAdd, Nat.reduceSub, List.zip_cons_cons, List.zip_nil_left, if_true, Bool.false_eq_true, if_false, insAt_tup, insAt_str, insAt_int, opSub_tup, atI0, atI1, atI2, atI3, Val.int.injEq])
    refine rules_lc (C := callF P (n - 1)) (st := s6) (fun x => L2.cutS x.nm none (some (-1))) hln (fun x hx u s' => ?_) (it_e0 rfl hvb p.ne k36) fun s7 r7 k7 h7 => ?_
    · (simp only [e_var, e_non, e_bl, e_int, e_str, e_bin, e_neg, e_cmp, e_tup, e_lst, e_bi, e_sub, e_attr, e_om, e_ife, sH_var, sH_int, sH_neg, sL_bin, s2_vb, l_nil, l_cons, wt_and, wt_or, wt_not, wt_cmp, wt_chn, t_bi, t_var, i_var, i_sub, i_attr, i_call, i_slc, wi_rng1, wi_rng2, c_lt, c_le, c_gt, c_ge, c_in, c_nin, wpx_ok, wpx_err, of_some, List.getElem?_cons_zero, List.getElem?_cons_succ, Option.bind_some, Option.map_some, id_eq, assign_nm, assign_tp, item_f, item_t, item_s, wipe, List.foldr_cons, List.foldr_nil, List.foldl_cons, List.foldl_nil, List.set_cons_zero, List.set_cons_succ, Option.some.injEq, exists_eq_left', x_skip, x_asg, x_asgA, x_asgS, x_drop, x_ret, x_retN, startE, List.map_cons, List.map_nil, List.length_cons, List.length_nil, List.replicate_succ, List.replicate_zero, List.cons_append, List.nil_append, Nat.sub_self, Nat.zero_add, Nat.reduceAdd, Nat.reduceSub, List.zip_cons_cons, List.zip_nil_left, if_true, Bool.false_eq_true, if_false, insAt_tup, insAt_str, insAt_int, opSub_tup, atI0, atI1, atI2, atI3, Val.int.injEq])
      rw [show opSlc s' (.str x.nm) none (some (.int (-1))) = _ from slc_str (by have := (hrw x hx).1.2; unfold line; omega) none (some (-1))]
      exact ⟨rfl, rfl⟩
    have k37 := k36.tr k7
    refine add_w (Rep.frame h6 (k7.weak fun _ _ h => h.elim)) h7 (by simp [-List.headD_eq_head?_getD]; unfold line; omega) fun s8 k8 h8 => ?_
    have k38 := k37.tr k8
    refine rules_lc (C := callF P (n - 1)) (st := s8) (fun x => x.nm ++ "z") hln (fun x hx u s' => ?_) (it_e0 rfl hvb p.ne k38) fun s9 r9 k9 h9 => ?_
    · (simp only [e_var, e_non, e_bl, e_int, e_str, e_bin, e_neg, e_cmp, e_tup, e_lst, e_bi, e_sub, e_attr, e_om, e_ife, sH_var, sH_int, sH_neg, sL_bin, s2_vb, l_nil, l_cons, wt_and, wt_or, wt_not, wt_cmp, wt_chn, t_bi, t_var, i_var, i_sub, i_attr, i_call, i_slc, wi_rng1, wi_rng2, c_lt, c_le, c_gt, c_ge, c_in, c_nin, wpx_ok, wpx_err, of_some, List.getElem?_cons_zero, List.getElem?_cons_succ, Option.bind_some, Option.map_some, id_eq, assign_nm, assign_tp, item_f, item_t, item_s, wipe, List.foldr_cons, List.foldr_nil, List.foldl_cons, List.foldl_nil, List.set_cons_zero, List.set_cons_succ, Option.some.injEq, exists_eq_left', x_skip, x_asg, x_asgA, x_asgS, x_drop, x_ret, x_retN, startE, List.map_cons, List.map_nil, List.length_cons, List.length_nil, List.replicate_succ, List.replicate_zero, List.cons_append, List.nil_append, Nat.sub_self, Nat.zero_add, Nat.reduceAdd, Nat.reduceSub, List.zip_cons_cons, List.zip_nil_left, if_true, Bool.false_eq_true, if_false, insAt_tup, insAt_str, insAt_int, opSub_tup, atI0, atI1, atI2, atI3, Val.int.injEq])
      rw [add_str (by have := (hrw x hx).1.2; have : (PySem.Str.ofString "z").length = 1 := by decide
                      unfold line; omega)]
      exact ⟨rfl, rfl⟩
    have k39 := k38.tr k9
    refine add_w (Rep.frame h8 (k9.weak fun _ _ h => h.elim)) h9 (by simp [-List.headD_eq_head?_getD]; unfold line; omega) fun s10 k10 h10 => ?_
    have k310 := k39.tr k10
    have gz : Good "z" := ⟨by decide +kernel, by decide +kernel⟩
    have gb : Good " " := ⟨by decide +kernel, by decide +kernel⟩
    have lz : (PySem.Str.ofString "z").length = 1 := by decide
    have lb : (PySem.Str.ofString " ").length = 1 := by decide
    have gnm : ∀ x ∈ es.headD [], Good x.nm := fun x hx => low_good (hrw x hx).1.1 (by have := (hrw x hx).1.2; omega)
    have G10 : ∀ t ∈ ls6 ++ (es.headD []).map (fun x : Rul => L2.cutS x.nm none (some (-1))) ++ (es.headD []).map (fun x : Rul => (x.nm ++ ("z" : Str) : Str)), Good t := by
      intro t ht
      simp only [List.mem_append, List.mem_map] at ht
      rcases ht with (ht | ⟨x, hx, rfl⟩) | ⟨x, hx, rfl⟩
      · exact G6 t ht
      · exact low_good (low_cut (hrw x hx).1.1 _ _) (by have := (hrw x hx).1.2; have := cut_len x.nm none (some (-1)); omega)
      · exact app_good (gnm x hx) gz (by have := (hrw x hx).1.2; omega)
    have L10 : (ls6 ++ (es.headD []).map (fun x : Rul => L2.cutS x.nm none (some (-1))) ++ (es.headD []).map (fun x : Rul => (x.nm ++ ("z" : Str) : Str))).length ≤ 60 := by simp [-List.headD_eq_head?_getD]; omega
    revert h10 G10 L10
    generalize ls6 ++ (es.headD []).map (fun x : Rul => L2.cutS x.nm none (some (-1))) ++ (es.headD []).map (fun x : Rul => (x.nm ++ ("z" : Str) : Str)) = ls10
    intro h10 G10 L10
    -- with a blank, in capitals
    rw [x_seq, x_asg]
    (simp only [e_var, e_non, e_bl, e_int, e_str, e_bin, e_neg, e_cmp, e_tup, e_lst, e_bi, e_sub, e_attr, e_om, e_ife, sH_var, sH_int, sH_neg, sL_bin, s2_vb, l_nil, l_cons, wt_and, wt_or, wt_not, wt_cmp, wt_chn, t_bi, t_var, i_var, i_sub, i_attr, i_call, i_slc, wi_rng1, wi_rng2, c_lt, c_le, c_gt, c_ge, c_in, c_nin, wpx_ok, wpx_err, of_some, List.getElem?_cons_zero, List.getElem?_cons_succ, Option.bind_some, Option.map_some, id_eq, assign_nm, assign_tp, item_f, item_t, item_s, wipe, List.foldr_cons, List.foldr_nil, List.foldl_cons, List.foldl_nil, List.set_cons_zero, List.set_cons_succ, Option.some.injEq, exists_eq_left', x_skip, x_asg, x_asgA, x_asgS, x_drop, x_ret, x_retN, startE, List.map_cons, List.map_nil, List.length_cons, List.length_nil, List.replicate_succ, List.replicate_zero, List.cons_append, List.nil_append, Nat.sub_self, Nat.zero_add, Nat.reduceAdd, Nat.reduceSub, List.zip_cons_cons, List.zip_nil_left, if_true, Bool.false_eq_true, if_false, insAt_tup, insAt_str, insAt_int, opSub_tup, atI0, atI1, atI2, atI3, Val.int.injEq])
    have htk : ((es.headD []).take 3).length ≤ 8 := by simp [-List.headD_eq_head?_getD]; omega
    have mtk : ∀ x ∈ (es.headD []).take 3, x ∈ es.headD [] := fun x hx => List.mem_of_mem_take hx
    refine rules_lc (C := callF P (n - 1)) (st := s10) (fun x => x.nm ++ " ") htk (fun x hx u s' => ?_) (it_e3 rfl hvb p.ne k310) fun s11 r11 k11 h11 => ?_
    · (simp only [e_var, e_non, e_bl, e_int, e_str, e_bin, e_neg, e_cmp, e_tup, e_lst, e_bi, e_sub, e_attr, e_om, e_ife, sH_var, sH_int, sH_neg, sL_bin, s2_vb, l_nil, l_cons, wt_and, wt_or, wt_not, wt_cmp, wt_chn, t_bi, t_var, i_var, i_sub, i_attr, i_call, i_slc, wi_rng1, wi_rng2, c_lt, c_le, c_gt, c_ge, c_in, c_nin, wpx_ok, wpx_err, of_some, List.getElem?_cons_zero, List.getElem?_cons_succ, Option.bind_some, Option.map_some, id_eq, assign_nm, assign_tp, item_f, item_t, item_s, wipe, List.foldr_cons, List.foldr_nil, List.foldl_cons, List.foldl_nil, List.set_cons_zero, List.set_cons_succ, Option.some.injEq, exists_eq_left', x_skip, x_asg, x_asgA, x_asgS, x_drop, x_ret, x_retN, startE, List.map_cons, List.map_nil, List.length_cons, List.length_nil, List.replicate_succ, List.replicate_zero, List.cons_append, List.nil_append, Nat.sub_self, Nat.zero_add, Nat.reduceAdd, Nat.reduceSub, List.zip_cons_cons, List.zip_nil_left, if_true, Bool.false_eq_true, if_false, insAt_tup, insAt_str, insAt_int, opSub_tup, atI0, atI1, atI2, atI3, Val.int.injEq])
      rw [add_str (by have := (hrw x (mtk x hx)).1.2; unfold line; omega)]
      exact ⟨rfl, rfl⟩
    have k311 := k310.tr k11
    refine add_w (Rep.frame h10 (k11.weak fun _ _ h => h.elim)) h11 (by rw [List.length_map]; unfold line; omega) fun s12 k12 h12 => ?_
    have k312 := k311.tr k12
    refine rules_lc (C := callF P (n - 1)) (st := s12) (fun x => PySem.Txt.upper x.nm) htk (fun x hx u s' => ?_) (it_e3 rfl hvb p.ne k312) fun s13 r13 k13' h13 => ?_
    · rw [e_bm]
      (simp only [e_var, e_non, e_bl, e_int, e_str, e_bin, e_neg, e_cmp, e_tup, e_lst, e_bi, e_sub, e_attr, e_om, e_ife, sH_var, sH_int, sH_neg, sL_bin, s2_vb, l_nil, l_cons, wt_and, wt_or, wt_not, wt_cmp, wt_chn, t_bi, t_var, i_var, i_sub, i_attr, i_call, i_slc, wi_rng1, wi_rng2, c_lt, c_le, c_gt, c_ge, c_in, c_nin, wpx_ok, wpx_err, of_some, List.getElem?_cons_zero, List.getElem?_cons_succ, Option.bind_some, Option.map_some, id_eq, assign_nm, assign_tp, item_f, item_t, item_s, wipe, List.foldr_cons, List.foldr_nil, List.foldl_cons, List.foldl_nil, List.set_cons_zero, List.set_cons_succ, Option.some.injEq, exists_eq_left', x_skip, x_asg, x_asgA, x_asgS, x_drop, x_ret, x_retN, startE, List.map_cons, List.map_nil, List.length_cons, List.length_nil, List.replicate_succ, List.replicate_zero, List.cons_append, List.nil_append, Nat.sub_self, Nat.zero_add, Nat.reduceAdd, Nat.reduceSub, List.zip_cons_cons, List.zip_nil_left, if_true, Bool.false_eq_true, if_false, insAt_tup, insAt_str, insAt_int, opSub_tup, atI0, atI1, atI2, atI3, Val.int.injEq])
      refine ⟨by simp only [bmOk]; decide, ?_⟩
      have hl8 := (hrw x (mtk x hx)).1.2
      simp only [opBm]
      rw [if_neg (by decide), if_pos trivial, if_pos (by unfold line; omega)]
      exact ⟨rfl, rfl⟩
    have k313 := k312.tr k13'
    refine add_w (Rep.frame h12 (k13'.weak fun _ _ h => h.elim)) h13 (by rw [List.length_append, List.length_map, List.length_map]; unfold line; omega) fun s14 k14 h14 => ?_
    have k314 := k313.tr k14
    have G14 : ∀ t ∈ ls10 ++ ((es.headD []).take 3).map (fun x : Rul => (x.nm ++ (" " : Str) : Str)) ++ ((es.headD []).take 3).map (fun x : Rul => PySem.Txt.upper x.nm), Good t := by
      intro t ht
      simp only [List.mem_append, List.mem_map] at ht
      rcases ht with (ht | ⟨x, hx, rfl⟩) | ⟨x, hx, rfl⟩
      · exact G10 t ht
      · exact app_good (gnm x (mtk x hx)) gb (by have := (hrw x (mtk x hx)).1.2; omega)
      · exact upper_good (hrw x (mtk x hx)).1.1 (by have := (hrw x (mtk x hx)).1.2; omega)
    revert h14 G14
    generalize ls10 ++ ((es.headD []).take 3).map (fun x : Rul => (x.nm ++ (" " : Str) : Str)) ++ ((es.headD []).take 3).map (fun x : Rul => PySem.Txt.upper x.nm) = ls14
    intro h14 G14
    have hs14 : is No s14 (.ref s13.length) ls14 := Rep.weak h14 fun _ _ h => h.elim
    -- the table by position
    rw [x_seq, x_ifs, wt_not, t_call W.right]
    (simp only [e_var, e_non, e_bl, e_int, e_str, e_bin, e_neg, e_cmp, e_tup, e_lst, e_bi, e_sub, e_attr, e_om, e_ife, sH_var, sH_int, sH_neg, sL_bin, s2_vb, l_nil, l_cons, wt_and, wt_or, wt_not, wt_cmp, wt_chn, t_bi, t_var, i_var, i_sub, i_attr, i_call, i_slc, wi_rng1, wi_rng2, c_lt, c_le, c_gt, c_ge, c_in, c_nin, wpx_ok, wpx_err, of_some, List.getElem?_cons_zero, List.getElem?_cons_succ, Option.bind_some, Option.map_some, id_eq, assign_nm, assign_tp, item_f, item_t, item_s, wipe, List.foldr_cons, List.foldr_nil, List.foldl_cons, List.foldl_nil, List.set_cons_zero, List.set_cons_succ, Option.some.injEq, exists_eq_left', x_skip, x_asg, x_asgA, x_asgS, x_drop, x_ret, x_retN, startE, List.map_cons, List.map_nil, List.length_cons, List.length_nil, List.replicate_succ, List.replicate_zero, List.cons_append, List.nil_append, Nat.sub_self, Nat.zero_add, Nat.reduceAdd, Nat.reduceSub, List.zip_cons_cons, List.zip_nil_left, if_true, Bool.false_eq_true, if_false, insAt_tup, insAt_str, insAt_int, opSub_tup, atI0, atI1, atI2, atI3, Val.int.injEq])
    rw [e_call V.table]
    (simp only [e_var, e_non, e_bl, e_int, e_str, e_bin, e_neg, e_cmp, e_tup, e_lst, e_bi, e_sub, e_attr, e_om, e_ife, sH_var, sH_int, sH_neg, sL_bin, s2_vb, l_nil, l_cons, wt_and, wt_or, wt_not, wt_cmp, wt_chn, t_bi, t_var, i_var, i_sub, i_attr, i_call, i_slc, wi_rng1, wi_rng2, c_lt, c_le, c_gt, c_ge, c_in, c_nin, wpx_ok, wpx_err, of_some, List.getElem?_cons_zero, List.getElem?_cons_succ, Option.bind_some, Option.map_some, id_eq, assign_nm, assign_tp, item_f, item_t, item_s, wipe, List.foldr_cons, List.foldr_nil, List.foldl_cons, List.foldl_nil, List.set_cons_zero, List.set_cons_succ, Option.some.injEq, exists_eq_left', x_skip, x_asg, x_asgA, x_asgS, x_drop, x_ret, x_retN, startE, List.map_cons, List.map_nil, List.length_cons, List.length_nil, List.replicate_succ, List.replicate_zero, List.cons_append, List.nil_append, Nat.sub_self, Nat.zero_add, Nat.reduceAdd, Nat.reduceSub, List.zip_cons_cons, List.zip_nil_left, if_true, Bool.false_eq_true, if_false, insAt_tup, insAt_str, insAt_int, opSub_tup, atI0, atI1, atI2, atI3, Val.int.injEq])
    refine (table_of_w hT D V.copied V.table (hpl.frame k314) p (by omega)).to ?_
    rintro vt s15 ⟨k15, ht15⟩
    have k315 := k314.tr k15
    refine (right_w hT D M W (hpl.frame k315) p (ht15.weak fun _ _ h => h.elim) (Rep.frame hs14 k15) (fun x hx => ⟨(G14 x hx).laid, (G14 x hx).len⟩) (by omega)).to ?_
    rintro _ s16 ⟨k16, rfl⟩
    simp only [truthy, of_some, wpx_ok, Bool.not_true, Bool.false_eq_true, if_false]
    have k316 := k315.tr k16
    -- the table by name
    rw [x_seq, x_asg]
    refine e_mk2 (by rw [hT.cl]; rfl) hkw ?_
    rw [l_cons, e_call V.copied]
    (simp only [e_var, e_non, e_bl, e_int, e_str, e_bin, e_neg, e_cmp, e_tup, e_lst, e_bi, e_sub, e_attr, e_om, e_ife, sH_var, sH_int, sH_neg, sL_bin, s2_vb, l_nil, l_cons, wt_and, wt_or, wt_not, wt_cmp, wt_chn, t_bi, t_var, i_var, i_sub, i_attr, i_call, i_slc, wi_rng1, wi_rng2, c_lt, c_le, c_gt, c_ge, c_in, c_nin, wpx_ok, wpx_err, of_some, List.getElem?_cons_zero, List.getElem?_cons_succ, Option.bind_some, Option.map_some, id_eq, assign_nm, assign_tp, item_f, item_t, item_s, wipe, List.foldr_cons, List.foldr_nil, List.foldl_cons, List.foldl_nil, List.set_cons_zero, List.set_cons_succ, Option.some.injEq, exists_eq_left', x_skip, x_asg, x_asgA, x_asgS, x_drop, x_ret, x_retN, startE, List.map_cons, List.map_nil, List.length_cons, List.length_nil, List.replicate_succ, List.replicate_zero, List.cons_append, List.nil_append, Nat.sub_self, Nat.zero_add, Nat.reduceAdd, Nat.reduceSub, List.zip_cons_cons, List.zip_nil_left, if_true, Bool.false_eq_true, if_false, insAt_tup, insAt_str, insAt_int, opSub_tup, atI0, atI1, atI2, atI3, Val.int.injEq])
    refine (lcopied_w V.copied (Rep.frame hvb k316) (by have := p.le; unfold line; omega) (fun x hx => by have := p.lt x hx; unfold line; omega) (by omega)).to ?_
    rintro v17 s17 ⟨k17, h17⟩
    have k317 := k316.tr k17
    refine list_w (Rep.frame hva k317) fun s18 k18 h18 => ?_
    have k318 := k317.tr k18
    refine ⟨_, _, rfl, ?_⟩
    refine (make_w hT D (H := No) (Rep.weak h18 fun _ _ h => h.elim) (Rep.weak (Rep.frame h17 (k18.weak fun _ _ h => h.elim)) fun _ _ h => h.elim) p.okP (by omega)).mono ?_ ?_
    · rintro v19 s19 ⟨k19, h19, _⟩
      have k319 := k318.tr k19
      rw [x_ifs, wt_not, t_call W.right]
      (simp only [e_var, e_non, e_bl, e_int, e_str, e_bin, e_neg, e_cmp, e_tup, e_lst, e_bi, e_sub, e_attr, e_om, e_ife, sH_var, sH_int, sH_neg, sL_bin, s2_vb, l_nil, l_cons, wt_and, wt_or, wt_not, wt_cmp, wt_chn, t_bi, t_var, i_var, i_sub, i_attr, i_call, i_slc, wi_rng1, wi_rng2, c_lt, c_le, c_gt, c_ge, c_in, c_nin, wpx_ok, wpx_err, of_some, List.getElem?_cons_zero, List.getElem?_cons_succ, Option.bind_some, Option.map_some, id_eq, assign_nm, assign_tp, item_f, item_t, item_s, wipe, List.foldr_cons, List.foldr_nil, List.foldl_cons, List.foldl_nil, List.set_cons_zero, List.set_cons_succ, Option.some.injEq, exists_eq_left', x_skip, x_asg, x_asgA, x_asgS, x_drop, x_ret, x_retN, startE, List.map_cons, List.map_nil, List.length_cons, List.length_nil, List.replicate_succ, List.replicate_zero, List.cons_append, List.nil_append, Nat.sub_self, Nat.zero_add, Nat.reduceAdd, Nat.reduceSub, List.zip_cons_cons, List.zip_nil_left, if_true, Bool.false_eq_true, if_false, insAt_tup, insAt_str, insAt_int, opSub_tup, atI0, atI1, atI2, atI3, Val.int.injEq])
      have k1619 := (k17.tr k18).tr k19
      refine slc_to_w (k := 4) (Rep.frame hs14 (k15.tr (k16.tr k1619))) fun s20 k20 h20 => ?_
      have k320 := k319.tr k20
      refine (right_w hT D M W (hpl.frame k320) p ((h19.weak fun _ _ h => h.elim).frame k20) (Rep.weak h20 fun _ _ h => h.elim) (fun x hx => ⟨(G14 x (List.mem_of_mem_take hx)).laid, (G14 x (List.mem_of_mem_take hx)).len⟩) (by omega)).to ?_
      rintro _ s21 ⟨k21, rfl⟩
      simp only [truthy, of_some, wpx_ok, Bool.not_true, Bool.false_eq_true, if_false]
      exact ⟨k03.tr (k320.tr k21), _, _, _, _, _, _, rfl⟩
    · rintro c' w s19 ⟨_, h19⟩
      rw [p.noF] at h19
      cases h19
  · rintro e s ⟨k, a1, a2, a3, a4, a5, a6, rfl⟩
    (simp only [e_var, e_non, e_bl, e_int, e_str, e_bin, e_neg, e_cmp, e_tup, e_lst, e_bi, e_sub, e_attr, e_om, e_ife, sH_var, sH_int, sH_neg, sL_bin, s2_vb, l_nil, l_cons, wt_and, wt_or, wt_not, wt_cmp, wt_chn, t_bi, t_var, i_var, i_sub, i_attr, i_call, i_slc, wi_rng1, wi_rng2, c_lt, c_le, c_gt, c_ge, c_in, c_nin, wpx_ok, wpx_err, of_some, List.getElem?_cons_zero, List.getElem?_cons_succ, Option.bind_some, Option.map_some, id_eq, assign_nm, assign_tp, item_f, item_t, item_s, wipe, List.foldr_cons, List.foldr_nil, List.foldl_cons, List.foldl_nil, List.set_cons_zero, List.set_cons_succ, Option.some.injEq, exists_eq_left', x_skip, x_asg, x_asgA, x_asgS, x_drop, x_ret, x_retN, startE, List.map_cons, List.map_nil, List.length_cons, List.length_nil, List.replicate_succ, List.replicate_zero, List.cons_append, List.nil_append, Nat.sub_self, Nat.zero_add, Nat.reduceAdd, Nat.reduceSub, List.zip_cons_cons, List.zip_nil_left, if_true, Bool.false_eq_true, if_false, insAt_tup, insAt_str, insAt_int, opSub_tup, atI0, atI1, atI2, atI3, Val.int.injEq])
end AM
end

section
set_option maxRecDepth 100000
set_option maxHeartbeats 0
open PySem PySem.W PySem.Calls PyProof.Rows
namespace K02
open AM
theorem h_cons : Cons text.p := ⟨by kernel_rfl, by kernel_rfl, by kernel_rfl, by kernel_rfl, by kernel_rfl, by kernel_rfl, by kernel_rfl, by kernel_rfl, ⟨by kernel_rfl, by kernel_rfl⟩⟩
theorem h_tab : Tab text.p (cinfo 0) := ⟨by kernel_rfl, by kernel_rfl, by kernel_rfl, by kernel_rfl, by kernel_rfl, by kernel_rfl, by kernel_rfl, by kernel_rfl, by kernel_rfl⟩
theorem h_tabd : TabD text.p := ⟨⟨by kernel_rfl, by kernel_rfl⟩, ⟨by kernel_rfl, by kernel_rfl⟩, ⟨by kernel_rfl, by kernel_rfl⟩, ⟨by kernel_rfl, by kernel_rfl⟩, ⟨by kernel_rfl, by kernel_rfl⟩, ⟨by kernel_rfl, by kernel_rfl⟩, by kernel_rfl, h_cons⟩
theorem h_tabm : TabM text.p := ⟨by kernel_rfl, by kernel_rfl, by kernel_rfl, by kernel_rfl, by kernel_rfl, by kernel_rfl⟩
theorem h_law2 : Law2 text.p := ⟨⟨by kernel_rfl, by kernel_rfl⟩, ⟨by kernel_rfl, by kernel_rfl⟩, ⟨by kernel_rfl, by kernel_rfl⟩, ⟨by kernel_rfl, by kernel_rfl⟩, ⟨by kernel_rfl, by kernel_rfl⟩⟩
theorem h_law1 : Law1 text.p := ⟨⟨by kernel_rfl, by kernel_rfl⟩, ⟨by kernel_rfl, by kernel_rfl⟩, ⟨by kernel_rfl, by kernel_rfl⟩, ⟨by kernel_rfl, by kernel_rfl⟩, ⟨by kernel_rfl, by kernel_rfl⟩, ⟨by kernel_rfl, by kernel_rfl⟩⟩
theorem run_all : ∀ ns : List Int, ns.length ≤ 63 → ∃ s, callF text.p 40 "law" [.ref 0] (scr ns) = .ok (.bl true) s := by
  intro ns h
  obtain ⟨v, s, e, rfl⟩ := (law2_w h_tab h_tabd h_tabm h_law2 h_law1 (by kernel_rfl) (by kernel_rfl) ns h (n := 40) (by decide)).ex
  exact ⟨s, e⟩
end K02
theorem PySem.Challenge.cw_keptworths_k02_tables_told_holds : PySem.Challenge.rw_keptworths_k02_tables_told.Holds := by
  exact K02.holds_of K02.run_all
end
