import PyProof.Rows.All
import Wide.All
import OpenK.AllK
import Wide.FinOn
import Wide.Words
import HandS.ForMost
import HandS.ForExc
import HandS.Lambda
import HandS.IsInst
import HandS.TupMul
import HandS.TupAny
import HandS.Deep
import HandS.Style
import PyProof.Rows.IntBool
import HandS.RaiseMore
import PyProof.CallStr
import HandS.Conv
import KE.KRevSl
import KE.KIntText
import HandS.SortRule
import PyProof.Rows.SortKeyStr
import HandS.Iter
import HandS.DictComp
import HandS.EndTab
import HandS.FStr
import HandS.SortKw
import KE.DataMinMax
import ObjForm.LawKit
import HandS.Words
import HandS.Star
import HandS.SetTxt0
import HandS.TupSets
import HandS.Strs
import KE.KeyNested
import HandS.SortOrd
import HandS.ExcIs
import HandS.ExcField
import HandS.ExcInit
import KE.KNest
import PyProof.ReprLen
import PyProof.Rows.ReprOcc
import PyProof.Rows.StrDigits
import PyProof.Rows.StrJoinMade
import PyProof.Rows.StrDigitsNeg
import PyProof.P3Eq
import PySem.Challenge.RW_outandover_k64_free_programs
set_option Elab.async false
set_option linter.all false
set_option maxRecDepth 100000
/-! A small language over plain data, in which the defs of the program and of the law are said again. -/
namespace Pv
open PySem
abbrev D := PyData
/-- what a slot holds: plain data; a def; a list or a dict that nobody else holds (lck: while it is walked) -/
inductive Vl where
  | dat (d : D)
  | fn (k : Nat)
  | lst (ds : List D)
  | lck (ds : List D)
  | dct (kvs : List (Str × D))
  /-- .. that nobody may change any more -/
  | fdct (kvs : List (Str × D))
  /-- the script: read by one slice alone -/
  | scr (ns : List Int)
  /-- a caught error: its class, its fields -/
  | err (c : Nat) (fs : List (Str × D))
abbrev Env := List (Option Vl)
/-- a raised error: its class, its fields -/
structure Ex where
  cls : Nat
  fields : List (Str × D)
inductive Res (α : Type) where
  | ok (a : α)
  | exc (x : Ex) (ρ : Env)
  | stuck
namespace Res
def bind {α β : Type} : Res α → (α → Res β) → Res β
  | ok a, k => k a
  | exc x ρ, _ => exc x ρ
  | stuck, _ => stuck
@[simp] theorem bind_ok {α β : Type} (a : α) (k : α → Res β) : (Res.ok a).bind k = k a := rfl
@[simp] theorem bind_exc {α β : Type} (x : Ex) (ρ : Env) (k : α → Res β) : (Res.exc x ρ : Res α).bind k = .exc x ρ := rfl
@[simp] theorem bind_stuck {α β : Type} (k : α → Res β) : (Res.stuck : Res α).bind k = .stuck := rfl
end Res
/-- in a comprehension nothing may be raised -/
def Res.noX {α : Type} : Res α → Res α
  | .ok a => .ok a
  | .exc _ _ => .stuck
  | .stuck => .stuck
@[simp] theorem Res.noX_ok {α : Type} (a : α) : (Res.ok a).noX = .ok a := rfl
def get {α : Type} (o : Option α) : Res α := match o with
  | some a => .ok a
  | none => .stuck
@[simp] theorem get_some {α : Type} (a : α) : get (some a) = .ok a := rfl
@[simp] theorem get_none {α : Type} : get (none : Option α) = .stuck := rfl
def need (b : Bool) : Option Unit := if b then some () else none
inductive Bin where
  | add | sub | mul | fdiv | mod | pow
  deriving DecidableEq
inductive Cmp where
  | eq | ne | lt | le | gt | ge | mem | nmem | is | nis
  deriving DecidableEq
/-- the built-in classes that isinstance asks for -/
inductive Ty where
  | int | bool | str | tuple | list
  deriving DecidableEq
inductive Blt where
  | len | isi (t : Ty) | int | list | tuple | all | sorted | repr | ord | str | rngl | rngt | upper | sortp | dict | sum | any | sset | ssetp
  deriving DecidableEq
/-- what is walked: a list, tuple or text; range(n); enumerate(xs) -/
inductive Wkd where
  | seq | rng | enum | dn | rg2
  deriving DecidableEq
/-- what a for or a comprehension stores into -/
inductive Tg where
  | nm (i : Nat)
  | tp (is : List Nat)
inductive Mth where
  | split | part | starts
inductive T where
  | var (i : Nat)
  | cst (d : D)
  | fn (k : Nat)
  | tup (es : List T)
  | fstr (es : List T)
  | join (a e : T)
  | lst (es : List T)
  | dct (ks : List Str) (es : List T)
  | bin (o : Bin) (a b : T)
  | neg (a : T)
  | not (a : T)
  | and (a b : T)
  | or (a b : T)
  | ite (c a b : T)
  | cmp (o : Cmp) (a b : T)
  | chn (o o' : Cmp) (a b c : T)
  | ix (a i : T)
  | ixd (i : Nat) (k : T)
  | ind (neg : Bool) (k : T) (i : Nat)
  | sl (a : T) (lo hi : Option T)
  | slb (a : T)
  | sls (a i : T) (k : Nat)
  | cut (i : Nat) (n : Nat)
  | call (k : Nat) (es : List T)
  | callv (i : Nat) (es : List T)
  /-- the arguments stand in the other order -/
  | callr (k : Nat) (es : List T)
  | blt (b : Blt) (e : T)
  | comp (elt : T) (own : List Nat) (tg : Tg) (k : Wkd) (it : T) (c : Option T)
  | dget (e k : T)
  | mx (a b : T)
  | dcomp (key val : T) (own : List Nat) (tg : Tg) (k : Wkd) (it : T)
  /-- a name whose list is given up to all -/
  | frz (i : Nat)
  /-- isinstance of the caught error in slot i: the classes that are below -/
  | isx (i : Nat) (cs : List Nat)
  /-- its field -/
  | xfl (i : Nat) (f : Str)
  /-- heard(lambda: e): tag, the value; of an error: by its class a tag and the fields -/
  | heard (tag : Str) (tb : List (Nat × Str × List Str)) (e : T)
  /-- two clauses: own1 the second target's names; what the second one walks is no list -/
  | comp2 (elt : T) (own own1 : List Nat) (tg : Tg) (k : Wkd) (it : T) (c : Option T) (tg1 : Tg) (k1 : Wkd) (it1 : T) (c1 : Option T)
  /-- l.index(e) -/
  | idx (a e : T)
  /-- d.get(k, e) -/
  | dgt (i : Nat) (k e : T)
  /-- l.pop() -/
  | pop (i : Nat)
  /-- sorted(d), d an own dict -/
  | skeys (i : Nat)
  /-- a.split(b), a.partition(b), a.startswith(b) -/
  | mth (o : Mth) (a b : T)
  /-- max(e, default=d) -/
  | mxd (e d : T)
inductive S where
  | asg (i : Nat) (e : T)
  | asgs (is : List Nat) (es : List T)
  | unp (is : List Nat) (e : T)
  | aug (i : Nat) (o : Bin) (e : T)
  | putd (i : Nat) (k e : T)
  | app (i : Nat) (e : T)
  | ext (i : Nat) (e : T)
  | expr (e : T)
  | ret (e : T)
  | iff (c : T) (a b : List S)
  | forl (tg : Tg) (k : Wkd) (it : T) (body : List S)
  | pass
  | brk
  | cnt
  /-- at most n turns -/
  | whl (n : Nat) (c : T) (body : List S)
  /-- an error is raised: its class, the fields' names -/
  | raise (c : Nat) (fs : List Str) (es : List T)
  /-- what must not be reached -/
  | bad
  /-- l[k] = e, l an own list -/
  | puti (i : Nat) (k e : T)
/-! ### values -/
def Vl.view : Vl → Option D
  | .err _ _ => none
  | .dat d => some d
  | .lst ds => some (.list ds)
  | .lck ds => some (.list ds)
  | .fn _ => none
  | .dct _ => none
  | .fdct _ => none
  | .scr _ => none
def Vl.own : Vl → Bool
  | .err _ _ => false
  | .dat _ => false
  | .fn _ => false
  | .lst _ => true
  | .lck _ => true
  | .dct _ => true
  | .fdct _ => false
  | .scr _ => false
/-- .. which may be changed -/
def Vl.mut : Vl → Bool
  | .err _ _ => false
  | .dat _ => false
  | .fn _ => false
  | .lst _ => true
  | .lck _ => false
  | .dct _ => true
  | .fdct _ => false
  | .scr _ => false
/-- a list or a dict, given up or not -/
def LL : Vl → Bool
  | .dat (.list _) => true
  | .lst _ => true
  | .lck _ => true
  | .dct _ => true
  | _ => false
theorem mut_LL {v : Vl} (h : v.mut = true) : LL v = true := by cases v <;> first | rfl | cases h
theorem mut_own {v : Vl} (h : v.mut = true) : v.own = true := by cases v <;> first | rfl | cases h
/-- a value given up to all -/
def Vl.frz : Vl → Option D
  | .err _ _ => none
  | .dat d => some d
  | .lst ds => some (.list ds)
  | .lck _ => none
  | .fn _ => none
  | .dct _ => none
  | .fdct _ => none
  | .scr _ => none
/-- an operand: a value, or a slot that is looked at -/
inductive Opn where
  | vl (v : Vl)
  | pk (i : Nat)
def look (ρ : Env) : Opn → Option D
  | .vl v => v.view
  | .pk i => match ρ[i]? with
    | some (some v) => v.view
    | _ => none
/-- an own dict's item -/
def keyOf : Vl → Option Str
  | .dat (.str k) => some k
  | _ => none
def valD (kvs : List (Str × D)) (k : Str) : Option D := (kvs.find? fun q => decide (q.1 = k)).map (·.2)
def putD (kvs : List (Str × D)) (k : Str) (d : D) : List (Str × D) :=
  if (kvs.any fun q => decide (q.1 = k)) = true then kvs.map (fun q => if q.1 = k then (q.1, d) else q) else kvs ++ [(k, d)]
def lookD (ρ : Env) (i : Nat) (v : Vl) : Option (Option D) := match keyOf v, ρ[i]? with
  | some k, some (some (.dct kvs)) => some (valD kvs k)
  | some k, some (some (.fdct kvs)) => some (valD kvs k)
  | _, _ => none
def T.isVar : T → Option Nat
  | .var i => some i
  | _ => none
def opnd (a : T) (k : Env → Res (Vl × Env)) (ρ : Env) : Res (Opn × Env) := match a.isVar with
  | some i => match ρ[i]? with
    | some (some _) => .ok (.pk i, ρ)
    | _ => .stuck
  | none => (k ρ).bind fun p => .ok (.vl p.1, p.2)
/-! ### operations on data -/
def lim : Nat := 16777216
def sizeOk (n : Nat) : Bool := decide (n ≤ 16777216)
def bin2 : Bin → D → D → Option Vl
  | .add, .int i, .int j => some (.dat (.int (i + j)))
  | .add, .str x, .str y => if sizeOk (x.length + y.length) then some (.dat (.str (x ++ y))) else none
  | .add, .list xs, .list ys => if sizeOk (xs.length + ys.length) then some (.lst (xs ++ ys)) else none
  | .add, .tuple xs, .tuple ys => if sizeOk (xs.length + ys.length) then some (.dat (.tuple (xs ++ ys))) else none
  | .add, .bool b, .int j => some (.dat (.int ((if b = true then (1 : Int) else 0) + j)))
  | .sub, .int i, .int j => some (.dat (.int (i - j)))
  | .sub, .bool b, .int j => some (.dat (.int ((if b = true then (1 : Int) else 0) - j)))
  | .sub, .int i, .bool b => some (.dat (.int (i - if b = true then (1 : Int) else 0)))
  | .mul, .int i, .int j => if decide (-(2 ^ 64) < i ∧ i < 2 ^ 64) || decide (-(2 ^ 64) < j ∧ j < 2 ^ 64) then some (.dat (.int (i * j))) else none
  | .fdiv, .int i, .int j => if decide (0 < j ∧ j < 1073741824) then some (.dat (.int (i / j))) else none
  | .mod, .int i, .int j => if decide (0 < j) then some (.dat (.int (i % j))) else none
  | .pow, .int i, .int j => if decide (0 ≤ j ∧ j ≤ 1000000 ∧ i.natAbs < 2 ^ 64) then some (.dat (.int (i ^ j.toNat))) else none
  | .mul, .tuple xs, .int j => if decide (-(2 ^ 62) ≤ j ∧ j ≤ 1000 ∧ xs.length ≤ 1000) then some (.dat (.tuple (List.replicate j.toNat xs).flatten)) else none
  | .mul, .str x, .int j => if decide (x.length ≠ 0 ∧ 0 ≤ j ∧ j ≤ 1000 ∧ x.length ≤ 1000) then some (.dat (.str ⟨(List.replicate j.toNat x.cps).foldl (fun p q => p ++ q) #[]⟩)) else none
  | .mul, .list xs, .int j => if decide (0 ≤ j ∧ j ≤ 1000000) && sizeOk (xs.length * j.toNat) then some (.lst (List.replicate j.toNat xs).flatten) else none
  | _, _, _ => none
def shp (d : D) : Bool := SeqAt.shaped d
def memD (x : D) : D → Option Bool
  | .list ys => some (ys.any fun z => PyData.eqv z x)
  | .tuple ys => some (ys.any fun z => PyData.eqv z x)
  | _ => none
def strIn (x y : Str) : Bool := !(Builtin.Str.occurrences y x 0 y.length 1).isEmpty
def isNone : D → Bool
  | .none => true
  | _ => false
def cmp2 : Cmp → D → D → Option Bool
  | .eq, x, y => if shp x && shp y then some (PyData.eqv x y) else none
  | .ne, x, y => if shp x && shp y then some (!PyData.eqv x y) else none
  | .lt, .int i, .int j => some (decide (i < j))
  | .le, .int i, .int j => some (decide (i ≤ j))
  | .gt, .int i, .int j => some (decide (j < i))
  | .ge, .int i, .int j => some (decide (j ≤ i))
  | .mem, .str x, .str y => some (strIn x y)
  | .mem, x, y => if shp x && shp y then memD x y else none
  | .nmem, .str x, .str y => some (!strIn x y)
  | .nmem, x, y => if shp x && shp y then (memD x y).map (!·) else none
  | .is, x, .none => some (isNone x)
  | .is, .bool a, .bool b => some (decide (a = b))
  | .nis, x, .none => some (!isNone x)
  | .nis, .bool a, .bool b => some (!decide (a = b))
  | _, _, _ => none
def seqOf : D → Option (List D)
  | .list xs => some xs
  | .tuple xs => some xs
  | .str x => if sizeOk x.length then some (x.cps.toList.map fun c => .str ⟨#[c]⟩) else none
  | _ => none
def ix2 : D → D → Option D
  | .list xs, .int i => L2.atI xs i
  | .tuple xs, .int i => L2.atI xs i
  | .str x, .int i => if sizeOk x.length then (L2.atI x.cps.toList i).map fun c => .str ⟨#[c]⟩ else none
  | _, _ => none
def cutL {α : Type} (xs : List α) (lo hi : Option Int) : List α :=
  (xs.drop (HT.sIx xs.length 0 lo)).take (HT.sIx xs.length xs.length hi - HT.sIx xs.length 0 lo)
def slice2 (lo hi : Option Int) : D → Option Vl
  | .list xs => some (.lst (cutL xs lo hi))
  | .tuple xs => some (.dat (.tuple (cutL xs lo hi)))
  | .str x => if sizeOk x.length then some (.dat (.str (L2.cutS x lo hi))) else none
  | _ => none
def rev1 : D → Option Vl
  | .list xs => some (.lst xs.reverse)
  | .tuple xs => some (.dat (.tuple xs.reverse))
  | _ => none
/-- a field of an f-string -/
def txtOf : Vl → Option Str
  | .dat (.str x) => if sizeOk x.length then some x else none
  | .dat (.int i) => if decide (i.natAbs.log2 < 1920) then some (toString i) else none
  | _ => none
def itemsL : D → Option (List D)
  | .list xs => some xs
  | .tuple xs => some xs
  | _ => none
def pickB {α : Type} (b : Int × Int × Int) (xs : List α) : List α := (sliceRange b.1 b.2.1 b.2.2).filterMap (fun i => xs[i]?)
def steps2 (k : Nat) : D → D → Option Vl
  | .list xs, .int i => if k = 0 then none else some (.lst (pickB (sliceBounds (some i) none (some (k : Int)) xs.length) xs))
  | _, _ => none
def nums (n : Nat) : List D := (List.range n).map fun (k : Nat) => .int (k : Int)
def enumD (n : Int) : List D → List D
  | [] => []
  | d :: ds => .tuple [.int n, d] :: enumD (n + 1) ds
/-- n, n - 1, .., 1 -/
def downs (n : Nat) : List D := (List.range n).map fun (k : Nat) => .int ((n : Int) - (k : Int))
/-- i, i + 1, .. : n numbers -/
def numsF (i : Int) (n : Nat) : List D := (List.range n).map fun (k : Nat) => .int (i + (k : Int))
def itemsOf : Wkd → D → Option (List D)
  | .seq, d => seqOf d
  | .rng, .int i => if decide (0 ≤ i ∧ i ≤ 16777216) then some (nums i.toNat) else none
  | .enum, .list xs => if sizeOk xs.length then some (enumD 0 xs) else none
  | .dn, .int i => if decide (0 ≤ i ∧ i ≤ 16777216) then some (downs i.toNat) else none
  | .rg2, .tuple [.int i, .int j] => if decide (-16777216 ≤ i ∧ i ≤ 16777216 ∧ -16777216 ≤ j ∧ j ≤ 16777216 ∧ j - i ≤ 16777216) then some (numsF i (j - i).toNat) else none
  | _, _ => none
def isiD : Ty → D → Bool
  | .int, .int _ => true
  | .int, .bool _ => true
  | .bool, .bool _ => true
  | .str, .str _ => true
  | .tuple, .tuple _ => true
  | .list, .list _ => true
  | _, _ => false
def strsOf : List D → Option (List Str)
  | [] => some []
  | .str x :: r => (strsOf r).map (x :: ·)
  | _ :: _ => none
/-- the texts in order -/
def leS (x y : Str) : Bool := !Spec.ltCps y.cps.toList x.cps.toList
def join2 (a : Str) (x : D) : Option Str := (itemsL x).bind fun xs => (strsOf xs).bind fun ys => if decide ((ys.map (·.length)).sum + ys.length * a.length ≤ 16777216) then some (Txt.join a ys) else none
def sortS (xs : List Str) : List Str := xs.mergeSort leS
/-- pairs of a text and a whole number, in order -/
def ltSI (p q : Str × Int) : Bool := if p.1 = q.1 then decide (p.2 < q.2) else decide (p.1.cps.toList < q.1.cps.toList)
def leP (p q : Str × Int) : Bool := !ltSI q p
def pairsOf : List D → Option (List (Str × Int))
  | [] => some []
  | .tuple [.str x, .int i] :: r => (pairsOf r).map ((x, i) :: ·)
  | _ :: _ => none
def pairD (p : Str × Int) : D := .tuple [.str p.1, .int p.2]
def sortP (xs : List (Str × Int)) : List (Str × Int) := xs.mergeSort leP
def kvOf : List D → Option (List (Str × D))
  | [] => some []
  | .tuple [.str k, d] :: r => (kvOf r).map ((k, d) :: ·)
  | _ :: _ => none
def mergeD (kvs more : List (Str × D)) : List (Str × D) := more.foldl (fun acc q => putD acc q.1 q.2) kvs
def intsOf : List D → Option (List Int)
  | [] => some []
  | .int x :: r => (intsOf r).map (x :: ·)
  | _ :: _ => none
def boolsOf : List D → Option (List Bool)
  | [] => some []
  | .bool x :: r => (boolsOf r).map (x :: ·)
  | _ :: _ => none
/-- of a text and a text -/
def mth2 : Mth → Str → Str → Option Vl
  | .split, a, b => if b.length ≠ 0 ∧ a.length + 2 ≤ 16777216 then some (.lst ((Txt.split a b).map .str)) else none
  | .part, a, b => if b.length ≠ 0 ∧ a.length ≤ 16777216 then some (.dat (.tuple [.str (Txt.partition a b).1, .str (Txt.partition a b).2.1, .str (Txt.partition a b).2.2])) else none
  | .starts, a, b => some (.dat (.bool (Txt.startswith a b)))
/-- each text once -/
def oneS : List Str → List Str
  | [] => []
  | x :: r => if decide (x ∈ r) then oneS r else x :: oneS r
/-- each pair once -/
def oneP : List (Str × Int) → List (Str × Int)
  | [] => []
  | x :: r => if decide (x ∈ r) then oneP r else x :: oneP r
def blt1 : Blt → D → Option Vl
  | .len, .list xs => some (.dat (.int xs.length))
  | .len, .tuple xs => some (.dat (.int xs.length))
  | .len, .str x => if sizeOk x.length then some (.dat (.int x.length)) else none
  | .isi t, d => some (.dat (.bool (isiD t d)))
  | .int, .int i => some (.dat (.int i))
  | .int, .bool b => some (.dat (.int (if b then 1 else 0)))
  | .int, .str x => if x.length ≤ 640 then (intText? x).map fun n => .dat (.int n) else none
  | .list, .list xs => some (.lst xs)
  | .list, .tuple xs => some (.lst xs)
  | .tuple, .list xs => some (.dat (.tuple xs))
  | .tuple, .tuple xs => some (.dat (.tuple xs))
  | .sum, .list xs => (intsOf xs).map fun ns => .dat (.int ns.sum)
  | .all, .list xs => (boolsOf xs).map fun bs => .dat (.bool (bs.all id))
  | .any, .list xs => (boolsOf xs).map fun bs => .dat (.bool (bs.any id))
  | .sorted, .list xs => if decide (xs.length < 64) then (strsOf xs).map fun ys => .lst ((sortS ys).map .str) else none
  | .repr, d => if d.canLay0 && d.showable && sizeOk d.shown.length && decide (d.depth ≤ 60) then some (.dat (.str d.shown)) else none
  | .ord, .str x => if x.length = 1 then some (.dat (.int (x.cps.getD 0 0 : Nat))) else none
  | .str, .int i => if decide (i.natAbs.log2 < 1920) then some (.dat (.str (toString i))) else none
  | .str, .bool b => some (.dat (.str (if b then "True" else "False")))
  | .str, .str x => some (.dat (.str x))
  | .rngl, .int i => if decide (0 ≤ i ∧ i ≤ 16777216) then some (.lst (nums i.toNat)) else none
  | .rngt, .int i => if decide (0 ≤ i ∧ i ≤ 16777216) then some (.dat (.tuple (nums i.toNat))) else none
  | .upper, .str x => if decide (x.length ≤ 5592405) then some (.dat (.str (Txt.upper x))) else none
  | .dict, .list xs => (kvOf xs).map fun kvs => .dct (mergeD [] kvs)
  | .sortp, .list xs => (pairsOf xs).map fun ps => .lst ((sortP ps).map pairD)
  | .sset, .list xs => if decide (xs.length < 64) then (strsOf xs).map fun ys => .lst ((sortS (oneS ys)).map .str) else none
  | .ssetp, .list xs => if decide (xs.length < 64) then (pairsOf xs).map fun ps => .lst ((sortP (oneP ps)).map pairD) else none
  | .ssetp, .tuple xs => if decide (xs.length < 64) then (pairsOf xs).map fun ps => .lst ((sortP (oneP ps)).map pairD) else none
  | _, _ => none
/-- no list, nothing that stands in one -/
def flat : Wkd → D → Bool
  | .seq, .list _ => false
  | .enum, _ => false
  | _, _ => true
def idx2 : D → D → Option Int
  | .list xs, y => if shp (.list xs) && shp y then (xs.findIdx? fun z => PyData.eqv z y).map fun (n : Nat) => (n : Int) else none
  | _, _ => none
/-! ### the env -/
def Env.put (ρ : Env) (i : Nat) (v : Vl) : Option Env := if decide (i < ρ.length) then some (ρ.set i (some v)) else none
def Env.puts : Env → List Nat → List D → Option Env
  | ρ, [], [] => some ρ
  | ρ, i :: is, d :: ds => (ρ.put i (.dat d)).bind fun ρ' => Env.puts ρ' is ds
  | _, _, _ => none
def Env.wipe (ρ : Env) : List Nat → Env
  | [] => ρ
  | i :: is => (Env.wipe ρ is).set i none
/-- the slots at is as they stand in ρ₀ -/
def keepV : Option (Option Vl) → Option Vl
  | some (some v) => some v
  | _ => none
def Env.back (ρ₀ ρ : Env) : List Nat → Env
  | [] => ρ
  | i :: is => (Env.back ρ₀ ρ is).set i (keepV ρ₀[i]?)
/-- a comprehension's own names may not hide what is held alone -/
def ownOk (ρ : Env) (own : List Nat) : Bool := own.all fun i => match ρ[i]? with
  | some (some v) => !v.own
  | _ => true
def store (tg : Tg) (d : D) (ρ : Env) : Option Env := match tg with
  | .nm i => ρ.put i (.dat d)
  | .tp is => match d with
    | .tuple ds => if ds.length = is.length then ρ.puts is ds else none
    | _ => none
/-- what is walked is locked -/
def lockO (o : Opn) (ρ : Env) : Env := match o with
  | .vl _ => ρ
  | .pk i => match ρ[i]? with
    | some (some (.lst ds)) => ρ.set i (some (.lck ds))
    | _ => ρ
def unlockO (ρ₀ : Env) (o : Opn) (ρ : Env) : Env := match o with
  | .vl _ => ρ
  | .pk i => match ρ₀[i]?, ρ[i]? with
    | some (some (.lst _)), some (some (.lck ds)) => ρ.set i (some (.lst ds))
    | _, _ => ρ
inductive Flow where
  | nx | brk | cnt
  | ret (v : Vl)
/-- what a call hands back: the value, its parameters' slots -/
abbrev Fun := Nat → List Vl → Res (Vl × List (Option Vl))
/-- an argument -/
inductive Arg where
  | vl (v : Vl)
  | lend (i : Nat)
def argVal : Vl → Option Vl
  | .err _ _ => none
  | .fn k => some (.fn k)
  | .scr ns => some (.scr ns)
  | .dat d => some (.dat d)
  | .lst ds => some (.dat (.list ds))
  | .lck _ => none
  | .dct kvs => some (.fdct kvs)
  | .fdct kvs => some (.fdct kvs)
def argOf (a : T) (k : Env → Res (Vl × Env)) (ρ : Env) : Res (Arg × Env) :=
  match a.isVar with
  | some i => match ρ[i]? with
    | some (some (.lst _)) => .ok (.lend i, ρ)
    | some (some (.dct _)) => .ok (.lend i, ρ)
    | _ => (k ρ).bind fun p => (get (argVal p.1)).bind fun v => .ok (.vl v, p.2)
  | none => (k ρ).bind fun p => (get (argVal p.1)).bind fun v => .ok (.vl v, p.2)
def lends : List Arg → List Nat
  | [] => []
  | .lend i :: r => i :: lends r
  | .vl _ :: r => lends r
def argV (ρ : Env) : Arg → Option Vl
  | .vl v => some v
  | .lend i => match ρ[i]? with
    | some (some (.lst ds)) => some (.lst ds)
    | some (some (.dct kvs)) => some (.dct kvs)
    | _ => none
def argVs (ρ : Env) : List Arg → Option (List Vl)
  | [] => some []
  | a :: r => (argV ρ a).bind fun v => (argVs ρ r).map (v :: ·)
def giveBack (ρ : Env) : List Arg → List (Option Vl) → Option Env
  | [], [] => some ρ
  | .vl _ :: r, _ :: s => giveBack ρ r s
  | .lend i :: r, some v :: s => giveBack (ρ.set i (some v)) r s
  | _, _ => none
def nodupB : List Nat → Bool
  | [] => true
  | i :: r => !r.contains i && nodupB r
/-- the call itself -/
def doCall (f : List Vl → Res (Vl × List (Option Vl))) (as : List Arg) (ρ : Env) : Res (Vl × Env) :=
  if nodupB (lends as) then
    (get (argVs ρ as)).bind fun vs => match f vs with
      | .ok (v, fin) => (get (giveBack ρ as fin)).bind fun ρ' => .ok (v, ρ')
      | .exc x fin => match giveBack ρ as fin with
        | some ρ' => .exc x ρ'
        | none => .stuck
      | .stuck => .stuck
  else .stuck
def truth : Vl → Option Bool
  | .dat (.bool b) => some b
  | _ => none
/-- a comprehension's turns -/
def compTurns (own : List Nat) (tg : Tg) (c : Env → Res (Bool × Env)) (f : Env → Res (Vl × Env)) : List D → List D → Env → Res (List D × Env)
  | [], acc, ρ => .ok (acc, ρ)
  | d :: ds, acc, ρ => (get (store tg d (ρ.wipe own))).bind fun ρ1 => (c ρ1).bind fun p => match p.1 with
    | true => (f p.2).bind fun q => (get q.1.frz).bind fun y => compTurns own tg c f ds (acc ++ [y]) q.2
    | false => compTurns own tg c f ds acc p.2
/-- a dict comprehension's turns -/
def dcTurns (own : List Nat) (tg : Tg) (fk fv : Env → Res (Vl × Env)) : List D → List (Str × D) → Env → Res (List (Str × D) × Env)
  | [], acc, ρ => .ok (acc, ρ)
  | d :: ds, acc, ρ => (get (store tg d (ρ.wipe own))).bind fun ρ1 => (fk ρ1).bind fun p => (get (keyOf p.1)).bind fun k => (fv p.2).bind fun q => (get q.1.frz).bind fun y => dcTurns own tg fk fv ds (putD acc k y) q.2
/-- .. of two clauses -/
def comp2Turns (own own1 : List Nat) (tg tg1 : Tg) (c : Env → Res (Bool × Env)) (g : Env → Res (List D × Env)) (c1 : Env → Res (Bool × Env)) (f : Env → Res (Vl × Env)) : List D → List D → Env → Res (List D × Env)
  | [], acc, ρ => .ok (acc, ρ)
  | d :: ds, acc, ρ => (get (store tg d (ρ.wipe own))).bind fun ρ1 => (c ρ1).bind fun p => match p.1 with
    | true => (g p.2).bind fun q => (get (need (sizeOk (acc.length + q.1.length)))).bind fun _ => (compTurns own1 tg1 c1 f q.1 acc q.2).bind fun r => comp2Turns own own1 tg tg1 c g c1 f ds r.1 r.2
    | false => comp2Turns own own1 tg tg1 c g c1 f ds acc p.2
/-- a for's turns -/
def forTurns (tg : Tg) (f : Env → Res (Flow × Env)) : List D → Env → Res (Flow × Env)
  | [], ρ => .ok (.nx, ρ)
  | d :: ds, ρ => (get (store tg d ρ)).bind fun ρ1 => (f ρ1).bind fun p => match p.1 with
    | .nx => forTurns tg f ds p.2
    | .cnt => forTurns tg f ds p.2
    | .brk => .ok (.nx, p.2)
    | .ret v => .ok (.ret v, p.2)
/-- a while's turns -/
def whileTurns (c : Env → Res (Bool × Env)) (f : Env → Res (Flow × Env)) : Nat → Env → Res (Flow × Env)
  | 0, _ => .stuck
  | n + 1, ρ => (c ρ).bind fun p => match p.1 with
    | true => (f p.2).bind fun q => match q.1 with
      | .nx => whileTurns c f n q.2
      | .cnt => whileTurns c f n q.2
      | .brk => .ok (.nx, q.2)
      | .ret v => .ok (.ret v, q.2)
    | false => .ok (.nx, p.2)
/-- what a second clause walks -/
def evW (k1 : Wkd) (it1 : T) (f : Env → Res (Vl × Env)) (ρ : Env) : Res (List D × Env) := (opnd it1 f ρ).bind fun p => (get (look p.2 p.1)).bind fun x => (get (itemsOf k1 x)).bind fun ds => (get (need (flat k1 x))).bind fun _ => .ok (ds, p.2)
/-- a call one level deeper -/
def sh (cl : Fun) : Fun := fun k vs => cl (k + 2000) vs
def xfield (fs : List (Str × D)) (f : Str) : Option D := fs.lookup f
def xfields (fs : List (Str × D)) : List Str → Option (List D)
  | [] => some []
  | f :: r => (xfield fs f).bind fun d => (xfields fs r).map (d :: ·)
/-- what is heard of an error -/
def heardX (tb : List (Nat × Str × List Str)) (x : Ex) : Option D := (tb.lookup x.cls).bind fun q => (xfields x.fields q.2).map fun ds => .tuple (.str q.1 :: ds)
/-- .. of a call -/
def heardR (tag : Str) (tb : List (Nat × Str × List Str)) : Res (Vl × Env) → Res (Vl × Env)
  | .ok (v, ρ) => (get v.frz).bind fun d => .ok (.dat (.tuple [.str tag, d]), ρ)
  | .exc x ρ => (get (heardX tb x)).bind fun d => .ok (.dat d, ρ)
  | .stuck => .stuck
/-- the greatest, or j -/
def maxZ (j : Int) : List Int → Int
  | [] => j
  | n :: r => r.foldl max n
mutual
def evE (cl : Fun) : T → Env → Res (Vl × Env)
  | .var i, ρ => match ρ[i]? with
    | some (some (.dat d)) => .ok (.dat d, ρ)
    | some (some (.fn k)) => .ok (.fn k, ρ)
    | some (some (.scr k)) => .ok (.scr k, ρ)
    | some (some (.fdct k)) => .ok (.fdct k, ρ)
    | some (some (.lst ds)) => .ok (.dat (.list ds), ρ.set i (some (.dat (.list ds))))
    | _ => .stuck
  | .frz i, ρ => match ρ[i]? with
    | some (some (.dat d)) => .ok (.dat d, ρ)
    | some (some (.fn k)) => .ok (.fn k, ρ)
    | some (some (.scr k)) => .ok (.scr k, ρ)
    | some (some (.fdct k)) => .ok (.fdct k, ρ)
    | some (some (.lst ds)) => .ok (.dat (.list ds), ρ.set i (some (.dat (.list ds))))
    | _ => .stuck
  | .isx i cs, ρ => match ρ[i]? with
    | some (some (.err c _)) => .ok (.dat (.bool (cs.contains c)), ρ)
    | _ => .stuck
  | .xfl i f, ρ => match ρ[i]? with
    | some (some (.err _ fs)) => (get (xfield fs f)).bind fun d => .ok (.dat d, ρ)
    | _ => .stuck
  | .heard tag tb e, ρ => heardR tag tb (evE (sh cl) e ρ)
  | .cst d, ρ => .ok (.dat d, ρ)
  | .fn k, ρ => .ok (.fn k, ρ)
  | .tup es, ρ => (evDs cl es ρ).bind fun p => .ok (.dat (.tuple p.1), p.2)
  | .fstr es, ρ => (evFs cl es Str.empty ρ).bind fun p => .ok (.dat (.str p.1), p.2)
  | .join a e, ρ => (evE cl a ρ).bind fun p => (get (keyOf p.1)).bind fun s => (opnd e (evE cl e) p.2).bind fun q => (get (look q.2 q.1)).bind fun x => (get (join2 s x)).bind fun z => .ok (.dat (.str z), q.2)
  | .lst es, ρ => (evDs cl es ρ).bind fun p => .ok (.lst p.1, p.2)
  | .dct ks es, ρ => (evDs cl es ρ).bind fun p => .ok (.dct (ks.zip p.1), p.2)
  | .bin o a b, ρ => (opnd a (evE cl a) ρ).bind fun p => (opnd b (evE cl b) p.2).bind fun q =>
      (get (look q.2 p.1)).bind fun x => (get (look q.2 q.1)).bind fun y => (get (bin2 o x y)).bind fun v => .ok (v, q.2)
  | .neg a, ρ => (evE cl a ρ).bind fun p => match p.1 with
    | .dat (.int i) => .ok (.dat (.int (-i)), p.2)
    | _ => .stuck
  | .not a, ρ => (evE cl a ρ).bind fun p => (get (truth p.1)).bind fun b => .ok (.dat (.bool (!b)), p.2)
  | .and a b, ρ => (evE cl a ρ).bind fun p => (get (truth p.1)).bind fun c => match c with
    | true => evE cl b p.2
    | false => .ok (.dat (.bool false), p.2)
  | .or a b, ρ => (evE cl a ρ).bind fun p => (get (truth p.1)).bind fun c => match c with
    | true => .ok (.dat (.bool true), p.2)
    | false => evE cl b p.2
  | .ite c a b, ρ => (evT cl c ρ).bind fun p => match p.1 with
    | true => evE cl a p.2
    | false => evE cl b p.2
  | .cmp o a b, ρ => (opnd a (evE cl a) ρ).bind fun p => (opnd b (evE cl b) p.2).bind fun q =>
      (get (look q.2 p.1)).bind fun x => (get (look q.2 q.1)).bind fun y => (get (cmp2 o x y)).bind fun v => .ok (.dat (.bool v), q.2)
  | .chn o o' a b c, ρ => (opnd a (evE cl a) ρ).bind fun p => (opnd b (evE cl b) p.2).bind fun q =>
      (get (look q.2 p.1)).bind fun x => (get (look q.2 q.1)).bind fun y => (get (cmp2 o x y)).bind fun v => match v with
        | true => (opnd c (evE cl c) q.2).bind fun r => (get (look r.2 q.1)).bind fun y' => (get (look r.2 r.1)).bind fun z => (get (cmp2 o' y' z)).bind fun v' => .ok (.dat (.bool v'), r.2)
        | false => .ok (.dat (.bool false), q.2)
  | .ix a i, ρ => (opnd a (evE cl a) ρ).bind fun p => (opnd i (evE cl i) p.2).bind fun q =>
      (get (look q.2 p.1)).bind fun x => (get (look q.2 q.1)).bind fun y => (get (ix2 x y)).bind fun d => .ok (.dat d, q.2)
  | .ixd i k, ρ => match ρ[i]? with
    | some (some (.dct _)) => (evE cl k ρ).bind fun p => (get (lookD p.2 i p.1)).bind fun o => (get o).bind fun d => .ok (.dat d, p.2)
    | some (some (.fdct _)) => (evE cl k ρ).bind fun p => (get (lookD p.2 i p.1)).bind fun o => (get o).bind fun d => .ok (.dat d, p.2)
    | _ => .stuck
  | .mx a b, ρ => (evE cl a ρ).bind fun p => (evE cl b p.2).bind fun q => match p.1, q.1 with
    | .dat (.int i), .dat (.int j) => .ok (.dat (.int (if j > i then j else i)), q.2)
    | _, _ => .stuck
  | .dget e k, ρ => (evE cl e ρ).bind fun p => match p.1 with
    | .dct kvs => (evE cl k p.2).bind fun q => (get (keyOf q.1)).bind fun s => (get (valD kvs s)).bind fun d => .ok (.dat d, q.2)
    | _ => .stuck
  | .ind n k i, ρ => (evE cl k ρ).bind fun p => (get (lookD p.2 i p.1)).bind fun o => .ok (.dat (.bool (n != o.isSome)), p.2)
  | .sl a lo hi, ρ => (opnd a (evE cl a) ρ).bind fun p => (evO cl lo p.2).bind fun q => (evO cl hi q.2).bind fun r =>
      (get (look r.2 p.1)).bind fun x => (get (slice2 q.1 r.1 x)).bind fun v => .ok (v, r.2)
  | .slb a, ρ => (opnd a (evE cl a) ρ).bind fun p => (get (look p.2 p.1)).bind fun x => (get (rev1 x)).bind fun v => .ok (v, p.2)
  | .sls a i k, ρ => (opnd a (evE cl a) ρ).bind fun p => (opnd i (evE cl i) p.2).bind fun q =>
      (get (look q.2 p.1)).bind fun x => (get (look q.2 q.1)).bind fun y => (get (steps2 k x y)).bind fun v => .ok (v, q.2)
  | .cut i n, ρ => match ρ[i]? with
    | some (some (.scr ns)) => .ok (.lst ((ns.take n).map .int), ρ)
    | _ => .stuck
  | .call k es, ρ => (evAs cl es ρ).bind fun p => doCall (cl k) p.1 p.2
  | .callr k es, ρ => (evAs cl es ρ).bind fun p => doCall (cl k) p.1.reverse p.2
  | .callv i es, ρ => match ρ[i]? with
    | some (some (.fn k)) => (evAs cl es ρ).bind fun p => doCall (cl k) p.1 p.2
    | _ => .stuck
  | .blt b e, ρ => (opnd e (evE cl e) ρ).bind fun p => (get (look p.2 p.1)).bind fun x => (get (blt1 b x)).bind fun v => .ok (v, p.2)
  | .comp elt own tg k it c, ρ => (opnd it (evE cl it) ρ).bind fun p => (get (look p.2 p.1)).bind fun x => (get (itemsOf k x)).bind fun ds => (get (need (ownOk p.2 own))).bind fun _ =>
      (compTurns own tg (evC cl c) (evE cl elt) ds [] (lockO p.1 p.2)).noX.bind fun q => .ok (.lst q.1, unlockO p.2 p.1 (Env.back p.2 q.2 own))
  | .dcomp key val own tg k it, ρ => (opnd it (evE cl it) ρ).bind fun p => (get (look p.2 p.1)).bind fun x => (get (itemsOf k x)).bind fun ds => (get (need (ownOk p.2 own))).bind fun _ =>
      (dcTurns own tg (evE cl key) (evE cl val) ds [] (lockO p.1 p.2)).noX.bind fun q => .ok (.dct q.1, unlockO p.2 p.1 (Env.back p.2 q.2 own))
  | .comp2 elt own own1 tg k it c tg1 k1 it1 c1, ρ => (opnd it (evE cl it) ρ).bind fun p => (get (look p.2 p.1)).bind fun x => (get (itemsOf k x)).bind fun ds => (get (need (ownOk p.2 own))).bind fun _ =>
      (comp2Turns own own1 tg tg1 (evC cl c) (evW k1 it1 (evE cl it1)) (evC cl c1) (evE cl elt) ds [] (lockO p.1 p.2)).noX.bind fun q => .ok (.lst q.1, unlockO p.2 p.1 (Env.back p.2 q.2 own))
  | .idx a e, ρ => (opnd a (evE cl a) ρ).bind fun p => (get (look p.2 p.1)).bind fun x0 => (get (need (isiD .list x0))).bind fun _ => (opnd e (evE cl e) p.2).bind fun q => (get (look q.2 p.1)).bind fun x => (get (look q.2 q.1)).bind fun y => (get (idx2 x y)).bind fun n => .ok (.dat (.int n), q.2)
  | .dgt i k e, ρ => match ρ[i]? with
    | some (some (.dct _)) => (evE cl k ρ).bind fun p => (evE cl e p.2).bind fun q => (get q.1.frz).bind fun d => (get (lookD q.2 i p.1)).bind fun o => .ok (.dat (o.getD d), q.2)
    | some (some (.fdct _)) => (evE cl k ρ).bind fun p => (evE cl e p.2).bind fun q => (get q.1.frz).bind fun d => (get (lookD q.2 i p.1)).bind fun o => .ok (.dat (o.getD d), q.2)
    | _ => .stuck
  | .pop i, ρ => match ρ[i]? with
    | some (some (.lst ds)) => (get ds.getLast?).bind fun d => .ok (.dat d, ρ.set i (some (.lst ds.dropLast)))
    | _ => .stuck
  | .mth o a b, ρ => (evE cl a ρ).bind fun p => (get (keyOf p.1)).bind fun s => (evE cl b p.2).bind fun q => (get (keyOf q.1)).bind fun t => (get (mth2 o s t)).bind fun v => .ok (v, q.2)
  | .mxd e d, ρ => (opnd e (evE cl e) ρ).bind fun p => (evE cl d p.2).bind fun q => (get (look q.2 p.1)).bind fun x => match x, q.1 with
    | .list xs, .dat (.int j) => (get (intsOf xs)).bind fun ns => .ok (.dat (.int (maxZ j ns)), q.2)
    | _, _ => .stuck
  | .skeys i, ρ => match ρ[i]? with
    | some (some (.dct kvs)) => if decide (kvs.length < 64) then .ok (.lst ((sortS (kvs.map (·.1))).map .str), ρ) else .stuck
    | _ => .stuck
/-- a test -/
def evT (cl : Fun) : T → Env → Res (Bool × Env)
  | .isx i cs, ρ => match ρ[i]? with
    | some (some (.err c _)) => .ok (cs.contains c, ρ)
    | _ => .stuck
  | .not a, ρ => (evT cl a ρ).bind fun p => .ok (!p.1, p.2)
  | .and a b, ρ => (evT cl a ρ).bind fun p => match p.1 with
    | true => evT cl b p.2
    | false => .ok (false, p.2)
  | .or a b, ρ => (evT cl a ρ).bind fun p => match p.1 with
    | true => .ok (true, p.2)
    | false => evT cl b p.2
  | .cmp o a b, ρ => (opnd a (evE cl a) ρ).bind fun p => (opnd b (evE cl b) p.2).bind fun q =>
      (get (look q.2 p.1)).bind fun x => (get (look q.2 q.1)).bind fun y => (get (cmp2 o x y)).bind fun v => .ok (v, q.2)
  | .chn o o' a b c, ρ => (opnd a (evE cl a) ρ).bind fun p => (opnd b (evE cl b) p.2).bind fun q =>
      (get (look q.2 p.1)).bind fun x => (get (look q.2 q.1)).bind fun y => (get (cmp2 o x y)).bind fun v => match v with
        | true => (opnd c (evE cl c) q.2).bind fun r => (get (look r.2 q.1)).bind fun y' => (get (look r.2 r.1)).bind fun z => (get (cmp2 o' y' z)).bind fun v' => .ok (v', r.2)
        | false => .ok (false, q.2)
  | .call k es, ρ => (evAs cl es ρ).bind fun p => (doCall (cl k) p.1 p.2).bind fun q => (get (truth q.1)).bind fun b => .ok (b, q.2)
  | .callr k es, ρ => (evAs cl es ρ).bind fun p => (doCall (cl k) p.1.reverse p.2).bind fun q => (get (truth q.1)).bind fun b => .ok (b, q.2)
  | .callv i es, ρ => match ρ[i]? with
    | some (some (.fn k)) => (evAs cl es ρ).bind fun p => (doCall (cl k) p.1 p.2).bind fun q => (get (truth q.1)).bind fun b => .ok (b, q.2)
    | _ => .stuck
  | .blt b e, ρ => (opnd e (evE cl e) ρ).bind fun p => (get (look p.2 p.1)).bind fun x => (get (blt1 b x)).bind fun v => (get (truth v)).bind fun b => .ok (b, p.2)
  | .ind n k i, ρ => (evE cl k ρ).bind fun p => (get (lookD p.2 i p.1)).bind fun o => .ok (n != o.isSome, p.2)
  | .mth o a b, ρ => (evE cl a ρ).bind fun p => (get (keyOf p.1)).bind fun s => (evE cl b p.2).bind fun q => (get (keyOf q.1)).bind fun t => (get (mth2 o s t)).bind fun v => (get (truth v)).bind fun b => .ok (b, q.2)
  | .var i, ρ => match ρ[i]? with
    | some (some (.dat (.bool b))) => .ok (b, ρ)
    | some (some (.lst ds)) => .ok (!ds.isEmpty, ρ)
    | _ => .stuck
  | .ix a i, ρ => (opnd a (evE cl a) ρ).bind fun p => (opnd i (evE cl i) p.2).bind fun q =>
      (get (look q.2 p.1)).bind fun x => (get (look q.2 q.1)).bind fun y => (get (ix2 x y)).bind fun d => (get (truth (.dat d))).bind fun b => .ok (b, q.2)
  | _, _ => .stuck
def evC (cl : Fun) : Option T → Env → Res (Bool × Env)
  | none, ρ => .ok (true, ρ)
  | some c, ρ => evT cl c ρ
def evO (cl : Fun) : Option T → Env → Res (Option Int × Env)
  | none, ρ => .ok (none, ρ)
  | some e, ρ => (evE cl e ρ).bind fun p => match p.1 with
    | .dat (.int i) => .ok (some i, p.2)
    | _ => .stuck
def evVs (cl : Fun) : List T → Env → Res (List Vl × Env)
  | [], ρ => .ok ([], ρ)
  | e :: es, ρ => (evE cl e ρ).bind fun p => (evVs cl es p.2).bind fun q => .ok (p.1 :: q.1, q.2)
def evDs (cl : Fun) : List T → Env → Res (List D × Env)
  | [], ρ => .ok ([], ρ)
  | e :: es, ρ => (evE cl e ρ).bind fun p => (get p.1.frz).bind fun d => (evDs cl es p.2).bind fun q => .ok (d :: q.1, q.2)
def evFs (cl : Fun) : List T → Str → Env → Res (Str × Env)
  | [], acc, ρ => .ok (acc, ρ)
  | e :: es, acc, ρ => (evE cl e ρ).bind fun p => (get (txtOf p.1)).bind fun y => if sizeOk (acc ++ y).length then evFs cl es (acc ++ y) p.2 else .stuck
def evAs (cl : Fun) : List T → Env → Res (List Arg × Env)
  | [], ρ => .ok ([], ρ)
  | e :: es, ρ => (argOf e (evE cl e) ρ).bind fun p => (evAs cl es p.2).bind fun q => .ok (p.1 :: q.1, q.2)
end
/-- a slot is written anew: lk tells the parameters that a caller lends, which may not be -/
def putS (lk : List Nat) (ρ : Env) (i : Nat) (v : Vl) : Option Env := if lk.contains i then none else ρ.put i v
def putsS (lk : List Nat) : Env → List Nat → List Vl → Option Env
  | ρ, [], [] => some ρ
  | ρ, i :: is, v :: vs => (putS lk ρ i v).bind fun ρ' => putsS lk ρ' is vs
  | _, _, _ => none
def tgOk (lk : List Nat) : Tg → Bool
  | .nm i => !lk.contains i
  | .tp is => is.all fun i => !lk.contains i
section
variable (cl : Fun)
mutual
def evS (lk : List Nat) : S → Env → Res (Flow × Env)
  | .asg i e, ρ => (evE cl e ρ).bind fun p => (get (putS lk p.2 i p.1)).bind fun ρ' => .ok (.nx, ρ')
  | .asgs is es, ρ => (evVs cl es ρ).bind fun p => (get (putsS lk p.2 is p.1)).bind fun ρ' => .ok (.nx, ρ')
  | .unp is e, ρ => (evE cl e ρ).bind fun p => (get (if tgOk lk (.tp is) then p.1.frz else none)).bind fun d => (get (store (.tp is) d p.2)).bind fun ρ' => .ok (.nx, ρ')
  | .aug i o e, ρ => (get (look ρ (.pk i))).bind fun x => (opnd e (evE cl e) ρ).bind fun q => (get (look q.2 q.1)).bind fun y => match o, x, y with
    | .add, .int a, .int b => (get (putS lk q.2 i (.dat (.int (a + b))))).bind fun ρ' => .ok (.nx, ρ')
    | .sub, .int a, .int b => (get (putS lk q.2 i (.dat (.int (a - b))))).bind fun ρ' => .ok (.nx, ρ')
    | _, _, _ => .stuck
  | .putd i k e, ρ => (evE cl e ρ).bind fun p => (get p.1.frz).bind fun d => match p.2[i]? with
    | some (some (.dct _)) => (evE cl k p.2).bind fun r => (get (keyOf r.1)).bind fun k => match r.2[i]? with
      | some (some (.dct kvs)) => if decide (kvs.length < 16777216) then .ok (.nx, r.2.set i (some (.dct (putD kvs k d)))) else .stuck
      | _ => .stuck
    | _ => .stuck
  | .app i e, ρ => match ρ[i]? with
    | some (some (.lst _)) => (evE cl e ρ).bind fun p => (get p.1.frz).bind fun d => match p.2[i]? with
      | some (some (.lst ds)) => if decide (ds.length < 16777216) then .ok (.nx, p.2.set i (some (.lst (ds ++ [d])))) else .stuck
      | _ => .stuck
    | _ => .stuck
  | .ext i e, ρ => match ρ[i]? with
    | some (some (.lst _)) => (opnd e (evE cl e) ρ).bind fun q => (get (look q.2 q.1)).bind fun x => match x, q.2[i]? with
      | .list ys, some (some (.lst ds)) => if sizeOk (ds.length + ys.length) then .ok (.nx, q.2.set i (some (.lst (ds ++ ys)))) else .stuck
      | _, _ => .stuck
    | _ => .stuck
  | .expr e, ρ => (evE cl e ρ).bind fun p => .ok (.nx, p.2)
  | .ret e, ρ => match e with
    | .var i => match ρ[i]? with
      | some (some (.lst ds)) => if lk.contains i then .stuck else .ok (.ret (.lst ds), ρ.set i none)
      | some (some (.dct kvs)) => if lk.contains i then .stuck else .ok (.ret (.dct kvs), ρ.set i none)
      | some (some (.dat d)) => .ok (.ret (.dat d), ρ)
      | some (some (.fn k)) => .ok (.ret (.fn k), ρ)
      | some (some (.fdct kvs)) => .ok (.ret (.fdct kvs), ρ)
      | _ => .stuck
    | e => (evE cl e ρ).bind fun p => .ok (.ret p.1, p.2)
  | .iff c a b, ρ => (evT cl c ρ).bind fun p => match p.1 with
    | true => evSs lk a p.2
    | false => evSs lk b p.2
  | .forl tg k it body, ρ => (opnd it (evE cl it) ρ).bind fun p => (get (look p.2 p.1)).bind fun x => (get (itemsOf k x)).bind fun ds =>
      if tgOk lk tg then (forTurns tg (evSs lk body) ds (lockO p.1 p.2)).bind fun q => .ok (q.1, unlockO p.2 p.1 q.2) else .stuck
  | .pass, ρ => .ok (.nx, ρ)
  | .brk, ρ => .ok (.brk, ρ)
  | .cnt, ρ => .ok (.cnt, ρ)
  | .whl n c body, ρ => whileTurns (evT cl c) (evSs lk body) n ρ
  | .raise c fs es, ρ => (evDs cl es ρ).bind fun p => .exc ⟨c, (fs.zip p.1).reverse⟩ p.2
  | .bad, _ => .stuck
  | .puti i k e, ρ => (evE cl e ρ).bind fun p => (get p.1.frz).bind fun d => match p.2[i]? with
    | some (some (.lst _)) => (evE cl k p.2).bind fun r => match r.1, r.2[i]? with
      | .dat (.int j), some (some (.lst ds)) => (get (L2.ixN ds.length j)).bind fun m => .ok (.nx, r.2.set i (some (.lst (ds.set m d))))
      | _, _ => .stuck
    | _ => .stuck
def evSs (lk : List Nat) : List S → Env → Res (Flow × Env)
  | [], ρ => .ok (.nx, ρ)
  | s :: ss, ρ => (evS lk s ρ).bind fun p => match p.1 with
    | .nx => evSs lk ss p.2
    | .brk => .ok (.brk, p.2)
    | .cnt => .ok (.cnt, p.2)
    | .ret v => .ok (.ret v, p.2)
end
end
/-- a def: how many parameters, how many slots, its body -/
structure Df where
  ps : Nat
  n : Nat
  body : List S
/-- the parameters that are lent -/
def lentOf : List Vl → Nat → List Nat
  | [], _ => []
  | v :: vs, i => if v.own then i :: lentOf vs (i + 1) else lentOf vs (i + 1)
def startE (n : Nat) (vs : List Vl) : Env := vs.map some ++ List.replicate (n - vs.length) none
def runF (cl : Fun) (d : Df) (vs : List Vl) : Res (Vl × List (Option Vl)) :=
  if vs.length = d.ps then
    match evSs cl (lentOf vs 0) d.body (startE d.n vs) with
    | .ok (.ret v, ρ) => .ok (v, ρ.take d.ps)
    | .ok (.nx, ρ) => .ok (.dat .none, ρ.take d.ps)
    | .ok _ => .stuck
    | .exc x ρ => .exc x (ρ.take d.ps)
    | .stuck => .stuck
  else .stuck
/-- the defs, called at most n deep -/
def evF (P : List Df) : Nat → Fun
  | 0 => fun _ _ => .stuck
  | n + 1 => fun k vs => match P[k]? with
    | some d => runF (evF P n) d vs
    | none => if 1000 ≤ k then evF P n (k - 1000) vs else .stuck
end Pv
set_option Elab.async false
set_option linter.all false
set_option maxRecDepth 100000
/-! How slots and heap bear the data. -/
namespace Pv
open PySem L2
/-- where the defs stand; the tables of code objects -/
structure Fa where
  at_ : Nat → Option Addr
  T : List (Addr × Str)
  /-- the error that a suite holds: its object, its class, its dict -/
  er : Option (Addr × Nat × Addr)
instance : CoeFun Fa (fun _ => Nat → Option Addr) := ⟨Fa.at_⟩
/-- nothing that must stay is known of the object -/
def Nw (H : Hp) (a : Addr) : Prop := ∀ o, H a = some o → ∃ ps, o = .tbl ps
theorem Nw.of {H : Hp} {a : Addr} (h : H a = none) : Nw H a := fun o e => by rw [h] at e; cases e
/-- no table -/
def NT (o : HO) : Prop := ∀ ps, o ≠ .tbl ps
theorem Nw.not {H : Hp} {a : Addr} {o : HO} (h : Nw H a) (e : H a = some o) (n : NT o) : False := let ⟨ps, q⟩ := h o e; n ps q
theorem nt_lst {vs : List V} : NT (.lst vs) := fun _ h => by cases h
theorem nt_dK {vs : List (Key × V)} : NT (.dK vs) := fun _ h => by cases h
theorem nt_tup {vs : List V} : NT (.tup vs) := fun _ h => by cases h
theorem nt_frz {o : Obj} {u : HO} : NT (.frz o u) := fun _ h => by cases h
theorem nt_xd {fs : List (Str × V)} : NT (.xd fs) := fun _ h => by cases h
/-- an own object -/
def OwnO (o : HO) : Prop := (∃ vs, o = .lst vs) ∨ ∃ ws, o = .dK ws
theorem own_lst {vs : List V} : OwnO (.lst vs) := .inl ⟨vs, rfl⟩
theorem own_dK {vs : List (Key × V)} : OwnO (.dK vs) := .inr ⟨vs, rfl⟩
theorem OwnO.nt {o : HO} (h : OwnO o) : NT o := by
  rcases h with ⟨_, rfl⟩ | ⟨_, rfl⟩
  · exact nt_lst
  · exact nt_dK
/-- the own objects and the tables -/
structure Dm (T : List (Addr × Str)) (U : Addr → Prop) (H : Hp) : Prop where
  own : ∀ a, U a → ∃ o, H a = some o ∧ OwnO o
  tb : LamX.Tabs T H
theorem Dm.nw {T : List (Addr × Str)} {U : Addr → Prop} {H : Hp} (d : Dm T U H) {a : Addr} (u : U a) : ¬ Nw H a := fun n => let ⟨_, e, o⟩ := d.own a u; n.not e o.nt
theorem Dm.nn {T : List (Addr × Str)} {U : Addr → Prop} {H : Hp} (d : Dm T U H) {a : Addr} (u : U a) : H a ≠ none := fun n => d.nw u (.of n)
theorem Dm.sub {T : List (Addr × Str)} {U U' : Addr → Prop} {H : Hp} (d : Dm T U H) (h : ∀ a, U' a → U a) : Dm T U' H := ⟨fun a u => d.own a (h a u), d.tb⟩
/-- the tables stay when a list or a dict is written -/
theorem tabs_upd {T : List (Addr × Str)} {H : Hp} {p : Addr} {o : HO} (t : LamX.Tabs T H) (h : H p = none ∨ ∃ u, H p = some u ∧ OwnO u) : LamX.Tabs T (upd H p o) := fun q hq => by
  have ne : ∀ b u, H b = some u → ¬ OwnO u → b ≠ p := fun b u e n z => by
    rw [z] at e
    rcases h with h | ⟨u', h, h'⟩
    · rw [h] at e; cases e
    · rw [h] at e; cases e; exact n h'
  obtain ⟨ps, h1, h2, h3⟩ := t q hq
  refine ⟨ps, by rw [upd_ne (ne _ _ h1 fun z => z.nt ps rfl)]; exact h1, h2, fun pos cv hc => ?_⟩
  obtain ⟨c, e1, e2⟩ := h3 pos cv hc
  refine ⟨c, e1, ?_⟩
  rw [upd_ne (ne _ _ e2 fun z => ?_)]
  · exact e2
  · unfold LamX.CodeO at z
    rcases z with ⟨_, z⟩ | ⟨_, z⟩ <;> cases z
theorem Dm.upd {T : List (Addr × Str)} {U U' : Addr → Prop} {H : Hp} {p : Addr} {o : HO} (d : Dm T U H) (h : H p = none ∨ ∃ u, H p = some u ∧ OwnO u) (hu : ∀ a, U' a → a ≠ p → U a) (ho : U' p → OwnO o) : Dm T U' (upd H p o) :=
  ⟨fun a u => by
    by_cases q : a = p
    · subst q; exact ⟨o, upd_same, ho u⟩
    · rw [upd_ne q]; exact d.own a (hu a u q), tabs_upd d.tb h⟩
theorem Dm.ext {T : List (Addr × Str)} {U : Addr → Prop} {H H' : Hp} (d : Dm T U H) (g : ∀ b o, H b = some o → H' b = some o) : Dm T U H' :=
  ⟨fun a u => let ⟨o, e, h⟩ := d.own a u; ⟨o, g a o e, h⟩, d.tb.ext g⟩
/-! ### data at a value: U, what somebody may still change -/
def Su (K : PySem.W.Frag) (H : Hp) (U : Addr → Prop) (a : Addr) (xs : List V) : Prop :=
  (Rd H a (.tup xs) ∧ ¬ U a) ∨ SqT K (fun _ => none) a xs
mutual
inductive Rp (K : PySem.W.Frag) (H : Hp) (U : Addr → Prop) : V → PyData → Prop
  | non : Rp K H U .non .none
  | bl (b : Bool) : Rp K H U (.bl b) (.bool b)
  | int (i : Int) : Rp K H U (.int i) (.int i)
  | str (x : Str) : Rp K H U (.str x) (.str x)
  | lst {a : Addr} {xs : List V} {ds : List PyData} : H a = some (.lst xs) → ¬ U a → Rps K H U xs ds → Rp K H U (.ref a) (.list ds)
  | tup {a : Addr} {xs : List V} {ds : List PyData} : Su K H U a xs → Rps K H U xs ds → Rp K H U (.ref a) (.tuple ds)
inductive Rps (K : PySem.W.Frag) (H : Hp) (U : Addr → Prop) : List V → List PyData → Prop
  | nil : Rps K H U [] []
  | cons {v : V} {vs : List V} {d : PyData} {ds : List PyData} : Rp K H U v d → Rps K H U vs ds → Rps K H U (v :: vs) (d :: ds)
end
section
variable {K : PySem.W.Frag} {H H' : Hp} {U U' : Addr → Prop}
theorem rd_nil {a : Addr} {u : HO} (h : Rd (fun _ => none) a u) : False := by
  rcases h with h | ⟨o, h⟩ <;> cases h
theorem Su.sq {a : Addr} {xs : List V} (h : Su K H U a xs) : SqT K H a xs := by
  rcases h with ⟨h, _⟩ | h
  · exact .inl h
  · rcases h with h | h
    · exact (rd_nil h).elim
    · exact .inr h
/-- what is known of the heap stays so: all but what somebody may change is kept, and nothing that stood becomes changeable -/
structure Sta (H : Hp) (U : Addr → Prop) (H' : Hp) (U' : Addr → Prop) : Prop where
  keep : ∀ a o, H a = some o → ¬ U a → NT o → H' a = some o
  no : ∀ a, U' a → U a ∨ Nw H a
theorem rd_sta (s : Sta H U H' U') {a : Addr} {u : HO} (h : Rd H a u ∧ ¬ U a) (nt : NT u) : Rd H' a u ∧ ¬ U' a := by
  obtain ⟨h, n⟩ := h
  have f : ∀ o, H a = some o → NT o → ¬ U' a := fun o e no q => by
    rcases s.no a q with q | q
    · exact n q
    · exact q.not e no
  rcases h with h | ⟨o, h⟩
  · exact ⟨.inl (s.keep a _ h n nt), f _ h nt⟩
  · exact ⟨.inr ⟨o, s.keep a _ h n nt_frz⟩, f _ h nt_frz⟩
theorem lst_sta (s : Sta H U H' U') {a : Addr} {u : HO} (h : H a = some u) (n : ¬ U a) (nt : NT u) : H' a = some u ∧ ¬ U' a := ⟨s.keep a _ h n nt, fun q => by
  rcases s.no a q with q | q
  · exact n q
  · exact q.not h nt⟩
theorem Su.sta (s : Sta H U H' U') {a : Addr} {xs : List V} (h : Su K H U a xs) : Su K H' U' a xs := h.elim (fun h => .inl (rd_sta s h nt_tup)) .inr
mutual
theorem Rp.sta (s : Sta H U H' U') : ∀ {v : V} {d : PyData}, Rp K H U v d → Rp K H' U' v d
  | _, _, .non => .non
  | _, _, .bl b => .bl b
  | _, _, .int i => .int i
  | _, _, .str x => .str x
  | _, _, .lst h n r => .lst (lst_sta s h n nt_lst).1 (lst_sta s h n nt_lst).2 (Rps.sta s r)
  | _, _, .tup h r => .tup (h.sta s) (Rps.sta s r)
theorem Rps.sta (s : Sta H U H' U') : ∀ {v : List V} {d : List PyData}, Rps K H U v d → Rps K H' U' v d
  | _, _, .nil => .nil
  | _, _, .cons h r => .cons (Rp.sta s h) (Rps.sta s r)
end
mutual
theorem Rp.dp : ∀ {v : V} {d : PyData}, Rp K H U v d → Dp K H v d
  | _, _, .non => .non
  | _, _, .bl b => .bl b
  | _, _, .int i => .int i
  | _, _, .str x => .str x
  | _, _, .lst h _ r => .lst (SqL.of h) (Rps.dp r)
  | _, _, .tup h r => .tup h.sq (Rps.dp r)
theorem Rps.dp : ∀ {v : List V} {d : List PyData}, Rps K H U v d → DpAll K H v d
  | _, _, .nil => .nil
  | _, _, .cons h r => .cons (Rp.dp h) (Rps.dp r)
end
theorem Rps.len : ∀ {v : List V} {d : List PyData}, Rps K H U v d → v.length = d.length
  | _, _, .nil => rfl
  | _, _, .cons _ r => by simp [Rps.len r]
theorem Rps.get : ∀ {v : List V} {d : List PyData} {i : Nat} {e : PyData}, Rps K H U v d → d[i]? = some e → ∃ x, v[i]? = some x ∧ Rp K H U x e
  | _, _, _, _, .nil, h => by simp at h
  | _, _, 0, _, .cons h _, e => by
    simp at e; subst e
    exact ⟨_, rfl, h⟩
  | _, _, i + 1, _, .cons _ r, e => by
    obtain ⟨x, h1, h2⟩ := Rps.get (i := i) r (by simpa using e)
    exact ⟨x, (by simpa using h1), h2⟩
theorem Rps.getV : ∀ {v : List V} {d : List PyData} {i : Nat} {x : V}, Rps K H U v d → v[i]? = some x → ∃ e, d[i]? = some e ∧ Rp K H U x e
  | _, _, _, _, .nil, h => by simp at h
  | _, _, 0, _, .cons h _, e => by
    simp at e; subst e
    exact ⟨_, rfl, h⟩
  | _, _, i + 1, _, .cons _ r, e => by
    obtain ⟨x, h1, h2⟩ := Rps.getV (i := i) r (by simpa using e)
    exact ⟨x, (by simpa using h1), h2⟩
theorem Rps.app : ∀ {v w : List V} {d e : List PyData}, Rps K H U v d → Rps K H U w e → Rps K H U (v ++ w) (d ++ e)
  | _, _, _, _, .nil, s => s
  | _, _, _, _, .cons h r, s => .cons h (Rps.app r s)
theorem Rps.take : ∀ {v : List V} {d : List PyData} (n : Nat), Rps K H U v d → Rps K H U (v.take n) (d.take n)
  | _, _, 0, _ => by simpa using .nil
  | _, _, _ + 1, .nil => .nil
  | _, _, n + 1, .cons h r => .cons h (Rps.take n r)
theorem Rps.drop : ∀ {v : List V} {d : List PyData} (n : Nat), Rps K H U v d → Rps K H U (v.drop n) (d.drop n)
  | _, _, 0, r => r
  | _, _, _ + 1, .nil => .nil
  | _, _, n + 1, .cons _ r => Rps.drop n r
theorem Rps.rev : ∀ {v : List V} {d : List PyData}, Rps K H U v d → Rps K H U v.reverse d.reverse
  | _, _, .nil => .nil
  | _, _, .cons h r => by
    simp only [List.reverse_cons]
    exact (Rps.rev r).app (.cons h .nil)
/-! ### a value of a slot -/
variable {fa : Fa}
inductive KvR (K : PySem.W.Frag) (H : Hp) (U : Addr → Prop) : List (Key × V) → List (Str × PyData) → Prop
  | nil : KvR K H U [] []
  | cons {k : Str} {v : V} {d : PyData} {r : List (Key × V)} {s : List (Str × PyData)} : Rp K H U v d → KvR K H U r s → KvR K H U ((.inr k, v) :: r) ((k, d) :: s)
theorem KvR.sta (s : Sta H U H' U') {r : List (Key × V)} {t : List (Str × PyData)} (h : KvR K H U r t) : KvR K H' U' r t := by
  induction h with
  | nil => exact .nil
  | cons h _ ih => exact .cons (h.sta s) ih
def RV (K : PySem.W.Frag) (fa : Fa) (H : Hp) (U : Addr → Prop) (x : V) : Vl → Prop
  | .dat d => Rp K H U x d
  | .fn k => ∃ a, fa k = some a ∧ x = .ref a
  | .lst ds => ∃ a vs, x = .ref a ∧ U a ∧ H a = some (.lst vs) ∧ Rps K H U vs ds
  | .lck ds => ∃ a vs, x = .ref a ∧ U a ∧ H a = some (.lst vs) ∧ Rps K H U vs ds
  | .dct kvs => ∃ a ws, x = .ref a ∧ U a ∧ H a = some (.dK ws) ∧ KvR K H U ws kvs
  | .fdct kvs => ∃ a ws, x = .ref a ∧ ¬ U a ∧ H a = some (.dK ws) ∧ KvR K H U ws kvs
  | .err c fs => ∃ a dx xs, fa.er = some (a, c, dx) ∧ x = .ref a ∧ ¬ U dx ∧ H dx = some (.xd xs) ∧ xs.map (·.1) = fs.map (·.1) ∧ Rps K H U (xs.map (·.2)) (fs.map (·.2))
  | .scr ns => ∃ a, x = .ref a ∧ ((∃ o, H a = some (.frz o (.lst (ns.map V.int))) ∧ ¬ U a) ∨ SqL K (fun _ => none) a (ns.map V.int))
/-- .. which stays, if its own object does -/
theorem RV.sta {x : V} {v : Vl} (s : Sta H U H' U') (h : RV K fa H U x v) (k : v.own = true → ∀ a, x = .ref a → U a → (∀ o, H a = some o → NT o → H' a = some o) ∧ U' a) : RV K fa H' U' x v := by
  cases v with
  | dat d => exact Rp.sta s h
  | fn k => exact h
  | lst ds =>
    obtain ⟨a, vs, rfl, u, e, r⟩ := h
    obtain ⟨k1, k2⟩ := k rfl a rfl u
    exact ⟨a, vs, rfl, k2, k1 _ e (by first | exact nt_lst | exact nt_dK), r.sta s⟩
  | lck ds =>
    obtain ⟨a, vs, rfl, u, e, r⟩ := h
    obtain ⟨k1, k2⟩ := k rfl a rfl u
    exact ⟨a, vs, rfl, k2, k1 _ e (by first | exact nt_lst | exact nt_dK), r.sta s⟩
  | dct kvs =>
    obtain ⟨a, vs, rfl, u, e, r⟩ := h
    obtain ⟨k1, k2⟩ := k rfl a rfl u
    exact ⟨a, vs, rfl, k2, k1 _ e (by first | exact nt_lst | exact nt_dK), r.sta s⟩
  | fdct kvs =>
    obtain ⟨a, vs, rfl, n, e, r⟩ := h
    obtain ⟨e', n'⟩ := lst_sta s e n nt_dK
    exact ⟨a, vs, rfl, n', e', r.sta s⟩
  | err c fs =>
    obtain ⟨a, dx, xs, he, rfl, n, e, k1, r⟩ := h
    obtain ⟨e', n'⟩ := lst_sta s e n nt_xd
    exact ⟨a, dx, xs, he, rfl, n', e', k1, r.sta s⟩
  | scr ns =>
    obtain ⟨a, rfl, h⟩ := h
    refine ⟨a, rfl, h.imp (fun ⟨o, e, n⟩ => ?_) id⟩
    obtain ⟨e', n'⟩ := lst_sta s e n nt_frz
    exact ⟨o, e', n'⟩
theorem RV.ownU {x : V} {v : Vl} (h : RV K fa H U x v) (o : v.own = true) : ∃ a, x = .ref a ∧ U a := by
  cases v with
  | dat d => cases o
  | fn k => cases o
  | lst ds => obtain ⟨a, _, e, u, _⟩ := h; exact ⟨a, e, u⟩
  | lck ds => obtain ⟨a, _, e, u, _⟩ := h; exact ⟨a, e, u⟩
  | dct kvs => obtain ⟨a, _, e, u, _⟩ := h; exact ⟨a, e, u⟩
  | fdct kvs => cases o
  | scr ns => cases o
  | err _ _ => cases o
/-! ### all slots -/
/-- the objects that the slots hold alone -/
def Hd (ρ : Env) (σ : L2.St) (a : Addr) : Prop := ∃ (i : Nat) (v : Vl), ρ[i]? = some (some v) ∧ v.own = true ∧ σ[i]? = some (some (V.ref a))
/-- .. and may change -/
def Ow (ρ : Env) (σ : L2.St) (a : Addr) : Prop := ∃ (i : Nat) (v : Vl), ρ[i]? = some (some v) ∧ v.mut = true ∧ σ[i]? = some (some (V.ref a))
theorem Ow.hd {ρ : Env} {σ : L2.St} {a : Addr} (h : Ow ρ σ a) : Hd ρ σ a := let ⟨i, v, h1, h2, h3⟩ := h; ⟨i, v, h1, mut_own h2, h3⟩
structure ER (K : PySem.W.Frag) (fa : Fa) (H : Hp) (U : Addr → Prop) (σ : L2.St) (ρ : Env) : Prop where
  len : σ.length = ρ.length
  val : ∀ (i : Nat) (v : Vl), ρ[i]? = some (some v) → ∃ x, σ[i]? = some (some x) ∧ RV K fa H U x v
  dj : ∀ (i j : Nat) (v w : Vl) (a : Addr), i ≠ j → ρ[i]? = some (some v) → ρ[j]? = some (some w) → v.own = true → w.own = true → σ[i]? = some (some (V.ref a)) → σ[j]? = some (some (V.ref a)) → False
  dom : Dm fa.T U H
theorem ER.hd {σ : L2.St} {ρ : Env} (e : ER K fa H U σ ρ) {a : Addr} (h : Hd ρ σ a) : U a := by
  obtain ⟨i, v, h1, h2, h3⟩ := h
  obtain ⟨x, e1, r⟩ := e.val i v h1
  obtain ⟨b, rfl, u⟩ := r.ownU h2
  rw [h3] at e1
  cases e1
  exact u
theorem ER.ow {σ : L2.St} {ρ : Env} (e : ER K fa H U σ ρ) {a : Addr} (h : Ow ρ σ a) : U a := e.hd h.hd
/-- what happened: own: what might be changed -/
structure Go (own : Addr → Prop) (H : Hp) (U : Addr → Prop) (H' : Hp) (U' : Addr → Prop) : Prop where
  keep : ∀ a o, H a = some o → ¬ own a → NT o → H' a = some o
  u1 : ∀ a, U a → ¬ own a → U' a
  u2 : ∀ a, U' a → U a ∨ Nw H a
  dom : ∀ a, Nw H' a → Nw H a
theorem Go.refl (own : Addr → Prop) (H : Hp) (U : Addr → Prop) : Go own H U H U := ⟨fun _ _ h _ _ => h, fun _ h _ => h, fun _ h => .inl h, fun _ h => h⟩
theorem Go.sta {own : Addr → Prop} (g : Go own H U H' U') (h : ∀ a, own a → U a) : Sta H U H' U' := ⟨fun a o e n nt => g.keep a o e (fun q => n (h a q)) nt, g.u2⟩
theorem Go.trans {own own' : Addr → Prop} {H1 H2 : Hp} {U1 U2 : Addr → Prop} {T : List (Addr × Str)} (g : Go own H U H1 U1) (k : Go own' H1 U1 H2 U2) (h : ∀ a, own' a → own a ∨ Nw H a) (hd : Dm T U H) : Go own H U H2 U2 := by
  refine ⟨fun a o e n nt => k.keep a o (g.keep a o e n nt) (fun q => ?_) nt, fun a u n => k.u1 a (g.u1 a u n) fun q => ?_, fun a u => ?_, fun a e => g.dom a (k.dom a e)⟩
  · rcases h a q with q | q
    · exact n q
    · exact q.not e nt
  · rcases h a q with q | q
    · exact n q
    · exact hd.nw u q
  · rcases k.u2 a u with q | q
    · exact g.u2 a q
    · exact .inr (g.dom a q)
theorem Go.mono {own own' : Addr → Prop} (g : Go own H U H' U') (h : ∀ a, own a → own' a) : Go own' H U H' U' :=
  ⟨fun a o e n nt => g.keep a o e (fun q => n (h a q)) nt, fun a u n => g.u1 a u fun q => n (h a q), g.u2, g.dom⟩
/-- behind an expression -/
structure Pst (K : PySem.W.Frag) (fa : Fa) (σ : L2.St) (H : Hp) (U : Addr → Prop) (ρ : Env) (H' : Hp) (U' : Addr → Prop) (ρ' : Env) : Prop where
  er : ER K fa H' U' σ ρ'
  go : Go (Ow ρ σ) H U H' U'
  own : ∀ a, Ow ρ' σ a → Ow ρ σ a
  held : ∀ (i : Nat) (v : Vl), ρ'[i]? = some (some v) → v.own = true → ∃ u, ρ[i]? = some (some u) ∧ u.own = true
  set : ∀ (i : Nat) (v : Vl), ρ[i]? = some (some v) → ∃ v', ρ'[i]? = some (some v') ∧ (LL v = true → LL v' = true)
theorem Pst.hdd {K : PySem.W.Frag} {fa : Fa} {σ : L2.St} {H : Hp} {U : Addr → Prop} {ρ : Env} {H' : Hp} {U' : Addr → Prop} {ρ' : Env} (p : Pst K fa σ H U ρ H' U' ρ') (a : Addr) (h : Hd ρ' σ a) : Hd ρ σ a := by
  obtain ⟨i, v, h1, h2, h3⟩ := h
  obtain ⟨u, e1, e2⟩ := p.held i v h1 h2
  exact ⟨i, u, e1, e2, h3⟩
/-- a value that nobody else holds is held by no slot, and is new -/
def Frh (ρ' : Env) (σ : L2.St) (H : Hp) (x : V) (v : Vl) : Prop := v.own = true → ∀ a, x = .ref a → ¬ Hd ρ' σ a ∧ Nw H a
variable {σ : L2.St} {ρ ρ1 ρ2 : Env} {H1 H2 : Hp} {U1 U2 : Addr → Prop}
theorem Pst.refl (e : ER K fa H U σ ρ) : Pst K fa σ H U ρ H U ρ := ⟨e, Go.refl _ _ _, fun _ h => h, fun _ v h o => ⟨v, h, o⟩, fun i v h => ⟨v, h, id⟩⟩
theorem Pst.sta (p : Pst K fa σ H U ρ H1 U1 ρ1) (e : ER K fa H U σ ρ) : Sta H U H1 U1 := p.go.sta fun _ h => e.ow h
theorem Pst.trans (e : ER K fa H U σ ρ) (p : Pst K fa σ H U ρ H1 U1 ρ1) (q : Pst K fa σ H1 U1 ρ1 H2 U2 ρ2) : Pst K fa σ H U ρ H2 U2 ρ2 :=
  ⟨q.er, p.go.trans q.go (fun a h => .inl (p.own a h)) e.dom, fun a h => p.own a (q.own a h), fun i v h o => let ⟨u, e1, e2⟩ := q.held i v h o; p.held i u e1 e2, fun i v h => let ⟨v', h', l⟩ := p.set i v h; let ⟨v2, h2, l2⟩ := q.set i v' h'; ⟨v2, h2, fun z => l2 (l z)⟩⟩
/-- a value goes on over a further step -/
theorem RV.on {x : V} {v : Vl} (p : Pst K fa σ H U ρ H1 U1 ρ1) (e : ER K fa H U σ ρ) (h : RV K fa H U x v) (f : v.own = true → ∀ a, x = .ref a → ¬ Hd ρ σ a) : RV K fa H1 U1 x v :=
  h.sta (p.sta e) fun o a q u => ⟨fun ob z nt => p.go.keep a ob z (fun w => f o a q w.hd) nt, p.go.u1 a u fun w => f o a q w.hd⟩
theorem Frh.on {x : V} {v : Vl} {H0 : Hp} (p : Pst K fa σ H U ρ H1 U1 ρ1) (f : Frh ρ σ H0 x v) : Frh ρ1 σ H0 x v := fun o a q => ⟨fun h => (f o a q).1 (p.hdd a h), (f o a q).2⟩
/-- data as an operation may look at it: a list's own object may be anybody's -/
def Vw (K : PySem.W.Frag) (H : Hp) (U : Addr → Prop) (x : V) : PyData → Prop
  | .list ds => ∃ a vs, x = .ref a ∧ H a = some (.lst vs) ∧ Rps K H U vs ds
  | d => Rp K H U x d
theorem Rp.vw {x : V} {d : PyData} (h : Rp K H U x d) : Vw K H U x d := by
  cases h with
  | lst h _ r => exact ⟨_, _, rfl, h, r⟩
  | non => exact .non
  | bl b => exact .bl b
  | int b => exact .int b
  | str b => exact .str b
  | tup h r => exact .tup h r
theorem Vw.dp {x : V} {d : PyData} (h : Vw K H U x d) : Dp K H x d := by
  cases d with
  | list ds =>
    obtain ⟨a, vs, rfl, s, r⟩ := h
    exact .lst (SqL.of s) r.dp
  | none => exact Rp.dp h
  | bool b => exact Rp.dp h
  | int b => exact Rp.dp h
  | str b => exact Rp.dp h
  | tuple b => exact Rp.dp h
  | dict b => exact Rp.dp h
theorem RV.vw {x : V} {v : Vl} {d : PyData} (h : RV K fa H U x v) (e : v.view = some d) : Vw K H U x d := by
  cases v with
  | dat d' => cases e; exact Rp.vw h
  | fn k => cases e
  | lst ds =>
    cases e
    obtain ⟨a, vs, rfl, u, e, r⟩ := h
    exact ⟨a, vs, rfl, e, r⟩
  | lck ds =>
    cases e
    obtain ⟨a, vs, rfl, u, e, r⟩ := h
    exact ⟨a, vs, rfl, e, r⟩
  | dct kvs => cases e
  | fdct kvs => cases e
  | scr kvs => cases e
  | err _ _ => cases e
/-- an operand -/
def RO (K : PySem.W.Frag) (fa : Fa) (H : Hp) (U : Addr → Prop) (σ : L2.St) (ρ : Env) (x : V) : Opn → Prop
  | .vl v => RV K fa H U x v ∧ (v.own = true → ∀ a, x = .ref a → ¬ Hd ρ σ a)
  | .pk i => σ[i]? = some (some x) ∧ ∃ v, ρ[i]? = some (some v)
theorem RO.on {x : V} {o : Opn} (p : Pst K fa σ H U ρ H1 U1 ρ1) (e : ER K fa H U σ ρ) (h : RO K fa H U σ ρ x o) : RO K fa H1 U1 σ ρ1 x o := by
  cases o with
  | vl v => exact ⟨h.1.on p e h.2, fun q a z w => h.2 q a z (p.hdd a w)⟩
  | pk i =>
    obtain ⟨h1, v, h2⟩ := h
    obtain ⟨v', h3, _⟩ := p.set i v h2
    exact ⟨h1, v', h3⟩
theorem RO.vw {x : V} {o : Opn} {d : PyData} (er : ER K fa H U σ ρ) (h : RO K fa H U σ ρ x o) (e : look ρ o = some d) : Vw K H U x d := by
  cases o with
  | vl v => exact h.1.vw e
  | pk i =>
    obtain ⟨h1, v, h2⟩ := h
    obtain ⟨y, e1, r⟩ := er.val i v h2
    rw [h1] at e1
    cases e1
    refine r.vw (d := d) ?_
    simp only [look, h2] at e
    exact e
/-! ### new objects -/
theorem nw_upd {H : Hp} {p a : Addr} {o : HO} (ho : NT o) (h : Nw (upd H p o) a) : a ≠ p ∧ Nw H a := by
  by_cases q : a = p
  · subst q; exact (h.not upd_same ho).elim
  · refine ⟨q, fun u e => h u ?_⟩
    rw [upd_ne q]
    exact e
/-- a new object that nobody may change -/
theorem Pst.new {p : Addr} {o : HO} (e : ER K fa H U σ ρ) (hp : H p = none) (ho : NT o) : Pst K fa σ H U ρ (upd H p o) U ρ := by
  have s : Sta H U (upd H p o) U := ⟨fun a ob h _ _ => by rw [upd_ne (ne_of_none h hp)]; exact h, fun a h => .inl h⟩
  refine ⟨⟨e.len, fun i v h => ?_, e.dj, e.dom.upd (.inl hp) (fun _ u _ => u) fun u => (e.dom.nn u hp).elim⟩, ⟨fun a ob h _ _ => ?_, fun a u _ => u, fun a u => .inl u, fun a h => (nw_upd ho h).2⟩, fun _ h => h, fun _ v h o => ⟨v, h, o⟩, fun i v h => ⟨v, h, id⟩⟩
  · obtain ⟨x, e1, r⟩ := e.val i v h
    refine ⟨x, e1, r.sta s fun _ a _ u => ⟨fun ob q _ => ?_, u⟩⟩
    rw [upd_ne (ne_of_none q hp)]
    exact q
  · rw [upd_ne (ne_of_none h hp)]
    exact h
/-- a new object, held by one alone -/
def addU (U : Addr → Prop) (p : Addr) : Addr → Prop := fun a => U a ∨ a = p
def subU (U : Addr → Prop) (p : Addr) : Addr → Prop := fun a => U a ∧ a ≠ p
theorem Sta.new {p : Addr} {o : HO} (hp : H p = none) : Sta H U (upd H p o) (addU U p) :=
  ⟨fun a ob h _ _ => by rw [upd_ne (ne_of_none h hp)]; exact h, fun a h => h.elim .inl fun q => .inr (.of (by rw [q]; exact hp))⟩
theorem Pst.newU {p : Addr} {o : HO} (e : ER K fa H U σ ρ) (hp : H p = none) (ho : OwnO o) : Pst K fa σ H U ρ (upd H p o) (addU U p) ρ := by
  refine ⟨⟨e.len, fun i v h => ?_, e.dj, e.dom.upd (.inl hp) (fun a u n => u.elim id fun q => (n q).elim) fun _ => ho⟩, ⟨fun a ob h _ _ => ?_, fun a u _ => .inl u, fun a u => ?_, fun a h => (nw_upd ho.nt h).2⟩, fun _ h => h, fun _ v h o => ⟨v, h, o⟩, fun i v h => ⟨v, h, id⟩⟩
  · obtain ⟨x, e1, r⟩ := e.val i v h
    refine ⟨x, e1, r.sta (Sta.new hp) fun _ a _ u => ⟨fun ob q _ => ?_, .inl u⟩⟩
    rw [upd_ne (ne_of_none q hp)]
    exact q
  · rw [upd_ne (ne_of_none h hp)]
    exact h
  · rcases u with u | u
    · exact .inl u
    · exact .inr (.of (by rw [u]; exact hp))
theorem ow_none {p : Addr} (e : ER K fa H U σ ρ) (hp : H p = none) : ¬ Hd ρ σ p := fun h => e.dom.nn (e.hd h) hp
/-- what is held alone is given up -/
theorem Pst.give {a : Addr} (e : ER K fa H U σ ρ) (p : Pst K fa σ H U ρ H1 U1 ρ1) (n : ¬ Hd ρ1 σ a) (h0 : Nw H a) : Pst K fa σ H U ρ H1 (subU U1 a) ρ1 := by
  have s : Sta H1 U1 H1 (subU U1 a) := ⟨fun _ _ h _ _ => h, fun _ h => .inl h.1⟩
  refine ⟨⟨p.er.len, fun i v h => ?_, p.er.dj, p.er.dom.sub fun b u => u.1⟩, ⟨p.go.keep, fun b u n' => ⟨p.go.u1 b u n', fun q => e.dom.nw u (by rw [q]; exact h0)⟩, fun b u => p.go.u2 b u.1, p.go.dom⟩, p.own, p.held, p.set⟩
  obtain ⟨x, e1, r⟩ := p.er.val i v h
  refine ⟨x, e1, r.sta s fun o b q u => ⟨fun _ z _ => z, u, fun z => n ⟨i, v, h, o, ?_⟩⟩⟩
  rw [← z, ← q]
  exact e1
theorem Rp.given {a : Addr} {vs : List V} {ds : List PyData} (h : H a = some (.lst vs)) (r : Rps K H U vs ds) : Rp K H (subU U a) (.ref a) (.list ds) :=
  .lst h (fun z => z.2 rfl) (r.sta ⟨fun _ _ h _ _ => h, fun _ h => .inl h.1⟩)
theorem get_set_some {α : Type} {l : List (Option α)} {i j : Nat} {o : Option α} {v : α} (h : (l.set i o)[j]? = some (some v)) : (j = i ∧ o = some v) ∨ (j ≠ i ∧ l[j]? = some (some v)) := by
  by_cases e : i = j
  · subst e
    rw [List.getElem?_set] at h
    simp at h
    exact .inl ⟨rfl, by
      obtain ⟨_, h⟩ := h
      exact h⟩
  · rw [List.getElem?_set_ne e] at h
    exact .inr ⟨fun q => e q.symm, h⟩
/-- a slot's own list is given up -/
theorem Pst.freeze {i : Nat} {a : Addr} {vs : List V} {ds : List PyData} (er : ER K fa H U σ ρ) (e : ρ[i]? = some (some (.lst ds))) (e1 : σ[i]? = some (some (.ref a))) (eh : H a = some (.lst vs)) (r : Rps K H U vs ds) :
    Pst K fa σ H U ρ H (subU U a) (ρ.set i (some (.dat (.list ds)))) := by
  have s : Sta H U H (subU U a) := ⟨fun _ _ h _ _ => h, fun _ h => .inl h.1⟩
  have hi : i < ρ.length := (List.getElem?_eq_some_iff.mp e).1
  have oa : Ow ρ σ a := ⟨i, _, e, rfl, e1⟩
  refine ⟨⟨by rw [List.length_set]; exact er.len, fun j v h => ?_, fun j k v w b n h1 h2 o1 o2 => ?_, er.dom.sub fun b u => u.1⟩, ⟨fun _ _ h _ _ => h, fun b u n => ⟨u, fun z => n (z ▸ oa)⟩, fun b u => .inl u.1, fun _ h => h⟩, fun b ⟨j, v, h, o, z⟩ => ?_, fun j v h o => ?_, fun j v h => ?_⟩
  · rcases get_set_some h with ⟨rfl, q⟩ | ⟨n, q⟩
    · cases q
      exact ⟨_, e1, Rp.given eh r⟩
    · obtain ⟨x, h1, h2⟩ := er.val j v q
      refine ⟨x, h1, h2.sta s fun o b z u => ⟨fun _ w _ => w, u, fun w => ?_⟩⟩
      subst w
      exact er.dj j i v _ _ n q e o rfl (by rw [h1, z]) e1
  · rcases get_set_some h1 with ⟨rfl, q⟩ | ⟨n1, q⟩
    · cases q; cases o1
    · rcases get_set_some h2 with ⟨rfl, q2⟩ | ⟨n2, q2⟩
      · cases q2; cases o2
      · exact er.dj j k v w b n q q2 o1 o2
  · rcases get_set_some h with ⟨rfl, q⟩ | ⟨n, q⟩
    · cases q; cases o
    · exact ⟨j, v, q, o, z⟩
  · rcases get_set_some h with ⟨rfl, q⟩ | ⟨n, q⟩
    · cases q; cases o
    · exact ⟨v, q, o⟩
  · by_cases q : j = i
    · subst q
      exact ⟨_, by rw [List.getElem?_set_self hi], fun _ => rfl⟩
    · exact ⟨v, by rw [List.getElem?_set_ne (Ne.symm q)]; exact h, id⟩
end
end Pv
set_option Elab.async false
set_option linter.all false
set_option maxRecDepth 100000
set_option maxHeartbeats 2100000
/-! The judgement: a piece of syntax does what its word says. -/
namespace Pv
open PySem L2
def Aft {α : Type} (r : Res (α × Env)) (ok : α → Env → Prop) (ex : Ex → Env → Prop) : Prop := match r with
  | .ok p => ok p.1 p.2
  | .exc x ρ => ex x ρ
  | .stuck => False
theorem Aft.bind {α β : Type} {r : Res (α × Env)} {k : α × Env → Res (β × Env)} {ok : β → Env → Prop} {ex : Ex → Env → Prop} (h : Aft (r.bind k) ok ex) : Aft r (fun a ρ => Aft (k (a, ρ)) ok ex) ex := by
  cases r with
  | ok a => exact h
  | exc x ρ => exact h
  | stuck => exact h
theorem Aft.get {α β : Type} {o : Option α} {k : α → Res (β × Env)} {ok : β → Env → Prop} {ex : Ex → Env → Prop} (h : Aft ((get o).bind k) ok ex) : ∃ a, o = some a ∧ Aft (k a) ok ex := by
  cases o with
  | none => exact h.elim
  | some a => exact ⟨a, rfl, h⟩
theorem Aft.mono {α : Type} {r : Res (α × Env)} {ok ok' : α → Env → Prop} {ex ex' : Ex → Env → Prop} (h : Aft r ok ex) (h1 : ∀ a ρ, ok a ρ → ok' a ρ) (h2 : ∀ a ρ, ex a ρ → ex' a ρ) : Aft r ok' ex' := by
  cases r with
  | ok a => exact h1 _ _ h
  | exc x ρ => exact h2 _ _ h
  | stuck => exact h
/-- how a raised error lies in the heap -/
def ExR (K : PySem.W.Frag) (ca : Nat → Addr) (H : Hp) (U : Addr → Prop) (x : Ex) (c : Value) (d : Option Addr) : Prop :=
  c = .ref (ca x.cls) ∧ ∃ dx fs, d = some dx ∧ H dx = some (.xd fs) ∧ (fs.map (·.1)) = x.fields.map (·.1) ∧ Rps K H U (fs.map (·.2)) (x.fields.map (·.2))
/-- what is fixed: where the defs and the error classes stand -/
structure Wd where
  fa : Fa
  ca : Nat → Addr
  fd : Nat → FuncData
  ps : Nat → List Str
  /-- the defs with a star parameter -/
  fs : Nat → Option Addr
/-- the context is an ordinary one -/
structure GC (X : Cx) (W : WX) : Prop where
  calm : X.calm = true
  nd : X.N.Nodup
  gd : X.A.guards = some []
  room : X.A.units + 190 < cLine
  tk : Takes X W
section
variable {X : Cx} {w : Wd} {cl : Fun} {W : WX}
/-- what is wanted of a value, of an error -/
def OkE (K : PySem.W.Frag) (w : Wd) (σ : L2.St) (H : Hp) (U : Addr → Prop) (ρ : Env) (Q : VK) (v : Vl) (ρ' : Env) : Prop :=
  ∀ x H' U', Pst K w.fa σ H U ρ H' U' ρ' → RV K w.fa H' U' x v → Frh ρ' σ H x v → Q x H'
def XcE (K : PySem.W.Frag) (w : Wd) (W : WX) (σ : L2.St) (H : Hp) (U : Addr → Prop) (ρ : Env) (ex : Ex) (ρ' : Env) : Prop :=
  ∀ c d H' U', Pst K w.fa σ H U ρ H' U' ρ' → ExR K w.ca H' U' ex c d → W c d σ H'
theorem XcE.on {K : PySem.W.Frag} {σ : L2.St} {H H1 : Hp} {U U1 : Addr → Prop} {ρ ρ1 ρ' : Env} {ex : Ex} (h : XcE K w W σ H U ρ ex ρ') (e : ER K w.fa H U σ ρ) (p : Pst K w.fa σ H U ρ H1 U1 ρ1) : XcE K w W σ H1 U1 ρ1 ex ρ' :=
  fun c d H' U' q r => h c d H' U' (p.trans e q) r
/-- an expression -/
def SE (X : Cx) (w : Wd) (cl : Fun) (W : WX) (e : Expr) (t : T) : Prop :=
  ∃ te : TE, PE X e te ∧ ∀ σ H U ρ Q, ER X.K w.fa H U σ ρ → Aft (evE cl t ρ) (OkE X.K w σ H U ρ Q) (XcE X.K w W σ H U ρ) → te σ H Q
/-- an operand -/
def SO (X : Cx) (w : Wd) (cl : Fun) (W : WX) (e : Expr) (t : T) : Prop :=
  ∃ te : TE, PE X e te ∧ ∀ σ H U ρ Q, ER X.K w.fa H U σ ρ →
    Aft (opnd t (evE cl t) ρ) (fun o ρ' => ∀ x H' U', Pst X.K w.fa σ H U ρ H' U' ρ' → RO X.K w.fa H' U' σ ρ' x o → Q x H') (XcE X.K w W σ H U ρ) → te σ H Q
/-- a test -/
def ST (X : Cx) (w : Wd) (cl : Fun) (W : WX) (e : Expr) (t : T) : Prop :=
  ∃ tt : TT, PT X e tt ∧ ∀ σ H U ρ Q, ER X.K w.fa H U σ ρ →
    Aft (evT cl t ρ) (fun b ρ' => ∀ H' U', Pst X.K w.fa σ H U ρ H' U' ρ' → Q b H') (XcE X.K w W σ H U ρ) → tt σ H Q
/-! ### names, constants -/
theorem se_var {i : Nat} {x : Str} {pos : Pos} (hN : X.N[i]? = some x) (hv : Vis X.env.scope x) (hd : (x == ("__debug__" : Str)) = false := by decide) (hcd : (x == ("__classdict__" : Str)) = false := by decide) :
    SE X w cl W (.Name x pos) (.var i) := by
  refine ⟨tVar i, pe_var hN hv hd hcd, fun σ H U ρ Q er h => ?_⟩
  unfold evE at h
  split at h
  · rename_i d e
    obtain ⟨x, e1, r⟩ := er.val i _ e
    exact ⟨x, e1, h x H U (Pst.refl er) r fun z => nomatch z⟩
  · rename_i d e
    obtain ⟨x, e1, r⟩ := er.val i _ e
    exact ⟨x, e1, h x H U (Pst.refl er) r fun z => nomatch z⟩
  · rename_i d e
    obtain ⟨x, e1, r⟩ := er.val i _ e
    exact ⟨x, e1, h x H U (Pst.refl er) r fun z => nomatch z⟩
  · rename_i d e
    obtain ⟨x, e1, r⟩ := er.val i _ e
    exact ⟨x, e1, h x H U (Pst.refl er) r fun z => nomatch z⟩
  · rename_i ds e
    obtain ⟨x, e1, r⟩ := er.val i _ e
    obtain ⟨a, vs, rfl, u, eh, rr⟩ := id r
    refine ⟨_, e1, h _ H (subU U a) (Pst.freeze er e e1 eh rr) (Rp.given eh rr) fun z => nomatch z⟩
  · exact h.elim
theorem so_var {i : Nat} {x : Str} {pos : Pos} (hN : X.N[i]? = some x) (hv : Vis X.env.scope x) (hd : (x == ("__debug__" : Str)) = false := by decide) (hcd : (x == ("__classdict__" : Str)) = false := by decide) :
    SO X w cl W (.Name x pos) (.var i) := by
  refine ⟨tVar i, pe_var hN hv hd hcd, fun σ H U ρ Q er h => ?_⟩
  unfold opnd T.isVar at h
  simp only at h
  split at h
  · rename_i v e
    obtain ⟨x, e1, r⟩ := er.val i _ e
    exact ⟨x, e1, h x H U (Pst.refl er) ⟨e1, v, e⟩⟩
  · exact h.elim
theorem SE.so {e : Expr} {t : T} (hv : t.isVar = none) (h : SE X w cl W e t) : SO X w cl W e t := by
  obtain ⟨te, he, k⟩ := h
  refine ⟨te, he, fun σ H U ρ Q er h => k σ H U ρ Q er ?_⟩
  unfold opnd at h
  rw [hv] at h
  exact h.bind.mono (fun v ρ' h x H' U' p r f => h x H' U' p ⟨r, fun o a z => (f o a z).1⟩) fun _ _ h => h
theorem se_int {i : Int} {j : Nat} {pos : Pos} : SE X w cl W (.Constant (.int i) j pos) (.cst (.int i)) :=
  ⟨_, pe_int, fun σ H U ρ Q er h => h _ H U (Pst.refl er) (.int i) fun z => nomatch z⟩
theorem se_bl {i : Bool} {j : Nat} {pos : Pos} : SE X w cl W (.Constant (.bool i) j pos) (.cst (.bool i)) :=
  ⟨_, pe_bl, fun σ H U ρ Q er h => h _ H U (Pst.refl er) (.bl i) fun z => nomatch z⟩
theorem se_non {j : Nat} {pos : Pos} : SE X w cl W (.Constant .none j pos) (.cst .none) :=
  ⟨_, pe_non, fun σ H U ρ Q er h => h _ H U (Pst.refl er) .non fun z => nomatch z⟩
theorem se_str {x : Str} {j : Nat} {pos : Pos} : SE X w cl W (.Constant (.str x) j pos) (.cst (.str x)) :=
  ⟨_, pe_str, fun σ H U ρ Q er h => h _ H U (Pst.refl er) (.str x) fun z => nomatch z⟩
/-- an int of the module -/
theorem RV.dat {K : PySem.W.Frag} {fa : Fa} {H : Hp} {U : Addr → Prop} {x : V} {d : D} (h : Rp K H U x d) : RV K fa H U x (.dat d) := h
/-! ### operators -/
def BinOk (X : Cx) (w : Wd) (o : Bin) (op : Operator) : Prop := ∃ r : R2, OpR X (binaryOp op) r ∧ ∀ (σ : L2.St) (H : Hp) (U : Addr → Prop) (ρ : Env) (x y : V) (d e : D) (v : Vl) (Q : VK),
  ER X.K w.fa H U σ ρ → Vw X.K H U x d → Vw X.K H U y e → bin2 o d e = some v → OkE X.K w σ H U ρ Q v ρ → r x y H Q
theorem OkE.on {K : PySem.W.Frag} {σ : L2.St} {H H1 : Hp} {U U1 : Addr → Prop} {ρ ρ1 ρ' : Env} {Q : VK} {v : Vl} (h : OkE K w σ H U ρ Q v ρ') (e : ER K w.fa H U σ ρ) (p : Pst K w.fa σ H U ρ H1 U1 ρ1) : OkE K w σ H1 U1 ρ1 Q v ρ' :=
  fun x H' U' q r f => h x H' U' (p.trans e q) r fun o a z => ⟨(f o a z).1, p.go.dom a (f o a z).2⟩
theorem se_bin {a b : Expr} {ta tb : T} {o : Bin} {op : Operator} {pos : Pos} (ho : BinOk X w o op) (ha : SO X w cl W a ta) (hb : SO X w cl W b tb) : SE X w cl W (.BinOp a op b pos) (.bin o ta tb) := by
  obtain ⟨r, hr, hk⟩ := ho
  obtain ⟨ea, pa, ka⟩ := ha
  obtain ⟨eb, pb, kb⟩ := hb
  refine ⟨_, pe_op hr pa pb, fun σ H U ρ Q er h => ka σ H U ρ _ er ?_⟩
  unfold evE at h
  refine h.bind.mono (fun o1 ρ1 h x H1 U1 p1 r1 => kb σ H1 U1 ρ1 _ p1.er ?_) fun _ _ h => h
  refine h.bind.mono (fun o2 ρ2 h y H2 U2 p2 r2 => ?_) fun _ _ h => h.on er p1
  obtain ⟨d, e1, h⟩ := h.get
  obtain ⟨e, e2, h⟩ := h.get
  obtain ⟨v, e3, h⟩ := h.get
  exact hk σ H2 U2 ρ2 x y d e v Q p2.er ((r1.on p2 p1.er).vw p2.er e1) (r2.vw p2.er e2) e3 (OkE.on h er (p1.trans er p2))
end
end Pv
set_option Elab.async false
set_option linter.all false
set_option maxRecDepth 100000
set_option maxHeartbeats 4000000
/-! tuple * int, none or one time. -/
namespace Pv
open PySem PySem.Spec PyProof.Rows L2
theorem tuple_mulW1 (l : Addr) (items : Array Value) (n : Nat) (dd : Option Addr) (sl : Array (Option Value)) (x : Int) (u : Tok) (c0 : (decide (x < -(2 ^ 63)) || decide (x ≥ 2 ^ 63)) = false) (c1 : (items.isEmpty || x == 1) = true) :
    Meets (Builtin.«tuple.__mul__» ⟨[.ref l, .int x u], []⟩) (fun _ R s => s.heap.get? l = some { cls := .type "tuple", dict := dd, data := .seq items n, slots := sl } ∧
      R (.ok (.ret (Value.ref l))) s) :=
  .of_wp fun prog w A R s h => by
    obtain ⟨hp, g, d, tk, os⟩ := s
    obtain ⟨hl, h⟩ := h
    have f1 := AutoSeq1.idx_int
    wp_walk using wpAny_loadPart' hl
    repeat (first
      | (refine wpAny_ite_false (decide_eq_false (by rw [c0]; exact Bool.false_ne_true)) ?_; wp_walk using wpAny_loadPart' hl)
      | (refine wpAny_ite_true (decide_eq_true c1) ?_; wp_walk using wpAny_loadPart' hl))
    exact ⟨_, rfl, h⟩
theorem tuple_mulW0 (l : Addr) (items : Array Value) (n : Nat) (dd : Option Addr) (sl : Array (Option Value)) (x : Int) (u : Tok) (c0 : (decide (x < -(2 ^ 63)) || decide (x ≥ 2 ^ 63)) = false) (c1 : (items.isEmpty || x == 1) = false) (c2 : (decide (x ≤ 0) || items.isEmpty) = true) :
    Meets (Builtin.«tuple.__mul__» ⟨[.ref l, .int x u], []⟩) (fun _ R s => s.heap.get? l = some { cls := .type "tuple", dict := dd, data := .seq items n, slots := sl } ∧
      R (.ok (.ret (Value.ref s.heap.objs.size))) { s with heap := s.heap.push { cls := Value.type "tuple", data := Data.seq #[] }, toks := s.toks }) :=
  .of_wp fun prog w A R s h => by
    obtain ⟨hp, g, d, tk, os⟩ := s
    obtain ⟨hl, h⟩ := h
    have f1 := AutoSeq1.idx_int
    wp_walk using wpAny_loadPart' hl
    repeat (first
      | (refine wpAny_ite_false (decide_eq_false (by rw [c0]; exact Bool.false_ne_true)) ?_; wp_walk using wpAny_loadPart' hl)
      | (refine wpAny_ite_false (decide_eq_false (by rw [c1]; exact Bool.false_ne_true)) ?_; wp_walk using wpAny_loadPart' hl)
      | (refine wpAny_ite_true (decide_eq_true c2) ?_; wp_walk using wpAny_loadPart' hl))
    exact ⟨_, rfl, h⟩
def rRepT1 (K : PySem.W.Frag) : R2 := fun x y H Q => ∃ l k xs, x = .ref l ∧ y = .int k ∧ SqT K H l xs ∧ (xs = [] ∨ k = 1) ∧ -(2 ^ 63) ≤ k ∧ k < 2 ^ 63 ∧ Q (.ref l) H
def rRepT0 (K : PySem.W.Frag) : R2 := fun x y H Q => ∃ l k xs, x = .ref l ∧ y = .int k ∧ SqT K H l xs ∧ xs ≠ [] ∧ -(2 ^ 63) ≤ k ∧ k ≤ 0 ∧ ∀ p, H p = none → Q (.ref p) (upd H p (.tup []))
section
variable {X : Cx}
theorem op_repT1 : OpR X (binaryOp .Mult) (rRepT1 X.K) := by
  intro pins s σ H x y v u Q I rx ry h
  obtain ⟨l, k, xs, rfl, rfl, hT, h1, h2, h3, q⟩ := h
  cases rx
  obtain ⟨t, rfl⟩ := ry
  obtain ⟨its, r, ⟨⟨cls, dd, data, sl⟩, ho, hc, n, hd⟩, hs⟩ := I.tuple hT
  simp only at hc hd
  subst hc hd
  have hle : its.length = xs.length := r.length.symm
  have c0 : (decide (k < -(2 ^ 63)) || decide (k ≥ 2 ^ 63)) = false := by
    rw [decide_eq_false (by omega), decide_eq_false (by omega)] <;> rfl
  have c1 : (its.toArray.isEmpty || k == 1) = true := by
    rcases h1 with e | e
    · have : its = [] := List.eq_nil_of_length_eq_zero (by rw [hle, e]; rfl)
      rw [this]; rfl
    · rw [e]; exact Bool.or_true _
  exact wpAny_binaryOp_repeat_ref (T := "tuple") (U := "int") (by decide) ⟨_, ho, rfl⟩ (fun s' => typeIs_int s' k t) noFill_tuple_mul F.fills_int_mul F.slot_int_rmul repeat_tuple F.slot_int_index.lookup
    (call_meets F.slot_int_rmul (typeIs_int s k t) F.entry_int_rmul (F.args_int_rmul_2 _ _) (int_rmul_tuple k t l its.toArray n dd sl)
      ⟨ho, rfl, ⟨_, ho, rfl⟩, call_meets F.slot_tuple_mul ⟨_, ho, rfl⟩ F.entry_tuple_mul (F.args_tuple_mul_2 _ _) (tuple_mulW1 l its.toArray n dd sl k t c0 c1) ⟨ho, .ref l, H, I, rfl, q⟩⟩)
theorem op_repT0 : OpR X (binaryOp .Mult) (rRepT0 X.K) := by
  intro pins s σ H x y v u Q I rx ry h
  obtain ⟨l, k, xs, rfl, rfl, hT, hne, h2, h3, q⟩ := h
  cases rx
  obtain ⟨t, rfl⟩ := ry
  obtain ⟨its, r, ⟨⟨cls, dd, data, sl⟩, ho, hc, n, hd⟩, hs⟩ := I.tuple hT
  simp only at hc hd
  subst hc hd
  have hle : its.length = xs.length := r.length.symm
  have hi : its.toArray.isEmpty = false := by
    cases its with
    | nil => exact absurd (List.eq_nil_of_length_eq_zero hle.symm) hne
    | cons a b => rfl
  have c0 : (decide (k < -(2 ^ 63)) || decide (k ≥ 2 ^ 63)) = false := by
    rw [decide_eq_false (by omega), decide_eq_false (by omega)] <;> rfl
  have c1 : (its.toArray.isEmpty || k == 1) = false := by
    rw [hi, Bool.false_or]
    exact beq_eq_false_iff_ne.mpr (by omega)
  have c2 : (decide (k ≤ 0) || its.toArray.isEmpty) = true := by
    rw [decide_eq_true h3]; rfl
  refine wpAny_binaryOp_repeat_ref (T := "tuple") (U := "int") (by decide) ⟨_, ho, rfl⟩ (fun s' => typeIs_int s' k t) noFill_tuple_mul F.fills_int_mul F.slot_int_rmul repeat_tuple F.slot_int_index.lookup
    (call_meets F.slot_int_rmul (typeIs_int s k t) F.entry_int_rmul (F.args_int_rmul_2 _ _) (int_rmul_tuple k t l its.toArray n dd sl)
      ⟨ho, rfl, ⟨_, ho, rfl⟩, call_meets F.slot_tuple_mul ⟨_, ho, rfl⟩ F.entry_tuple_mul (F.args_tuple_mul_2 _ _) (tuple_mulW0 l its.toArray n dd sl k t c0 c1 c2) ⟨ho, ?_⟩⟩)
  refine ⟨.ref s.heap.objs.size, _, I.laid (t' := s.toks) (o := .tup []) (fun b ob q => Heap.get?_push_of_some _ q) (Nat.le_refl _) ?_, rfl, q _ (I.hok.fresh (Nat.le_refl _))⟩
  exact ⟨by rw [sizeLine_eq]; decide, _, .nil, IsTup.new _ _⟩
end
end Pv
set_option Elab.async false
set_option linter.all false
set_option maxRecDepth 100000
set_option maxHeartbeats 2100000
namespace Pv
open PySem L2
section
variable {K : PySem.W.Frag} {w : Wd} {σ : L2.St} {H : Hp} {U : Addr → Prop} {ρ : Env} {Q : VK}
theorem size_le {n : Nat} (h : sizeOk n = true) : n ≤ sizeLine := by
  have := of_decide_eq_true h
  rw [sizeLine_eq]
  exact this
theorem rp_int {x : V} {i : Int} (h : Rp K H U x (.int i)) : x = .int i := by cases h; rfl
theorem rp_str {x : V} {i : Str} (h : Rp K H U x (.str i)) : x = .str i := by cases h; rfl
theorem rp_bl {x : V} {i : Bool} (h : Rp K H U x (.bool i)) : x = .bl i := by cases h; rfl
theorem rp_non {x : V} (h : Rp K H U x .none) : x = .non := by cases h; rfl
theorem rp_tup {x : V} {ds : List PyData} (h : Rp K H U x (.tuple ds)) : ∃ a vs, x = .ref a ∧ Su K H U a vs ∧ Rps K H U vs ds := by
  cases h with
  | tup h r => exact ⟨_, _, rfl, h, r⟩
theorem OkE.newL {vs : List V} {ds : List PyData} {p : Addr} (h : OkE K w σ H U ρ Q (.lst ds) ρ) (er : ER K w.fa H U σ ρ) (r : Rps K H U vs ds) (hp : H p = none) : Q (.ref p) (upd H p (.lst vs)) :=
  h _ _ (addU U p) (Pst.newU er hp own_lst) ⟨p, vs, rfl, .inr rfl, upd_same, r.sta (Sta.new hp)⟩ fun _ a e => by
    cases e
    exact ⟨ow_none er hp, .of hp⟩
theorem Sta.new' {p : Addr} {o : HO} (hp : H p = none) : Sta H U (upd H p o) U :=
  ⟨fun a ob h _ _ => by rw [upd_ne (ne_of_none h hp)]; exact h, fun a h => .inl h⟩
theorem OkE.newT {vs : List V} {ds : List PyData} {p : Addr} (h : OkE K w σ H U ρ Q (.dat (.tuple ds)) ρ) (er : ER K w.fa H U σ ρ) (r : Rps K H U vs ds) (hp : H p = none) : Q (.ref p) (upd H p (.tup vs)) :=
  h _ _ U (Pst.new er hp nt_tup) (.tup (.inl ⟨.inl upd_same, fun u => er.dom.nn u hp⟩) (r.sta (Sta.new' hp))) fun z => nomatch z
theorem OkE.one {x : V} {d : PyData} (h : OkE K w σ H U ρ Q (.dat d) ρ) (er : ER K w.fa H U σ ρ) (r : Rp K H U x d) : Q x H :=
  h _ _ U (Pst.refl er) r fun z => nomatch z
/-! ### + - * // % ** -/
variable {X : Cx}
theorem op_addBI : OpR X (binaryOp .Add) (fun x y H Q => ∃ (b : Bool) (j : Int), x = .bl b ∧ y = .int j ∧ Q (.int ((if b = true then (1 : Int) else 0) + j)) H) := by
  intro pins s σ H x y v u Q I rx ry h'
  have h := h'
  obtain ⟨b, j, rfl, rfl, q⟩ := h
  obtain rfl : v = .bool b := rx
  obtain ⟨t, rfl⟩ := ry
  exact IntBool.add_bool_int ⟨.int _, H, I.tok _, ⟨_, rfl⟩, q⟩
theorem op_subBI : OpR X (binaryOp .Sub) (fun x y H Q => ∃ (b : Bool) (j : Int), x = .bl b ∧ y = .int j ∧ Q (.int ((if b = true then (1 : Int) else 0) - j)) H) := by
  intro pins s σ H x y v u Q I rx ry h'
  have h := h'
  obtain ⟨b, j, rfl, rfl, q⟩ := h
  obtain rfl : v = .bool b := rx
  obtain ⟨t, rfl⟩ := ry
  exact IntBool.sub_bool_int ⟨.int _, H, I.tok _, ⟨_, rfl⟩, q⟩
theorem op_subIB : OpR X (binaryOp .Sub) (fun x y H Q => ∃ (i : Int) (b : Bool), x = .int i ∧ y = .bl b ∧ Q (.int (i - if b = true then (1 : Int) else 0)) H) := by
  intro pins s σ H x y v u Q I rx ry h'
  have h := h'
  obtain ⟨i, b, rfl, rfl, q⟩ := h
  obtain ⟨t, rfl⟩ := rx
  obtain rfl : u = .bool b := ry
  exact IntBool.sub_int_bool ⟨.int _, H, I.tok _, ⟨_, rfl⟩, q⟩
theorem bin_sub : BinOk X w .sub .Sub := ⟨_, op_sub.or (op_subBI.or op_subIB), fun σ H U ρ x y d e v Q er hx hy hv h => by
  unfold bin2 at hv
  split at hv <;> try cases hv
  all_goals first | contradiction | skip
  · exact .inl ⟨_, _, rp_int hx, rp_int hy, h.one er (.int _)⟩
  · exact .inr (.inl ⟨_, _, rp_bl hx, rp_int hy, h.one er (.int _)⟩)
  · exact .inr (.inr ⟨_, _, rp_int hx, rp_bl hy, h.one er (.int _)⟩)⟩
theorem bin_fdiv : BinOk X w .fdiv .FloorDiv := ⟨_, op_fdiv, fun σ H U ρ x y d e v Q er hx hy hv h => by
  unfold bin2 at hv
  split at hv <;> try cases hv
  all_goals first | contradiction | skip
  split at hv <;> try cases hv
  rename_i c
  have c' := of_decide_eq_true c
  exact ⟨_, _, rp_int hx, rp_int hy, c', h.one er (.int _)⟩⟩
theorem bin_mod : BinOk X w .mod .Mod := ⟨_, op_mod, fun σ H U ρ x y d e v Q er hx hy hv h => by
  unfold bin2 at hv
  split at hv <;> try cases hv
  all_goals first | contradiction | skip
  split at hv <;> try cases hv
  rename_i c
  exact ⟨_, _, rp_int hx, rp_int hy, of_decide_eq_true c, h.one er (.int _)⟩⟩
theorem bin_pow : BinOk X w .pow .Pow := ⟨_, op_pow, fun σ H U ρ x y d e v Q er hx hy hv h => by
  unfold bin2 at hv
  split at hv <;> try cases hv
  all_goals first | contradiction | skip
  split at hv <;> try cases hv
  rename_i c
  have c' := of_decide_eq_true c
  exact ⟨_, _, rp_int hx, rp_int hy, c', h.one er (.int _)⟩⟩
theorem Rps.nil_iff {vs : List V} {ds : List PyData} (r : Rps K H U vs ds) : vs = [] ↔ ds = [] := by
  have := r.len
  constructor
  · intro e; subst e; exact List.eq_nil_of_length_eq_zero this.symm
  · intro e; subst e; exact List.eq_nil_of_length_eq_zero this
theorem bin_add : BinOk X w .add .Add := ⟨_, OpR.or (op_add.or (op_add_str.or (op_cat.or op_catA))) op_addBI, fun σ H U ρ x y d e v Q er hx hy hv h => by
  unfold bin2 at hv
  split at hv <;> try cases hv
  all_goals first | contradiction | skip
  · exact .inl (.inl ⟨_, _, rp_int hx, rp_int hy, h.one er (.int _)⟩)
  · split at hv <;> try cases hv
    rename_i c
    exact .inl (.inr (.inl ⟨_, _, rp_str hx, rp_str hy, size_le c, h.one er (.str _)⟩))
  · split at hv <;> try cases hv
    rename_i c
    obtain ⟨a, vs, rfl, h1, r1⟩ := hx
    obtain ⟨b, ws, rfl, h2, r2⟩ := hy
    exact .inl (.inr (.inr (.inl ⟨a, b, vs, ws, rfl, rfl, h1, h2, by rw [r1.len, r2.len]; exact size_le c, fun p hp => h.newL er (r1.app r2) hp⟩)))
  · split at hv <;> try cases hv
    rename_i c
    obtain ⟨a, vs, rfl, h1, r1⟩ := rp_tup hx
    obtain ⟨b, ws, rfl, h2, r2⟩ := rp_tup hy
    refine .inl (.inr (.inr (.inr ⟨a, b, vs, ws, rfl, rfl, h1.sq, h2.sq, by rw [r1.len, r2.len]; exact size_le c, fun e0 => ?_, fun _ e0 => ?_, fun _ _ p hp => h.newT er (r1.app r2) hp⟩)))
    · have := r1.nil_iff.mp e0
      subst this
      exact h.one er hy
    · have := r2.nil_iff.mp e0
      subst this
      rw [List.append_nil] at h
      exact h.one er hx
  · exact .inr ⟨_, _, rp_bl hx, rp_int hy, h.one er (.int _)⟩⟩
theorem size_fold (a : Array Nat) : ∀ (n : Nat) (b : Array Nat), ((List.replicate n a).foldl (fun p q => p ++ q) b).size = b.size + a.size * n
  | 0, b => by simp
  | n + 1, b => by
    rw [List.replicate_succ, List.foldl_cons, size_fold a n, Array.size_append, Nat.mul_succ]
    omega
/-- a text, repeated -/
theorem op_mul_str : OpR X (binaryOp .Mult) (fun x y H Q => ∃ z k, x = .str z ∧ y = .int k ∧ z.length ≠ 0 ∧ 0 ≤ k ∧ k ≤ 1000 ∧ z.length ≤ 1000 ∧ Q (.str ⟨(List.replicate k.toNat z.cps).foldl (fun p q => p ++ q) #[]⟩) H) := by
  intro pins s σ H x y v u Q I rx ry h'
  have h := h'
  obtain ⟨z, k, rfl, rfl, h0, h20, h3, h4, q⟩ := h
  obtain ⟨t, rfl⟩ := rx
  obtain ⟨t2, rfl⟩ := ry
  rcases (by omega : k = 0 ∨ k = 1 ∨ 2 ≤ k) with rfl | rfl | h2
  · refine PySem.P.mul_str (by decide) (fun c => absurd (by decide) c) (fun c => absurd (by decide) c) ?_
    rw [if_pos (by decide)]
    exact ⟨by decide, .str _, H, I.tok _, ⟨_, rfl⟩, q⟩
  · refine PySem.P.mul_str (by decide) (fun _ c => Bool.noConfusion c) (fun _ c => Bool.noConfusion c) ?_
    rw [if_neg (by decide), if_pos (show ((1 : Int) == 1 || z.length == 0) = true from rfl)]
    have e : (⟨(List.replicate (1 : Int).toNat z.cps).foldl (fun p q => p ++ q) #[]⟩ : Str) = z := by
      cases z
      show Str.mk (#[] ++ _) = _
      rw [Array.empty_append]
    rw [e] at q
    exact ⟨.str _, H, I, ⟨_, rfl⟩, q⟩
  have hm : z.length * k.toNat ≤ 1000 * 1000 := Nat.mul_le_mul h4 (by omega)
  refine PySem.P.mul_str ?_ (fun _ _ => ?_) (fun _ _ => ?_) ?_
  · have a1 : decide (k < -(2 ^ 63)) = false := by apply decide_eq_false; omega
    have a2 : decide (k ≥ 2 ^ 63) = false := by apply decide_eq_false; omega
    rw [a1, a2]; rfl
  · intro c
    have h5 : (2 ^ 63 - 1) / (1000 : Int) ≤ (2 ^ 63 - 1) / k := by
      apply Int.le_ediv_of_mul_le (by omega)
      have : (2 ^ 63 - 1) / (1000 : Int) * k ≤ (2 ^ 63 - 1) / (1000 : Int) * 1000 := Int.mul_le_mul_of_nonneg_left h3 (by decide)
      omega
    omega
  · have h6 : ¬ z.length * k.toNat > sizeLine := by rw [sizeLine_eq]; omega
    exact decide_eq_false h6
  · have e1 : (k == 1) = false := beq_eq_false_iff_ne.mpr (by omega)
    have e2 : (z.length == 0) = false := beq_eq_false_iff_ne.mpr h0
    rw [if_neg (by omega), if_neg (by rw [e1, e2]; decide)]
    refine ⟨?_, .str _, H, I.tok _, ⟨_, rfl⟩, q⟩
    show ((List.replicate k.toNat z.cps).foldl (fun p q => p ++ q) #[]).size ≤ sizeLine
    rw [size_fold, sizeLine_eq]
    have h7 : z.cps.size * k.toNat ≤ 1000 * 1000 := hm
    have h8 : (#[] : Array Nat).size = 0 := rfl
    omega
theorem Rps.rep {vs : List V} {ds : List PyData} (r : Rps K H U vs ds) : ∀ n : Nat, Rps K H U (List.replicate n vs).flatten (List.replicate n ds).flatten
  | 0 => by simpa using .nil
  | n + 1 => by
    simp only [List.replicate_succ, List.flatten_cons]
    exact r.app (Rps.rep r n)
theorem rep_t {σ : L2.St} {H : Hp} {U : Addr → Prop} {ρ : Env} {x y : V} {xs : List D} {j : Int} {Q : VK} (er : ER X.K w.fa H U σ ρ) (hx : Vw X.K H U x (.tuple xs)) (hy : Vw X.K H U y (.int j)) (c : decide (-(2 ^ 62) ≤ j ∧ j ≤ 1000 ∧ xs.length ≤ 1000) = true)
    (h : OkE X.K w σ H U ρ Q (.dat (.tuple (List.replicate j.toNat xs).flatten)) ρ) : rRepT X.K x y H Q ∨ rRepT1 X.K x y H Q ∨ rRepT0 X.K x y H Q := by
  obtain ⟨a, vs, rfl, h1, r1⟩ := rp_tup hx
  obtain ⟨c1, c2, c3⟩ := of_decide_eq_true c
  by_cases h0 : xs = [] ∨ j = 1
  · have e : (List.replicate j.toNat xs).flatten = xs := by
      rcases h0 with e | e
      · rw [e]
        exact List.flatten_eq_nil_iff.mpr fun l hl => (List.mem_replicate.mp hl).2
      · rw [e]
        show xs ++ [] = xs
        exact List.append_nil _
    rw [e] at h
    refine .inr (.inl ⟨a, _, vs, rfl, rp_int hy, h1.sq, ?_, by omega, by omega, h.one er (.tup h1 r1)⟩)
    rcases h0 with e | e
    · exact .inl (r1.nil_iff.mpr e)
    · exact .inr e
  · have hx0 : xs ≠ [] := fun e => h0 (.inl e)
    have hj1 : j ≠ 1 := fun e => h0 (.inr e)
    by_cases hj : j ≤ 0
    · have e : (List.replicate j.toNat xs).flatten = [] := by
        rw [show j.toNat = 0 by omega]; rfl
      rw [e] at h
      exact .inr (.inr ⟨a, _, vs, rfl, rp_int hy, h1.sq, fun e0 => hx0 (r1.nil_iff.mp e0), by omega, hj, fun p hp => h.newT er .nil hp⟩)
    · exact .inl ⟨a, _, vs, rfl, rp_int hy, h1.sq, fun e0 => hx0 (r1.nil_iff.mp e0), by omega, c2, by rw [r1.len]; exact c3, fun p hp => h.newT er (r1.rep _) hp⟩
theorem bin_mul : BinOk X w .mul .Mult := ⟨_, op_mul.or (op_rep.or (op_repT.or (op_mul_str.or (op_repT1.or op_repT0)))), fun σ H U ρ x y d e v Q er hx hy hv h => by
  unfold bin2 at hv
  split at hv <;> try cases hv
  all_goals first | contradiction | skip
  all_goals (split at hv <;> try cases hv)
  · rename_i c
    refine .inl ⟨_, _, rp_int hx, rp_int hy, ?_, h.one er (.int _)⟩
    rcases (Bool.or_eq_true _ _ ▸ c : _ ∨ _) with c | c
    · exact .inl (of_decide_eq_true c)
    · exact .inr (of_decide_eq_true c)
  · rename_i c
    exact (rep_t er hx hy c h).elim (fun z => .inr (.inr (.inl z))) fun z => z.elim (fun z => .inr (.inr (.inr (.inr (.inl z))))) fun z => .inr (.inr (.inr (.inr (.inr z))))
  · rename_i c
    obtain ⟨c1, c2, c3, c4⟩ := of_decide_eq_true c
    exact .inr (.inr (.inr (.inl ⟨_, _, rp_str hx, rp_int hy, c1, c2, c3, c4, h.one er (.str _)⟩)))
  · rename_i c
    obtain ⟨a, vs, rfl, h1, r1⟩ := hx
    obtain ⟨c1, c2⟩ := (Bool.and_eq_true _ _).mp c
    obtain ⟨c3, c4⟩ := of_decide_eq_true c1
    refine .inr (.inl ⟨a, _, vs, rfl, rp_int hy, h1, by omega, by omega, by rw [r1.len]; exact size_le c2, fun p hp => h.newL er (r1.rep _) hp⟩)⟩
/-! ### comparisons -/
def CmpOk (X : Cx) (o : Cmp) (op : CmpOp) : Prop := ∃ r : R2, OpR X (compareOp op) r ∧ ∀ (H : Hp) (U : Addr → Prop) (x y : V) (d e : D) (b : Bool) (Q : VK),
  Vw X.K H U x d → Vw X.K H U y e → cmp2 o d e = some b → Q (.bl b) H → r x y H Q
theorem cmp_lt : CmpOk X .lt .Lt := ⟨_, op_lt, fun H U x y d e b Q hx hy hv h => by
  unfold cmp2 at hv
  split at hv <;> try cases hv
  all_goals first | contradiction | skip
  exact ⟨_, _, rp_int hx, rp_int hy, h⟩⟩
theorem cmp_le : CmpOk X .le .LtE := ⟨_, op_le, fun H U x y d e b Q hx hy hv h => by
  unfold cmp2 at hv
  split at hv <;> try cases hv
  all_goals first | contradiction | skip
  exact ⟨_, _, rp_int hx, rp_int hy, h⟩⟩
theorem cmp_gt : CmpOk X .gt .Gt := ⟨_, op_gt, fun H U x y d e b Q hx hy hv h => by
  unfold cmp2 at hv
  split at hv <;> try cases hv
  all_goals first | contradiction | skip
  exact ⟨_, _, rp_int hx, rp_int hy, h⟩⟩
theorem cmp_ge : CmpOk X .ge .GtE := ⟨_, op_ge, fun H U x y d e b Q hx hy hv h => by
  unfold cmp2 at hv
  split at hv <;> try cases hv
  all_goals first | contradiction | skip
  exact ⟨_, _, rp_int hx, rp_int hy, h⟩⟩
theorem cmp_eq (hu : X.A.units + 190 < cLine) : CmpOk X .eq .Eq := ⟨_, op_eqD (by omega), fun H U x y d e b Q hx hy hv h => by
  unfold cmp2 at hv
  split at hv <;> try cases hv
  all_goals first | contradiction | skip
  split at hv <;> cases hv
  rename_i c
  obtain ⟨c1, c2⟩ := (Bool.and_eq_true _ _).mp c
  exact ⟨_, _, hx.dp, hy.dp, c1, c2, h⟩⟩
theorem cmp_ne (hu : X.A.units + 190 < cLine) : CmpOk X .ne .NotEq := ⟨_, op_neD (by omega), fun H U x y d e b Q hx hy hv h => by
  unfold cmp2 at hv
  split at hv <;> try cases hv
  all_goals first | contradiction | skip
  split at hv <;> cases hv
  rename_i c
  obtain ⟨c1, c2⟩ := (Bool.and_eq_true _ _).mp c
  exact ⟨_, _, hx.dp, hy.dp, c1, c2, h⟩⟩
theorem room_t {A : Around} {d : D} {ds : List D} (hd : SeqAt.shaped d = true) (hu : A.units + 190 < cLine) : A.units + 1 + min (PyData.depthAll ds) d.depth < cLine := by
  have h1 := SeqAt.depth_of_shaped hd
  have h2 : min (PyData.depthAll ds) d.depth ≤ d.depth := Nat.min_le_right _ _
  omega
theorem op_inTup (hu : X.A.units + 190 < cLine) : OpR X (compareOp .In) (fun x y H Q => ∃ d ds, Dp X.K H x d ∧ Dp X.K H y (.tuple ds) ∧ SeqAt.shaped d = true ∧ SeqAt.shaped (.tuple ds) = true ∧ Q (.bl (ds.any fun z => PyData.eqv z d)) H) := by
  intro pins s σ H x y v u Q I rx ry h'
  have h := h'
  obtain ⟨d, ds, hd, he, sd, se, q⟩ := id h
  obtain ⟨as, r1⟩ := (Dp.reads I d x v hd rx)
  obtain ⟨bs, r2⟩ := Dp.reads I (.tuple ds) y u he ry
  have hl : PyData.canLayAll0 ds = true := SeqAt.canLay_of_shaped se
  exact SeqAt.in_tuple_reads r2 r1 hl (SeqAt.canLay_of_shaped sd) (room_t sd hu) ⟨.bl _, H, I, rfl, q⟩
theorem op_ninTup (hu : X.A.units + 190 < cLine) : OpR X (compareOp .NotIn) (fun x y H Q => ∃ d ds, Dp X.K H x d ∧ Dp X.K H y (.tuple ds) ∧ SeqAt.shaped d = true ∧ SeqAt.shaped (.tuple ds) = true ∧ Q (.bl (!ds.any fun z => PyData.eqv z d)) H) := by
  intro pins s σ H x y v u Q I rx ry h'
  have h := h'
  obtain ⟨d, ds, hd, he, sd, se, q⟩ := id h
  obtain ⟨as, r1⟩ := (Dp.reads I d x v hd rx)
  obtain ⟨bs, r2⟩ := Dp.reads I (.tuple ds) y u he ry
  have hl : PyData.canLayAll0 ds = true := SeqAt.canLay_of_shaped se
  exact SeqAt.notIn_tuple_reads r2 r1 hl (SeqAt.canLay_of_shaped sd) (room_t sd hu) ⟨.bl _, H, I, rfl, q⟩
theorem cmp_mem (hu : X.A.units + 190 < cLine) : CmpOk X .mem .In := ⟨_, op_in_str.or ((op_inD (by omega)).or (op_inTup hu)), fun H U x y d e b Q hx hy hv h => by
  unfold cmp2 at hv
  split at hv <;> try cases hv
  all_goals first | contradiction | skip
  · exact .inl ⟨_, _, rp_str hx, rp_str hy, h⟩
  · split at hv <;> try cases hv
    rename_i c
    obtain ⟨c1, c2⟩ := (Bool.and_eq_true _ _).mp c
    unfold memD at hv
    split at hv <;> cases hv
    · exact .inr (.inl ⟨_, _, hx.dp, hy.dp, c1, c2, h⟩)
    · exact .inr (.inr ⟨_, _, hx.dp, hy.dp, c1, c2, h⟩)⟩
theorem cmp_nmem (hu : X.A.units + 190 < cLine) : CmpOk X .nmem .NotIn := ⟨_, op_notin_str.or ((op_notInD (by omega)).or (op_ninTup hu)), fun H U x y d e b Q hx hy hv h => by
  unfold cmp2 at hv
  split at hv <;> try cases hv
  all_goals first | contradiction | skip
  · exact .inl ⟨_, _, rp_str hx, rp_str hy, h⟩
  · split at hv <;> try cases hv
    rename_i c
    obtain ⟨c1, c2⟩ := (Bool.and_eq_true _ _).mp c
    unfold memD at hv
    split at hv <;> cases hv
    · exact .inr (.inl ⟨_, _, hx.dp, hy.dp, c1, c2, h⟩)
    · exact .inr (.inr ⟨_, _, hx.dp, hy.dp, c1, c2, h⟩)⟩
theorem non_vw {H : Hp} {U : Addr → Prop} {x : V} {d : D} (h : Vw X.K H U x d) : decide (x = .non) = isNone d := by
  cases d with
  | none => rw [rp_non h]; rfl
  | bool b => rw [rp_bl h]; rfl
  | int b => rw [rp_int h]; rfl
  | str b => rw [rp_str h]; rfl
  | list b => obtain ⟨a, vs, e, _⟩ := h; rw [e]; rfl
  | tuple b => obtain ⟨a, vs, e, _⟩ := rp_tup h; rw [e]; rfl
  | dict b => cases h
theorem cmp_is : CmpOk X .is .Is := ⟨_, op_isN.or op_isBl, fun H U x y d e b Q hx hy hv h => by
  unfold cmp2 at hv
  split at hv <;> try cases hv
  all_goals first | contradiction | skip
  · exact .inl ⟨rp_non hy, by rw [non_vw hx]; exact h⟩
  · exact .inr ⟨_, _, rp_bl hx, rp_bl hy, h⟩⟩
theorem cmp_nis : CmpOk X .nis .IsNot := ⟨_, op_notN.or op_notBl, fun H U x y d e b Q hx hy hv h => by
  unfold cmp2 at hv
  split at hv <;> try cases hv
  all_goals first | contradiction | skip
  · exact .inl ⟨rp_non hy, by rw [non_vw hx]; exact h⟩
  · exact .inr ⟨_, _, rp_bl hx, rp_bl hy, h⟩⟩
variable {cl : Fun} {W : WX}
theorem se_cmp {a b : Expr} {ta tb : T} {o : Cmp} {op : CmpOp} {pos : Pos} (ho : CmpOk X o op) (ha : SO X w cl W a ta) (hb : SO X w cl W b tb) (hm : behindInMarks op b = false) : SE X w cl W (.Compare a [op] [b] pos) (.cmp o ta tb) := by
  obtain ⟨r, hr, hk⟩ := ho
  obtain ⟨ea, pa, ka⟩ := ha
  obtain ⟨eb, pb, kb⟩ := hb
  refine ⟨_, pe_cmpR hr pa pb hm, fun σ H U ρ Q er h => ka σ H U ρ _ er ?_⟩
  unfold evE at h
  refine h.bind.mono (fun o1 ρ1 h x H1 U1 p1 r1 => kb σ H1 U1 ρ1 _ p1.er ?_) fun _ _ h => h
  refine h.bind.mono (fun o2 ρ2 h y H2 U2 p2 r2 => ?_) fun _ _ h => h.on er p1
  obtain ⟨d, e1, h⟩ := h.get
  obtain ⟨e, e2, h⟩ := h.get
  obtain ⟨v, e3, h⟩ := h.get
  exact hk H2 U2 x y d e v Q ((r1.on p2 p1.er).vw p2.er e1) (r2.vw p2.er e2) e3 ((OkE.on h er (p1.trans er p2)).one p2.er (.bl v))
theorem st_cmp {a b : Expr} {ta tb : T} {o : Cmp} {op : CmpOp} {pos : Pos} (ho : CmpOk X o op) (ha : SO X w cl W a ta) (hb : SO X w cl W b tb) (hm : behindInMarks op b = false) : ST X w cl W (.Compare a [op] [b] pos) (.cmp o ta tb) := by
  obtain ⟨r, hr, hk⟩ := ho
  obtain ⟨ea, pa, ka⟩ := ha
  obtain ⟨eb, pb, kb⟩ := hb
  refine ⟨_, pt_cmpR hr pa pb hm, fun σ H U ρ Q er h => ka σ H U ρ _ er ?_⟩
  unfold evT at h
  refine h.bind.mono (fun o1 ρ1 h x H1 U1 p1 r1 => kb σ H1 U1 ρ1 _ p1.er ?_) fun _ _ h => h
  refine h.bind.mono (fun o2 ρ2 h y H2 U2 p2 r2 => ?_) fun _ _ h => h.on er p1
  obtain ⟨d, e1, h⟩ := h.get
  obtain ⟨e, e2, h⟩ := h.get
  obtain ⟨v, e3, h⟩ := h.get
  exact hk H2 U2 x y d e v _ ((r1.on p2 p1.er).vw p2.er e1) (r2.vw p2.er e2) e3 ⟨v, rfl, h H2 U2 (p1.trans er p2)⟩
theorem se_chn {a b c : Expr} {ta tb tc : T} {o o' : Cmp} {op op' : CmpOp} {pos : Pos} (ho : CmpOk X o op) (ho' : CmpOk X o' op') (ha : SO X w cl W a ta) (hb : SO X w cl W b tb) (hc : SO X w cl W c tc) (hm : lastMarks [op, op'] [b, c] = false) :
    SE X w cl W (.Compare a [op, op'] [b, c] pos) (.chn o o' ta tb tc) := by
  obtain ⟨r, hr, hk⟩ := ho
  obtain ⟨r', hr', hk'⟩ := ho'
  obtain ⟨ea, pa, ka⟩ := ha
  obtain ⟨eb, pb, kb⟩ := hb
  obtain ⟨ec, pc, kc⟩ := hc
  refine ⟨_, pe_chain hr hr' pa pb pc hm, fun σ H U ρ Q er h => ka σ H U ρ _ er ?_⟩
  unfold evE at h
  refine h.bind.mono (fun o1 ρ1 h x H1 U1 p1 r1 => kb σ H1 U1 ρ1 _ p1.er ?_) fun _ _ h => h
  refine h.bind.mono (fun o2 ρ2 h y H2 U2 p2 r2 => ?_) fun _ _ h => h.on er p1
  obtain ⟨d, e1, h⟩ := h.get
  obtain ⟨e, e2, h⟩ := h.get
  obtain ⟨v, e3, h⟩ := h.get
  refine hk H2 U2 x y d e v _ ((r1.on p2 p1.er).vw p2.er e1) (r2.vw p2.er e2) e3 ⟨v, rfl, ?_⟩
  have p := p1.trans er p2
  cases v with
  | false =>
    rw [if_neg (by decide)]
    exact (OkE.on h er p).one p2.er (.bl false)
  | true =>
    rw [if_pos rfl]
    refine kc σ H2 U2 ρ2 _ p2.er (h.bind.mono (fun o3 ρ3 h z H3 U3 p3 r3 => ?_) fun _ _ h => h.on er p)
    obtain ⟨e', e4, h⟩ := h.get
    obtain ⟨f, e5, h⟩ := h.get
    obtain ⟨v', e6, h⟩ := h.get
    exact hk' H3 U3 y z e' f v' Q ((r2.on p3 p2.er).vw p3.er e4) (r3.vw p3.er e5) e6 ((OkE.on h er (p.trans er p3)).one p3.er (.bl v'))
theorem st_chn {a b c : Expr} {ta tb tc : T} {o o' : Cmp} {op op' : CmpOp} {pos : Pos} (ho : CmpOk X o op) (ho' : CmpOk X o' op') (ha : SO X w cl W a ta) (hb : SO X w cl W b tb) (hc : SO X w cl W c tc) (hm : lastMarks [op, op'] [b, c] = false) :
    ST X w cl W (.Compare a [op, op'] [b, c] pos) (.chn o o' ta tb tc) := by
  obtain ⟨r, hr, hk⟩ := ho
  obtain ⟨r', hr', hk'⟩ := ho'
  obtain ⟨ea, pa, ka⟩ := ha
  obtain ⟨eb, pb, kb⟩ := hb
  obtain ⟨ec, pc, kc⟩ := hc
  refine ⟨_, pt_chain hr hr' pa pb pc hm, fun σ H U ρ Q er h => ka σ H U ρ _ er ?_⟩
  unfold evT at h
  refine h.bind.mono (fun o1 ρ1 h x H1 U1 p1 r1 => kb σ H1 U1 ρ1 _ p1.er ?_) fun _ _ h => h
  refine h.bind.mono (fun o2 ρ2 h y H2 U2 p2 r2 => ?_) fun _ _ h => h.on er p1
  obtain ⟨d, e1, h⟩ := h.get
  obtain ⟨e, e2, h⟩ := h.get
  obtain ⟨v, e3, h⟩ := h.get
  refine hk H2 U2 x y d e v _ ((r1.on p2 p1.er).vw p2.er e1) (r2.vw p2.er e2) e3 ⟨v, rfl, ?_⟩
  have p := p1.trans er p2
  cases v with
  | false =>
    rw [if_neg (by decide)]
    exact ⟨false, rfl, h H2 U2 p⟩
  | true =>
    rw [if_pos rfl]
    refine kc σ H2 U2 ρ2 _ p2.er (h.bind.mono (fun o3 ρ3 h z H3 U3 p3 r3 => ?_) fun _ _ h => h.on er p)
    obtain ⟨e', e4, h⟩ := h.get
    obtain ⟨f, e5, h⟩ := h.get
    obtain ⟨v', e6, h⟩ := h.get
    exact hk' H3 U3 y z e' f v' _ ((r2.on p3 p2.er).vw p3.er e4) (r3.vw p3.er e5) e6 ⟨v', rfl, h H3 U3 (p.trans er p3)⟩
/-! ### not, and, or, if-else, minus -/
theorem st_val {e : Expr} {t : T} (h : SE X w cl W e t) (hs : ∀ whole, isTrue e X.env whole = (do let v ← whole; standAt e.pos; holding [v] (truthy v)))
    (hv : ∀ ρ, evT cl t ρ = (evE cl t ρ).bind fun q => (get (truth q.1)).bind fun b => .ok (b, q.2)) : ST X w cl W e t := by
  obtain ⟨te, pe, k⟩ := h
  refine ⟨_, pt_val pe hs, fun σ H U ρ Q er h => k σ H U ρ _ er ?_⟩
  rw [hv] at h
  refine h.bind.mono (fun v ρ1 h x H1 U1 p1 r f => ?_) fun _ _ h => h
  obtain ⟨b, e1, h⟩ := h.get
  cases v with
  | dat d =>
    cases d with
    | bool c =>
      cases e1
      exact ⟨_, rp_bl r, h H1 U1 p1⟩
    | none => cases e1
    | int _ => cases e1
    | str _ => cases e1
    | list _ => cases e1
    | tuple _ => cases e1
    | dict _ => cases e1
  | fn _ => cases e1
  | lst _ => cases e1
  | lck _ => cases e1
  | dct _ => cases e1
  | fdct _ => cases e1
  | scr _ => cases e1
  | err _ _ => cases e1
theorem st_not {a : Expr} {ta : T} {pos : Pos} (ha : ST X w cl W a ta) : ST X w cl W (.UnaryOp .Not a pos) (.not ta) := by
  obtain ⟨ea, pa, ka⟩ := ha
  refine ⟨_, pt_not pa, fun σ H U ρ Q er h => ka σ H U ρ _ er ?_⟩
  unfold evT at h
  exact h.bind.mono (fun b ρ1 h H1 U1 p1 => h H1 U1 p1) fun _ _ h => h
/-- a chain of and, or -/
def SW (X : Cx) (w : Wd) (cl : Fun) (W : WX) (e : Expr) (t : T) : Prop :=
  ∃ tt : TT, PW X e tt ∧ ∀ σ H U ρ Q, ER X.K w.fa H U σ ρ →
    Aft (evT cl t ρ) (fun b ρ' => ∀ H' U', Pst X.K w.fa σ H U ρ H' U' ρ' → Q b H') (XcE X.K w W σ H U ρ) → tt σ H Q
theorem SW.st {e : Expr} {t : T} (h : SW X w cl W e t) : ST X w cl W e t := by
  obtain ⟨tt, p, k⟩ := h
  exact ⟨tt, p.pt, k⟩
theorem sw_and1 {a : Expr} {ta : T} {pos : Pos} (ha : ST X w cl W a ta) : SW X w cl W (.BoolOp .And [a] pos) ta := by
  obtain ⟨tt, p, k⟩ := ha
  exact ⟨tt, pw_and1 p, k⟩
theorem sw_or1 {a : Expr} {ta : T} {pos : Pos} (ha : ST X w cl W a ta) : SW X w cl W (.BoolOp .Or [a] pos) ta := by
  obtain ⟨tt, p, k⟩ := ha
  exact ⟨tt, pw_or1 p, k⟩
theorem sw_and {a b : Expr} {rest : List Expr} {ta tb : T} {pos : Pos} (ha : ST X w cl W a ta) (hb : SW X w cl W (.BoolOp .And (b :: rest) pos) tb) : SW X w cl W (.BoolOp .And (a :: b :: rest) pos) (.and ta tb) := by
  obtain ⟨ea, pa, ka⟩ := ha
  obtain ⟨eb, pb, kb⟩ := hb
  refine ⟨_, pw_and pa pb, fun σ H U ρ Q er h => ka σ H U ρ _ er ?_⟩
  unfold evT at h
  refine h.bind.mono (fun b ρ1 h H1 U1 p1 => ?_) fun _ _ h => h
  cases b with
  | false =>
    rw [if_neg (by decide)]
    exact h H1 U1 p1
  | true =>
    rw [if_pos rfl]
    exact kb σ H1 U1 ρ1 _ p1.er (Aft.mono h (fun b ρ2 h H2 U2 p2 => h H2 U2 (p1.trans er p2)) fun _ _ h => h.on er p1)
theorem sw_or {a b : Expr} {rest : List Expr} {ta tb : T} {pos : Pos} (ha : ST X w cl W a ta) (hb : SW X w cl W (.BoolOp .Or (b :: rest) pos) tb) : SW X w cl W (.BoolOp .Or (a :: b :: rest) pos) (.or ta tb) := by
  obtain ⟨ea, pa, ka⟩ := ha
  obtain ⟨eb, pb, kb⟩ := hb
  refine ⟨_, pw_or pa pb, fun σ H U ρ Q er h => ka σ H U ρ _ er ?_⟩
  unfold evT at h
  refine h.bind.mono (fun b ρ1 h H1 U1 p1 => ?_) fun _ _ h => h
  cases b with
  | true =>
    rw [if_pos rfl]
    exact h H1 U1 p1
  | false =>
    rw [if_neg (by decide)]
    exact kb σ H1 U1 ρ1 _ p1.er (Aft.mono h (fun b ρ2 h H2 U2 p2 => h H2 U2 (p1.trans er p2)) fun _ _ h => h.on er p1)
theorem truth_bl {K : PySem.W.Frag} {fa : Fa} {H : Hp} {U : Addr → Prop} {x : V} {v : Vl} {b : Bool} (e : truth v = some b) (r : RV K fa H U x v) : x = .bl b ∧ v = .dat (.bool b) := by
  unfold truth at e
  split at e <;> cases e
  exact ⟨rp_bl r, rfl⟩
theorem se_one {a : Expr} {ta : T} {op : PySem.BoolOp} {pos : Pos} (ha : SE X w cl W a ta) : SE X w cl W (.BoolOp op [a] pos) ta := by
  obtain ⟨tt, p, k⟩ := ha
  exact ⟨tt, pe_one p, k⟩
theorem se_and {a b : Expr} {rest : List Expr} {ta tb : T} {pos : Pos} (ha : SE X w cl W a ta) (hb : SE X w cl W (.BoolOp .And (b :: rest) pos) tb) : SE X w cl W (.BoolOp .And (a :: b :: rest) pos) (.and ta tb) := by
  obtain ⟨ea, pa, ka⟩ := ha
  obtain ⟨eb, pb, kb⟩ := hb
  refine ⟨_, pe_and pa pb, fun σ H U ρ Q er h => ka σ H U ρ _ er ?_⟩
  unfold evE at h
  refine h.bind.mono (fun v ρ1 h x H1 U1 p1 r f => ?_) fun _ _ h => h
  obtain ⟨c, e1, h⟩ := h.get
  obtain ⟨rfl, rfl⟩ := truth_bl e1 r
  refine ⟨c, rfl, ?_⟩
  cases c with
  | false =>
    rw [if_neg (by decide)]
    exact (OkE.on h er p1).one p1.er (.bl false)
  | true =>
    rw [if_pos rfl]
    exact kb σ H1 U1 ρ1 _ p1.er (Aft.mono h (fun b ρ2 h => OkE.on h er p1) fun _ _ h => h.on er p1)
theorem se_or {a b : Expr} {rest : List Expr} {ta tb : T} {pos : Pos} (ha : SE X w cl W a ta) (hb : SE X w cl W (.BoolOp .Or (b :: rest) pos) tb) : SE X w cl W (.BoolOp .Or (a :: b :: rest) pos) (.or ta tb) := by
  obtain ⟨ea, pa, ka⟩ := ha
  obtain ⟨eb, pb, kb⟩ := hb
  refine ⟨_, pe_or pa pb, fun σ H U ρ Q er h => ka σ H U ρ _ er ?_⟩
  unfold evE at h
  refine h.bind.mono (fun v ρ1 h x H1 U1 p1 r f => ?_) fun _ _ h => h
  obtain ⟨c, e1, h⟩ := h.get
  obtain ⟨rfl, rfl⟩ := truth_bl e1 r
  refine ⟨c, rfl, ?_⟩
  cases c with
  | true =>
    rw [if_pos rfl]
    exact (OkE.on h er p1).one p1.er (.bl true)
  | false =>
    rw [if_neg (by decide)]
    exact kb σ H1 U1 ρ1 _ p1.er (Aft.mono h (fun b ρ2 h => OkE.on h er p1) fun _ _ h => h.on er p1)
theorem se_not {a : Expr} {ta : T} {pos : Pos} (ha : SE X w cl W a ta) : SE X w cl W (.UnaryOp .Not a pos) (.not ta) := by
  obtain ⟨ea, pa, ka⟩ := ha
  refine ⟨_, pe_not pa, fun σ H U ρ Q er h => ka σ H U ρ _ er ?_⟩
  unfold evE at h
  refine h.bind.mono (fun v ρ1 h x H1 U1 p1 r f => ?_) fun _ _ h => h
  obtain ⟨c, e1, h⟩ := h.get
  obtain ⟨rfl, rfl⟩ := truth_bl e1 r
  exact ⟨c, rfl, (OkE.on h er p1).one p1.er (.bl _)⟩
theorem se_ite {c a b : Expr} {tc ta tb : T} {pos : Pos} (hc : ST X w cl W c tc) (ha : SE X w cl W a ta) (hb : SE X w cl W b tb) : SE X w cl W (.IfExp c a b pos) (.ite tc ta tb) := by
  obtain ⟨ec, pc, kc⟩ := hc
  obtain ⟨ea, pa, ka⟩ := ha
  obtain ⟨eb, pb, kb⟩ := hb
  refine ⟨_, pe_ifExp pc pa pb, fun σ H U ρ Q er h => kc σ H U ρ _ er ?_⟩
  unfold evE at h
  refine h.bind.mono (fun v ρ1 h H1 U1 p1 => ?_) fun _ _ h => h
  cases v with
  | true =>
    rw [if_pos rfl]
    exact ka σ H1 U1 ρ1 _ p1.er (Aft.mono h (fun b ρ2 h => OkE.on h er p1) fun _ _ h => h.on er p1)
  | false =>
    rw [if_neg (by decide)]
    exact kb σ H1 U1 ρ1 _ p1.er (Aft.mono h (fun b ρ2 h => OkE.on h er p1) fun _ _ h => h.on er p1)
theorem se_neg {a : Expr} {ta : T} {pos : Pos} (ha : SE X w cl W a ta) : SE X w cl W (.UnaryOp .USub a pos) (.neg ta) := by
  obtain ⟨ea, pa, ka⟩ := ha
  refine ⟨_, pe_un un_neg pa, fun σ H U ρ Q er h => ka σ H U ρ _ er ?_⟩
  unfold evE at h
  refine h.bind.mono (fun v ρ1 h x H1 U1 p1 r f => ?_) fun _ _ h => h
  split at h
  · rename_i i e
    subst e
    exact ⟨i, rp_int r, (OkE.on h er p1).one p1.er (.int _)⟩
  · exact h.elim
/-! ### displays -/
def SD (X : Cx) (w : Wd) (cl : Fun) (W : WX) (es : List Expr) (ts : List T) : Prop :=
  ∃ ta : TA, PA X es ta ∧ ∀ σ H U ρ Q, ER X.K w.fa H U σ ρ →
    Aft (evDs cl ts ρ) (fun ds ρ' => ∀ xs H' U', Pst X.K w.fa σ H U ρ H' U' ρ' → Rps X.K H' U' xs ds → Q xs H') (XcE X.K w W σ H U ρ) → ta σ H Q
theorem sd_nil : SD X w cl W [] [] := ⟨_, pa_nil, fun σ H U ρ Q er h => h [] H U (Pst.refl er) .nil⟩
/-- a value is given up -/
theorem give {K : PySem.W.Frag} {σ : L2.St} {H H1 : Hp} {U U1 : Addr → Prop} {ρ ρ1 : Env} {x : V} {v : Vl} {d : D} (er : ER K w.fa H U σ ρ) (p : Pst K w.fa σ H U ρ H1 U1 ρ1) (r : RV K w.fa H1 U1 x v) (f : Frh ρ1 σ H x v) (e : v.frz = some d) :
    ∃ U2, Pst K w.fa σ H U ρ H1 U2 ρ1 ∧ Rp K H1 U2 x d := by
  cases v with
  | dat d' => cases e; exact ⟨U1, p, r⟩
  | lst ds =>
    cases e
    obtain ⟨a, vs, rfl, u, eh, rr⟩ := r
    obtain ⟨n, h0⟩ := f rfl a rfl
    exact ⟨subU U1 a, p.give er n h0, Rp.given eh rr⟩
  | fn _ => cases e
  | lck _ => cases e
  | dct _ => cases e
  | fdct _ => cases e
  | scr _ => cases e
  | err _ _ => cases e
theorem sd_cons {e : Expr} {es : List Expr} {t : T} {ts : List T} (he : SE X w cl W e t) (hs : SD X w cl W es ts) (hst : starEach (e :: es) X.env = (false, eval e X.env) :: starEach es X.env) : SD X w cl W (e :: es) (t :: ts) := by
  obtain ⟨ea, pa, ka⟩ := he
  obtain ⟨eb, pb, kb⟩ := hs
  refine ⟨_, pa_cons pa pb hst, fun σ H U ρ Q er h => ka σ H U ρ _ er ?_⟩
  unfold evDs at h
  refine h.bind.mono (fun v ρ1 h x H1 U1 p1 r f => ?_) fun _ _ h => h
  obtain ⟨d, e1, h⟩ := h.get
  obtain ⟨U2, p2, r2⟩ := give er p1 r f e1
  refine kb σ H1 U2 ρ1 _ p2.er (h.bind.mono (fun ds ρ2 h xs H3 U3 p3 r3 => ?_) fun _ _ h => h.on er p2)
  exact h (x :: xs) H3 U3 (p2.trans er p3) (.cons (r2.sta (p3.sta p2.er)) r3)
theorem len_ev : ∀ (ts : List T) (ρ : Env) (ds : List D) (ρ' : Env), evDs cl ts ρ = .ok (ds, ρ') → ds.length = ts.length
  | [], ρ, ds, ρ', h => by
    unfold evDs at h
    cases h; rfl
  | t :: ts, ρ, ds, ρ', h => by
    unfold evDs at h
    cases e : evE cl t ρ with
    | stuck => rw [e] at h; cases h
    | exc x r => rw [e] at h; cases h
    | ok p =>
      rw [e] at h
      simp only [Res.bind_ok] at h
      cases e2 : p.1.frz with
      | none => rw [e2] at h; cases h
      | some d =>
        rw [e2] at h
        simp only [get_some, Res.bind_ok] at h
        cases e3 : evDs cl ts p.2 with
        | stuck => rw [e3] at h; cases h
        | exc x r => rw [e3] at h; cases h
        | ok q =>
          rw [e3] at h
          cases h
          simp [len_ev ts _ _ _ e3]
theorem Aft.and {α : Type} {r : Res (α × Env)} {ok : α → Env → Prop} {ex : Ex → Env → Prop} {P : α → Prop} (h : Aft r ok ex) (k : ∀ a ρ, r = .ok (a, ρ) → P a) : Aft r (fun a ρ => P a ∧ ok a ρ) ex := by
  cases r with
  | ok a => exact ⟨k _ _ rfl, h⟩
  | exc x ρ => exact h
  | stuck => exact h
theorem se_tup {es : List Expr} {ts : List T} {k : Nat} {pos : Pos} (h : SD X w cl W es ts) (hl : decide (ts.length ≤ 16777216) = true) : SE X w cl W (.Tuple es k pos) (.tup ts) := by
  obtain ⟨ea, pa, ka⟩ := h
  refine ⟨_, pe_tup pa, fun σ H U ρ Q er h => ka σ H U ρ _ er ?_⟩
  unfold evE at h
  refine (h.bind.and (P := fun ds => ds.length = ts.length) fun ds ρ' e => len_ev ts ρ ds ρ' e).mono (fun ds ρ1 ⟨hn, h⟩ xs H1 U1 p1 r => ?_) fun _ _ h => h
  exact ⟨by rw [r.len, hn]; exact size_le hl, fun p hp => (OkE.on h er p1).newT p1.er r hp⟩
theorem se_lst {es : List Expr} {ts : List T} {pos : Pos} (h : SD X w cl W es ts) (hl : decide (ts.length ≤ 16777216) = true) : SE X w cl W (.List es pos) (.lst ts) := by
  obtain ⟨ea, pa, ka⟩ := h
  refine ⟨_, pe_lst pa, fun σ H U ρ Q er h => ka σ H U ρ _ er ?_⟩
  unfold evE at h
  refine (h.bind.and (P := fun ds => ds.length = ts.length) fun ds ρ' e => len_ev ts ρ ds ρ' e).mono (fun ds ρ1 ⟨hn, h⟩ xs H1 U1 p1 r => ?_) fun _ _ h => h
  exact ⟨by rw [r.len, hn]; exact size_le hl, fun p hp => (OkE.on h er p1).newL p1.er r hp⟩
end
end Pv
set_option Elab.async false
set_option linter.all false
set_option maxRecDepth 100000
set_option maxHeartbeats 2100000
namespace Pv
open PySem L2 PyProof.Rows
section
variable {X : Cx} {w : Wd} {cl : Fun} {W : WX} {K : PySem.W.Frag} {σ : L2.St} {H : Hp} {U : Addr → Prop} {ρ : Env} {Q : VK}
/-! ### an item -/
theorem Rps.atI {vs : List V} {ds : List D} {i : Int} {d : D} (r : Rps K H U vs ds) (h : L2.atI ds i = some d) : ∃ v, L2.atI vs i = some v ∧ Rp K H U v d := by
  unfold L2.atI at h ⊢
  rw [r.len]
  cases e : ixN ds.length i with
  | none => (rw [e] at h; cases h)
  | some j =>
    rw [e] at h
    exact r.get h
theorem se_ix {a b : Expr} {ta tb : T} {pos : Pos} (ha : SO X w cl W a ta) (hb : SO X w cl W b tb) (hs : PlainIx b) : SE X w cl W (.Subscript a b pos) (.ix ta tb) := by
  obtain ⟨ea, pa, ka⟩ := ha
  obtain ⟨eb, pb, kb⟩ := hb
  refine ⟨_, pe_ix ix_seq pa pb hs, fun σ H U ρ Q er h => ka σ H U ρ _ er ?_⟩
  unfold evE at h
  refine h.bind.mono (fun o1 ρ1 h x H1 U1 p1 r1 => kb σ H1 U1 ρ1 _ p1.er ?_) fun _ _ h => h
  refine h.bind.mono (fun o2 ρ2 h y H2 U2 p2 r2 => ?_) fun _ _ h => h.on er p1
  obtain ⟨d, e1, h⟩ := h.get
  obtain ⟨e, e2, h⟩ := h.get
  obtain ⟨v, e3, h⟩ := h.get
  have h' := OkE.on h er (p1.trans er p2)
  have hx := (r1.on p2 p1.er).vw p2.er e1
  have hy := r2.vw p2.er e2
  unfold ix2 at e3
  split at e3
  · obtain ⟨q, vs, rfl, s, r⟩ := hx
    obtain ⟨z, e4, rz⟩ := r.atI e3
    exact .inl ⟨q, vs, _, z, rfl, rp_int hy, SqL.of s, e4, h'.one p2.er rz⟩
  · obtain ⟨q, vs, rfl, s, r⟩ := rp_tup hx
    obtain ⟨z, e4, rz⟩ := r.atI e3
    exact .inr (.inl ⟨q, vs, _, z, rfl, rp_int hy, s.sq, e4, h'.one p2.er rz⟩)
  · split at e3 <;> try cases e3
    rename_i c
    obtain ⟨c', e4, e5⟩ := Option.map_eq_some_iff.mp e3
    subst e5
    exact .inr (.inr ⟨_, _, c', rp_str hx, rp_int hy, size_le c, e4, h'.one p2.er (.str _)⟩)
  · cases e3
/-! ### slices -/
theorem Rps.cut {vs : List V} {ds : List D} (lo hi : Option Int) (r : Rps K H U vs ds) : Rps K H U (cutV vs lo hi) (cutL ds lo hi) := by
  unfold cutV cutL
  rw [r.len]
  exact (r.drop _).take _
def SP (X : Cx) (w : Wd) (cl : Fun) (W : WX) (e : Option Expr) (t : Option T) : Prop :=
  ∃ to : TO, PO X e to ∧ ∀ σ H U ρ Q, ER X.K w.fa H U σ ρ →
    Aft (evO cl t ρ) (fun o ρ' => ∀ H' U', Pst X.K w.fa σ H U ρ H' U' ρ' → Q o H') (XcE X.K w W σ H U ρ) → to σ H Q
theorem sp_none : SP X w cl W none none := ⟨_, po_none, fun σ H U ρ Q er h => h H U (Pst.refl er)⟩
theorem sp_some {e : Expr} {t : T} (he : SE X w cl W e t) : SP X w cl W (some e) (some t) := by
  obtain ⟨ea, pa, ka⟩ := he
  refine ⟨_, po_some pa, fun σ H U ρ Q er h => ka σ H U ρ _ er ?_⟩
  unfold evO at h
  refine h.bind.mono (fun v ρ1 h x H1 U1 p1 r f => ?_) fun _ _ h => h
  split at h
  · rename_i i e
    subst e
    exact ⟨i, rp_int r, h H1 U1 p1⟩
  · exact h.elim
theorem cut_all {α : Type} {xs : List α} {lo hi : Option Int} (h : HT.sIx xs.length 0 lo = 0 ∧ HT.sIx xs.length xs.length hi = xs.length) : cutL xs lo hi = xs := by
  unfold cutL
  rw [h.1, h.2]
  simp
theorem se_sl {a : Expr} {lo hi : Option Expr} {ta : T} {tl th : Option T} {p2 pos : Pos} (ha : SO X w cl W a ta) (hl : SP X w cl W lo tl) (hh : SP X w cl W hi th) : SE X w cl W (.Subscript a (.Slice lo hi none p2) pos) (.sl ta tl th) := by
  obtain ⟨ea, pa, ka⟩ := ha
  obtain ⟨el, pl, kl⟩ := hl
  obtain ⟨eh, ph, kh⟩ := hh
  refine ⟨_, pe_slice (sl_list.or (sl_tupA.or sl_str)) pa pl ph, fun σ H U ρ Q er h => ka σ H U ρ _ er ?_⟩
  unfold evE at h
  refine h.bind.mono (fun o1 ρ1 h x H1 U1 p1 r1 => kl σ H1 U1 ρ1 _ p1.er ?_) fun _ _ h => h
  refine h.bind.mono (fun l ρ2 h H2 U2 p2 => kh σ H2 U2 ρ2 _ p2.er ?_) fun _ _ h => h.on er p1
  have p12 := p1.trans er p2
  refine h.bind.mono (fun u ρ3 h H3 U3 p3 => ?_) fun _ _ h => h.on er p12
  obtain ⟨d, e1, h⟩ := h.get
  obtain ⟨v, e2, h⟩ := h.get
  have h' := OkE.on h er (p12.trans er p3)
  have hx := ((r1.on p2 p1.er).on p3 p2.er).vw p3.er e1
  unfold slice2 at e2
  split at e2 <;> try cases e2
  · obtain ⟨q, vs, rfl, s, r⟩ := hx
    exact .inl ⟨q, vs, rfl, SqL.of s, fun p hp => h'.newL p3.er (r.cut l u) hp⟩
  · obtain ⟨q, vs, rfl, s, r⟩ := rp_tup hx
    refine .inr (.inl ⟨q, vs, rfl, s.sq, fun hw => ?_, fun _ p hp => h'.newT p3.er (r.cut l u) hp⟩)
    rw [r.len] at hw
    have h2 : OkE X.K w σ H3 U3 ρ3 Q (.dat (.tuple _)) ρ3 := h'
    rw [cut_all hw] at h2
    exact h2.one p3.er hx
  · split at e2 <;> try cases e2
    rename_i c
    exact .inr (.inr ⟨_, rp_str hx, size_le c, h'.one p3.er (.str _)⟩)
/-! ### built-ins of one operand -/
theorem vals_cons {x : V} {xs : List V} : (x :: xs) = x :: xs := rfl
def BltOk (X : Cx) (w : Wd) (b : Blt) (f : Value) : Prop := ∃ r : List V → Hp → VK → Prop, CallR X f r ∧ ∀ (σ : L2.St) (H : Hp) (U : Addr → Prop) (ρ : Env) (x : V) (d : D) (v : Vl) (Q : VK),
  ER X.K w.fa H U σ ρ → Vw X.K H U x d → blt1 b d = some v → OkE X.K w σ H U ρ Q v ρ → r [x] H Q
theorem se_blt {a : Expr} {ta : T} {b : Blt} {id : String} {x : Str} {p pos : Pos} (ho : BltOk X w b (.builtin id)) (ha : SO X w cl W a ta) (hg : Gl X x) (hm : X.mg x = none) (hv : bootBuiltins x = some (.builtin id)) (hn : x ≠ "__name__" := by decide) (hdb : (x == ("__debug__" : Str)) = false := by decide)
    (he : starEach [a] X.env = (false, eval a X.env) :: starEach [] X.env := by rfl) (hpl : (backTo pos (starEach [] X.env)).any (·.1) = false := by rfl) : SE X w cl W (.Call (.Name x p) [a] [] pos) (.blt b ta) := by
  obtain ⟨r, hr, hk⟩ := ho
  obtain ⟨ea, pa, ka⟩ := ha
  refine ⟨_, pe_callB hr hg hm hv (pa_cons pa pa_nil he) hn hdb he hpl, fun σ H U ρ Q er h => ka σ H U ρ _ er ?_⟩
  unfold evE at h
  refine h.bind.mono (fun o1 ρ1 h x H1 U1 p1 r1 => ?_) fun _ _ h => h
  obtain ⟨d, e1, h⟩ := h.get
  obtain ⟨v, e2, h⟩ := h.get
  exact hk σ H1 U1 ρ1 x d v Q p1.er (r1.vw p1.er e1) e2 (OkE.on h er p1)
theorem se_bltT {a : Expr} {ta : T} {b : Blt} {id : String} {x : Str} {p pos : Pos} (ho : BltOk X w b (.type id)) (ha : SO X w cl W a ta) (hg : Gl X x) (hm : X.mg x = none) (hv : bootBuiltins x = some (.type id)) (hn : x ≠ "__name__" := by decide) (hdb : (x == ("__debug__" : Str)) = false := by decide)
    (he : starEach [a] X.env = (false, eval a X.env) :: starEach [] X.env := by rfl) (hpl : (backTo pos (starEach [] X.env)).any (·.1) = false := by rfl) : SE X w cl W (.Call (.Name x p) [a] [] pos) (.blt b ta) := by
  obtain ⟨r, hr, hk⟩ := ho
  obtain ⟨ea, pa, ka⟩ := ha
  refine ⟨_, pe_callTy hr hg hm hv (pa_cons pa pa_nil he) hn hdb he hpl, fun σ H U ρ Q er h => ka σ H U ρ _ er ?_⟩
  unfold evE at h
  refine h.bind.mono (fun o1 ρ1 h x H1 U1 p1 r1 => ?_) fun _ _ h => h
  obtain ⟨d, e1, h⟩ := h.get
  obtain ⟨v, e2, h⟩ := h.get
  exact hk σ H1 U1 ρ1 x d v Q p1.er (r1.vw p1.er e1) e2 (OkE.on h er p1)
theorem blt_len : BltOk X w .len (.builtin "len") := ⟨_, call_len, fun σ H U ρ x d v Q er hx hv h => by
  unfold blt1 at hv
  split at hv <;> try cases hv
  all_goals first | contradiction | skip
  · obtain ⟨a, vs, rfl, s, r⟩ := hx
    refine ⟨_, _, rfl, .inl ⟨vs, SqL.of s, rfl⟩, ?_⟩
    rw [r.len]
    exact h.one er (.int _)
  · obtain ⟨a, vs, rfl, s, r⟩ := rp_tup hx
    refine ⟨_, _, rfl, .inr ⟨vs, s.sq, rfl⟩, ?_⟩
    rw [r.len]
    exact h.one er (.int _)
  · split at hv <;> try cases hv
    rename_i c
    cases rp_str hx
    exact ⟨_, _, rfl, ⟨size_le c, rfl⟩, h.one er (.int _)⟩⟩
theorem call_int3 : CallR X (.type "int") (fun xs H Q => (∃ i, xs = [.int i] ∧ Q (.int i) H) ∨ (∃ k, xs = [.bl k] ∧ Q (.int (if k then 1 else 0)) H) ∨ ∃ x n, xs = [.str x] ∧ x.length ≤ 640 ∧ intText? x = some n ∧ Q (.int n) H) := by
  intro pins s σ H xs us Q I r h
  rcases h with ⟨i, e, q⟩ | ⟨k, e, q⟩ | ⟨x, n, rfl, hl, hn, q⟩
  · exact call_int1 pins s σ H xs us Q I r (.inl ⟨i, e, q⟩)
  · exact call_int1 pins s σ H xs us Q I r (.inr ⟨k, e, q⟩)
  · obtain ⟨u, rfl, t, rfl⟩ := vals1 r
    exact PySem.W.KIN.call_text hn hl ⟨.int n, H, I.tok _, ⟨_, rfl⟩, q⟩
theorem blt_int : BltOk X w .int (.type "int") := ⟨_, call_int3, fun σ H U ρ x d v Q er hx hv h => by
  unfold blt1 at hv
  split at hv <;> try cases hv
  all_goals first | contradiction | skip
  · cases rp_int hx
    exact .inl ⟨_, rfl, h.one er (.int _)⟩
  · cases rp_bl hx
    exact .inr (.inl ⟨_, rfl, h.one er (.int _)⟩)
  · rename_i x
    split at hv
    · rename_i c
      obtain ⟨n, e, e'⟩ := Option.map_eq_some_iff.mp hv
      subst e'
      rw [rp_str hx]
      exact .inr (.inr ⟨_, _, rfl, c, e, h.one er (.int _)⟩)
    · cases hv⟩
theorem blt_list : BltOk X w .list (.type "list") := ⟨_, call_list_of, fun σ H U ρ x d v Q er hx hv h => by
  unfold blt1 at hv
  split at hv <;> try cases hv
  all_goals first | contradiction | skip
  · obtain ⟨a, vs, rfl, s, r⟩ := hx
    exact ⟨a, vs, rfl, .inl (SqL.of s), fun p hp => h.newL er r hp⟩
  · obtain ⟨a, vs, rfl, s, r⟩ := rp_tup hx
    exact ⟨a, vs, rfl, .inr s.sq, fun p hp => h.newL er r hp⟩⟩
theorem blt_tuple : BltOk X w .tuple (.type "tuple") := ⟨_, call_tuple_of, fun σ H U ρ x d v Q er hx hv h => by
  unfold blt1 at hv
  split at hv <;> try cases hv
  all_goals first | contradiction | skip
  · obtain ⟨a, vs, rfl, s, r⟩ := hx
    exact ⟨a, vs, rfl, .inl ⟨SqL.of s, fun p hp => h.newT er r hp⟩⟩
  · obtain ⟨a, vs, rfl, s, r⟩ := rp_tup hx
    exact ⟨a, vs, rfl, .inr ⟨s.sq, h.one er hx⟩⟩⟩
theorem bools_of : ∀ {ds : List D} {bs : List Bool} {vs : List V}, boolsOf ds = some bs → Rps K H U vs ds → vs = bs.map V.bl
  | [], bs, vs, h, r => by
    cases r
    cases h
    rfl
  | d :: ds, bs, vs, h, r => by
    cases r with
    | cons r1 r2 =>
      unfold boolsOf at h
      split at h
      · rename_i heq
        cases heq
      · rename_i b r' heq
        cases heq
        obtain ⟨bs', e1, rfl⟩ := Option.map_eq_some_iff.mp h
        rw [rp_bl r1, bools_of e1 r2]
        rfl
      · cases h
theorem blt_all (hc : X.calm = true) : BltOk X w .all (.builtin "all") := ⟨_, cr_all hc, fun σ H U ρ x d v Q er hx hv h => by
  unfold blt1 at hv
  split at hv <;> try cases hv
  all_goals first | contradiction | skip
  obtain ⟨bs, e1, rfl⟩ := Option.map_eq_some_iff.mp hv
  obtain ⟨a, vs, rfl, s, r⟩ := hx
  have := bools_of e1 r
  subst this
  exact ⟨a, bs, rfl, SqL.of s, h.one er (.bl _)⟩⟩
theorem ints_of : ∀ {ds : List D} {bs : List Int} {vs : List V}, intsOf ds = some bs → Rps K H U vs ds → vs = bs.map V.int
  | [], bs, vs, h, r => by
    cases r
    cases h
    rfl
  | d :: ds, bs, vs, h, r => by
    cases r with
    | cons r1 r2 =>
      unfold intsOf at h
      split at h
      · rename_i heq
        cases heq
      · rename_i b r' heq
        cases heq
        obtain ⟨bs', e1, rfl⟩ := Option.map_eq_some_iff.mp h
        rw [rp_int r1, ints_of e1 r2]
        rfl
      · cases h
theorem blt_sum (hc : X.calm = true) : BltOk X w .sum (.builtin "sum") := ⟨_, cr_sum hc, fun σ H U ρ x d v Q er hx hv h => by
  unfold blt1 at hv
  split at hv <;> try cases hv
  all_goals first | contradiction | skip
  obtain ⟨bs, e1, rfl⟩ := Option.map_eq_some_iff.mp hv
  obtain ⟨a, vs, rfl, s, r⟩ := hx
  have := ints_of e1 r
  subst this
  exact ⟨a, bs, rfl, SqL.of s, h.one er (.int _)⟩⟩
theorem strs_of : ∀ {ds : List D} {bs : List Str} {vs : List V}, strsOf ds = some bs → Rps K H U vs ds → vs = bs.map V.str
  | [], bs, vs, h, r => by
    cases r
    cases h
    rfl
  | d :: ds, bs, vs, h, r => by
    cases r with
    | cons r1 r2 =>
      unfold strsOf at h
      split at h
      · rename_i heq
        cases heq
      · rename_i b r' heq
        cases heq
        obtain ⟨bs', e1, rfl⟩ := Option.map_eq_some_iff.mp h
        rw [rp_str r1, strs_of e1 r2]
        rfl
      · cases h
theorem rps_strs : ∀ bs : List Str, Rps K H U (bs.map V.str) (bs.map .str)
  | [] => .nil
  | b :: bs => .cons (.str b) (rps_strs bs)
theorem leS_total (x y : Str) : (leS x y || leS y x) = true := by
  unfold leS
  rw [ltCps_eq, ltCps_eq]
  by_cases h : y.cps.toList < x.cps.toList
  · have h2 : ¬ x.cps.toList < y.cps.toList := List.lt_asymm h
    simp [h2]
  · simp [h]
theorem leS_trans (x y z : Str) (h1 : leS x y = true) (h2 : leS y z = true) : leS x z = true := by
  unfold leS at *
  rw [ltCps_eq] at *
  simp only [Bool.not_eq_true', decide_eq_false_iff_not] at *
  exact fun q => h1 (List.lt_of_le_of_lt (List.not_lt.mp h2) q)
theorem leS_anti (x y : Str) (h1 : leS x y = true) (h2 : leS y x = true) : x = y := by
  unfold leS at *
  rw [ltCps_eq] at *
  simp only [Bool.not_eq_true', decide_eq_false_iff_not] at *
  have e := List.le_antisymm (List.not_lt.mp h1) (List.not_lt.mp h2)
  obtain ⟨⟨x⟩⟩ := x
  obtain ⟨⟨y⟩⟩ := y
  simp at e
  subst e
  rfl
theorem rising_pw : ∀ (l : List Str) (p : Str), risingS p l = true → (p :: l).Pairwise (fun a b => leS a b = true)
  | [], p, _ => List.pairwise_singleton _ _
  | x :: r, p, h => by
    have h' : (!Spec.ltCps x.cps.toList p.cps.toList && risingS x r) = true := h
    obtain ⟨h1, h2⟩ := (Bool.and_eq_true _ _).mp h'
    have ih := rising_pw r x h2
    refine List.pairwise_cons.mpr ⟨fun y hy => ?_, ih⟩
    rcases (List.mem_cons.mp hy) with rfl | hy
    · exact h1
    · exact leS_trans p x y h1 ((List.pairwise_cons.mp ih).1 y hy)
theorem sorted_pw (l : List Str) (h : sortedS l = true) : l.Pairwise (fun a b => leS a b = true) := by
  cases l with
  | nil => exact .nil
  | cons x r => exact rising_pw r x h
theorem sortS_eq {xs ys : List Str} (h : ys.Perm xs) (s : sortedS ys = true) : ys = sortS xs := by
  refine List.Perm.eq_of_pairwise (le := fun a b => leS a b = true) (fun a b _ _ h1 h2 => leS_anti a b h1 h2) (sorted_pw ys s) ?_ (h.trans (List.mergeSort_perm xs leS).symm)
  exact List.pairwise_mergeSort leS_trans leS_total xs
theorem blt_sorted : BltOk X w .sorted (.builtin "sorted") := ⟨_, cr_sortedS, fun σ H U ρ x d v Q er hx hv h => by
  unfold blt1 at hv
  split at hv <;> try cases hv
  all_goals first | contradiction | skip
  split at hv <;> try cases hv
  rename_i c
  obtain ⟨bs, e1, rfl⟩ := Option.map_eq_some_iff.mp hv
  obtain ⟨a, vs, rfl, s, r⟩ := hx
  have := strs_of e1 r
  subst this
  have hl : bs.length < 64 := by
    have := r.len
    rw [List.length_map] at this
    rw [this]
    exact of_decide_eq_true c
  refine ⟨a, bs, rfl, SqL.of s, hl, fun ys p hp hs hn => ?_⟩
  rw [sortS_eq hp hs]
  exact h.newL er (rps_strs _) hn⟩
theorem blt_ord : BltOk X w .ord (.builtin "ord") := ⟨_, call_ord, fun σ H U ρ x d v Q er hx hv h => by
  unfold blt1 at hv
  split at hv <;> try cases hv
  all_goals first | contradiction | skip
  split at hv <;> try cases hv
  rename_i c
  cases rp_str hx
  exact ⟨_, rfl, c, h.one er (.int _)⟩⟩
theorem call_str_bl : CallR X (.type "str") (fun xs H Q => ∃ b : Bool, xs = [.bl b] ∧ Q (.str (if b then "True" else "False")) H) := by
  intro pins s σ H xs us Q I r h'
  have h := h'
  obtain ⟨b, rfl, q⟩ := h
  have r' := vals1 r
  obtain ⟨u, rfl, rx⟩ := r'
  obtain rfl : u = .bool b := rx
  exact PySem.P.str_of_bool ⟨.str _, H, I.tok _, ⟨_, rfl⟩, q⟩
theorem blt_str : BltOk X w .str (.type "str") := ⟨_, call_str_int.or (call_str_bl.or SkE.call_str_str), fun σ H U ρ x d v Q er hx hv h => by
  unfold blt1 at hv
  split at hv <;> try cases hv
  all_goals first | contradiction | skip
  · split at hv <;> try cases hv
    rename_i c
    cases rp_int hx
    exact .inl ⟨_, rfl, of_decide_eq_true c, h.one er (.str _)⟩
  · cases rp_bl hx
    exact .inr (.inl ⟨_, rfl, h.one er (.str _)⟩)
  · cases rp_str hx
    exact .inr (.inr ⟨_, rfl, h.one er (.str _)⟩)⟩
/-- repr of data -/
theorem call_reprD (hg : X.A.guards = some []) (hu : X.A.units + 190 < cLine) : CallR X (.builtin "repr") (fun xs H Q => ∃ x d, xs = [x] ∧ Dp X.K H x d ∧ d.canLay0 = true ∧ d.showable = true ∧ d.shown.length ≤ sizeLine ∧ d.depth ≤ 60 ∧ Q (.str d.shown) H) := by
  intro pins s σ H xs us Q I r h'
  have h := h'
  obtain ⟨x, d, rfl, hd, hc, hs, hz, hp, q⟩ := h
  have r' := vals1 r
  obtain ⟨u, rfl, rx⟩ := r'
  obtain ⟨as, rd⟩ := Dp.reads I d x u hd rx
  have fin : ∀ h' t tk, (∀ b o, s.heap.get? b = some o → h'.get? b = some o) → EP X pins σ Q (.str d.shown t) { s with heap := h', toks := tk } := fun h' t tk k => ⟨.str d.shown, H, I.kept k, ⟨t, rfl⟩, q⟩
  cases d with
  | list ds =>
    cases hd with
    | lst h1 h2 =>
      cases rx
      exact repr_of_reads' rd hs (PyData.noDict_hsm (PyData.hasDict_of_canLay _ hc)) hg (by omega) (fun _ _ e => e) (fun h' t tk k => fin h' t tk k) hz
  | tuple ds =>
    cases hd with
    | tup h1 h2 =>
      cases rx
      exact repr_of_reads' rd hs (PyData.noDict_hsm (PyData.hasDict_of_canLay _ hc)) hg (by omega) (fun _ _ e => e) (fun h' t tk k => fin h' t tk k) hz
  | none =>
    cases hd
    cases rx
    exact P.repr_of_none ⟨.str (PyData.shown .none), H, I.tok _, ⟨_, by simp only [PyData.shown]; rfl⟩, q⟩
  | bool b =>
    cases hd
    cases rx
    exact P.repr_of_bool ⟨.str (PyData.shown (.bool b)), H, I.tok _, ⟨_, by simp only [PyData.shown]; rfl⟩, q⟩
  | int i =>
    cases hd
    obtain ⟨t, rfl⟩ := rx
    exact P.repr_of_int (of_decide_eq_true (by simpa only [PyData.showable] using hs)) ⟨.str (PyData.shown (.int i)), H, I.tok _, ⟨_, by simp only [PyData.shown]; rfl⟩, q⟩
  | str z =>
    cases hd
    obtain ⟨t, rfl⟩ := rx
    exact P.repr_of_str ⟨.str (PyData.shown (.str z)), H, I.tok _, ⟨_, by simp only [PyData.shown]; rfl⟩, q⟩ (by simpa only [PyData.shown] using hz)
  | dict b => cases hd
end
end Pv
set_option Elab.async false
set_option linter.all false
set_option maxRecDepth 100000
set_option maxHeartbeats 2100000
/-! sorted(xs), xs pairs of a text and a whole number. -/
namespace Pv
open PySem PyProof.Rows SrtO Srt
theorem str_eq {x y : Str} (h : x.cps.toList = y.cps.toList) : x = y := by
  obtain ⟨⟨x⟩⟩ := x
  obtain ⟨⟨y⟩⟩ := y
  simp at h
  subst h
  rfl
theorem ltSI_iff {p q : Str × Int} : ltSI p q = true ↔ p.1.cps.toList < q.1.cps.toList ∨ (p.1 = q.1 ∧ p.2 < q.2) := by
  unfold ltSI
  by_cases e : p.1 = q.1
  · rw [if_pos e, decide_eq_true_eq]
    exact ⟨fun h => .inr ⟨e, h⟩, fun h => h.elim (fun h => absurd (e ▸ h) (List.lt_irrefl _)) (·.2)⟩
  · rw [if_neg e, decide_eq_true_eq]
    exact ⟨.inl, fun h => h.elim id fun h => absurd h.1 e⟩
theorem ltSI_no {p q : Str × Int} : ltSI p q = false ↔ q.1.cps.toList < p.1.cps.toList ∨ (p.1 = q.1 ∧ q.2 ≤ p.2) := by
  have hb : ltSI p q = false ↔ ¬ (p.1.cps.toList < q.1.cps.toList ∨ (p.1 = q.1 ∧ p.2 < q.2)) := by
    rw [← ltSI_iff]
    cases ltSI p q <;> simp
  rw [hb]
  constructor
  · intro h
    by_cases e : p.1 = q.1
    · refine .inr ⟨e, ?_⟩
      have : ¬ p.2 < q.2 := fun z => h (.inr ⟨e, z⟩)
      omega
    · refine .inl ?_
      have h1 : ¬ p.1.cps.toList < q.1.cps.toList := fun z => h (.inl z)
      by_cases h2 : q.1.cps.toList < p.1.cps.toList
      · exact h2
      · exact absurd (str_eq (List.le_antisymm (List.not_lt.mp h2) (List.not_lt.mp h1))) e
  · rintro (h | ⟨e, h⟩) (k | ⟨e', k⟩)
    · exact List.lt_asymm h k
    · rw [e'] at h; exact List.lt_irrefl _ h
    · rw [e] at k; exact List.lt_irrefl _ k
    · omega
theorem swoSI {α : Type} (k : α → Str × Int) : Swo fun v u => ltSI (k v) (k u) := by
  refine ⟨fun x y h => ?_, fun x y z h1 h2 => ?_⟩
  · rcases ltSI_iff.mp h with a | ⟨e, a⟩
    · exact ltSI_no.mpr (.inl a)
    · exact ltSI_no.mpr (.inr ⟨e.symm, by omega⟩)
  · refine ltSI_no.mpr ?_
    rcases ltSI_no.mp h1 with a | ⟨e, a⟩ <;> rcases ltSI_no.mp h2 with b | ⟨e', b⟩
    · exact .inl (List.lt_trans a b)
    · exact .inl (by rw [e']; exact a)
    · exact .inl (by rw [← e]; exact b)
    · exact .inr ⟨e'.trans e, by omega⟩
def TupSI (h : Heap) (v : Value) (x : Str) (y : Int) : Prop := ∃ a o t u n, v = .ref a ∧ h.get? a = some o ∧ o.cls = .type "tuple" ∧ o.data = .seq #[.str x t, .int y u] n
theorem TupSI.on {h h' : Heap} {v : Value} {x : Str} {y : Int} (p : TupSI h v x y) (k : ∀ b o, h.get? b = some o → o.cls = .type "tuple" → h'.get? b = some o) : TupSI h' v x y :=
  p.elim fun a ⟨o, t, u, n, e, ho, hc, hd⟩ => ⟨a, o, t, u, n, e, k _ _ ho hc, hc, hd⟩
theorem heads_of {h : Heap} : ∀ {us : List Value}, (∀ v ∈ us, ∃ x y, TupSI h v x y) → ∃ gs : List Value, PySem.W.KatTups h us gs ∧ gs.length = us.length ∧ ∀ f ∈ gs, ∃ x t, f = Value.str x t
  | [], _ => ⟨[], .nil, rfl, fun _ hm => nomatch hm⟩
  | v :: us, hp => by
    obtain ⟨gs, k1, k2, k3⟩ := heads_of (us := us) fun v' hm => hp v' (.tail _ hm)
    obtain ⟨x, y, a, o, t, u, n, e, ho, hc, hd⟩ := hp v (.head _)
    subst e
    refine ⟨.str x t :: gs, .cons ho hc hd rfl k1, congrArg (· + 1) k2, fun f hm => ?_⟩
    rcases List.mem_cons.mp hm with e | hm
    · exact ⟨x, t, e⟩
    · exact k3 f hm
section
variable {prog : Program} {w : World} {A : Around} {E : Value → Shared → Prop} {s : Shared}
theorem cmpSI {us : List Value} {k : Value → Str × Int} (hp : ∀ v ∈ us, TupSI s.heap v (k v).1 (k v).2) : SrtO.Cmp prog w A s (tuples' true) (fun p => p.1 ∈ us) (lt2 fun v u => ltSI (k v) (k u)) := by
  intro p q hm hm'
  have g1 := hp _ hm
  have g2 := hp _ hm'
  show wpAny (model prog w) A (keyLt' (tuples' true) p.1 q.1) (fun r s' => s' = s ∧ r = ltSI (k p.1) (k q.1)) (fun _ _ => False) s
  unfold ltSI
  generalize (k p.1).1 = x at g1 ⊢
  generalize (k p.1).2 = y at g1 ⊢
  generalize (k q.1).1 = x' at g2 ⊢
  generalize (k q.1).2 = y' at g2 ⊢
  obtain ⟨a, o, t, u, n, e, ho, hc, hd⟩ := g1
  obtain ⟨a', o', t', u', n', e', ho', hc', hd'⟩ := g2
  rw [e, e']
  refine PySem.W.kat_lt ho hd ho' hd' ?_
  show PySem.W.KatLex prog w A true (decide (2 < 2)) _ [(.str x t, .str x' t'), (.int y u, .int y' u')] 0 s
  refine PySem.W.kat_cons (SeqAt.EqAt.str_str x t x' t' prog w _ _ ?_)
  refine PySem.W.kat_go (fun z => ?_) fun z => ?_
  · have ex : x = x' := by simpa using z
    refine PySem.W.kat_yes (PySem.W.kat_cons (SeqAt.EqAt.int_int y u y' u' prog w _ _ ?_))
    refine PySem.W.kat_go (fun z2 => ?_) fun z2 => ?_
    · have ey : y = y' := by simpa using z2
      exact PySem.W.kat_yes (PySem.W.kat_nil ⟨rfl, by rw [if_pos ex, ey]; exact (decide_eq_false (Int.lt_irrefl _)).symm⟩)
    · refine PySem.W.kat_no (PySem.W.kat_one _ _ (PyProof.Rows.lt_int ?_))
      exact (show s = s ∧ _ = _ from ⟨rfl, (if_pos ex).symm⟩)
  · have ex : ¬ x = x' := by simpa using z
    exact PySem.W.kat_no (oneLt_str ⟨rfl, (if_neg ex).symm⟩)
theorem ablSI {a : Addr} {us : List Value} {k : Value → Str × Int} (h0 : 0 < us.length) (hp : ∀ v ∈ us, TupSI s.heap v (k v).1 (k v).2) (ha : ∀ o, s.heap.get? a = some o → o.cls ≠ .type "tuple") : SortableO prog w A s a us fun v u => ltSI (k v) (k u) := by
  intro h' keep
  have hp' : ∀ v ∈ us, TupSI h' v (k v).1 (k v).2 := fun v hm => (hp v hm).on fun b o e c => keep b o (fun z => ha o (z ▸ e) c) e
  obtain ⟨gs, k1, k2, k3⟩ := heads_of fun v hm => ⟨_, _, hp' v hm⟩
  refine ⟨tuples' true, fun Q E hq => ?_, cmpSI hp'⟩
  refine PySem.W.kat_kind (T := .type "str") k1 (by omega) (fun f hm => ?_) (by rfl) ?_
  · obtain ⟨x, t, rfl⟩ := k3 f hm
    exact PySem.W.Looks.now
  · have e : (Value.type "str" != Value.type "tuple") = true := by first | decide +kernel | rfl | decide
    rw [e]
    exact hq
theorem sortedSI {l : Addr} {us : List Value} {k : Value → Str × Int} {Q : Value → Shared → Prop} (hl : s.heap.IsList l us.toArray) (hz : us.length ≤ sizeLine) (hp : ∀ v ∈ us, TupSI s.heap v (k v).1 (k v).2)
    (h : ∀ (h' : Heap) (d : Addr) (out : List Value), Srtd (fun v u => ltSI (k v) (k u)) out → Stb (fun v u => ltSI (k v) (k u)) out us → (∀ b o, s.heap.get? b = some o → h'.get? b = some o) → s.heap.objs.size ≤ d → (∃ n, h'.get? d = some (seqObj "list" out.toArray n)) → Q (.ref d) { s with heap := h' }) :
    wpAny (model prog w) A (call (.builtin "sorted") [.ref l]) Q E s := by
  refine sorted_ord (swoSI k) hl hz (fun h2 h₁ a ha kk => ablSI (s := { s with heap := h₁ }) (by omega) (fun v hm => (hp v hm).on fun b o e _ => (kk b o e).2) fun o e => ?_) fun out hs hb => h _ _ out hs hb (fun b o e => sortedAll_old e) (Nat.le_succ _) (sortedAll_at s.heap us out.toArray)
  have e' : some o = some (seqObj "list" us.toArray 0) := e.symm.trans ha
  cases e'
  exact fun c => absurd (Value.type.inj c) (by decide)
end
end Pv
namespace Pv
open PySem PySem.Spec PyProof.Rows L2
/-- a pair of a text and a whole number, wherever it stands -/
def PairV (K : PySem.W.Frag) (H : Hp) (x : V) (p : Str × Int) : Prop := ∃ t, x = V.ref t ∧ SqT K H t [.str p.1, .int p.2]
def rSI (K : PySem.W.Frag) : List V → Hp → VK → Prop := fun vs H Q => ∃ (a : Addr) (xs : List V), vs = [V.ref a] ∧ SqL K H a xs ∧ (∀ x ∈ xs, ∃ p, PairV K H x p) ∧
  ∀ ys p, ys.Pairwise (fun x y => ∀ px py, PairV K H x px → PairV K H y py → ltSI py px = false) → ys.Perm xs → H p = none → Q (.ref p) (upd H p (.lst ys))
section
variable {X : Cx}
theorem cr_SI : CallR X (.builtin "sorted") (rSI X.K) := by
  intro pins s σ H vs us Q I r h
  obtain ⟨a, xs, rfl, hs, hx, q⟩ := h
  obtain ⟨its, rv, hl, hz⟩ := I.list hs
  obtain ⟨u, rfl, ru⟩ := vals1 r
  obtain rfl : u = Value.ref a := ru
  obtain ⟨e1, e2⟩ := refs_back rv fun x m => (hx x m).elim fun p h => h.elim fun t h => ⟨t, h.1⟩
  have uniq : ∀ x p p', PairV X.K H x p → PairV X.K H x p' → p = p' := by
    rintro x p p' ⟨t, e, h⟩ ⟨t', e', h'⟩
    subst e
    cases e'
    have := I.tuple_inj h h'
    injection this with z1 z2
    injection z1 with z1
    injection z2 with z2 _
    injection z2 with z2
    exact Prod.ext z1 z2
  have ex : ∃ k : V → Str × Int, ∀ x ∈ xs, PairV X.K H x (k x) := by
    classical
    exact ⟨fun x => if h : ∃ p, PairV X.K H x p then h.choose else ("", 0), fun x hx' => by
      show PairV X.K H x (if h : ∃ p, PairV X.K H x p then h.choose else ("", 0))
      rw [dif_pos (hx x hx')]
      exact (hx x hx').choose_spec⟩
  obtain ⟨k, hk⟩ := ex
  refine sortedSI (k := fun u => k (backV u)) hl.isList (rv.length ▸ hz) (fun v hv => ?_) fun h' d out h1 h2 kp hd hn => ?_
  · obtain ⟨t, rfl⟩ := e2 v hv
    have hm : V.ref t ∈ xs := e1 ▸ List.mem_map.mpr ⟨_, hv, rfl⟩
    obtain ⟨t', e, ht⟩ := hk _ hm
    cases e
    obtain ⟨its2, r2, ⟨o, ho, hc, n, hd⟩, _⟩ := I.tuple ht
    obtain ⟨u1, u2, rfl, ri, rj⟩ := vals2 r2
    obtain ⟨t1, rfl⟩ := ri
    obtain ⟨t2, rfl⟩ := rj
    exact ⟨t, o, t1, t2, n, rfl, ho, hc, hd⟩
  · have h3 : ∀ u ∈ out, ∃ a, u = Value.ref a := fun u hu => e2 u (h2.perm.mem_iff.mp hu)
    obtain ⟨n, hn⟩ := hn
    have hp : (out.map backV).Perm xs := e1 ▸ h2.perm.map backV
    have h1' : (out.map backV).Pairwise (fun x y => ltSI (k y) (k x) = false) := List.pairwise_map.mpr h1
    refine ⟨.ref d, upd H d (.lst (out.map backV)), I.laid (t' := s.toks) kp hd ⟨?_, out, n, vals_back h3, hn⟩, rfl, q _ d (h1'.imp_of_mem fun {x y} mx my z px py hx' hy' => ?_) hp (I.hok.fresh hd)⟩
    · exact hp.length_eq ▸ hz
    · rw [uniq _ _ _ hx' (hk x (hp.mem_iff.mp mx)), uniq _ _ _ hy' (hk y (hp.mem_iff.mp my))]
      exact z
end
section
variable {K : PySem.W.Frag} {w : Wd} {H : Hp} {U : Addr → Prop}
theorem rps_perm {ys vs : List V} (h : ys.Perm vs) : ∀ {ds : List D}, Rps K H U vs ds → ∃ ds', Rps K H U ys ds' ∧ ds'.Perm ds := by
  induction h with
  | nil => intro ds r; exact ⟨ds, r, .refl _⟩
  | cons x _ ih =>
    intro ds r
    cases r with
    | cons r1 r2 =>
      obtain ⟨ds', a, b⟩ := ih r2
      exact ⟨_ :: ds', .cons r1 a, b.cons _⟩
  | swap x y l =>
    intro ds r
    cases r with
    | cons r1 r2 =>
      cases r2 with
      | cons r2 r3 => exact ⟨_, .cons r2 (.cons r1 r3), .swap _ _ _⟩
  | trans _ _ ih1 ih2 =>
    intro ds r
    obtain ⟨ds1, a, b⟩ := ih2 r
    obtain ⟨ds2, c, e⟩ := ih1 a
    exact ⟨ds2, c, e.trans b⟩
theorem pairs_map : ∀ {ds : List D} {ps : List (Str × Int)}, pairsOf ds = some ps → ds = ps.map pairD
  | [], ps, h => by cases h; rfl
  | d :: ds, ps, h => by
    unfold pairsOf at h
    split at h
    · rename_i heq; cases heq
    · rename_i x i r heq
      cases heq
      obtain ⟨ps', e1, rfl⟩ := Option.map_eq_some_iff.mp h
      rw [pairs_map e1]; rfl
    · cases h
theorem perm_pairs : ∀ {ps : List (Str × Int)} {ds : List D}, ds.Perm (ps.map pairD) → ∃ qs : List (Str × Int), ds = qs.map pairD ∧ qs.Perm ps := by
  intro ps ds h
  let un : D → Str × Int := fun d => match d with
    | .tuple [.str x, .int i] => (x, i)
    | _ => ("", 0)
  have e : ∀ qs : List (Str × Int), (qs.map pairD).map un = qs := fun qs => by
    rw [List.map_map]
    exact List.map_id'' (fun p => rfl) qs
  have hp := h.map un
  rw [e] at hp
  refine ⟨ds.map un, ?_, hp⟩
  rw [List.map_map]
  have : ∀ d ∈ ds, (pairD ∘ un) d = d := fun d hd => by
    obtain ⟨p, _, ep⟩ := List.mem_map.mp (h.mem_iff.mp hd)
    subst ep; rfl
  rw [List.map_congr_left this, List.map_id']
theorem leP_total (x y : Str × Int) : (leP x y || leP y x) = true := by
  unfold leP
  cases h : ltSI y x with
  | false => rfl
  | true => rw [(swoSI (fun p : Str × Int => p)).asym _ _ h]; rfl
theorem leP_trans (x y z : Str × Int) (h1 : leP x y = true) (h2 : leP y z = true) : leP x z = true := by
  unfold leP at *
  simp only [Bool.not_eq_true'] at *
  exact (swoSI (fun p : Str × Int => p)).tr _ _ _ h1 h2
theorem leP_anti (x y : Str × Int) (h1 : leP x y = true) (h2 : leP y x = true) : x = y := by
  unfold leP at *
  simp only [Bool.not_eq_true'] at *
  rcases ltSI_no.mp h1 with a | ⟨e, a⟩ <;> rcases ltSI_no.mp h2 with b | ⟨e', b⟩
  · exact absurd b (List.lt_asymm a)
  · rw [e'] at a; exact absurd a (List.lt_irrefl _)
  · rw [e] at b; exact absurd b (List.lt_irrefl _)
  · exact Prod.ext e' (by omega)
theorem pair_v {v : V} {p : Str × Int} (h : Rp K H U v (pairD p)) : PairV K H v p := by
  obtain ⟨a, vs, rfl, s, r⟩ := rp_tup h
  cases r with
  | cons r1 r2 =>
    cases r2 with
    | cons r2 r3 =>
      cases r3
      cases r1
      cases r2
      exact ⟨a, rfl, s.sq⟩
theorem rps_pair : ∀ {vs : List V} {ps : List (Str × Int)}, Rps K H U vs (ps.map pairD) → ∀ v ∈ vs, ∃ p, PairV K H v p
  | _, [], r => by cases r; exact fun v hv => nomatch hv
  | _, p :: ps, r => by
    cases r with
    | cons r1 r2 =>
      intro v hv
      rcases List.mem_cons.mp hv with e | hv
      · exact e ▸ ⟨p, pair_v r1⟩
      · exact rps_pair r2 v hv
theorem rps_pw : ∀ {vs : List V} {ps : List (Str × Int)}, Rps K H U vs (ps.map pairD) → vs.Pairwise (fun x y => ∀ px py, PairV K H x px → PairV K H y py → ltSI py px = false) → ps.Pairwise (fun a b => leP a b = true)
  | _, [], r, _ => .nil
  | _, p :: ps, r, h => by
    cases r with
    | cons r1 r2 =>
      obtain ⟨h1, h2⟩ := List.pairwise_cons.mp h
      refine List.pairwise_cons.mpr ⟨fun q hq => ?_, rps_pw r2 h2⟩
      obtain ⟨v, hv, hr⟩ := rps_mem r2 hq
      unfold leP
      rw [h1 v hv p q (pair_v r1) (pair_v hr)]; rfl
where
  rps_mem : ∀ {vs : List V} {ps : List (Str × Int)} {q : Str × Int}, Rps K H U vs (ps.map pairD) → q ∈ ps → ∃ v ∈ vs, Rp K H U v (pairD q)
  | _, [], q, r, hq => nomatch hq
  | _, p :: ps, q, r, hq => by
    cases r with
    | cons r1 r2 =>
      rcases List.mem_cons.mp hq with e | hq
      · exact ⟨_, .head _, e ▸ r1⟩
      · obtain ⟨v, hv, hr⟩ := rps_mem r2 hq
        exact ⟨v, .tail _ hv, hr⟩
end
section
variable {X : Cx} {w : Wd}
theorem blt_sortp : BltOk X w .sortp (.builtin "sorted") := ⟨_, cr_SI, fun σ H U ρ x d v Q er hx hv h => by
  unfold blt1 at hv
  split at hv <;> try cases hv
  all_goals first | contradiction | skip
  obtain ⟨ps, e1, rfl⟩ := Option.map_eq_some_iff.mp hv
  obtain ⟨a, vs, rfl, s, r⟩ := hx
  have e2 := pairs_map e1
  subst e2
  refine ⟨a, vs, rfl, SqL.of s, rps_pair r, fun ys p pw hp hn => ?_⟩
  obtain ⟨ds', r', hd⟩ := rps_perm hp r
  obtain ⟨qs, e3, hq⟩ := perm_pairs hd
  subst e3
  have e4 : qs = sortP ps := List.Perm.eq_of_pairwise (le := fun a b => leP a b = true) (fun a b _ _ h1 h2 => leP_anti a b h1 h2) (rps_pw r' pw) (List.pairwise_mergeSort leP_trans leP_total ps) (hq.trans (List.mergeSort_perm ps leP).symm)
  subst e4
  exact h.newL er r' hn⟩
end
end Pv
set_option Elab.async false
set_option linter.all false
set_option maxRecDepth 100000
set_option maxHeartbeats 2100000
namespace Pv
open PySem L2 PyProof.Rows
section
variable {X : Cx} {w : Wd} {cl : Fun} {W : WX} {K : PySem.W.Frag} {σ : L2.St} {H : Hp} {U : Addr → Prop} {ρ : Env} {Q : VK}
theorem blt_repr (hg : X.A.guards = some []) (hu : X.A.units + 190 < cLine) : BltOk X w .repr (.builtin "repr") := ⟨_, call_reprD hg hu, fun σ H U ρ x d v Q er hx hv h => by
  unfold blt1 at hv
  split at hv <;> try cases hv
  all_goals first | contradiction | skip
  split at hv <;> try cases hv
  rename_i c
  simp only [Bool.and_eq_true] at c
  obtain ⟨⟨⟨c1, c2⟩, c3⟩, c4⟩ := c
  exact ⟨x, _, rfl, hx.dp, c1, c2, size_le c3, of_decide_eq_true c4, h.one er (.str _)⟩⟩
/-! ### isinstance -/
def tyName : Ty → String
  | .int => "int"
  | .bool => "bool"
  | .str => "str"
  | .tuple => "tuple"
  | .list => "list"
theorem kit_D (t : Ty) : ∀ d : D, (∀ kvs, d ≠ .dict kvs) → ∃ s : String, kitB s (tyName t) = some (isiD t d) ∧ ∀ (x : V), Vw K H U x d → TyX K H x (.type s)
  | .none, _ => ⟨"NoneType", by cases t <;> first | (show kitB _ _ = some true; decide +kernel) | (show kitB _ _ = some false; decide +kernel), fun x h => by rw [rp_non h]; exact .base .non⟩
  | .bool b, _ => ⟨"bool", by cases t <;> first | (show kitB _ _ = some true; decide +kernel) | (show kitB _ _ = some false; decide +kernel), fun x h => by rw [rp_bl h]; exact .base (.bl _)⟩
  | .int i, _ => ⟨"int", by cases t <;> first | (show kitB _ _ = some true; decide +kernel) | (show kitB _ _ = some false; decide +kernel), fun x h => by rw [rp_int h]; exact .base (.int _)⟩
  | .str z, _ => ⟨"str", by cases t <;> first | (show kitB _ _ = some true; decide +kernel) | (show kitB _ _ = some false; decide +kernel), fun x h => by rw [rp_str h]; exact .base (.str _)⟩
  | .list ds, _ => ⟨"list", by cases t <;> first | (show kitB _ _ = some true; decide +kernel) | (show kitB _ _ = some false; decide +kernel), fun x h => by
      obtain ⟨a, vs, rfl, s, r⟩ := h
      exact .base (.lst s)⟩
  | .tuple ds, _ => ⟨"tuple", by cases t <;> first | (show kitB _ _ = some true; decide +kernel) | (show kitB _ _ = some false; decide +kernel), fun x h => by
      obtain ⟨a, vs, rfl, s, r⟩ := rp_tup h
      rcases s with ⟨s | ⟨o, s⟩, _⟩ | s | ⟨o, its, n, s, hc, _⟩
      · exact .base (.tup s)
      · exact .fTuple s
      · exact (rd_nil s).elim
      · exact .kTuple s hc⟩
  | .dict kvs, h => absurd rfl (h kvs)
theorem se_isi {a : Expr} {ta : T} {t : Ty} {p p2 pos : Pos} (ha : SO X w cl W a ta) (hg : Gl X "isinstance") (hm : X.mg "isinstance" = none) {y : Str} (hg2 : Gl X y) (hm2 : X.mg y = none) (hv2 : bootBuiltins y = some (.type (tyName t))) (hn2 : y ≠ "__name__" := by decide) (hdb2 : (y == ("__debug__" : Str)) = false := by decide)
    (he : starEach [a, .Name y p2] X.env = (false, eval a X.env) :: starEach [.Name y p2] X.env := by rfl) : SE X w cl W (.Call (.Name "isinstance" p) [a, .Name y p2] [] pos) (.blt (.isi t) ta) := by
  obtain ⟨ea, pa, ka⟩ := ha
  refine ⟨_, pe_callB call_isi hg hm (by decide +kernel) (pa_cons pa (pa_cons (pe_bltn (v := .ty (tyName t)) hg2 hm2 hv2 rfl hn2 hdb2) pa_nil) he) (by decide) (by decide) he, fun σ H U ρ Q er h => ka σ H U ρ _ er ?_⟩
  unfold evE at h
  refine h.bind.mono (fun o1 ρ1 h x H1 U1 p1 r1 => ?_) fun _ _ h => h
  obtain ⟨d, e1, h⟩ := h.get
  obtain ⟨v, e2, h⟩ := h.get
  have hx := r1.vw p1.er e1
  have hd : ∀ kvs, d ≠ .dict kvs := fun kvs e => by
    subst e
    have : Rp X.K H1 U1 x (.dict kvs) := hx
    cases this
  obtain ⟨s, k1, k2⟩ := kit_D (K := X.K) (H := H1) (U := U1) t d hd
  have h' := OkE.on h er p1
  cases e2
  exact ⟨x, .ty (tyName t), .type s, .type (tyName t), _, rfl, .ty _, k2 x hx, kit_ty k1, h'.one p1.er (.bl _)⟩
/-! ### list(range(n)) -/
theorem rps_nums : ∀ (f : Nat → V) (g : Nat → D) (l : List Nat), (∀ k, Rp K H U (f k) (g k)) → Rps K H U (l.map f) (l.map g)
  | _, _, [], _ => .nil
  | f, g, k :: l, h => .cons (h k) (rps_nums f g l h)
theorem se_rngl {a : Expr} {ta : T} {p p2 pos pos2 : Pos} (hc : X.calm = true) (ha : SO X w cl W a ta) (hg : Gl X "list") (hm : X.mg "list" = none) (hg2 : Gl X "range") (hm2 : X.mg "range" = none)
    (he : starEach [a] X.env = (false, eval a X.env) :: starEach [] X.env := by rfl) : SE X w cl W (.Call (.Name "list" p) [.Call (.Name "range" p2) [a] [] pos2] [] pos) (.blt .rngl ta) := by
  obtain ⟨ea, pa, ka⟩ := ha
  refine ⟨_, pe_listRg hc hg hm (prg_1 hg2 hm2 pa he), fun σ H U ρ Q er h => ka σ H U ρ _ er ?_⟩
  unfold evE at h
  refine h.bind.mono (fun o1 ρ1 h x H1 U1 p1 r1 => ?_) fun _ _ h => h
  obtain ⟨d, e1, h⟩ := h.get
  obtain ⟨v, e2, h⟩ := h.get
  have hx := r1.vw p1.er e1
  have h' := OkE.on h er p1
  unfold blt1 at e2
  split at e2 <;> try cases e2
  all_goals first | contradiction | skip
  split at e2 <;> try cases e2
  rename_i c
  obtain ⟨c1, c2⟩ := of_decide_eq_true c
  refine ⟨_, rp_int hx, RgOk.of_le (by omega) c2 (by omega) c1, fun p hp => ?_⟩
  refine h'.newL p1.er ?_ hp
  unfold rgV nums
  rw [Int.sub_zero]
  exact rps_nums _ _ _ fun k => by
    rw [Int.zero_add]
    exact .int _
/-! ### upper -/
theorem se_upper {a : Expr} {ta : T} {apos pos : Pos} (ha : SO X w cl W a ta) (hb : attributeBase a (Str.ofString "upper") X.env (eval a X.env) = eval a X.env := by rfl) (hl : (apos.endLine == pos.line) = true := by rfl) :
    SE X w cl W (.Call (.Attribute a "upper" apos) [] [] pos) (.blt .upper ta) := by
  obtain ⟨ea, pa, ka⟩ := ha
  refine ⟨_, pe_upper pa hb hl, fun σ H U ρ Q er h => ka σ H U ρ _ er ?_⟩
  unfold evE at h
  refine h.bind.mono (fun o1 ρ1 h x H1 U1 p1 r1 => ?_) fun _ _ h => h
  obtain ⟨d, e1, h⟩ := h.get
  obtain ⟨v, e2, h⟩ := h.get
  have hx := r1.vw p1.er e1
  have h' := OkE.on h er p1
  unfold blt1 at e2
  split at e2 <;> try cases e2
  all_goals first | contradiction | skip
  split at e2 <;> try cases e2
  rename_i c
  cases rp_str hx
  exact ⟨⟨_, rfl⟩, _, rfl, rfl, of_decide_eq_true c, h'.one p1.er (.str _)⟩
/-! ### the script's beginning -/
theorem rps_ints : ∀ ns : List Int, Rps K H U (ns.map V.int) (ns.map .int)
  | [] => .nil
  | b :: bs => .cons (.int b) (rps_ints bs)
theorem se_cut {i : Nat} {n : Nat} {x : Str} {j : Nat} {p p1 p2 pos : Pos} (hN : X.N[i]? = some x) (hv : Vis X.env.scope x) (hd : (x == ("__debug__" : Str)) = false := by decide) (hcd : (x == ("__classdict__" : Str)) = false := by decide) :
    SE X w cl W (.Subscript (.Name x p) (.Slice none (some (.Constant (.int n) j p1)) none p2) pos) (.cut i n) := by
  refine ⟨_, pe_slice sl_list (pe_var hN hv hd hcd) po_none (po_some pe_int), fun σ H U ρ Q er h => ?_⟩
  unfold evE at h
  split at h
  · rename_i ns e
    obtain ⟨x, e1, a, rfl, r⟩ := er.val i _ e
    refine ⟨_, e1, (n : Int), rfl, a, ns.map V.int, rfl, ?_, fun p hp => ?_⟩
    · rcases r with ⟨o, r, _⟩ | r
      · exact .inl (.inr ⟨o, r⟩)
      · rcases r with r | r
        · exact (rd_nil r).elim
        · exact .inr r
    · have h' : OkE X.K w σ H U ρ Q (.lst ((ns.take n).map .int)) ρ := h
      refine h'.newL er ?_ hp
      have e3 : cutV (ns.map V.int) none (some (n : Int)) = (ns.take n).map V.int := by
        unfold cutV
        show ((ns.map V.int).drop 0).take (HT.sIx (ns.map V.int).length (ns.map V.int).length (some (n : Int)) - 0) = _
        rw [HT.sIx_nat, List.drop_zero, Nat.sub_zero, List.map_take, List.length_map]
        by_cases hn : n ≤ ns.length
        · rw [Nat.min_eq_left hn]
        · rw [Nat.min_eq_right (by omega), List.take_of_length_le (by rw [List.length_map]; omega), List.take_of_length_le (by rw [List.length_map]; omega)]
      rw [e3]
      exact rps_ints _
  · exact h.elim
end
end Pv
set_option Elab.async false
set_option linter.all false
set_option maxRecDepth 100000
set_option maxHeartbeats 2100000
namespace Pv
open PySem L2 PyProof.Rows
/-! ### what a def promises, called where no repr is under way -/
structure FnG (P : Program) (wd : World) (K : PySem.W.Frag) (mg : Str → Option Value) (base : Heap) (n : Nat) (f : Addr) (fd : FuncData) (ps : List Str) (sp : Sp) : Prop where
  len : ∀ xs H Q E, sp xs H Q E → xs.length = ps.length
  run : ∀ (A : Around) (outer : List PySem.Env) (s0 s : Shared) (H : Hp) (args : Args) (us : List Value) (vs : List V) (Q : VK) (E : XK), Room n A → A.guards = some [] → K.In s0.heap → Env0 P wd K mg base A outer s H →
    (∀ (M : Model) (A : Around) (E : Value → Shared → Prop) (R : List (Str × Value) → Shared → Prop), R (ps.zip us) s → wpAny M A (bindArgs fd args) R E s0) → Vals vs us → sp vs H Q E → codeAny (model P wd) A (.call (.ref f) args) (CR (L2.CX P wd) outer P wd H s Q E) s0
/-- behind a call: the heap, the lent arguments -/
structure Fin (K : PySem.W.Frag) (w : Wd) (vs : List V) (ws : List Vl) (H : Hp) (U : Addr → Prop) (fin : List (Option Vl)) (H' : Hp) (U' : Addr → Prop) : Prop where
  go : Go (Ow (ws.map some) (vs.map some)) H U H' U'
  dom : Dm w.fa.T U' H'
  lent : ∀ (i : Nat) (v : Vl) (x : V), ws[i]? = some v → v.own = true → vs[i]? = some x → ∃ v', fin[i]? = some (some v') ∧ RV K w.fa H' U' x v' ∧ LL v' = true
def spD (K : PySem.W.Frag) (w : Wd) (F : Fun) (k : Nat) : Sp := fun vs H Q E => ∃ (U : Addr → Prop) (ws : List Vl), ER K w.fa H U (vs.map some) (ws.map some) ∧
  match F k ws with
  | .ok (v, fin) => ∀ x H' U', Fin K w vs ws H U fin H' U' → RV K w.fa H' U' x v → (v.own = true → ∀ a, x = .ref a → Nw H a) → Q x H'
  | .exc ex fin => ∀ c d H' U', Fin K w vs ws H U fin H' U' → ExR K w.ca H' U' ex c d → E c d H'
  | .stuck => False
section
variable {X : Cx} {w : Wd} {cl : Fun} {W : WX} {n : Nat}
theorem run_fnG {f : Addr} {fd : FuncData} {ps : List Str} {sp : Sp} {pins : List (Addr × Obj)} {σ : L2.St} {H : Hp} {s : Shared} {Q : VK} {us zs : List Value} {kw : List (Str × Value)} {vs : List V} (F : FnG X.prog X.w X.K X.mg X.base n f fd ps sp) (hr : Room n X.A) (gd : X.A.guards = some [])
    (hb : zs.length = ps.length → BindsTo s fd ⟨us, kw⟩ (ps.zip zs)) (tk : Takes X W) (I : Inv X pins σ H s) (r : Vals vs zs) (h : sp vs H Q (fun c d H' => W c d σ H')) : wpAny (model X.prog X.w) X.A (call (.ref f) us kw) (EP X pins σ Q) X.xe s := by
  have bd := hb (by rw [← r.length]; exact F.len _ _ _ _ h)
  refine wpAny_call (codeAny_mono (F.run X.A X.stack s s H ⟨us, kw⟩ zs vs Q _ hr gd I.kIn I.env0 bd r h) fun r s' hq => ?_)
  cases r with
  | error e => exact tk e s' (XE.of_call I (fun _ _ _ h => h) hq)
  | ok fl =>
    cases fl with
    | ret u => exact I.after hq
    | next => exact False.elim hq
    | brk => exact False.elim hq
    | cont => exact False.elim hq
/-- how a def's arguments bind: by place, by the keywords in their order -/
structure Bnd (K : PySem.W.Frag) (fd : FuncData) (ps : List Str) : Prop where
  pos : ∀ (s : Shared) (us : List Value), K.In s.heap → us.length = ps.length → BindsTo s fd ⟨us, []⟩ (ps.zip us)
  kw : ∀ (s : Shared) (us : List Value), K.In s.heap → us.length = ps.length → BindsTo s fd ⟨[], ps.zip us⟩ (ps.zip us)
  kwr : ∀ (s : Shared) (us : List Value), K.In s.heap → us.length = ps.length → BindsTo s fd ⟨[], (ps.zip us).reverse⟩ (ps.zip us)
/-- how one with a star parameter does: what is left over becomes a new tuple -/
structure BndS (fd : FuncData) (ps : List Str) : Prop where
  pos : ∀ (s : Shared) (us ur : List Value), us.length + 1 = ps.length → ur.length ≤ sizeLine → ∀ (M : Model) (A : Around) (E : Value → Shared → Prop) (R : List (Str × Value) → Shared → Prop),
    R (ps.zip (us ++ [.ref s.heap.objs.size])) { s with heap := s.heap.push ({ cls := .type "tuple", data := .seq ur.toArray } : Obj) } → wpAny M A (bindArgs fd ⟨us ++ ur, []⟩) R E s
/-- all defs, at a level -/
structure HasF (X : Cx) (w : Wd) (cl : Fun) (n : Nat) : Prop where
  fn : ∀ k f, (w.fa k = some f ∨ w.fs k = some f) → FnG X.prog X.w X.K X.mg X.base n f (w.fd k) (w.ps k) (spD X.K w cl k)
  keep : ∀ k f, (w.fa k = some f ∨ w.fs k = some f) → PySem.W.keepIn X.K (.ref f) = true
  binds : ∀ k f, w.fa k = some f → Bnd X.K (w.fd k) (w.ps k)
  bstar : ∀ k f, w.fs k = some f → BndS (w.fd k) (w.ps k)
  room : Room n X.A
/-- .. called two deeper, in a lambda -/
def HasL (X : Cx) (w : Wd) (cl : Fun) (n : Nat) : Prop := ∀ k f, (w.fa k = some f ∨ w.fs k = some f) → FnG X.prog X.w X.K X.mg X.base n f (w.fd k) (w.ps k) (spD X.K w (sh cl) k)
/-! ### arguments -/
def RA (K : PySem.W.Frag) (fa : Fa) (H : Hp) (U : Addr → Prop) (σ : L2.St) (ρ : Env) (x : V) : Arg → Prop
  | .vl v => RV K fa H U x v ∧ v.own = false
  | .lend i => σ[i]? = some (some x) ∧ ∃ v, ρ[i]? = some (some v)
inductive RAs (K : PySem.W.Frag) (fa : Fa) (H : Hp) (U : Addr → Prop) (σ : L2.St) (ρ : Env) : List V → List Arg → Prop
  | nil : RAs K fa H U σ ρ [] []
  | cons {x : V} {xs : List V} {a : Arg} {as : List Arg} : RA K fa H U σ ρ x a → RAs K fa H U σ ρ xs as → RAs K fa H U σ ρ (x :: xs) (a :: as)
theorem RA.on {K : PySem.W.Frag} {fa : Fa} {H H1 : Hp} {U U1 : Addr → Prop} {σ : L2.St} {ρ ρ1 : Env} {x : V} {a : Arg} (p : Pst K fa σ H U ρ H1 U1 ρ1) (e : ER K fa H U σ ρ) (h : RA K fa H U σ ρ x a) : RA K fa H1 U1 σ ρ1 x a := by
  cases a with
  | vl v => exact ⟨h.1.on p e fun o => (by rw [h.2] at o; cases o), h.2⟩
  | lend i =>
    obtain ⟨h1, v, h2⟩ := h
    obtain ⟨v', h3, _⟩ := p.set i v h2
    exact ⟨h1, v', h3⟩
def SA (X : Cx) (w : Wd) (cl : Fun) (W : WX) (es : List Expr) (ts : List T) : Prop :=
  ∃ ta : TA, PA X es ta ∧ ∀ σ H U ρ Q, ER X.K w.fa H U σ ρ →
    Aft (evAs cl ts ρ) (fun as ρ' => ∀ xs H' U', Pst X.K w.fa σ H U ρ H' U' ρ' → RAs X.K w.fa H' U' σ ρ' xs as → Q xs H') (XcE X.K w W σ H U ρ) → ta σ H Q
theorem sa_nil : SA X w cl W [] [] := ⟨_, pa_nil, fun σ H U ρ Q er h => h [] H U (Pst.refl er) .nil⟩
/-- one argument, as it is handed -/
def SG (X : Cx) (w : Wd) (cl : Fun) (W : WX) (e : Expr) (t : T) : Prop :=
  ∃ te : TE, PE X e te ∧ ∀ σ H U ρ Q, ER X.K w.fa H U σ ρ →
    Aft (argOf t (evE cl t) ρ) (fun a ρ' => ∀ x H' U', Pst X.K w.fa σ H U ρ H' U' ρ' → RA X.K w.fa H' U' σ ρ' x a → Q x H') (XcE X.K w W σ H U ρ) → te σ H Q
theorem arg_val {K : PySem.W.Frag} {σ : L2.St} {H H1 : Hp} {U U1 : Addr → Prop} {ρ ρ1 : Env} {x : V} {v v' : Vl} (er : ER K w.fa H U σ ρ) (p : Pst K w.fa σ H U ρ H1 U1 ρ1) (r : RV K w.fa H1 U1 x v) (f : Frh ρ1 σ H x v) (e : argVal v = some v') :
    ∃ U2, Pst K w.fa σ H U ρ H1 U2 ρ1 ∧ RA K w.fa H1 U2 σ ρ1 x (.vl v') := by
  cases v with
  | dat d => cases e; exact ⟨U1, p, r, rfl⟩
  | fn d => cases e; exact ⟨U1, p, r, rfl⟩
  | scr d => cases e; exact ⟨U1, p, r, rfl⟩
  | lst ds =>
    cases e
    obtain ⟨U2, p2, r2⟩ := give er p r f rfl
    exact ⟨U2, p2, r2, rfl⟩
  | lck _ => cases e
  | dct ds =>
    cases e
    obtain ⟨a, ws, rfl, u, eh, rr⟩ := r
    have fr := f rfl a rfl
    have s : Sta H1 U1 H1 (subU U1 a) := ⟨fun _ _ h _ _ => h, fun _ h => .inl h.1⟩
    exact ⟨subU U1 a, Pst.give er p fr.1 fr.2, ⟨a, ws, rfl, fun z => z.2 rfl, eh, rr.sta s⟩, rfl⟩
  | fdct d => cases e; exact ⟨U1, p, r, rfl⟩
  | err _ _ => cases e
theorem SE.sg {e : Expr} {t : T} (hv : t.isVar = none) (h : SE X w cl W e t) : SG X w cl W e t := by
  obtain ⟨te, he, k⟩ := h
  refine ⟨te, he, fun σ H U ρ Q er h => k σ H U ρ Q er ?_⟩
  unfold argOf at h
  rw [hv] at h
  refine h.bind.mono (fun v ρ1 h x H1 U1 p1 r f => ?_) fun _ _ h => h
  obtain ⟨v', e1, h⟩ := h.get
  obtain ⟨U2, p2, ra⟩ := arg_val er p1 r f e1
  exact h x H1 U2 p2 ra
theorem sg_var {i : Nat} {x : Str} {pos : Pos} (hN : X.N[i]? = some x) (hv : Vis X.env.scope x) (hd : (x == ("__debug__" : Str)) = false := by decide) (hcd : (x == ("__classdict__" : Str)) = false := by decide) :
    SG X w cl W (.Name x pos) (.var i) := by
  refine ⟨tVar i, pe_var hN hv hd hcd, fun σ H U ρ Q er h => ?_⟩
  unfold argOf T.isVar at h
  simp only at h
  split at h
  · rename_i v e
    obtain ⟨x, e1, r⟩ := er.val i _ e
    exact ⟨x, e1, h x H U (Pst.refl er) ⟨e1, _, e⟩⟩
  · rename_i v e
    obtain ⟨x, e1, r⟩ := er.val i _ e
    exact ⟨x, e1, h x H U (Pst.refl er) ⟨e1, _, e⟩⟩
  · unfold evE at h
    split at h
    · rename_i d e
      obtain ⟨x, e1, r⟩ := er.val i _ e
      exact ⟨x, e1, h x H U (Pst.refl er) ⟨r, rfl⟩⟩
    · rename_i d e
      obtain ⟨x, e1, r⟩ := er.val i _ e
      exact ⟨x, e1, h x H U (Pst.refl er) ⟨r, rfl⟩⟩
    · rename_i d e
      obtain ⟨x, e1, r⟩ := er.val i _ e
      exact ⟨x, e1, h x H U (Pst.refl er) ⟨r, rfl⟩⟩
    · rename_i d e
      obtain ⟨x, e1, r⟩ := er.val i _ e
      exact ⟨x, e1, h x H U (Pst.refl er) ⟨r, rfl⟩⟩
    · rename_i ds e
      obtain ⟨x, e1, r⟩ := er.val i _ e
      obtain ⟨a, vs, rfl, u, eh, rr⟩ := id r
      refine ⟨_, e1, h _ H (subU U a) (Pst.freeze er e e1 eh rr) ⟨Rp.given eh rr, rfl⟩⟩
    · exact h.elim
theorem sa_cons {e : Expr} {es : List Expr} {t : T} {ts : List T} (he : SG X w cl W e t) (hs : SA X w cl W es ts) (hst : starEach (e :: es) X.env = (false, eval e X.env) :: starEach es X.env := by rfl) : SA X w cl W (e :: es) (t :: ts) := by
  obtain ⟨ea, pa, ka⟩ := he
  obtain ⟨eb, pb, kb⟩ := hs
  refine ⟨_, pa_cons pa pb hst, fun σ H U ρ Q er h => ka σ H U ρ _ er ?_⟩
  unfold evAs at h
  refine h.bind.mono (fun a ρ1 h x H1 U1 p1 r => ?_) fun _ _ h => h
  refine kb σ H1 U1 ρ1 _ p1.er (h.bind.mono (fun as ρ2 h xs H3 U3 p3 r3 => ?_) fun _ _ h => h.on er p1)
  exact h (x :: xs) H3 U3 (p1.trans er p3) (.cons (r.on p3 p1.er) r3)
/-! ### the call -/
theorem nodup_cons {i : Nat} {r : List Nat} (h : nodupB (i :: r) = true) : i ∉ r ∧ nodupB r = true := by
  unfold nodupB at h
  simp only [Bool.and_eq_true, Bool.not_eq_true', List.contains_eq_mem, decide_eq_false_iff_not] at h
  exact h
theorem lend_at : ∀ {as : List Arg} {m i : Nat}, as[m]? = some (.lend i) → i ∈ lends as
  | [], _, _, h => by simp at h
  | .lend j :: as, 0, i, h => by
    simp at h
    subst h
    exact List.mem_cons_self ..
  | .vl _ :: as, 0, i, h => by simp at h
  | .lend j :: as, m + 1, i, h => List.mem_cons_of_mem _ (lend_at (as := as) (m := m) (by simpa using h))
  | .vl _ :: as, m + 1, i, h => lend_at (as := as) (m := m) (by simpa using h)
theorem lend_inj : ∀ {as : List Arg} {m m' i : Nat}, nodupB (lends as) = true → as[m]? = some (.lend i) → as[m']? = some (.lend i) → m = m'
  | [], _, _, _, _, h, _ => (by simp at h)
  | .vl _ :: as, 0, _, _, _, h, _ => by simp at h
  | .vl _ :: as, _ + 1, 0, _, _, _, h => by simp at h
  | .vl _ :: as, m + 1, m' + 1, i, n, h, h' => by
    have := lend_inj (as := as) (m := m) (m' := m') n (by simpa using h) (by simpa using h')
    omega
  | .lend j :: as, 0, 0, _, _, _, _ => rfl
  | .lend j :: as, 0, m' + 1, i, n, h, h' => by
    simp at h
    subst h
    exact ((nodup_cons n).1 (lend_at (as := as) (m := m') (by simpa using h'))).elim
  | .lend j :: as, m + 1, 0, i, n, h, h' => by
    simp at h'
    subst h'
    exact ((nodup_cons n).1 (lend_at (as := as) (m := m) (by simpa using h))).elim
  | .lend j :: as, m + 1, m' + 1, i, n, h, h' => by
    have := lend_inj (as := as) (m := m) (m' := m') (nodup_cons n).2 (by simpa using h) (by simpa using h')
    omega
theorem giveBack_get : ∀ {as : List Arg} {fin : List (Option Vl)} {ρ ρ2 : Env}, nodupB (lends as) = true → giveBack ρ as fin = some ρ2 →
    (∀ i, i ∉ lends as → ρ2[i]? = ρ[i]?) ∧ (∀ (m i : Nat), as[m]? = some (.lend i) → i < ρ.length → ∃ v, fin[m]? = some (some v) ∧ ρ2[i]? = some (some v)) ∧ ρ2.length = ρ.length
  | [], [], ρ, ρ2, _, h => by
    unfold giveBack at h
    cases h
    exact ⟨fun _ _ => rfl, fun m i h => by simp at h, rfl⟩
  | [], _ :: _, _, _, _, h => by unfold giveBack at h; cases h
  | .vl _ :: r, [], _, _, _, h => by unfold giveBack at h; cases h
  | .lend _ :: r, [], _, _, _, h => by unfold giveBack at h; cases h
  | .vl _ :: r, f :: s, ρ, ρ2, n, h => by
    unfold giveBack at h
    obtain ⟨h1, h2, h3⟩ := giveBack_get (as := r) n h
    refine ⟨h1, fun m i e hi => ?_, h3⟩
    cases m with
    | zero => simp at e
    | succ m =>
      obtain ⟨v, e1, e2⟩ := h2 m i (by simpa using e) hi
      exact ⟨v, by simpa using e1, e2⟩
  | .lend j :: r, none :: s, ρ, ρ2, n, h => by unfold giveBack at h; cases h
  | .lend j :: r, some v :: s, ρ, ρ2, n, h => by
    unfold giveBack at h
    obtain ⟨n1, n2⟩ := nodup_cons n
    obtain ⟨h1, h2, h3⟩ := giveBack_get (as := r) n2 h
    rw [List.length_set] at h3
    refine ⟨fun i hi => ?_, fun m i e hi => ?_, h3⟩
    · have : ¬ (i = j ∨ i ∈ lends r) := fun z => hi (by
        unfold lends
        exact List.mem_cons.mpr z)
      rw [h1 i fun z => this (.inr z), List.getElem?_set_ne fun z => this (.inl z.symm)]
    · cases m with
      | zero =>
        simp at e
        subst e
        exact ⟨v, rfl, by rw [h1 _ n1, List.getElem?_set_self hi]⟩
      | succ m =>
        obtain ⟨v', e1, e2⟩ := h2 m i (by simpa using e) (by rw [List.length_set]; exact hi)
        exact ⟨v', by simpa using e1, e2⟩
theorem argVs_get : ∀ {as : List Arg} {ws : List Vl} {ρ : Env} {xs : List V} {K : PySem.W.Frag} {fa : Fa} {H : Hp} {U : Addr → Prop} {σ : L2.St}, argVs ρ as = some ws → RAs K fa H U σ ρ xs as → xs.length = ws.length ∧ ∀ (m : Nat) (v : Vl), ws[m]? = some v →
    ∃ x, xs[m]? = some x ∧ ((∃ v', as[m]? = some (.vl v') ∧ v = v' ∧ RV K fa H U x v ∧ v.own = false) ∨ ∃ i, as[m]? = some (.lend i) ∧ ρ[i]? = some (some v) ∧ v.mut = true ∧ σ[i]? = some (some x))
  | [], ws, ρ, xs, K, fa, H, U, σ, h, r => by
    unfold argVs at h
    cases h
    cases r
    exact ⟨rfl, fun m v h => by simp at h⟩
  | a :: as, ws, ρ, xs, K, fa, H, U, σ, h, r => by
    unfold argVs at h
    cases r with
    | cons r1 r2 =>
      rename_i x xs
      obtain ⟨v, e1, h⟩ := Option.bind_eq_some_iff.mp h
      obtain ⟨vs, e2, rfl⟩ := Option.map_eq_some_iff.mp h
      obtain ⟨l, k⟩ := argVs_get e2 r2
      refine ⟨by simp [l], fun m v' h => ?_⟩
      cases m with
      | zero =>
        simp at h
        subst h
        refine ⟨x, rfl, ?_⟩
        cases a with
        | vl u =>
          unfold argV at e1
          cases e1
          exact .inl ⟨_, rfl, rfl, r1.1, r1.2⟩
        | lend i =>
          unfold argV at e1
          simp only at e1
          split at e1
          · rename_i e3
            cases e1
            exact .inr ⟨i, rfl, e3, rfl, r1.1⟩
          · rename_i e3
            cases e1
            exact .inr ⟨i, rfl, e3, rfl, r1.1⟩
          · cases e1
      | succ m =>
        obtain ⟨y, e3, e4⟩ := k m v' (by simpa using h)
        exact ⟨y, by simpa using e3, by simpa using e4⟩
theorem map_some_get {α : Type} {l : List α} {i : Nat} {v : α} : (l.map some)[i]? = some (some v) ↔ l[i]? = some v := by
  rw [List.getElem?_map]
  cases l[i]? <;> simp
theorem lend_ex : ∀ {as : List Arg} {i : Nat}, i ∈ lends as → ∃ m : Nat, as[m]? = some (Arg.lend i)
  | [], _, h => by cases h
  | .lend j :: as, i, h => by
    rcases List.mem_cons.mp (show i ∈ j :: lends as from h) with rfl | h
    · exact ⟨0, rfl⟩
    · obtain ⟨m, e⟩ := lend_ex h
      exact ⟨m + 1, by simpa using e⟩
  | .vl _ :: as, i, h => by
    obtain ⟨m, e⟩ := lend_ex (as := as) h
    exact ⟨m + 1, by simpa using e⟩
theorem argVs_len : ∀ {as : List Arg} {ws : List Vl} {ρ : Env}, argVs ρ as = some ws → ws.length = as.length
  | [], ws, ρ, h => by unfold argVs at h; cases h; rfl
  | a :: as, ws, ρ, h => by
    unfold argVs at h
    obtain ⟨v, e1, h⟩ := Option.bind_eq_some_iff.mp h
    obtain ⟨vs, e2, rfl⟩ := Option.map_eq_some_iff.mp h
    simp [argVs_len e2]
/-- what the callee finds -/
theorem callee_er {K : PySem.W.Frag} {σ : L2.St} {H : Hp} {U : Addr → Prop} {ρ : Env} {as : List Arg} {ws : List Vl} {xs : List V} (er : ER K w.fa H U σ ρ) (n : nodupB (lends as) = true) (e : argVs ρ as = some ws) (r : RAs K w.fa H U σ ρ xs as) :
    ER K w.fa H U (xs.map some) (ws.map some) ∧ ∀ a, Ow (ws.map some) (xs.map some) a → Ow ρ σ a := by
  obtain ⟨l, k⟩ := argVs_get e r
  refine ⟨⟨by simp [l], fun i v h => ?_, fun i j v v' a ne h1 h2 o1 o2 z1 z2 => ?_, er.dom⟩, fun a ⟨i, v, h, o, z⟩ => ?_⟩
  · obtain ⟨x, e1, h'⟩ := k i v (map_some_get.mp h)
    refine ⟨x, map_some_get.mpr e1, ?_⟩
    rcases h' with ⟨v', _, rfl, r, _⟩ | ⟨j, _, e2, o, e3⟩
    · exact r
    · obtain ⟨y, e4, r⟩ := er.val j v e2
      rw [e3] at e4
      cases e4
      exact r
  · obtain ⟨x, e1, h'⟩ := k i v (map_some_get.mp h1)
    obtain ⟨y, e2, h''⟩ := k j v' (map_some_get.mp h2)
    have z1' := map_some_get.mp z1
    have z2' := map_some_get.mp z2
    rw [e1] at z1'
    rw [e2] at z2'
    cases z1'
    cases z2'
    rcases h' with ⟨_, _, _, _, q⟩ | ⟨s1, a1, b1, c1, d1⟩
    · rw [q] at o1; cases o1
    rcases h'' with ⟨_, _, _, _, q⟩ | ⟨s2, a2, b2, c2, d2⟩
    · rw [q] at o2; cases o2
    by_cases q : s1 = s2
    · subst q
      exact ne (lend_inj n a1 a2)
    · exact er.dj s1 s2 v v' a q b1 b2 o1 o2 d1 d2
  · obtain ⟨x, e1, h'⟩ := k i v (map_some_get.mp h)
    have z' := map_some_get.mp z
    rw [e1] at z'
    cases z'
    rcases h' with ⟨_, _, _, _, q⟩ | ⟨s1, a1, b1, c1, d1⟩
    · have o := mut_own o
      rw [q] at o; cases o
    · exact ⟨s1, v, b1, o, d1⟩
theorem fin_pst {K : PySem.W.Frag} {σ : L2.St} {H H' : Hp} {U U' : Addr → Prop} {ρ ρ2 : Env} {as : List Arg} {ws : List Vl} {xs : List V} {fin : List (Option Vl)} (er : ER K w.fa H U σ ρ) (n : nodupB (lends as) = true) (e : argVs ρ as = some ws)
    (r : RAs K w.fa H U σ ρ xs as) (f : Fin K w xs ws H U fin H' U') (g : giveBack ρ as fin = some ρ2) : Pst K w.fa σ H U ρ H' U' ρ2 := by
  obtain ⟨l, k⟩ := argVs_get e r
  obtain ⟨g1, g2, g3⟩ := giveBack_get n g
  obtain ⟨ce, co⟩ := callee_er er n e r
  have go : Go (Ow ρ σ) H U H' U' := f.go.mono co
  have st : Sta H U H' U' := f.go.sta fun a h => er.ow (co a h)
  have la := argVs_len e
  -- a lent slot's place among the arguments
  have lentAt : ∀ i, i ∈ lends as → ∃ (m : Nat) (v : Vl) (x : V), as[m]? = some (.lend i) ∧ ws[m]? = some v ∧ xs[m]? = some x ∧ ρ[i]? = some (some v) ∧ v.mut = true ∧ σ[i]? = some (some x) := by
    intro i hi
    obtain ⟨m, hm⟩ := lend_ex hi
    have hlt : m < ws.length := by
      rw [la]
      exact (List.getElem?_eq_some_iff.mp hm).1
    obtain ⟨x, e1, h'⟩ := k m ws[m] (List.getElem?_eq_getElem hlt)
    rcases h' with ⟨v', q, _⟩ | ⟨j, q, e2, o, e3⟩
    · rw [hm] at q; cases q
    · rw [hm] at q
      cases q
      exact ⟨m, ws[m], x, hm, List.getElem?_eq_getElem hlt, e1, e2, o, e3⟩
  have back : ∀ (i : Nat) (v' : Vl), ρ2[i]? = some (some v') → (∃ v x, ρ[i]? = some (some v) ∧ v.mut = true ∧ σ[i]? = some (some x) ∧ RV K w.fa H' U' x v') ∨ (i ∉ lends as ∧ ρ[i]? = some (some v')) := by
    intro i v' h
    by_cases hi : i ∈ lends as
    · obtain ⟨m, v, x, a1, a2, a3, a4, a5, a6⟩ := lentAt i hi
      obtain ⟨u, b1, b2, _⟩ := f.lent m v x a2 (mut_own a5) a3
      obtain ⟨u', c1, c2⟩ := g2 m i a1 (List.getElem?_eq_some_iff.mp a4).1
      rw [b1] at c1
      cases c1
      rw [h] at c2
      cases c2
      exact .inl ⟨v, x, a4, a5, a6, b2⟩
    · rw [g1 i hi] at h
      exact .inr ⟨hi, h⟩
  have own2 : ∀ (i : Nat) (v' : Vl), ρ2[i]? = some (some v') → v'.own = true → ∃ v, ρ[i]? = some (some v) ∧ v.own = true := by
    intro i v' h o
    rcases back i v' h with ⟨v, _, h1, h2, _⟩ | ⟨_, h1⟩
    · exact ⟨v, h1, mut_own h2⟩
    · exact ⟨v', h1, o⟩
  refine ⟨⟨by rw [g3]; exact er.len, fun i v' h => ?_, fun i j v v' a ne h1 h2 o1 o2 z1 z2 => ?_, f.dom⟩, go, fun a ⟨i, v, h, o, z⟩ => ?_, own2, fun i v h => ?_⟩
  · rcases back i v' h with ⟨v, x, h1, h2, h3, h4⟩ | ⟨hi, h1⟩
    · exact ⟨x, h3, h4⟩
    · obtain ⟨x, e1, r1⟩ := er.val i v' h1
      refine ⟨x, e1, r1.sta st fun o a q u => ?_⟩
      subst q
      have no : ¬ Ow (ws.map some) (xs.map some) a := fun ⟨m, v, b1, b2, b3⟩ => by
        obtain ⟨y, e2, h'⟩ := k m v (map_some_get.mp b1)
        have b3' := map_some_get.mp b3
        rw [e2] at b3'
        cases b3'
        rcases h' with ⟨_, _, _, _, q⟩ | ⟨s1, a1, c1, _, d1⟩
        · have b2 := mut_own b2
          rw [q] at b2; cases b2
        · exact er.dj i s1 v' v a (fun q => hi (q ▸ lend_at a1)) h1 c1 o (mut_own b2) e1 d1
      exact ⟨fun ob z => f.go.keep a ob z no, f.go.u1 a u no⟩
  · obtain ⟨v1, c1, d1⟩ := own2 i v h1 o1
    obtain ⟨v2, c2, d2⟩ := own2 j v' h2 o2
    exact er.dj i j v1 v2 a ne c1 c2 d1 d2 z1 z2
  · rcases back i v h with ⟨v1, _, h1, h2, _⟩ | ⟨_, h1⟩
    · exact ⟨i, v1, h1, h2, z⟩
    · exact ⟨i, v, h1, o, z⟩
  · by_cases hi : i ∈ lends as
    · obtain ⟨m, v, x, a1, a2, a3, a4, a5, a6⟩ := lentAt i hi
      obtain ⟨u', c1, c2⟩ := g2 m i a1 (List.getElem?_eq_some_iff.mp a4).1
      obtain ⟨u, b1, _, b3⟩ := f.lent m v x a2 (mut_own a5) a3
      rw [c1] at b1
      cases b1
      exact ⟨u', c2, fun _ => b3⟩
    · exact ⟨v, by rw [g1 i hi]; exact h, id⟩
/-- the call, behind its arguments -/
theorem call_go {K : PySem.W.Frag} {σ : L2.St} {H : Hp} {U : Addr → Prop} {ρ : Env} {as : List Arg} {xs : List V} {Q : VK} {k : Nat} (er : ER K w.fa H U σ ρ) (r : RAs K w.fa H U σ ρ xs as)
    (h : Aft (doCall (cl k) as ρ) (OkE K w σ H U ρ Q) (XcE K w W σ H U ρ)) : spD K w cl k xs H Q (fun c d H' => W c d σ H') := by
  unfold doCall at h
  split at h
  · rename_i n
    obtain ⟨ws, e, h⟩ := h.get
    obtain ⟨ce, co⟩ := callee_er er n e r
    refine ⟨U, ws, ce, ?_⟩
    cases q : cl k ws with
    | stuck => rw [q] at h; exact h
    | ok p =>
      obtain ⟨v, fin⟩ := p
      rw [q] at h
      obtain ⟨ρ2, e2, h⟩ := h.get
      exact fun x H' U' f rv fr => h x H' U' (fin_pst er n e r f e2) rv fun o a z => ⟨fun z2 => er.dom.nw (er.hd ((fin_pst er n e r f e2).hdd a z2)) (fr o a z), fr o a z⟩
    | exc ex fin =>
      rw [q] at h
      simp only at h
      split at h
      · rename_i ρ2 e2
        exact fun c d H' U' f rx => h c d H' U' (fin_pst er n e r f e2) rx
      · exact h.elim
  · exact h.elim
theorem se_call {e : Expr} {es : List Expr} {ts : List T} {k : Nat} {x : Str} {p pos : Pos} (G : GC X W) (F : HasF X w cl n) {f : Addr} (hk : w.fa k = some f) (hg : Gl X x) (hm : X.mg x = some (.ref f)) (ha : SA X w cl W (e :: es) ts) (hdb : (x == ("__debug__" : Str)) = false := by decide)
    (he : starEach (e :: es) X.env = (false, eval e X.env) :: starEach es X.env := by rfl) (hpl : (backTo pos (starEach es X.env)).any (·.1) = false := by rfl) : SE X w cl W (.Call (.Name x p) (e :: es) [] pos) (.call k ts) := by
  obtain ⟨ea, pa, ka⟩ := ha
  refine ⟨fun σ H Q => ea σ H fun vs H1 => spD X.K w cl k vs H1 Q (fun c d H' => W c d σ H'), ⟨fun pins s σ H Q I h => ?_⟩, fun σ H U ρ Q er h => ka σ H U ρ _ er ?_⟩
  · refine wpAny_Call_Name_kw (ld_glob I hg hm ?_ hdb)
    refine PySem.W.callWith_K (h₀ := X.base) I.ok.mod.kin (F.keep k f (.inl hk)) (thn (pa.run pos pins s σ H _ I h) fun us s1 ⟨vs, H1, I1, r, q⟩ => ⟨I1.kIn, ?_⟩) he hpl
    exact run_fnG (F.fn k f (.inl hk)) F.room G.gd ((F.binds k f hk).pos s1 us I1.kIn) G.tk I1 r q
  · unfold evE at h
    refine h.bind.mono (fun as ρ1 h xs H1 U1 p1 r => ?_) fun _ _ h => h
    exact call_go p1.er r (Aft.mono h (fun _ _ h => OkE.on h er p1) fun _ _ h => h.on er p1)
theorem se_call0 {k : Nat} {x : Str} {p pos : Pos} (G : GC X W) (F : HasF X w cl n) {f : Addr} (hk : w.fa k = some f) (hg : Gl X x) (hm : X.mg x = some (.ref f)) (hdb : (x == ("__debug__" : Str)) = false := by decide) : SE X w cl W (.Call (.Name x p) [] [] pos) (.call k []) := by
  refine ⟨fun σ H Q => spD X.K w cl k [] H Q (fun c d H' => W c d σ H'), ⟨fun pins s σ H Q I h => ?_⟩, fun σ H U ρ Q er h => ?_⟩
  · refine wpAny_Call_Name_kw (ld_glob I hg hm ?_ hdb)
    exact PySem.W.callWith_K0 I.kIn (F.keep k f (.inl hk)) (run_fnG (us := []) (F.fn k f (.inl hk)) F.room G.gd ((F.binds k f hk).pos s [] I.kIn) G.tk I .nil h)
  · unfold evE at h
    exact call_go er .nil h
theorem se_callv {e : Expr} {es : List Expr} {ts : List T} {i : Nat} {x : Str} {p pos : Pos} (G : GC X W) (F : HasF X w cl n) (hN : X.N[i]? = some x) (hv : Vis X.env.scope x) (ha : SA X w cl W (e :: es) ts) (hdb : (x == ("__debug__" : Str)) = false := by decide) (hcd : (x == ("__classdict__" : Str)) = false := by decide)
    (he : starEach (e :: es) X.env = (false, eval e X.env) :: starEach es X.env := by rfl) (hpl : (backTo pos (starEach es X.env)).any (·.1) = false := by rfl) : SE X w cl W (.Call (.Name x p) (e :: es) [] pos) (.callv i ts) := by
  obtain ⟨ea, pa, ka⟩ := ha
  refine ⟨fun σ H Q => ∃ k f, w.fa k = some f ∧ σ[i]? = some (some (.ref f)) ∧ ea σ H fun vs H1 => spD X.K w cl k vs H1 Q (fun c d H' => W c d σ H'), ⟨fun pins s σ H Q I h => ?_⟩, fun σ H U ρ Q er h => ?_⟩
  · obtain ⟨k, f, hk, hs, h⟩ := h
    refine wpAny_Call_Name_kw (thn ((pe_var (pos := p) hN hv hdb hcd).run pins s σ H (fun v H1 => v = .ref f ∧ H1 = H) I ⟨.ref f, hs, rfl, rfl⟩) fun u s1 z => ?_)
    obtain ⟨v, H1, I1, rr, q1⟩ := z
    have r1 := rr
    obtain ⟨rfl, rfl⟩ := q1
    cases r1
    refine PySem.W.callWith_K (h₀ := X.base) I.ok.mod.kin (F.keep k f (.inl hk)) (thn (pa.run pos pins s1 σ _ _ I1 h) fun us s1 ⟨vs, H1, I1, r, q⟩ => ⟨I1.kIn, ?_⟩) he hpl
    exact run_fnG (F.fn k f (.inl hk)) F.room G.gd ((F.binds k f hk).pos s1 us I1.kIn) G.tk I1 r q
  · unfold evE at h
    split at h
    · rename_i k e1
      obtain ⟨x, e2, r⟩ := er.val i _ e1
      obtain ⟨f, hk, rfl⟩ := r
      refine ⟨k, f, hk, e2, ka σ H U ρ _ er (h.bind.mono (fun as ρ1 h xs H1 U1 p1 r => ?_) fun _ _ h => h)⟩
      exact call_go p1.er r (Aft.mono h (fun _ _ h => OkE.on h er p1) fun _ _ h => h.on er p1)
    · exact h.elim
theorem tr_assoc {r : Res (List Arg × Env)} {f : List Arg × Env → Res (Vl × Env)} : (r.bind fun p => (f p).bind fun q => (get (truth q.1)).bind fun b => Res.ok (b, q.2)) = (r.bind f).bind fun q => (get (truth q.1)).bind fun b => .ok (b, q.2) := by
  cases r <;> rfl
theorem ev_call (k : Nat) (ts : List T) (ρ : Env) : evT cl (.call k ts) ρ = (evE cl (.call k ts) ρ).bind fun q => (get (truth q.1)).bind fun b => .ok (b, q.2) := by
  unfold evT evE
  exact tr_assoc
theorem ev_callv (i : Nat) (ts : List T) (ρ : Env) : evT cl (.callv i ts) ρ = (evE cl (.callv i ts) ρ).bind fun q => (get (truth q.1)).bind fun b => .ok (b, q.2) := by
  unfold evT evE
  split
  · exact tr_assoc
  · rfl
theorem ev_blt (b : Blt) (t : T) (ρ : Env) : evT cl (.blt b t) ρ = (evE cl (.blt b t) ρ).bind fun q => (get (truth q.1)).bind fun b => .ok (b, q.2) := by
  unfold evT evE
  cases opnd t (evE cl t) ρ with
  | ok p =>
    simp only [Res.bind_ok]
    cases look p.2 p.1 with
    | none => rfl
    | some x =>
      simp only [get_some, Res.bind_ok]
      cases blt1 b x <;> rfl
  | exc _ _ => rfl
  | stuck => rfl
/-- f(k = v, ..), the keywords in the parameters' order -/
def SK (X : Cx) (w : Wd) (cl : Fun) (W : WX) (es : List Keyword) (ts : List T) : Prop :=
  ∃ ta : TA, PK X es ta ∧ ∀ σ H U ρ Q, ER X.K w.fa H U σ ρ →
    Aft (evAs cl ts ρ) (fun as ρ' => ∀ xs H' U', Pst X.K w.fa σ H U ρ H' U' ρ' → RAs X.K w.fa H' U' σ ρ' xs as → Q xs H') (XcE X.K w W σ H U ρ) → ta σ H Q
theorem sk_nil : SK X w cl W [] [] := ⟨_, pk_nil, fun σ H U ρ Q er h => h [] H U (Pst.refl er) .nil⟩
theorem sk_cons {e : Expr} {nm : Option Str} {kpos : Pos} {es : List Keyword} {t : T} {ts : List T} (he : SG X w cl W e t) (hs : SK X w cl W es ts) : SK X w cl W (⟨nm, e, kpos⟩ :: es) (t :: ts) := by
  obtain ⟨ea, pa, ka⟩ := he
  obtain ⟨eb, pb, kb⟩ := hs
  refine ⟨_, pk_cons pa pb, fun σ H U ρ Q er h => ka σ H U ρ _ er ?_⟩
  unfold evAs at h
  refine h.bind.mono (fun a ρ1 h x H1 U1 p1 r => ?_) fun _ _ h => h
  refine kb σ H1 U1 ρ1 _ p1.er (h.bind.mono (fun as ρ2 h xs H3 U3 p3 r3 => ?_) fun _ _ h => h.on er p1)
  exact h (x :: xs) H3 U3 (p1.trans er p3) (.cons (r.on p3 p1.er) r3)
theorem se_callK {kws : List Keyword} {ts : List T} {k : Nat} {x : Str} {p pos : Pos} (G : GC X W) (F : HasF X w cl n) {f : Addr} (hk : w.fa k = some f) (hg : Gl X x) (hm : X.mg x = some (.ref f)) (ha : SK X w cl W kws ts)
    (hall : (backToKw pos (keywordEach kws X.env)).all (·.1.isSome) = true := by rfl) (hks : (backToKw pos (keywordEach kws X.env)).filterMap (·.1) = w.ps k := by rfl) (hdb : (x == ("__debug__" : Str)) = false := by decide)
    (hpl : ((backTo pos (starEach [] X.env)).any (·.1) || (backToKw pos (keywordEach kws X.env)).any (·.1.isNone)) = false := by rfl) : SE X w cl W (.Call (.Name x p) [] kws pos) (.call k ts) := by
  obtain ⟨ea, pa, ka⟩ := ha
  refine ⟨fun σ H Q => ea σ H fun vs H1 => spD X.K w cl k vs H1 Q (fun c d H' => W c d σ H'), ⟨fun pins s σ H Q I h => ?_⟩, fun σ H U ρ Q er h => ka σ H U ρ _ er ?_⟩
  · refine wpAny_Call_Name_kw (ld_glob I hg hm ?_ hdb)
    refine PySem.W.callWith_KW0 (h₀ := X.base) I.ok.mod.kin (F.keep k f (.inl hk)) hall (thn (pa.run pos pins s σ H _ I h) fun us s1 ⟨vs, H1, I1, r, q⟩ => ⟨I1.kIn, ?_⟩) hpl
    rw [hks]
    exact run_fnG (us := []) (F.fn k f (.inl hk)) F.room G.gd ((F.binds k f hk).kw s1 us I1.kIn) G.tk I1 r q
  · unfold evE at h
    refine h.bind.mono (fun as ρ1 h xs H1 U1 p1 r => ?_) fun _ _ h => h
    exact call_go p1.er r (Aft.mono h (fun _ _ h => OkE.on h er p1) fun _ _ h => h.on er p1)
theorem ev_callr (k : Nat) (ts : List T) (ρ : Env) : evT cl (.callr k ts) ρ = (evE cl (.callr k ts) ρ).bind fun q => (get (truth q.1)).bind fun b => .ok (b, q.2) := by
  unfold evT evE
  exact tr_assoc
theorem RAs.app {K : PySem.W.Frag} {fa : Fa} {H : Hp} {U : Addr → Prop} {σ : L2.St} {ρ : Env} {xs ys : List V} {as bs : List Arg} (h : RAs K fa H U σ ρ xs as) (k : RAs K fa H U σ ρ ys bs) : RAs K fa H U σ ρ (xs ++ ys) (as ++ bs) := by
  induction h with
  | nil => exact k
  | cons r _ ih => exact .cons r ih
theorem RAs.rev {K : PySem.W.Frag} {fa : Fa} {H : Hp} {U : Addr → Prop} {σ : L2.St} {ρ : Env} {xs : List V} {as : List Arg} (h : RAs K fa H U σ ρ xs as) : RAs K fa H U σ ρ xs.reverse as.reverse := by
  induction h with
  | nil => exact .nil
  | cons r _ ih => rw [List.reverse_cons, List.reverse_cons]; exact ih.app (.cons r .nil)
theorem vals_app {xs ys : List V} {us vs : List Value} (h : Vals xs us) (k : Vals ys vs) : Vals (xs ++ ys) (us ++ vs) := by
  induction h with
  | nil => exact k
  | cons r _ ih => exact .cons r ih
theorem vals_rev {xs : List V} {us : List Value} (h : Vals xs us) : Vals xs.reverse us.reverse := by
  induction h with
  | nil => exact .nil
  | cons r _ ih => rw [List.reverse_cons, List.reverse_cons]; exact vals_app ih (.cons r .nil)
theorem zip_rev {ps : List Str} {us : List Value} (h : us.reverse.length = ps.length) : ps.reverse.zip us = (ps.zip us.reverse).reverse := by
  rw [List.length_reverse] at h
  have e := List.reverse_zipWith (f := Prod.mk) (l := ps) (l' := us.reverse) (by rw [List.length_reverse]; exact h.symm)
  rw [List.reverse_reverse] at e
  exact e.symm
/-- f(k = v, ..), the keywords in the other order -/
theorem se_callKr {kws : List Keyword} {ts : List T} {k : Nat} {x : Str} {p pos : Pos} (G : GC X W) (F : HasF X w cl n) {f : Addr} (hk : w.fa k = some f) (hg : Gl X x) (hm : X.mg x = some (.ref f)) (ha : SK X w cl W kws ts)
    (hall : (backToKw pos (keywordEach kws X.env)).all (·.1.isSome) = true := by rfl) (hks : (backToKw pos (keywordEach kws X.env)).filterMap (·.1) = (w.ps k).reverse := by rfl) (hdb : (x == ("__debug__" : Str)) = false := by decide)
    (hpl : ((backTo pos (starEach [] X.env)).any (·.1) || (backToKw pos (keywordEach kws X.env)).any (·.1.isNone)) = false := by rfl) : SE X w cl W (.Call (.Name x p) [] kws pos) (.callr k ts) := by
  obtain ⟨ea, pa, ka⟩ := ha
  refine ⟨fun σ H Q => ea σ H fun vs H1 => spD X.K w cl k vs.reverse H1 Q (fun c d H' => W c d σ H'), ⟨fun pins s σ H Q I h => ?_⟩, fun σ H U ρ Q er h => ka σ H U ρ _ er ?_⟩
  · refine wpAny_Call_Name_kw (ld_glob I hg hm ?_ hdb)
    refine PySem.W.callWith_KW0 (h₀ := X.base) I.ok.mod.kin (F.keep k f (.inl hk)) hall (thn (pa.run pos pins s σ H _ I h) fun us s1 ⟨vs, H1, I1, r, q⟩ => ⟨I1.kIn, ?_⟩) hpl
    rw [hks]
    refine run_fnG (us := []) (zs := us.reverse) (F.fn k f (.inl hk)) F.room G.gd (fun hl => ?_) G.tk I1 (vals_rev r) q
    rw [zip_rev hl]
    exact (F.binds k f hk).kwr s1 us.reverse I1.kIn hl
  · unfold evE at h
    refine h.bind.mono (fun as ρ1 h xs H1 U1 p1 r => ?_) fun _ _ h => h
    exact call_go p1.er r.rev (Aft.mono h (fun _ _ h => OkE.on h er p1) fun _ _ h => h.on er p1)
end
end Pv
set_option Elab.async false
set_option linter.all false
set_option maxRecDepth 100000
set_option maxHeartbeats 2100000
namespace Pv
open PySem L2 PyProof.Rows
/-! ### readings that hang on the data alone -/
def tE (K : PySem.W.Frag) (w : Wd) (cl : Fun) (W : WX) (t : T) : TE := fun σ H Q => ∃ U ρ, ER K w.fa H U σ ρ ∧ Aft (evE cl t ρ) (OkE K w σ H U ρ Q) (XcE K w W σ H U ρ)
def tT (K : PySem.W.Frag) (w : Wd) (cl : Fun) (W : WX) (t : T) : TT := fun σ H Q => ∃ U ρ, ER K w.fa H U σ ρ ∧ Aft (evT cl t ρ) (fun b ρ' => ∀ H' U', Pst K w.fa σ H U ρ H' U' ρ' → Q b H') (XcE K w W σ H U ρ)
section
variable {X : Cx} {w : Wd} {cl : Fun} {W : WX}
theorem SE.can {e : Expr} {t : T} (h : SE X w cl W e t) : PE X e (tE X.K w cl W t) := by
  obtain ⟨te, p, k⟩ := h
  exact ⟨fun pins s σ H Q I ⟨U, ρ, er, h⟩ => p.run pins s σ H Q I (k σ H U ρ Q er h)⟩
theorem ST.can {e : Expr} {t : T} (h : ST X w cl W e t) : PT X e (tT X.K w cl W t) := by
  obtain ⟨te, p, k⟩ := h
  exact ⟨fun pins s σ H Q I ⟨U, ρ, er, h⟩ => p.run pins s σ H Q I (k σ H U ρ Q er h)⟩
/-! ### what is walked -/
/-- a turn may lay new objects -/
def Grow (H H' : Hp) : Prop := ∀ a o, H a = some o → H' a = some o
def Wk (K : PySem.W.Frag) (J : It) (src : Hp → (Addr → Prop) → Prop) (ds : List D) : Prop := ∀ (i : Nat) (H : Hp) (U : Addr → Prop), src H U → (∀ a, U a → H a ≠ none) →
  (i < ds.length → J.go i H ∧ ∀ x H', J.yld i H x H' → Grow H H' ∧ ∃ d, ds[i]? = some d ∧ Rp K H' U x d) ∧ (ds.length ≤ i → J.stop i H)
section
variable {K : PySem.W.Frag}
theorem wk_list {a : Addr} {ds : List D} : Wk K (Itl K a) (fun H U => ∃ vs, H a = some (.lst vs) ∧ Rps K H U vs ds) ds := fun i H U ⟨vs, h, r⟩ _ =>
  ⟨fun hi => by
    rw [← r.len] at hi
    exact ⟨⟨vs, vs[i], SqL.of h, List.getElem?_eq_getElem hi⟩, fun x H' ⟨e, k⟩ => by
      subst e
      obtain ⟨d, e1, e2⟩ := r.getV (k vs (SqL.of h))
      exact ⟨fun _ _ z => z, d, e1, e2⟩⟩, fun hi => ⟨vs, SqL.of h, by rw [r.len]; exact hi⟩⟩
theorem wk_tup {a : Addr} {ds : List D} : Wk K (Itt K a) (fun H U => ∃ vs, SqT K H a vs ∧ Rps K H U vs ds) ds := fun i H U ⟨vs, h, r⟩ _ =>
  ⟨fun hi => by
    rw [← r.len] at hi
    exact ⟨⟨vs, vs[i], h, List.getElem?_eq_getElem hi⟩, fun x H' ⟨e, k⟩ => by
      subst e
      obtain ⟨d, e1, e2⟩ := r.getV (k vs h)
      exact ⟨fun _ _ z => z, d, e1, e2⟩⟩, fun hi => ⟨vs, h, by rw [r.len]; exact hi⟩⟩
theorem wk_str {z : Str} : Wk K (Its z) (fun _ _ => True) (z.cps.toList.map fun c => PyData.str ⟨#[c]⟩) := fun i H U _ _ =>
  ⟨fun hi => ⟨by
    rw [List.length_map] at hi; rw [Array.length_toList] at hi
    exact hi, fun x H' ⟨e, c, h, k⟩ => by
    subst e k
    exact ⟨fun _ _ z => z, _, by rw [List.getElem?_map, Array.getElem?_toList, h]; rfl, .str _⟩⟩, fun hi => by
    rw [List.length_map] at hi; rw [Array.length_toList] at hi
    exact hi⟩
theorem wk_rng {n : Nat} : Wk K (Itr 0 n) (fun _ _ => True) (nums n) := fun i H U _ _ =>
  ⟨fun hi => by
    unfold nums at hi
    rw [List.length_map, List.length_range] at hi
    exact ⟨hi, fun x H' ⟨e, k⟩ => by
      subst e k
      refine ⟨fun _ _ z => z, _, by unfold nums; rw [List.getElem?_map, List.getElem?_range hi, Option.map_some], ?_⟩
      rw [Int.zero_add]
      exact .int _⟩, fun hi => by
    unfold nums at hi
    rw [List.length_map, List.length_range] at hi
    exact hi⟩
end
/-- what was walked stands: all but own ones stand; or all that is nobody's -/
def Src (own : Addr → Prop) (f : Bool) (H : Hp) (U : Addr → Prop) (H2 : Hp) (U2 : Addr → Prop) : Prop := Go own H U H2 U2 ∨ (f = true ∧ Sta H U H2 U2)
theorem Src.sta {own : Addr → Prop} {f : Bool} {H H2 : Hp} {U U2 : Addr → Prop} (s : Src own f H U H2 U2) (h : ∀ a, own a → U a) : Sta H U H2 U2 := s.elim (·.sta h) (·.2)
theorem Src.go {own : Addr → Prop} {H H2 : Hp} {U U2 : Addr → Prop} (s : Src own false H U H2 U2) : Go own H U H2 U2 := s.resolve_right fun z => Bool.noConfusion z.1
/-- a walked thing -/
def SI (X : Cx) (w : Wd) (cl : Fun) (W : WX) (tg e : Expr) (t : T) (k : Wkd) : Prop :=
  ∃ wi : TI, PI X tg e wi ∧ ∀ σ H U ρ R, ER X.K w.fa H U σ ρ →
    Aft (opnd t (evE cl t) ρ) (fun o ρ' => ∃ x ds, look ρ' o = some x ∧ itemsOf k x = some ds ∧ ∀ J src H' U', Pst X.K w.fa σ H U ρ H' U' ρ' → Wk X.K J src ds →
      (∀ H2 U2, Src (Ow (lockO o ρ') σ) (flat k x) H' U' H2 U2 → src H2 U2) → ds.length ≤ 16777216 → R J H') (XcE X.K w W σ H U ρ) → wi σ H R
theorem lock_len (o : Opn) (ρ : Env) : (lockO o ρ).length = ρ.length := by
  unfold lockO
  split
  · rfl
  · split
    · rw [List.length_set]
    · rfl
/-- a locked slot's list changes no more -/
theorem lock_no {K : PySem.W.Frag} {fa : Fa} {H : Hp} {U : Addr → Prop} {σ : L2.St} {ρ : Env} {o : Opn} {a : Addr} {ds : List D} (er : ER K fa H U σ ρ) (r : RO K fa H U σ ρ (.ref a) o) (e : look ρ o = some (.list ds)) : ¬ Ow (lockO o ρ) σ a := by
  cases o with
  | vl v =>
    obtain ⟨rv, f⟩ := r
    intro z
    have z' : Ow ρ σ a := z
    cases v with
    | dat d =>
      have e' : d = .list ds := Option.some.inj e
      subst e'
      cases rv with
      | lst h n _ => exact n (er.ow z')
    | lst l => exact f rfl a rfl z'.hd
    | lck l => exact f rfl a rfl z'.hd
    | fn _ => cases e
    | dct _ => cases e
    | fdct _ => cases e
    | scr _ => cases e
    | err _ _ => cases e
  | pk i =>
    obtain ⟨h1, v, h2⟩ := r
    obtain ⟨x, e1, rv⟩ := er.val i v h2
    rw [h1] at e1
    cases e1
    have e' : v.view = some (.list ds) := by
      simp only [look, h2] at e
      exact e
    rintro ⟨j, u, hj, hu, hs⟩
    cases v with
    | dat d =>
      have e2 : d = .list ds := Option.some.inj e'
      subst e2
      have hl : lockO (.pk i) ρ = ρ := by simp [lockO, h2]
      rw [hl] at hj
      cases rv with
      | lst h n _ => exact n (er.ow ⟨j, u, hj, hu, hs⟩)
    | lst l =>
      have hl : lockO (.pk i) ρ = ρ.set i (some (.lck l)) := by simp [lockO, h2]
      rw [hl] at hj
      rcases get_set_some hj with ⟨rfl, q⟩ | ⟨n, q⟩
      · cases q; cases hu
      · exact er.dj j i u _ a n q h2 (mut_own hu) rfl hs h1
    | lck l =>
      have hl : lockO (.pk i) ρ = ρ := by simp [lockO, h2]
      rw [hl] at hj
      by_cases n : j = i
      · subst n
        rw [h2] at hj
        cases hj
        cases hu
      · exact er.dj j i u _ a n hj h2 (mut_own hu) rfl hs h1
    | fn _ => cases e'
    | dct _ => cases e'
    | fdct _ => cases e'
    | scr _ => cases e'
    | err _ _ => cases e'
theorem lock_sub {σ : L2.St} {ρ : Env} {o : Opn} {a : Addr} (h : Ow (lockO o ρ) σ a) : Ow ρ σ a := by
  obtain ⟨j, u, hj, hu, hs⟩ := h
  unfold lockO at hj
  split at hj
  · exact ⟨j, u, hj, hu, hs⟩
  · split at hj
    · rcases get_set_some hj with ⟨rfl, q⟩ | ⟨n, q⟩
      · cases q; cases hu
      · exact ⟨j, u, q, hu, hs⟩
    · exact ⟨j, u, hj, hu, hs⟩
/-- a list, a tuple is walked, whose length lies within the line -/
theorem pi_listZ {tg l : Expr} {tl : TE} (hl : PE X l tl) : PI X tg l (fun σ H R => tl σ H fun x H1 => ∃ a xs, x = .ref a ∧ SqL X.K H1 a xs ∧ (xs.length ≤ sizeLine → R (Itl X.K a) H1)) := by
  refine ⟨fun pins s σ H R I h => thn (hl.run pins s σ H _ I h) fun v s1 q => ?_⟩
  obtain ⟨_, H1, J, r1, a, xs, rfl, hq, k⟩ := q
  obtain rfl : v = .ref a := r1
  obtain ⟨its, _, pl, hz⟩ := J.list hq
  have hn : H1 s1.heap.objs.size = none := J.hok.fresh (Nat.le_refl _)
  refine wpAny_pyIter_list pl.isList ⟨_, [_], _, _, H1, rfl, ?_, turn_list a _, ⟨_, Heap.get?_push_size _ rfl, rfl, rfl⟩, fun b hb => ?_, k hz⟩
  · exact J.kept (t' := s1.toks) fun _ _ e => Heap.get?_push_of_some _ e
  · obtain rfl : b = s1.heap.objs.size := List.mem_singleton.mp hb
    exact J.fpOk (Nat.le_refl _) hn
theorem pi_tupZ {tg l : Expr} {tl : TE} (hl : PE X l tl) : PI X tg l (fun σ H R => tl σ H fun x H1 => ∃ a xs, x = .ref a ∧ SqT X.K H1 a xs ∧ (xs.length ≤ sizeLine → R (Itt X.K a) H1)) := by
  refine ⟨fun pins s σ H R I h => thn (hl.run pins s σ H _ I h) fun v s1 q => ?_⟩
  obtain ⟨_, H1, J, r1, a, xs, rfl, hq, k⟩ := q
  obtain rfl : v = .ref a := r1
  obtain ⟨its, _, pl, hz⟩ := J.tuple hq
  have hn : H1 s1.heap.objs.size = none := J.hok.fresh (Nat.le_refl _)
  refine wpAny_pyIter_tuple (show s1.heap.IsTuple a its.toArray from pl) ⟨_, [_], _, _, H1, rfl, ?_, turn_tuple a _, ⟨_, Heap.get?_push_size _ rfl, rfl, rfl⟩, fun b hb => ?_, k hz⟩
  · exact J.kept (t' := s1.toks) fun _ _ e => Heap.get?_push_of_some _ e
  · obtain rfl : b = s1.heap.objs.size := List.mem_singleton.mp hb
    exact J.fpOk (Nat.le_refl _) hn
theorem line_le {n : Nat} (h : n ≤ sizeLine) : n ≤ 16777216 := by rw [sizeLine_eq] at h; exact h
/-- over data -/
theorem si_seq {tg e : Expr} {t : T} (h : SO X w cl W e t) : SI X w cl W tg e t .seq := by
  obtain ⟨te, p, k⟩ := h
  refine ⟨fun σ H R => (te σ H fun x H1 => ∃ a xs, x = .ref a ∧ SqL X.K H1 a xs ∧ (xs.length ≤ sizeLine → R (Itl X.K a) H1)) ∨ (te σ H fun x H1 => ∃ a xs, x = .ref a ∧ SqT X.K H1 a xs ∧ (xs.length ≤ sizeLine → R (Itt X.K a) H1)) ∨ iStr te σ H R, ⟨fun pins s σ H R I h => ?_⟩, fun σ H U ρ R er h => ?_⟩
  · rcases h with h | h | h
    · exact (pi_listZ p).run pins s σ H R I h
    · exact (pi_tupZ p).run pins s σ H R I h
    · exact (pi_str p).run pins s σ H R I h
  · cases q : opnd t (evE cl t) ρ with
    | stuck => rw [q] at h; exact h.elim
    | exc ex ρ' => exact .inl (k σ H U ρ _ er (by rw [q] at h ⊢; exact h))
    | ok r =>
      obtain ⟨o, ρ'⟩ := r
      rw [q] at h
      obtain ⟨x, ds, e1, e2, h⟩ := h
      have e2' : seqOf x = some ds := e2
      unfold seqOf at e2'
      split at e2' <;> try cases e2'
      · refine .inl (k σ H U ρ _ er ?_)
        rw [q]
        intro x H' U' p1 r
        have vw := r.vw p1.er e1
        obtain ⟨a, vs, rfl, s, rr⟩ := vw
        have no := lock_no p1.er r e1
        exact ⟨a, vs, rfl, SqL.of s, fun hz => h _ _ H' U' p1 wk_list (fun H2 U2 g => ⟨vs, (Src.go g).keep a _ s no nt_lst, rr.sta (g.sta fun b hb => p1.er.ow (lock_sub hb))⟩) (by rw [← rr.len]; exact line_le hz)⟩
      · refine .inr (.inl (k σ H U ρ _ er ?_))
        rw [q]
        intro x H' U' p1 r
        obtain ⟨a, vs, rfl, s, rr⟩ := rp_tup (r.vw p1.er e1)
        exact ⟨a, vs, rfl, s.sq, fun hz => h _ _ H' U' p1 wk_tup (fun H2 U2 g => ⟨vs, (s.sta (g.sta fun b hb => p1.er.ow (lock_sub hb))).sq, rr.sta (g.sta fun b hb => p1.er.ow (lock_sub hb))⟩) (by rw [← rr.len]; exact line_le hz)⟩
      · split at e2' <;> cases e2'
        rename_i c
        refine .inr (.inr (k σ H U ρ _ er ?_))
        rw [q]
        intro x H' U' p1 r
        have := rp_str (r.vw p1.er e1)
        subst this
        exact ⟨_, rfl, h _ _ H' U' p1 wk_str (fun _ _ _ => trivial) (by
          rw [List.length_map]; rw [Array.length_toList]
          exact line_le (size_le c))⟩
theorem si_rng {tg e : Expr} {t : T} {p pos : Pos} (hg : Gl X "range") (hm : X.mg "range" = none) (h : SO X w cl W e t) (hs : starEach [e] X.env = [(false, eval e X.env)] := by rfl) :
    SI X w cl W tg (.Call (.Name "range" p) [e] [] pos) t .rng := by
  obtain ⟨te, pe, k⟩ := h
  refine ⟨_, pi_range1 hg hm (pa_cons pe pa_nil hs) hs, fun σ H U ρ R er h => k σ H U ρ _ er ?_⟩
  refine h.mono (fun o ρ' h x H' U' p1 r => ?_) fun _ _ h => h
  obtain ⟨d, ds, e1, e2, h⟩ := h
  unfold itemsOf at e2
  split at e2 <;> try cases e2
  all_goals first | contradiction | skip
  split at e2 <;> cases e2
  rename_i c
  obtain ⟨c1, c2⟩ := of_decide_eq_true c
  have := rp_int (r.vw p1.er e1)
  subst this
  exact ⟨_, rfl, by omega, by omega, h _ _ H' U' p1 wk_rng (fun _ _ _ => trivial) (by unfold nums; rw [List.length_map, List.length_range]; omega)⟩
theorem wk_dn {K : PySem.W.Frag} {n : Nat} {i : Int} (hi : i = (n : Nat)) : Wk K (Itc i (-1) n) (fun _ _ => True) (downs n) := fun k H U _ _ =>
  ⟨fun hk => by
    unfold downs at hk
    rw [List.length_map, List.length_range] at hk
    exact ⟨hk, fun x H' ⟨e, z⟩ => by
      subst e z
      refine ⟨fun _ _ z => z, _, by unfold downs; rw [List.getElem?_map, List.getElem?_range hk, Option.map_some], ?_⟩
      have e : i + ((k : Nat) : Int) * (-1) = (n : Int) - (k : Nat) := by omega
      rw [e]
      exact .int _⟩, fun hk => by
    unfold downs at hk
    rw [List.length_map, List.length_range] at hk
    exact hk⟩
theorem wk_rg2 {K : PySem.W.Frag} {i : Int} {n : Nat} : Wk K (Itr i n) (fun _ _ => True) (numsF i n) := fun k H U _ _ =>
  ⟨fun hk => by
    unfold numsF at hk
    rw [List.length_map, List.length_range] at hk
    exact ⟨hk, fun x H' ⟨e, z⟩ => by
      subst e z
      exact ⟨fun _ _ z => z, _, by unfold numsF; rw [List.getElem?_map, List.getElem?_range hk, Option.map_some], .int _⟩⟩, fun hk => by
    unfold numsF at hk
    rw [List.length_map, List.length_range] at hk
    exact hk⟩
theorem rg2_of {d e : D} {ds : List D} (h : itemsOf .rg2 (.tuple [d, e]) = some ds) : ∃ i j, d = .int i ∧ e = .int j ∧ (-16777216 ≤ i ∧ i ≤ 16777216 ∧ -16777216 ≤ j ∧ j ≤ 16777216 ∧ j - i ≤ 16777216) ∧ ds = numsF i (j - i).toNat := by
  cases d <;> cases e <;> first | (cases h; done) | skip
  rename_i i j
  have h : (if decide (-16777216 ≤ i ∧ i ≤ 16777216 ∧ -16777216 ≤ j ∧ j ≤ 16777216 ∧ j - i ≤ 16777216) = true then some (numsF i (j - i).toNat) else none) = some ds := h
  split at h <;> cases h
  rename_i c
  exact ⟨i, j, rfl, rfl, of_decide_eq_true c, rfl⟩
theorem frz_int {v : Vl} {i : Int} (h : v.frz = some (.int i)) : v = .dat (.int i) := by
  cases v with
  | dat d => cases h; rfl
  | lst d => cases h
  | _ => cases h
theorem si_rg2 {tg a b : Expr} {ta tb : T} {p pos : Pos} (hg : Gl X "range") (hm : X.mg "range" = none) (ha : SE X w cl W a ta) (hb : SE X w cl W b tb)
    (hs : starEach [a, b] X.env = [(false, eval a X.env), (false, eval b X.env)] := by rfl) (hs2 : starEach [b] X.env = [(false, eval b X.env)] := by rfl) :
    SI X w cl W tg (.Call (.Name "range" p) [a, b] [] pos) (.tup [ta, tb]) .rg2 := by
  obtain ⟨ea, pa, ka⟩ := ha
  obtain ⟨eb, pb, kb⟩ := hb
  refine ⟨_, pi_range2 hg hm (pa_cons pa (pa_cons pb pa_nil hs2) (by rw [hs, hs2])) hs hs2, fun σ H U ρ R er h => ka σ H U ρ _ er ?_⟩
  have t1 : ∀ ρ, evE cl (.tup [ta, tb]) ρ = (evDs cl [ta, tb] ρ).bind fun p => .ok (.dat (.tuple p.1), p.2) := fun ρ => by conv => lhs; unfold evE
  have t2 : ∀ (e : T) (es : List T) ρ, evDs cl (e :: es) ρ = (evE cl e ρ).bind fun p => (get p.1.frz).bind fun d => (evDs cl es p.2).bind fun q => .ok (d :: q.1, q.2) := fun e es ρ => by conv => lhs; unfold evDs
  have t3 : ∀ ρ, evDs cl [] ρ = .ok ([], ρ) := fun ρ => by conv => lhs; unfold evDs
  have e0 : opnd (.tup [ta, tb]) (evE cl (.tup [ta, tb])) ρ = (evE cl ta ρ).bind fun p => (get p.1.frz).bind fun d => (evE cl tb p.2).bind fun q => (get q.1.frz).bind fun d2 => .ok (.vl (.dat (.tuple [d, d2])), q.2) := by
    unfold opnd
    show (evE cl (.tup [ta, tb]) ρ).bind _ = _
    rw [t1, t2]
    cases evE cl ta ρ with
    | ok p =>
      simp only [Res.bind_ok]
      cases p.1.frz with
      | none => rfl
      | some d =>
        simp only [get_some, Res.bind_ok]
        rw [t2]
        cases evE cl tb p.2 with
        | ok q =>
          simp only [Res.bind_ok]
          cases q.1.frz with
          | none => rfl
          | some d2 =>
            simp only [get_some, Res.bind_ok]
            rw [t3]; rfl
        | exc _ _ => rfl
        | stuck => rfl
    | exc _ _ => rfl
    | stuck => rfl
  rw [e0] at h
  refine h.bind.mono (fun v ρ1 h x H1 U1 p1 r f => ?_) fun _ _ h => h
  obtain ⟨d, e1, h⟩ := h.get
  refine kb σ H1 U1 ρ1 _ p1.er (h.bind.mono (fun v2 ρ2 h y H2 U2 p2 r2 f2 => ?_) fun _ _ h => h.on er p1)
  obtain ⟨d2, e2, h⟩ := h.get
  obtain ⟨d3, ds, e3, e4, h⟩ := h
  have e3 : some (PyData.tuple [d, d2]) = some d3 := e3
  cases e3
  obtain ⟨i, j, rfl, rfl, c, rfl⟩ := rg2_of e4
  obtain ⟨c1, c2, c3, c4, c5⟩ := c
  have ev := frz_int e1
  have ev2 := frz_int e2
  subst ev ev2
  have ex : x = .int i := rp_int r
  have ey : y = .int j := rp_int r2
  subst ex ey
  exact ⟨i, j, rfl, ⟨by omega, by omega, by omega, by omega⟩, h _ _ H2 U2 (p1.trans er p2) wk_rg2 (fun _ _ _ => trivial) (by unfold numsF; rw [List.length_map, List.length_range]; omega)⟩
theorem si_dn {tg e b c : Expr} {t : T} {p pos : Pos} (hg : Gl X "range") (hm : X.mg "range" = none) (h : SO X w cl W e t) (hz : SE X w cl W b (.cst (.int 0))) (hc : SE X w cl W c (.neg (.cst (.int 1))))
    (h1 : starEach [e, b, c] X.env = (false, eval e X.env) :: starEach [b, c] X.env := by rfl) (h2 : starEach [b, c] X.env = (false, eval b X.env) :: starEach [c] X.env := by rfl) (h3 : starEach [c] X.env = (false, eval c X.env) :: starEach [] X.env := by rfl) (hpl : (backTo pos (starEach [b, c] X.env)).any (·.1) = false := by rfl) :
    SI X w cl W tg (.Call (.Name "range" p) [e, b, c] [] pos) t .dn := by
  obtain ⟨te, pe, k⟩ := h
  obtain ⟨tz, pz, kz⟩ := hz
  obtain ⟨tc, pc, kc⟩ := hc
  refine ⟨_, pi_range3 hg hm (pa_cons pe (pa_cons pz (pa_cons pc pa_nil h3) h2) h1) h1 hpl, fun σ H U ρ R er h => k σ H U ρ _ er ?_⟩
  refine h.mono (fun o ρ' h x H' U' p1 r => ?_) fun _ _ h => h
  obtain ⟨d, ds, e1, e2, h⟩ := h
  unfold itemsOf at e2
  split at e2 <;> try cases e2
  all_goals first | contradiction | skip
  split at e2 <;> cases e2
  rename_i c
  obtain ⟨c1, c2⟩ := of_decide_eq_true c
  have := rp_int (r.vw p1.er e1)
  subst this
  refine kz σ H' U' ρ' _ p1.er ?_
  rw [show evE cl (.cst (.int 0)) ρ' = .ok (.dat (.int 0), ρ') by unfold evE; rfl]
  intro y H2 U2 p2 r2 _
  refine kc σ H2 U2 ρ' _ p2.er ?_
  rw [show evE cl (.neg (.cst (.int 1))) ρ' = .ok (.dat (.int (-1)), ρ') by unfold evE evE; rfl]
  intro z H3 U3 p3 r3 _
  have ey : y = .int 0 := rp_int r2
  have ez : z = .int (-1) := rp_int r3
  subst ey ez
  refine ⟨_, 0, -1, _, rfl, RgC.neg (by omega) (by omega) (by omega) (by omega), ?_⟩
  rw [Int.sub_zero]
  exact h _ _ H3 U3 (p1.trans er (p2.trans p1.er p3)) (wk_dn (n := (_ : Int).toNat) (Int.toNat_of_nonneg c1).symm) (fun _ _ _ => trivial) (by unfold downs; rw [List.length_map, List.length_range]; omega)
end
/-! ### targets -/
def gNames : List Nat → TGs
  | [] => gNil
  | i :: is => gCons (gName i) (gNames is)
def gOf (K : PySem.W.Frag) : Tg → TG
  | .nm i => gName i
  | .tp is => gTup K is.length (gNames is)
def tgIx : Tg → List Nat
  | .nm i => [i]
  | .tp is => is
structure StoreR (K : PySem.W.Frag) (w : Wd) (H : Hp) (U : Addr → Prop) (σ : L2.St) (ρ : Env) (is : List Nat) (σ1 : L2.St) (ρ1 : Env) : Prop where
  er : ER K w.fa H U σ1 ρ1
  off : ∀ j : Nat, j ∉ is → σ1[j]? = σ[j]?
  offE : ∀ j : Nat, j ∉ is → ρ1[j]? = ρ[j]?
  ow : ∀ a, Ow ρ1 σ1 a → Ow ρ σ a
  hd : ∀ (j : Nat) (v : Vl), ρ1[j]? = some (some v) → v.own = true → ρ[j]? = some (some v) ∧ σ1[j]? = σ[j]?
section
variable {K : PySem.W.Frag} {H : Hp} {U : Addr → Prop} {σ : L2.St} {ρ : Env}
/-- a slot takes a value -/
theorem er_set {fa : Fa} {i : Nat} {x : V} {v : Vl} (er : ER K fa H U σ ρ) (r : RV K fa H U x v) (f : v.own = true → ∀ a, x = .ref a → ¬ Hd ρ σ a) (hi : i < ρ.length) : ER K fa H U (σ.set i (some x)) (ρ.set i (some v)) := by
  have hs : i < σ.length := by rw [er.len]; exact hi
  refine ⟨by rw [List.length_set, List.length_set]; exact er.len, fun j u h => ?_, fun j k u u' a n h1 h2 o1 o2 z1 z2 => ?_, er.dom⟩
  · rcases get_set_some h with ⟨rfl, q⟩ | ⟨n, q⟩
    · cases q
      exact ⟨x, List.getElem?_set_self hs, r⟩
    · obtain ⟨y, e1, e2⟩ := er.val j u q
      exact ⟨y, by rw [List.getElem?_set_ne (Ne.symm n)]; exact e1, e2⟩
  · rcases get_set_some h1 with ⟨rfl, q⟩ | ⟨n1, q⟩
    · cases q
      rcases get_set_some h2 with ⟨rfl, q2⟩ | ⟨n2, q2⟩
      · exact n rfl
      · rw [List.getElem?_set_self hs] at z1
        cases z1
        rw [List.getElem?_set_ne (Ne.symm n2)] at z2
        exact f o1 a rfl ⟨k, u', q2, o2, z2⟩
    · rw [List.getElem?_set_ne (Ne.symm n1)] at z1
      rcases get_set_some h2 with ⟨rfl, q2⟩ | ⟨n2, q2⟩
      · cases q2
        rw [List.getElem?_set_self hs] at z2
        cases z2
        exact f o2 a rfl ⟨j, u, q, o1, z1⟩
      · rw [List.getElem?_set_ne (Ne.symm n2)] at z2
        exact er.dj j k u u' a n q q2 o1 o2 z1 z2
theorem set_ow {i : Nat} {x : V} {v : Vl} {a : Addr} (hs : i < σ.length) (h : Ow (ρ.set i (some v)) (σ.set i (some x)) a) : Ow ρ σ a ∨ (v.mut = true ∧ x = .ref a) := by
  obtain ⟨j, u, h1, h2, h3⟩ := h
  rcases get_set_some h1 with ⟨rfl, q⟩ | ⟨n, q⟩
  · cases q
    rw [List.getElem?_set_self hs] at h3
    cases h3
    exact .inr ⟨h2, rfl⟩
  · rw [List.getElem?_set_ne (Ne.symm n)] at h3
    exact .inl ⟨j, u, q, h2, h3⟩
theorem set_hd {i : Nat} {x : V} {v : Vl} {a : Addr} (hs : i < σ.length) (h : Hd (ρ.set i (some v)) (σ.set i (some x)) a) : Hd ρ σ a ∨ (v.own = true ∧ x = .ref a) := by
  obtain ⟨j, u, h1, h2, h3⟩ := h
  rcases get_set_some h1 with ⟨rfl, q⟩ | ⟨n, q⟩
  · cases q
    rw [List.getElem?_set_self hs] at h3
    cases h3
    exact .inr ⟨h2, rfl⟩
  · rw [List.getElem?_set_ne (Ne.symm n)] at h3
    exact .inl ⟨j, u, q, h2, h3⟩
theorem put_ok {ρ1 : Env} {i : Nat} {x : V} {d : D} (er : ER K w.fa H U σ ρ) (r : Rp K H U x d) (e : ρ.put i (.dat d) = some ρ1) : StoreR K w H U σ ρ [i] (σ.set i (some x)) ρ1 := by
  unfold Env.put at e
  split at e <;> cases e
  rename_i c
  have hi := of_decide_eq_true c
  have hs : i < σ.length := by rw [er.len]; exact hi
  refine ⟨er_set er r (fun o => nomatch o) hi, fun j n => List.getElem?_set_ne fun q => n (by rw [q]; exact List.mem_singleton_self _), fun j n => List.getElem?_set_ne fun q => n (by rw [q]; exact List.mem_singleton_self _), fun a h => ?_, fun j u h o => ?_⟩
  · rcases set_ow hs h with h | ⟨h, _⟩
    · exact h
    · cases h
  · rcases get_set_some h with ⟨rfl, q⟩ | ⟨n, q⟩
    · cases q; cases o
    · exact ⟨q, List.getElem?_set_ne (Ne.symm n)⟩
theorem StoreR.trans {σ1 σ2 : L2.St} {ρ1 ρ2 : Env} {is js : List Nat} (a : StoreR K w H U σ ρ is σ1 ρ1) (b : StoreR K w H U σ1 ρ1 js σ2 ρ2) : StoreR K w H U σ ρ (is ++ js) σ2 ρ2 :=
  ⟨b.er, fun j n => (b.off j fun q => n (List.mem_append_right _ q)).trans (a.off j fun q => n (List.mem_append_left _ q)), fun j n => (b.offE j fun q => n (List.mem_append_right _ q)).trans (a.offE j fun q => n (List.mem_append_left _ q)),
    fun c h => a.ow c (b.ow c h), fun j v h o => let ⟨e1, e2⟩ := b.hd j v h o; let ⟨e3, e4⟩ := a.hd j v e1 o; ⟨e3, e2.trans e4⟩⟩
theorem StoreR.refl (er : ER K w.fa H U σ ρ) : StoreR K w H U σ ρ [] σ ρ := ⟨er, fun _ _ => rfl, fun _ _ => rfl, fun _ h => h, fun _ _ h _ => ⟨h, rfl⟩⟩
theorem names_ok : ∀ {is : List Nat} {vs : List V} {ds : List D} {σ : L2.St} {ρ ρ1 : Env} {Q : L2.St → Hp → Prop}, ER K w.fa H U σ ρ → Rps K H U vs ds → Env.puts ρ is ds = some ρ1 → (∀ σ1, StoreR K w H U σ ρ is σ1 ρ1 → Q σ1 H) → gNames is vs σ H Q
  | [], vs, ds, σ, ρ, ρ1, Q, er, r, e, h => by
    cases r with
    | nil =>
      unfold Env.puts at e
      cases e
      exact ⟨rfl, h σ (StoreR.refl er)⟩
    | cons _ _ => unfold Env.puts at e; cases e
  | i :: is, vs, ds, σ, ρ, ρ1, Q, er, r, e, h => by
    cases r with
    | nil => unfold Env.puts at e; cases e
    | cons r1 r2 =>
      unfold Env.puts at e
      obtain ⟨ρ2, e1, e2⟩ := Option.bind_eq_some_iff.mp e
      have s1 := put_ok er r1 e1
      exact ⟨_, _, rfl, names_ok s1.er r2 e2 fun σ1 s2 => h σ1 (s1.trans s2)⟩
theorem gOf_ok {tg : Tg} {x : V} {d : D} {ρ1 : Env} {Q : L2.St → Hp → Prop} (er : ER K w.fa H U σ ρ) (r : Rp K H U x d) (e : store tg d ρ = some ρ1) (h : ∀ σ1, StoreR K w H U σ ρ (tgIx tg) σ1 ρ1 → Q σ1 H) : gOf K tg x σ H Q := by
  cases tg with
  | nm i => exact h _ (put_ok er r e)
  | tp is =>
    unfold store at e
    simp only at e
    split at e
    · split at e <;> try cases e
      rename_i c
      obtain ⟨a, vs, rfl, s, rr⟩ := rp_tup r
      exact ⟨a, vs, rfl, s.sq, by rw [rr.len]; exact c, names_ok er rr e h⟩
    · cases e
end
/-! ### comprehensions -/
section
variable {K : PySem.W.Frag} {H : Hp} {U : Addr → Prop} {σ : L2.St} {ρ : Env}
theorem ewipe_some {i : Nat} {v : Vl} : ∀ {vs : List Nat} {ρ : Env}, (ρ.wipe vs)[i]? = some (some v) → ρ[i]? = some (some v) ∧ i ∉ vs
  | [], ρ, h => ⟨h, by simp⟩
  | j :: vs, ρ, h => by
    unfold Env.wipe at h
    rcases get_set_some h with ⟨_, q⟩ | ⟨n, q⟩
    · cases q
    · obtain ⟨h1, h2⟩ := ewipe_some q
      exact ⟨h1, fun z => (List.mem_cons.mp z).elim n h2⟩
theorem ewipe_out {i : Nat} : ∀ {vs : List Nat} {ρ : Env}, i ∉ vs → (ρ.wipe vs)[i]? = ρ[i]?
  | [], ρ, h => rfl
  | j :: vs, ρ, h => by
    unfold Env.wipe
    rw [List.getElem?_set_ne fun q => h (by rw [q]; exact List.mem_cons_self ..)]
    exact ewipe_out fun z => h (List.mem_cons_of_mem _ z)
theorem ewipe_len : ∀ {vs : List Nat} {ρ : Env}, (ρ.wipe vs).length = ρ.length
  | [], ρ => rfl
  | j :: vs, ρ => by unfold Env.wipe; rw [List.length_set]; exact ewipe_len
theorem swipe_out {i : Nat} : ∀ {vs : List Nat} {σ : L2.St}, i ∉ vs → (L2.wipe σ vs)[i]? = σ[i]?
  | [], σ, h => rfl
  | j :: vs, σ, h => by
    unfold L2.wipe
    rw [List.getElem?_set_ne fun q => h (by rw [q]; exact List.mem_cons_self ..)]
    exact swipe_out fun z => h (List.mem_cons_of_mem _ z)
theorem er_wipe {fa : Fa} {vs : List Nat} (er : ER K fa H U σ ρ) : ER K fa H U (L2.wipe σ vs) (ρ.wipe vs) := by
  refine ⟨by rw [wipe_length, ewipe_len]; exact er.len, fun i v h => ?_, fun i j v u a n h1 h2 o1 o2 z1 z2 => ?_, er.dom⟩
  · obtain ⟨h, n⟩ := ewipe_some h
    obtain ⟨x, e, r⟩ := er.val i v h
    exact ⟨x, (swipe_out n).trans e, r⟩
  · obtain ⟨h1, n1⟩ := ewipe_some h1
    obtain ⟨h2, n2⟩ := ewipe_some h2
    rw [swipe_out n1] at z1
    rw [swipe_out n2] at z2
    exact er.dj i j v u a n h1 h2 o1 o2 z1 z2
theorem ow_wipe {vs : List Nat} {a : Addr} (h : Ow (ρ.wipe vs) (L2.wipe σ vs) a) : Ow ρ σ a := by
  obtain ⟨i, v, h1, h2, h3⟩ := h
  obtain ⟨h1, n⟩ := ewipe_some h1
  rw [swipe_out n] at h3
  exact ⟨i, v, h1, h2, h3⟩
theorem hd_wipe {vs : List Nat} {a : Addr} (h : Hd (ρ.wipe vs) (L2.wipe σ vs) a) : Hd ρ σ a := by
  obtain ⟨i, v, h1, h2, h3⟩ := h
  obtain ⟨h1, n⟩ := ewipe_some h1
  rw [swipe_out n] at h3
  exact ⟨i, v, h1, h2, h3⟩
theorem wipe_eq {σ σ1 : L2.St} {vs : List Nat} (hl : σ1.length = σ.length) (h : ∀ j : Nat, j ∉ vs → σ1[j]? = σ[j]?) : L2.wipe σ1 vs = L2.wipe σ vs := by
  refine List.ext_getElem? (fun j => ?_)
  by_cases hj : j ∈ vs
  · have key : ∀ (τ : L2.St) (us : List Nat), j ∈ us → (L2.wipe τ us)[j]? = if j < τ.length then some none else none := by
      intro τ us
      induction us with
      | nil => intro h; cases h
      | cons u us ih =>
        intro hm
        unfold L2.wipe
        by_cases q : u = j
        · subst q
          rw [List.getElem?_set]
          simp [wipe_length]
        · rw [List.getElem?_set_ne q]
          exact ih ((List.mem_cons.mp hm).resolve_left fun z => q z.symm)
    rw [key σ1 vs hj, key σ vs hj, hl]
  · rw [swipe_out hj, swipe_out hj, h j hj]
/-- between two turns -/
structure CI (K : PySem.W.Frag) (w : Wd) (σ : L2.St) (own : List Nat) (H0 : Hp) (U0 : Addr → Prop) (ρ0 : Env) (D : Addr) (H : Hp) (U : Addr → Prop) (ρ : Env) (acc : List V) (ys : List PyData) : Prop where
  er : ER K w.fa H U (L2.wipe σ own) (ρ.wipe own)
  go : Go (Ow ρ0 σ) H0 U0 H U
  ow : ∀ a, Ow (ρ.wipe own) (L2.wipe σ own) a → Ow ρ0 σ a
  hd : ∀ (j : Nat) (v : Vl), (ρ.wipe own)[j]? = some (some v) → v.own = true → ∃ u, ρ0[j]? = some (some u) ∧ u.own = true
  set : ∀ (j : Nat) (v : Vl), j ∉ own → ρ0[j]? = some (some v) → ∃ v', ρ[j]? = some (some v') ∧ (LL v = true → LL v' = true)
  lst : H D = some (.lst acc)
  els : Rps K H U acc ys
  u : U D
/-- a new object that only we hold is written -/
theorem er_upd {fa : Fa} {D : Addr} {o : HO} (er : ER K fa H U σ ρ) (u : U D) (n : ¬ Hd ρ σ D) (ho : OwnO o) : ER K fa (upd H D o) U σ ρ := by
  have s : Sta H U (upd H D o) U := ⟨fun a ob h z _ => by rw [upd_ne fun q => z (by rw [q]; exact u)]; exact h, fun a h => .inl h⟩
  refine ⟨er.len, fun i v h => ?_, er.dj, er.dom.upd (.inr (er.dom.own D u)) (fun _ z _ => z) fun _ => ho⟩
  obtain ⟨x, e, r⟩ := er.val i v h
  refine ⟨x, e, r.sta s fun o a q z => ⟨fun ob y _ => ?_, z⟩⟩
  subst q
  rw [upd_ne fun q => n ⟨i, v, h, o, by rw [← q]; exact e⟩]
  exact y
theorem er_grow {fa : Fa} {H' : Hp} (er : ER K fa H U σ ρ) (g : Grow H H') : ER K fa H' U σ ρ := by
  have s : Sta H U H' U := ⟨fun a ob h _ _ => g a ob h, fun a h => .inl h⟩
  refine ⟨er.len, fun i v h => ?_, er.dj, er.dom.ext g⟩
  obtain ⟨x, e, r⟩ := er.val i v h
  exact ⟨x, e, r.sta s fun o a q z => ⟨fun ob y _ => g a ob y, z⟩⟩
theorem Go.grow {own : Addr → Prop} {H' : Hp} (g : Grow H H') : Go own H U H' U := ⟨fun a o h _ _ => g a o h, fun _ h _ => h, fun _ h => .inl h, fun a h o e => h o (g a o e)⟩
theorem CI.noD {w : Wd} {own : List Nat} {H0 : Hp} {U0 : Addr → Prop} {ρ0 : Env} {D : Addr} {acc : List V} {ys : List PyData} (c : CI K w σ own H0 U0 ρ0 D H U ρ acc ys) (er0 : ER K w.fa H0 U0 σ ρ0) (hD : H0 D = none) : ¬ Hd (ρ.wipe own) (L2.wipe σ own) D :=
  fun h => by
    obtain ⟨i, v, h1, h2, h3⟩ := h
    obtain ⟨u, e1, e2⟩ := c.hd i v h1 h2
    rw [swipe_out (ewipe_some h1).2] at h3
    exact er0.dom.nn (er0.hd ⟨i, u, e1, e2, h3⟩) hD
/-- a turn's further way -/
theorem ci_step {w : Wd} {own is : List Nat} {H0 H' H3 : Hp} {U0 U4 : Addr → Prop} {ρ0 ρ1 ρ3 : Env} {σ1 : L2.St} {D : Addr} {acc : List V} {ys : List PyData} (c : CI K w σ own H0 U0 ρ0 D H U ρ acc ys) (er0 : ER K w.fa H0 U0 σ ρ0) (hD : H0 D = none)
    (g : Grow H H') (hin : ∀ i ∈ is, i ∈ own) (sr : StoreR K w H' U (L2.wipe σ own) (ρ.wipe own) is σ1 ρ1) (ew : L2.wipe σ1 own = L2.wipe σ own) (p : Pst K w.fa σ1 H' U ρ1 H3 U4 ρ3) : CI K w σ own H0 U0 ρ0 D H3 U4 ρ3 acc ys := by
  have noD : ¬ Ow ρ1 σ1 D := fun h => c.noD er0 hD (sr.ow D h).hd
  have st : Sta H U H3 U4 := ⟨fun a o h n nt => p.go.keep a o (g a o h) (fun q => n (c.er.ow (sr.ow a q))) nt, fun a h => (p.go.u2 a h).imp id fun q o e => q o (g a o e)⟩
  refine ⟨?_, ?_, fun a h => ?_, fun j v h o => ?_, fun j v n h => ?_, p.go.keep D _ (g D _ c.lst) noD nt_lst, c.els.sta st, p.go.u1 D c.u noD⟩
  · rw [← ew]
    exact er_wipe p.er
  · exact (c.go.trans (Go.grow (own := fun _ => False) g) (fun _ h => h.elim) er0.dom).trans p.go (fun a h => .inl (c.ow a (sr.ow a h))) er0.dom
  · rw [← ew] at h
    exact c.ow a (sr.ow a (p.own a (ow_wipe h)))
  · obtain ⟨h, n⟩ := ewipe_some h
    obtain ⟨u, e1, e2⟩ := p.held j v h o
    obtain ⟨e3, _⟩ := sr.hd j u e1 e2
    exact c.hd j u e3 e2
  · obtain ⟨v', h', l1⟩ := c.set j v n h
    rw [← ewipe_out (vs := own) (ρ := ρ) n, ← sr.offE j fun q => n (hin j q)] at h'
    obtain ⟨v2, h2, l2⟩ := p.set j v' h'
    exact ⟨v2, h2, fun z => l2 (l1 z)⟩
theorem ci_app {w : Wd} {own : List Nat} {H0 : Hp} {U0 : Addr → Prop} {ρ0 : Env} {D : Addr} {acc : List V} {ys : List PyData} {y : V} {d : PyData} (c : CI K w σ own H0 U0 ρ0 D H U ρ acc ys) (er0 : ER K w.fa H0 U0 σ ρ0) (hD : H0 D = none) (r : Rp K H U y d) :
    CI K w σ own H0 U0 ρ0 D (upd H D (.lst (acc ++ [y]))) U ρ (acc ++ [y]) (ys ++ [d]) := by
  have s : Sta H U (upd H D (.lst (acc ++ [y]))) U := ⟨fun a ob h z _ => by rw [upd_ne fun q => z (by rw [q]; exact c.u)]; exact h, fun a h => .inl h⟩
  exact ⟨er_upd c.er c.u (c.noD er0 hD) own_lst, c.go.trans (own' := fun a => a = D) ⟨fun a o h n _ => by rw [upd_ne n]; exact h, fun a h _ => h, fun a h => .inl h, fun a h => (nw_upd nt_lst h).2⟩ (fun a h => .inr (.of (by rw [h]; exact hD))) er0.dom, c.ow, c.hd, c.set, upd_same, (c.els.app (.cons r .nil)).sta s, c.u⟩
abbrev W0 : WX := fun _ _ _ _ => False
def tC (K : PySem.W.Frag) (w : Wd) (cl : Fun) : Option T → TT
  | none => tYes
  | some t => tT K w cl W0 t
theorem tC_ok {w : Wd} {cl : Fun} {tc : Option T} {Q : Bool → Hp → Prop} (er : ER K w.fa H U σ ρ) (h : Aft (evC cl tc ρ) (fun b ρ' => ∀ H' U', Pst K w.fa σ H U ρ H' U' ρ' → Q b H') (fun _ _ => False)) : tC K w cl tc σ H Q := by
  cases tc with
  | none =>
    unfold evC at h
    exact h H U (Pst.refl er)
  | some t =>
    unfold evC at h
    exact ⟨U, ρ, er, h.mono (fun _ _ h => h) fun _ _ h => h.elim⟩
theorem puts_len : ∀ {is : List Nat} {ds : List D} {ρ ρ1 : Env}, Env.puts ρ is ds = some ρ1 → ρ1.length = ρ.length
  | [], [], ρ, ρ1, h => by unfold Env.puts at h; cases h; rfl
  | [], _ :: _, _, _, h => by unfold Env.puts at h; cases h
  | _ :: _, [], _, _, h => by unfold Env.puts at h; cases h
  | i :: is, d :: ds, ρ, ρ1, h => by
    unfold Env.puts at h
    obtain ⟨ρ2, e1, e2⟩ := Option.bind_eq_some_iff.mp h
    unfold Env.put at e1
    split at e1 <;> cases e1
    rw [puts_len e2, List.length_set]
theorem store_len {tg : Tg} {d : D} {ρ ρ1 : Env} (h : store tg d ρ = some ρ1) : ρ1.length = ρ.length := by
  unfold store at h
  split at h
  · unfold Env.put at h
    split at h <;> cases h
    rw [List.length_set]
  · split at h
    · split at h
      · exact puts_len h
      · cases h
    · cases h
/-- one turn's reading, the whole loop's -/
theorem comp_read {w : Wd} {cl : Fun} {own : List Nat} {tg : Tg} {tc : Option T} {te : T} {σ : L2.St} {H0 : Hp} {U0 : Addr → Prop} {ρ0 : Env} {Q : VK} {J : It} {src : Hp → (Addr → Prop) → Prop} {ds : List D}
    (er0 : ER K w.fa H0 U0 σ ρ0) (hin : ∀ i ∈ tgIx tg, i ∈ own) (wk : Wk K J src ds) (hs : ∀ H2 U2, Go (Ow ρ0 σ) H0 U0 H2 U2 → src H2 U2) (hz : ds.length ≤ 16777216)
    (h : Aft (compTurns own tg (evC cl tc) (evE cl te) ds [] ρ0) (fun ys ρe => ∀ D H U acc, H0 D = none → CI K w σ own H0 U0 ρ0 D H U ρe acc ys → Q (.ref D) H) (fun _ _ => False)) :
    ∀ D, H0 D = none → ∃ Wi : Nat → Nat → Hp → Prop, (∃ m, Wi 0 m (upd H0 D (.lst []))) ∧ ∀ i m H, Wi i m H →
      (J.stop i H ∧ Q (.ref D) H) ∨ (J.go i H ∧ ∃ Nx : Hp → Prop, (∀ H', Nx H' → ∃ m', m' < m ∧ Wi (i + 1) m' H') ∧ ∀ x H', J.yld i H x H' → gOf K tg x (L2.wipe σ own) H' fun σ2 H2 => L2.wipe σ2 own = L2.wipe σ own ∧ tC K w cl tc σ2 H2 fun b H3 =>
        if b = true then tE K w cl W0 te σ2 H3 fun y H4 => ∃ acc, H4 D = some (.lst acc) ∧ acc.length < sizeLine ∧ Nx (upd H4 D (.lst (acc ++ [y]))) else Nx H3) := by
  intro D hD
  refine ⟨fun i m H => ∃ U ρi acc ys, m = ds.length - i ∧ i ≤ ds.length ∧ ys.length ≤ i ∧ CI K w σ own H0 U0 ρ0 D H U ρi acc ys ∧
    Aft (compTurns own tg (evC cl tc) (evE cl te) (ds.drop i) ys ρi) (fun ys ρe => ∀ D H U acc, H0 D = none → CI K w σ own H0 U0 ρ0 D H U ρe acc ys → Q (.ref D) H) (fun _ _ => False), ⟨ds.length, ?_⟩, ?_⟩
  · have p := Pst.newU (o := .lst []) er0 hD own_lst
    exact ⟨addU U0 D, ρ0, [], [], by omega, Nat.zero_le _, Nat.zero_le _, ⟨er_wipe p.er, p.go, fun a h => ow_wipe h, fun j v h o => ⟨v, (ewipe_some h).1, o⟩, fun j v _ h => ⟨v, h, id⟩, upd_same, .nil, .inr rfl⟩, by simpa using h⟩
  · rintro i m H ⟨U, ρi, acc, ys, rfl, hi, hy, ci, k⟩
    obtain ⟨w1, w2⟩ := wk i H U (hs H U ci.go) fun a u => ci.er.dom.nn u
    by_cases hlt : i < ds.length
    · obtain ⟨go, yl⟩ := w1 hlt
      have ed : ds.drop i = ds[i] :: ds.drop (i + 1) := (List.drop_eq_getElem_cons hlt)
      refine .inr ⟨go, fun H' => ∃ U ρi acc ys, ys.length ≤ i + 1 ∧ CI K w σ own H0 U0 ρ0 D H' U ρi acc ys ∧
        Aft (compTurns own tg (evC cl tc) (evE cl te) (ds.drop (i + 1)) ys ρi) (fun ys ρe => ∀ D H U acc, H0 D = none → CI K w σ own H0 U0 ρ0 D H U ρe acc ys → Q (.ref D) H) (fun _ _ => False),
        fun H' ⟨U, ρi, acc, ys, h1, h2, h3⟩ => ⟨ds.length - (i + 1), by omega, U, ρi, acc, ys, rfl, hlt, h1, h2, h3⟩, fun x H' hx => ?_⟩
      obtain ⟨gr, d, e1, rx⟩ := yl x H' hx
      rw [List.getElem?_eq_getElem hlt] at e1
      cases e1
      rw [ed] at k
      unfold compTurns at k
      obtain ⟨ρ1, e2, k⟩ := k.get
      refine gOf_ok (er_grow ci.er gr) rx e2 fun σ1 sr => ?_
      have ew : L2.wipe σ1 own = L2.wipe σ own := by
        refine wipe_eq ?_ fun j n => (sr.off j fun q => n (hin j q)).trans (swipe_out n)
        have l1 := sr.er.len
        have l2 := ci.er.len
        have l3 : ρ1.length = (ρi.wipe own).length := store_len e2
        rw [l1, l3, ← l2, wipe_length]
      refine ⟨ew, tC_ok sr.er (k.bind.mono (fun b ρ2 k H2 U2 p2 => ?_) fun _ _ h => h)⟩
      cases b with
      | false =>
        rw [if_neg (by decide)]
        exact ⟨U2, ρ2, acc, ys, by omega, ci_step ci er0 hD gr hin sr ew p2, k⟩
      | true =>
        rw [if_pos rfl]
        refine ⟨U2, ρ2, p2.er, k.bind.mono (fun v ρ3 k y H3 U3 p3 rv f => ?_) fun _ _ h => h.elim⟩
        obtain ⟨dy, e3, k⟩ := k.get
        obtain ⟨U4, p4, ry⟩ := give p2.er p3 rv f e3
        have c4 := ci_step ci er0 hD gr hin sr ew (p2.trans sr.er p4)
        refine ⟨acc, c4.lst, ?_, U4, ρ3, acc ++ [y], ys ++ [dy], by simp; omega, ci_app c4 er0 hD ry, k⟩
        rw [c4.els.len, sizeLine_eq]
        omega
    · have e : i = ds.length := by omega
      refine .inl ⟨w2 (by omega), ?_⟩
      rw [e, List.drop_length] at k
      exact k D H U acc hD ci
theorem er_lock {fa : Fa} {o : Opn} (er : ER K fa H U σ ρ) : ER K fa H U σ (lockO o ρ) := by
  unfold lockO
  split
  · exact er
  · rename_i i
    split
    · rename_i ds e
      have hi : i < ρ.length := (List.getElem?_eq_some_iff.mp e).1
      refine ⟨by rw [List.length_set]; exact er.len, fun j v h => ?_, fun j k v u a n h1 h2 o1 o2 => ?_, er.dom⟩
      · rcases get_set_some h with ⟨rfl, q⟩ | ⟨n, q⟩
        · cases q
          obtain ⟨x, e1, r⟩ := er.val j _ e
          exact ⟨x, e1, r⟩
        · exact er.val j v q
      · rcases get_set_some h1 with ⟨rfl, q⟩ | ⟨n1, q⟩
        · cases q
          rcases get_set_some h2 with ⟨rfl, q2⟩ | ⟨n2, q2⟩
          · exact (n rfl).elim
          · exact er.dj j k _ u a n e q2 rfl o2
        · rcases get_set_some h2 with ⟨rfl, q2⟩ | ⟨n2, q2⟩
          · cases q2
            exact er.dj j k v _ a n q e o1 rfl
          · exact er.dj j k v u a n q q2 o1 o2
    · exact er
theorem own_lock {o : Opn} {j : Nat} {u : Vl} (h : (lockO o ρ)[j]? = some (some u)) (hu : u.own = true) : ∃ v, ρ[j]? = some (some v) ∧ v.own = true := by
  unfold lockO at h
  split at h
  · exact ⟨u, h, hu⟩
  · split at h
    · rename_i ds e
      rcases get_set_some h with ⟨rfl, q⟩ | ⟨n, q⟩
      · exact ⟨_, e, rfl⟩
      · exact ⟨u, q, hu⟩
    · exact ⟨u, h, hu⟩
theorem set_lock {o : Opn} {j : Nat} {v : Vl} (h : ρ[j]? = some (some v)) : ∃ v', (lockO o ρ)[j]? = some (some v') ∧ (LL v = true → LL v' = true) := by
  unfold lockO
  split
  · exact ⟨v, h, id⟩
  · rename_i i
    split
    · by_cases q : i = j
      · subst q
        exact ⟨_, List.getElem?_set_self (List.getElem?_eq_some_iff.mp h).1, fun _ => rfl⟩
      · exact ⟨v, by rw [List.getElem?_set_ne q]; exact h, id⟩
    · exact ⟨v, h, id⟩
theorem back_out {ρ0 : Env} {j : Nat} : ∀ {own : List Nat} {ρ : Env}, j ∉ own → (Env.back ρ0 ρ own)[j]? = ρ[j]?
  | [], ρ, _ => rfl
  | i :: is, ρ, h => by
    unfold Env.back
    rw [List.getElem?_set_ne fun q => h (by rw [q]; exact List.mem_cons_self ..)]
    exact back_out fun z => h (List.mem_cons_of_mem _ z)
theorem back_len {ρ0 : Env} : ∀ {own : List Nat} {ρ : Env}, (Env.back ρ0 ρ own).length = ρ.length
  | [], ρ => rfl
  | i :: is, ρ => by unfold Env.back; rw [List.length_set]; exact back_len
theorem back_in {ρ0 : Env} {j : Nat} : ∀ {own : List Nat} {ρ : Env}, j ∈ own → j < ρ.length → (Env.back ρ0 ρ own)[j]? = some (keepV ρ0[j]?)
  | [], ρ, h, _ => by cases h
  | i :: is, ρ, h, hl => by
    unfold Env.back
    by_cases q : i = j
    · subst q
      exact List.getElem?_set_self (by rw [back_len]; exact hl)
    · rw [List.getElem?_set_ne q]
      exact back_in ((List.mem_cons.mp h).resolve_left fun z => q z.symm) hl
theorem back_some {ρ0 : Env} {j : Nat} {own : List Nat} {ρ : Env} {v : Vl} (h : (Env.back ρ0 ρ own)[j]? = some (some v)) : (j ∉ own ∧ ρ[j]? = some (some v)) ∨ (j ∈ own ∧ ρ0[j]? = some (some v)) := by
  by_cases hj : j ∈ own
  · have hl : j < ρ.length := by
      have := (List.getElem?_eq_some_iff.mp h).1
      rw [back_len] at this
      exact this
    rw [back_in hj hl] at h
    refine .inr ⟨hj, ?_⟩
    have h' := Option.some.inj h
    unfold keepV at h'
    split at h'
    · rename_i v' e
      rw [e, h']
    · cases h'
  · rw [back_out hj] at h
    exact .inl ⟨hj, h⟩
theorem unlock_some {ρ0 ρ : Env} {o : Opn} {j : Nat} {v : Vl} (h : (unlockO ρ0 o ρ)[j]? = some (some v)) : ρ[j]? = some (some v) ∨ ∃ l ds, ρ0[j]? = some (some (.lst l)) ∧ ρ[j]? = some (some (.lck ds)) ∧ v = .lst ds := by
  unfold unlockO at h
  split at h
  · exact .inl h
  · rename_i i
    split at h
    · rename_i l ds e1 e2
      rcases get_set_some h with ⟨rfl, q⟩ | ⟨n, q⟩
      · cases q
        exact .inr ⟨_, _, e1, e2, rfl⟩
      · exact .inl q
    · exact .inl h
theorem unlock_len {ρ0 ρ : Env} {o : Opn} : (unlockO ρ0 o ρ).length = ρ.length := by
  unfold unlockO
  split
  · rfl
  · split
    · rw [List.length_set]
    · rfl
theorem unlock_set {ρ0 ρ : Env} {o : Opn} {j : Nat} {v : Vl} (h : ρ[j]? = some (some v)) : ∃ v', (unlockO ρ0 o ρ)[j]? = some (some v') ∧ (LL v = true → LL v' = true) := by
  unfold unlockO
  split
  · exact ⟨v, h, id⟩
  · rename_i i
    split
    · by_cases q : i = j
      · subst q
        exact ⟨_, List.getElem?_set_self (List.getElem?_eq_some_iff.mp h).1, fun _ => rfl⟩
      · exact ⟨v, by rw [List.getElem?_set_ne q]; exact h, id⟩
    · exact ⟨v, h, id⟩
/-- behind the comprehension -/
theorem ci_end {w : Wd} {own : List Nat} {o : Opn} {D : Addr} {ρe : Env} {He : Hp} {Ue : Addr → Prop} {acc : List V} {ys : List PyData} (er : ER K w.fa H U σ ρ) (ok : ownOk ρ own = true) (c : CI K w σ own H U (lockO o ρ) D He Ue ρe acc ys) : Pst K w.fa σ H U ρ He Ue (unlockO ρ o (Env.back ρ ρe own)) := by
  have st : Sta H U He Ue := c.go.sta fun a h => er.ow (lock_sub h)
  have notOwn : ∀ (j : Nat) (v : Vl), j ∈ own → ρ[j]? = some (some v) → v.own = false := by
    intro j v hj hv
    have := List.all_eq_true.mp ok j hj
    rw [hv] at this
    simpa using this
  -- where a held slot comes from
  have from_ : ∀ (j : Nat) (v : Vl), (unlockO ρ o (Env.back ρ ρe own))[j]? = some (some v) → (∃ u, j ∉ own ∧ ρe[j]? = some (some u) ∧ (u = v ∨ ∃ l ds, ρ[j]? = some (some (.lst l)) ∧ u = .lck ds ∧ v = .lst ds)) ∨ (j ∈ own ∧ ρ[j]? = some (some v) ∧ v.own = false) := by
    intro j v h
    rcases unlock_some h with h | ⟨l, ds, h1, h2, rfl⟩
    · rcases back_some h with ⟨n, q⟩ | ⟨n, q⟩
      · exact .inl ⟨v, n, q, .inl rfl⟩
      · exact .inr ⟨n, q, notOwn j v n q⟩
    · rcases back_some h2 with ⟨n, q⟩ | ⟨n, q⟩
      · exact .inl ⟨_, n, q, .inr ⟨l, ds, h1, rfl, rfl⟩⟩
      · rw [h1] at q; cases q
  have atE : ∀ (j : Nat) (u : Vl), j ∉ own → ρe[j]? = some (some u) → (ρe.wipe own)[j]? = some (some u) := fun j u n h => by rw [ewipe_out n]; exact h
  refine ⟨⟨?_, fun j v h => ?_, fun j k v v' a n h1 h2 o1 o2 z1 z2 => ?_, c.er.dom⟩, c.go.mono fun a h => lock_sub h, fun a ⟨j, v, h, o1, z⟩ => ?_, fun j v h o1 => ?_, fun j v h => ?_⟩
  · have := c.er.len
    rw [wipe_length, ewipe_len] at this
    rw [unlock_len, back_len, this]
  · rcases from_ j v h with ⟨u, n, q, k⟩ | ⟨n, q, no⟩
    · obtain ⟨x, e1, r⟩ := c.er.val j u (atE j u n q)
      rw [swipe_out n] at e1
      rcases k with rfl | ⟨l, ds, _, rfl, rfl⟩
      · exact ⟨x, e1, r⟩
      · exact ⟨x, e1, r⟩
    · obtain ⟨x, e1, r⟩ := er.val j v q
      exact ⟨x, e1, r.sta st fun o => by rw [no] at o; cases o⟩
  · rcases from_ j v h1 with ⟨u, m, q, kk⟩ | ⟨m, q, no⟩
    · rcases from_ k v' h2 with ⟨u', m', q', k'⟩ | ⟨m', q', no'⟩
      · refine c.er.dj j k u u' a n (atE j u m q) (atE k u' m' q') ?_ ?_ ((swipe_out m).trans z1) ((swipe_out m').trans z2)
        · rcases kk with rfl | ⟨_, _, _, rfl, _⟩
          · exact o1
          · rfl
        · rcases k' with rfl | ⟨_, _, _, rfl, _⟩
          · exact o2
          · rfl
      · rw [no'] at o2; cases o2
    · rw [no] at o1; cases o1
  · rcases from_ j v h with ⟨u, m, q, k⟩ | ⟨m, q, no⟩
    · rcases k with rfl | ⟨l, ds, h1, rfl, rfl⟩
      · exact lock_sub (c.ow a ⟨j, u, atE j u m q, o1, (swipe_out m).trans z⟩)
      · exact ⟨j, _, h1, rfl, z⟩
    · have := mut_own o1
      rw [no] at this; cases this
  · rcases from_ j v h with ⟨u, m, q, k⟩ | ⟨m, q, no⟩
    · rcases k with rfl | ⟨l, ds, h1, rfl, rfl⟩
      · obtain ⟨u', e1, e2⟩ := c.hd j u (atE j u m q) o1
        exact own_lock e1 e2
      · exact ⟨_, h1, rfl⟩
    · rw [no] at o1; cases o1
  · by_cases hj : j ∈ own
    · have hl : j < ρe.length := by
        have h1 := c.er.len
        rw [wipe_length, ewipe_len] at h1
        have h2 := er.len
        have h3 := (List.getElem?_eq_some_iff.mp h).1
        omega
      exact unlock_set (v := v) (by rw [back_in hj hl, h]; rfl)
    · obtain ⟨v1, e1, l1⟩ := set_lock (o := o) h
      obtain ⟨v2, e2, l2⟩ := c.set j v1 hj e1
      obtain ⟨v3, e3, l3⟩ := unlock_set (ρ0 := ρ) (o := o) (ρ := Env.back ρ ρe own) (v := v2) (by rw [back_out hj]; exact e2)
      exact ⟨v3, e3, fun z => l3 (l2 (l1 z))⟩
end
section
variable {X : Cx} {w : Wd} {cl : Fun} {W : WX}
/-- the tests of a comprehension -/
def SC (X : Cx) (w : Wd) (cl : Fun) (ifs : List Expr) (tc : Option T) : Prop := PTs X ifs (tC X.K w cl tc)
theorem sc_none : SC X w cl [] none := pts_nil
theorem sc_some {c : Expr} {t : T} (h : ST X w cl W0 c t) : SC X w cl [c] (some t) := pts_one h.can
theorem comp_at {tg iter : Expr} {own : List Nat} {tgT : Tg} {k : Wkd} {tit te : T} {tc : Option T} (hi : SI X w cl W tg iter tit k) (hin : (tgIx tgT).all own.contains = true) :
    ∃ wi, PI X tg iter wi ∧ ∀ σ H U ρ Q, ER X.K w.fa H U σ ρ → Aft (evE cl (.comp te own tgT k tit tc) ρ) (OkE X.K w σ H U ρ Q) (XcE X.K w W σ H U ρ) → tLc wi (gOf X.K tgT) (tC X.K w cl tc) (tE X.K w cl W0 te) own σ H Q := by
  obtain ⟨wi, p, ki⟩ := hi
  refine ⟨wi, p, fun σ H U ρ Q er h => ki σ H U ρ _ er ?_⟩
  unfold evE at h
  refine h.bind.mono (fun o ρ' h => ?_) fun _ _ h => h
  obtain ⟨x, e1, h⟩ := h.get
  obtain ⟨ds, e2, h⟩ := h.get
  obtain ⟨_, e3, h⟩ := h.get
  refine ⟨x, ds, e1, e2, fun J src H' U' p1 wk hs hz => ?_⟩
  have ok : ownOk ρ' own = true := by
    unfold need at e3
    split at e3
    · assumption
    · cases e3
  refine comp_read (er_lock p1.er) (fun i hi => ?_) wk (fun H2 U2 g => hs H2 U2 (.inl g)) hz ?_
  · have := List.all_eq_true.mp hin i hi
    simpa using this
  · cases q : compTurns own tgT (evC cl tc) (evE cl te) ds [] (lockO o ρ') with
    | stuck => rw [q] at h; exact h
    | exc _ _ => rw [q] at h; exact h
    | ok r =>
      obtain ⟨ys, ρe⟩ := r
      rw [q] at h
      intro D He Ue acc hD c
      have pe := ci_end p1.er ok c
      have h' : OkE X.K w σ H U ρ Q (.lst ys) (unlockO ρ' o (Env.back ρ' ρe own)) := h
      refine h' _ _ Ue (p1.trans er pe) ⟨D, acc, rfl, c.u, c.lst, c.els⟩ fun _ a z => ?_
      cases z
      exact ⟨fun z => p1.er.dom.nn (p1.er.hd (pe.hdd D z)) hD, p1.go.dom D (.of hD)⟩
theorem se_comp {elt tg iter : Expr} {ifs : List Expr} {scope : Scope} {own : List (Str × Nat)} {pos : Pos} {tgT : Tg} {k : Wkd} {tit te : T} {tc : Option T} (G : GC X W) (hi : SI X w cl W tg iter tit k) (ok : BlkOk X.N X.env.scope scope own)
    (hg : ∀ (s : Shared) (H : Hp) (C : Addr) (c : List (Str × Addr)) (fp : List Addr), PG (X.blk s H scope (compEnvC scope c C X.env) fp) tg (gOf X.K tgT)) (hin : (tgIx tgT).all (own.map (·.2)).contains = true)
    (ht : ∀ (s : Shared) (H : Hp) (C : Addr) (c : List (Str × Addr)) (fp : List Addr), SC (X.blk s H scope (compEnvC scope c C X.env) fp) w cl ifs tc)
    (he : ∀ (s : Shared) (H : Hp) (C : Addr) (c : List (Str × Addr)) (fp : List Addr), SE (X.blk s H scope (compEnvC scope c C X.env) fp) w cl W0 elt te) (hs : ∀ x, foldedSetIterable iter X.env x = pure x := by intro _; rfl) :
    SE X w cl W (.ListComp elt [⟨tg, iter, ifs, 0⟩] scope pos) (.comp te (own.map (·.2)) tgT k tit tc) := by
  obtain ⟨wi, p, k⟩ := comp_at (te := te) (tc := tc) hi hin
  exact ⟨_, pe_lc (tt := tC X.K w cl tc) G.calm G.nd p ok hg (fun s H C c fp => ht s H C c fp) (fun s H C c fp => (he s H C c fp).can) hs, k⟩
end
end Pv
set_option Elab.async false
set_option linter.all false
set_option maxRecDepth 100000
set_option maxHeartbeats 2100000
namespace Pv
open PySem L2 PyProof.Rows
/-- behind a statement -/
structure Pss (K : PySem.W.Frag) (w : Wd) (lk : List Nat) (σ : L2.St) (H : Hp) (U : Addr → Prop) (ρ : Env) (σ' : L2.St) (H' : Hp) (U' : Addr → Prop) (ρ' : Env) : Prop where
  er : ER K w.fa H' U' σ' ρ'
  go : Go (Ow ρ σ) H U H' U'
  own : ∀ a, Ow ρ' σ' a → Ow ρ σ a ∨ Nw H a
  held : ∀ (i : Nat) (v : Vl) (a : Addr), ρ'[i]? = some (some v) → v.own = true → σ'[i]? = some (some (V.ref a)) → (∃ u, ρ[i]? = some (some u) ∧ u.own = true ∧ σ[i]? = some (some (V.ref a))) ∨ Nw H a
  lk : ∀ i ∈ lk, σ'[i]? = σ[i]? ∧ ∀ v, ρ[i]? = some (some v) → LL v = true → ∃ v', ρ'[i]? = some (some v') ∧ LL v' = true
  len : ρ'.length = ρ.length
section
variable {K : PySem.W.Frag} {w : Wd} {lk : List Nat} {σ σ1 σ2 : L2.St} {H H1 H2 : Hp} {U U1 U2 : Addr → Prop} {ρ ρ1 ρ2 : Env}
theorem Pss.refl (er : ER K w.fa H U σ ρ) : Pss K w lk σ H U ρ σ H U ρ := ⟨er, Go.refl _ _ _, fun _ h => .inl h, fun _ v _ h o z => .inl ⟨v, h, o, z⟩, fun i _ => ⟨rfl, fun v h l => ⟨v, h, l⟩⟩, rfl⟩
theorem Pss.trans (er : ER K w.fa H U σ ρ) (p : Pss K w lk σ H U ρ σ1 H1 U1 ρ1) (q : Pss K w lk σ1 H1 U1 ρ1 σ2 H2 U2 ρ2) : Pss K w lk σ H U ρ σ2 H2 U2 ρ2 := by
  have none1 : ∀ a, Nw H1 a → Nw H a := p.go.dom
  refine ⟨q.er, p.go.trans q.go p.own er.dom, fun a h => ?_, fun i v a h o z => ?_, fun i hi => ⟨(q.lk i hi).1.trans (p.lk i hi).1, fun v h l => ?_⟩, q.len.trans p.len⟩
  · rcases q.own a h with h | h
    · exact p.own a h
    · exact .inr (none1 a h)
  · rcases q.held i v a h o z with ⟨u, h1, h2, h3⟩ | h
    · exact p.held i u a h1 h2 h3
    · exact .inr (none1 a h)
  · obtain ⟨v', h', l'⟩ := (p.lk i hi).2 v h l
    exact (q.lk i hi).2 v' h' l'
theorem Pss.hdd {σ' : L2.St} {H' : Hp} {U' : Addr → Prop} {ρ' : Env} (p : Pss K w lk σ H U ρ σ' H' U' ρ') (a : Addr) (h : Hd ρ' σ' a) : Hd ρ σ a ∨ Nw H a := by
  obtain ⟨i, v, h1, h2, h3⟩ := h
  exact (p.held i v a h1 h2 h3).imp (fun ⟨u, e1, e2, e3⟩ => ⟨i, u, e1, e2, e3⟩) id
theorem Pst.pss (er : ER K w.fa H U σ ρ) (p : Pst K w.fa σ H U ρ H1 U1 ρ1) : Pss K w lk σ H U ρ σ H1 U1 ρ1 :=
  ⟨p.er, p.go, fun a h => .inl (p.own a h), fun i v a h o z => let ⟨u, e1, e2⟩ := p.held i v h o; .inl ⟨u, e1, e2, z⟩, fun i _ => ⟨rfl, fun v h l => let ⟨v', h', l'⟩ := p.set i v h; ⟨v', h', l' l⟩⟩, by rw [← p.er.len, er.len]⟩
def RetF (σ : L2.St) (H : Hp) (ρ : Env) (σ' : L2.St) (ρ' : Env) (x : V) (v : Vl) : Prop := v.own = true → ∀ a, x = .ref a → ¬ Hd ρ' σ' a ∧ (Hd ρ σ a ∨ Nw H a)
def OkF (K : PySem.W.Frag) (w : Wd) (lk : List Nat) (σ : L2.St) (H : Hp) (U : Addr → Prop) (ρ : Env) (D : Ends) (f : Flow) (ρ' : Env) : Prop :=
  ∀ σ' H' U', Pss K w lk σ H U ρ σ' H' U' ρ' → match f with
    | .nx => D.nx σ' H'
    | .brk => D.bk σ' H'
    | .cnt => D.ct σ' H'
    | .ret v => ∀ x, RV K w.fa H' U' x v → RetF σ H ρ σ' ρ' x v → D.rt x H'
def XcF (K : PySem.W.Frag) (w : Wd) (W : WX) (lk : List Nat) (σ : L2.St) (H : Hp) (U : Addr → Prop) (ρ : Env) (ex : Ex) (ρ' : Env) : Prop :=
  ∀ c d σ' H' U', Pss K w lk σ H U ρ σ' H' U' ρ' → ExR K w.ca H' U' ex c d → W c d σ' H'
theorem XcF.on {W : WX} {ex : Ex} {ρ' : Env} (h : XcF K w W lk σ H U ρ ex ρ') (er : ER K w.fa H U σ ρ) (p : Pss K w lk σ H U ρ σ1 H1 U1 ρ1) : XcF K w W lk σ1 H1 U1 ρ1 ex ρ' :=
  fun c d σ' H' U' q r => h c d σ' H' U' (p.trans er q) r
theorem XcF.e {W : WX} {ex : Ex} {ρ' : Env} (h : XcF K w W lk σ H U ρ ex ρ') (er : ER K w.fa H U σ ρ) : XcE K w W σ H U ρ ex ρ' :=
  fun c d H' U' q r => h c d σ H' U' (q.pss er) r
theorem OkF.on {D : Ends} {f : Flow} {ρ' : Env} (h : OkF K w lk σ H U ρ D f ρ') (er : ER K w.fa H U σ ρ) (p : Pss K w lk σ H U ρ σ1 H1 U1 ρ1) : OkF K w lk σ1 H1 U1 ρ1 D f ρ' := by
  intro σ' H' U' q
  have h' := h σ' H' U' (p.trans er q)
  cases f with
  | nx => exact h'
  | brk => exact h'
  | cnt => exact h'
  | ret v =>
    refine fun x r k => h' x r fun o a z => ?_
    obtain ⟨k1, k2⟩ := k o a z
    refine ⟨k1, ?_⟩
    rcases k2 with k2 | k2
    · exact p.hdd a k2
    · exact .inr (p.go.dom a k2)
end
section
variable {X : Cx} {w : Wd} {cl : Fun} {W : WX} {lk : List Nat}
def SS (X : Cx) (w : Wd) (cl : Fun) (W : WX) (lk : List Nat) (st : Stmt) (s : S) : Prop :=
  ∃ ts : TS, PS X st ts ∧ ∀ D σ H U ρ, ER X.K w.fa H U σ ρ → Aft (evS cl lk s ρ) (OkF X.K w lk σ H U ρ D) (XcF X.K w W lk σ H U ρ) → ts D σ H
def SSs (X : Cx) (w : Wd) (cl : Fun) (W : WX) (lk : List Nat) (st : List Stmt) (s : List S) : Prop :=
  ∃ ts : TS, PSs X st ts ∧ ∀ D σ H U ρ, ER X.K w.fa H U σ ρ → Aft (evSs cl lk s ρ) (OkF X.K w lk σ H U ρ D) (XcF X.K w W lk σ H U ρ) → ts D σ H
theorem sss_nil : SSs X w cl W lk [] [] := ⟨_, pss_nil, fun D σ H U ρ er h => h σ H U (Pss.refl er)⟩
theorem sss_cons {st : Stmt} {sts : List Stmt} {s : S} {ss : List S} (h1 : SS X w cl W lk st s) (h2 : SSs X w cl W lk sts ss) : SSs X w cl W lk (st :: sts) (s :: ss) := by
  obtain ⟨t1, p1, k1⟩ := h1
  obtain ⟨t2, p2, k2⟩ := h2
  refine ⟨_, pss_cons p1 p2, fun D σ H U ρ er h => k1 _ σ H U ρ er ?_⟩
  unfold evSs at h
  refine h.bind.mono (fun f ρ1 h => ?_) fun _ _ h => h
  cases f with
  | nx => exact fun σ1 H1 U1 p => k2 D σ1 H1 U1 ρ1 p.er (Aft.mono h (fun f ρ2 h => h.on er p) fun _ _ h => h.on er p)
  | brk => exact fun σ1 H1 U1 p => h σ1 H1 U1 p
  | cnt => exact fun σ1 H1 U1 p => h σ1 H1 U1 p
  | ret v => exact fun σ1 H1 U1 p => h σ1 H1 U1 p
theorem ss_pass {pos : Pos} : SS X w cl W lk (.Pass pos) .pass := ⟨_, ps_pass, fun D σ H U ρ er h => h σ H U (Pss.refl er)⟩
theorem ss_brk {pos : Pos} : SS X w cl W lk (.Break pos) .brk := ⟨_, ps_break, fun D σ H U ρ er h => h σ H U (Pss.refl er)⟩
theorem ss_cnt {pos : Pos} : SS X w cl W lk (.Continue pos) .cnt := ⟨_, ps_continue, fun D σ H U ρ er h => h σ H U (Pss.refl er)⟩
theorem ss_if {c : Expr} {a b : List Stmt} {tc : T} {sa sb : List S} {pos : Pos} (hc : ST X w cl W c tc) (ha : SSs X w cl W lk a sa) (hb : SSs X w cl W lk b sb) : SS X w cl W lk (.If c a b pos) (.iff tc sa sb) := by
  obtain ⟨ec, pc, kc⟩ := hc
  obtain ⟨ea, pa, ka⟩ := ha
  obtain ⟨eb, pb, kb⟩ := hb
  refine ⟨_, ps_if pc pa pb, fun D σ H U ρ er h => kc σ H U ρ _ er ?_⟩
  unfold evS at h
  refine h.bind.mono (fun v ρ1 h H1 U1 p1 => ?_) fun _ _ h => h.e er
  have p := p1.pss (lk := lk) er
  cases v with
  | true =>
    rw [if_pos rfl]
    exact ka D σ H1 U1 ρ1 p1.er (Aft.mono h (fun f ρ2 h => h.on er p) fun _ _ h => h.on er p)
  | false =>
    rw [if_neg (by decide)]
    exact kb D σ H1 U1 ρ1 p1.er (Aft.mono h (fun f ρ2 h => h.on er p) fun _ _ h => h.on er p)
theorem ss_expr {e : Expr} {t : T} {pos : Pos} (he : SE X w cl W e t) (hs : swapsWith e none pos.line X.env = pure false := by rfl) : SS X w cl W lk (.Expr e pos) (.expr t) := by
  obtain ⟨te, p, k⟩ := he
  refine ⟨_, ps_expr p hs, fun D σ H U ρ er h => k σ H U ρ _ er ?_⟩
  unfold evS at h
  exact h.bind.mono (fun v ρ1 h x H1 U1 p1 r f => h σ H1 U1 (p1.pss er)) fun _ _ h => h.e er
theorem putS_some {lk : List Nat} {ρ ρ' : Env} {i : Nat} {v : Vl} (h : putS lk ρ i v = some ρ') : i ∉ lk ∧ i < ρ.length ∧ ρ' = ρ.set i (some v) := by
  unfold putS at h
  split at h
  · cases h
  · rename_i n
    unfold Env.put at h
    split at h <;> cases h
    rename_i c
    exact ⟨by simpa using n, of_decide_eq_true c, rfl⟩
theorem pss_set {K : PySem.W.Frag} {σ : L2.St} {H H1 : Hp} {U U1 : Addr → Prop} {ρ ρ1 : Env} {x : V} {v : Vl} {i : Nat} (er : ER K w.fa H U σ ρ) (p : Pst K w.fa σ H U ρ H1 U1 ρ1) (r : RV K w.fa H1 U1 x v) (f : Frh ρ1 σ H x v) (hn : i ∉ lk) (hi : i < ρ1.length) :
    Pss K w lk σ H U ρ (σ.set i (some x)) H1 U1 (ρ1.set i (some v)) := by
  have hs : i < σ.length := by rw [p.er.len]; exact hi
  refine ⟨er_set p.er r (fun o a z => (f o a z).1) hi, p.go, fun a h => ?_, fun j u a h o z => ?_, fun j hj => ⟨?_, fun u h l => ?_⟩, by rw [List.length_set, ← p.er.len, er.len]⟩
  · rcases set_ow hs h with h | ⟨m, z⟩
    · exact .inl (p.own a h)
    · exact .inr (f (mut_own m) a z).2
  · rcases get_set_some h with ⟨rfl, q⟩ | ⟨n, q⟩
    · cases q
      rw [List.getElem?_set_self hs] at z
      cases z
      exact .inr (f o a rfl).2
    · rw [List.getElem?_set_ne (Ne.symm n)] at z
      obtain ⟨u', e1, e2⟩ := p.held j u q o
      exact .inl ⟨u', e1, e2, z⟩
  · exact List.getElem?_set_ne fun q => hn (by rw [q]; exact hj)
  · obtain ⟨v', h', l'⟩ := p.set j u h
    exact ⟨v', by rw [List.getElem?_set_ne fun q => hn (by rw [q]; exact hj)]; exact h', l' l⟩
theorem asg_go {K : PySem.W.Frag} {t : T} {te : TE} {i : Nat} {D : Ends} {σ : L2.St} {H : Hp} {U : Addr → Prop} {ρ : Env} (er : ER K w.fa H U σ ρ) (k : ∀ Q, Aft (evE cl t ρ) (OkE K w σ H U ρ Q) (XcE K w W σ H U ρ) → te σ H Q)
    (h : Aft (evS cl lk (.asg i t) ρ) (OkF K w lk σ H U ρ D) (XcF K w W lk σ H U ρ)) : te σ H fun x H1 => gName i x σ H1 D.nx := by
  refine k _ ?_
  unfold evS at h
  refine h.bind.mono (fun v ρ1 h x H1 U1 p1 r f => ?_) fun _ _ h => h.e er
  obtain ⟨ρ2, e2, h⟩ := h.get
  obtain ⟨n, hi, rfl⟩ := putS_some e2
  exact h _ H1 U1 (pss_set er p1 r f n hi)
theorem ss_asg {i : Nat} {x : Str} {e : Expr} {t : T} {pos pos' : Pos} (G : GC X W) (hi : X.N[i]? = some x) (hx : Loc X.env.scope x) (he : SE X w cl W e t) (hs : swapsWith e (some (.Name x pos')) pos.line X.env = pure false := by rfl)
    (hf : X.fn x = true ∨ X.env.scope.names.lookup x = some .local := by first | exact .inl rfl | exact .inr rfl) : SS X w cl W lk (.Assign [.Name x pos'] e pos) (.asg i t) := by
  obtain ⟨te, p, k⟩ := he
  exact ⟨_, ps_set G.nd hi hx p hs hf, fun D σ H U ρ er h => asg_go er (fun Q => k σ H U ρ Q er) h⟩
theorem ss_asgC {i : Nat} {y : Str} {py : Pos} {elt tg iter : Expr} {ifs : List Expr} {scope : Scope} {own : List (Str × Nat)} {pos spos : Pos} {tgT : Tg} {k : Wkd} {tit te : T} {tc : Option T} (G : GC X W) (hy : X.N[i]? = some y) (hyl : X.env.scope.names.lookup y = some .local)
    (hsw : swapsWith (.ListComp elt [⟨tg, iter, ifs, 0⟩] scope pos) (some (.Name y py)) spos.line X.env = pure true) (hi : SI X w cl W tg iter tit k) (ok : BlkOk X.N X.env.scope scope own)
    (hg : ∀ (s : Shared) (H : Hp) (C : Addr) (c : List (Str × Addr)) (fp : List Addr), PG (X.blk s H scope (compEnvC scope c C X.env) fp) tg (gOf X.K tgT)) (hin : (tgIx tgT).all (own.map (·.2)).contains = true)
    (ht : ∀ (s : Shared) (H : Hp) (C : Addr) (c : List (Str × Addr)) (fp : List Addr), SC (X.blk s H scope (compEnvC scope c C X.env) fp) w cl ifs tc)
    (he : ∀ (s : Shared) (H : Hp) (C : Addr) (c : List (Str × Addr)) (fp : List Addr), SE (X.blk s H scope (compEnvC scope c C X.env) fp) w cl W0 elt te) (hs : ∀ x, foldedSetIterable iter X.env x = pure x := by intro _; rfl) :
    SS X w cl W lk (.Assign [.Name y py] (.ListComp elt [⟨tg, iter, ifs, 0⟩] scope pos) spos) (.asg i (.comp te (own.map (·.2)) tgT k tit tc)) := by
  obtain ⟨wi, p, kk⟩ := comp_at (te := te) (tc := tc) hi hin
  exact ⟨_, ps_setLc (tt := tC X.K w cl tc) G.calm G.nd hy hyl hsw p ok hg (fun s H C c fp => ht s H C c fp) (fun s H C c fp => (he s H C c fp).can) hs, fun D σ H U ρ er h => asg_go er (fun Q => kk σ H U ρ Q er) h⟩
/-! ### a, b = c, d -/
def NotIn (a : Addr) (xs : List V) (vs : List Vl) : Prop := ∀ (j : Nat) (v : Vl), vs[j]? = some v → v.own = true → xs[j]? ≠ some (.ref a)
inductive RVs (K : PySem.W.Frag) (fa : Fa) (H' : Hp) (U' : Addr → Prop) (σ : L2.St) (ρ' : Env) (H : Hp) : List V → List Vl → Prop
  | nil : RVs K fa H' U' σ ρ' H [] []
  | cons {x : V} {xs : List V} {v : Vl} {vs : List Vl} : RV K fa H' U' x v → Frh ρ' σ H x v → (v.own = true → ∀ a, x = .ref a → NotIn a xs vs) → RVs K fa H' U' σ ρ' H xs vs → RVs K fa H' U' σ ρ' H (x :: xs) (v :: vs)
theorem RVs.mono {K : PySem.W.Frag} {fa : Fa} {H' H H0 : Hp} {U' : Addr → Prop} {σ : L2.St} {ρ' : Env} {xs : List V} {vs : List Vl} (h : RVs K fa H' U' σ ρ' H xs vs) (k : ∀ a, Nw H a → Nw H0 a) : RVs K fa H' U' σ ρ' H0 xs vs := by
  induction h with
  | nil => exact .nil
  | cons r f n _ ih => exact .cons r (fun o a z => ⟨(f o a z).1, k a (f o a z).2⟩) n ih
theorem RVs.new {K : PySem.W.Frag} {fa : Fa} {H' H : Hp} {U' : Addr → Prop} {σ : L2.St} {ρ' : Env} {xs : List V} {vs : List Vl} (h : RVs K fa H' U' σ ρ' H xs vs) {a : Addr} (ha : ¬ Nw H a) : NotIn a xs vs := by
  induction h with
  | nil => intro j v e; simp at e
  | cons r f n _ ih =>
    intro j v e o q
    cases j with
    | zero =>
      simp at e q
      subst e q
      exact ha (f o a rfl).2
    | succ j => exact ih j v (by simpa using e) o (by simpa using q)
def SV (X : Cx) (w : Wd) (cl : Fun) (W : WX) (es : List Expr) (ts : List T) : Prop :=
  ∃ ta : TA, PA X es ta ∧ ∀ σ H U ρ Q, ER X.K w.fa H U σ ρ →
    Aft (evVs cl ts ρ) (fun vs ρ' => ∀ xs H' U', Pst X.K w.fa σ H U ρ H' U' ρ' → RVs X.K w.fa H' U' σ ρ' H xs vs → Q xs H') (XcE X.K w W σ H U ρ) → ta σ H Q
theorem sv_nil : SV X w cl W [] [] := ⟨_, pa_nil, fun σ H U ρ Q er h => h [] H U (Pst.refl er) .nil⟩
theorem none_of {K : PySem.W.Frag} {fa : Fa} {H H1 : Hp} {U U1 : Addr → Prop} {σ : L2.St} {ρ ρ1 : Env} (p : Pst K fa σ H U ρ H1 U1 ρ1) {a : Addr} (h : Nw H1 a) : Nw H a := p.go.dom a h
theorem sv_cons {e : Expr} {es : List Expr} {t : T} {ts : List T} (he : SE X w cl W e t) (hs : SV X w cl W es ts) (hst : starEach (e :: es) X.env = (false, eval e X.env) :: starEach es X.env := by rfl) : SV X w cl W (e :: es) (t :: ts) := by
  obtain ⟨ea, pa, ka⟩ := he
  obtain ⟨eb, pb, kb⟩ := hs
  refine ⟨_, pa_cons pa pb hst, fun σ H U ρ Q er h => ka σ H U ρ _ er ?_⟩
  unfold evVs at h
  refine h.bind.mono (fun v ρ1 h x H1 U1 p1 r f => ?_) fun _ _ h => h
  refine kb σ H1 U1 ρ1 _ p1.er (h.bind.mono (fun vs ρ2 h xs H3 U3 p3 r3 => ?_) fun _ _ h => h.on er p1)
  refine h (x :: xs) H3 U3 (p1.trans er p3) (.cons (r.on p3 p1.er fun o a z => (f o a z).1) (f.on p3) (fun o a z => r3.new ?_) (r3.mono fun a z => none_of p1 z))
  obtain ⟨b, e1, u⟩ := r.ownU o
  rw [z] at e1
  cases e1
  exact p1.er.dom.nw u
structure PutR (K : PySem.W.Frag) (w : Wd) (lk : List Nat) (H1 : Hp) (U1 : Addr → Prop) (H : Hp) (σ : L2.St) (ρ : Env) (σ' : L2.St) (ρ' : Env) : Prop where
  er : ER K w.fa H1 U1 σ' ρ'
  own : ∀ a, Ow ρ' σ' a → Ow ρ σ a ∨ Nw H a
  held : ∀ (i : Nat) (v : Vl) (a : Addr), ρ'[i]? = some (some v) → v.own = true → σ'[i]? = some (some (V.ref a)) → (∃ u, ρ[i]? = some (some u) ∧ u.own = true ∧ σ[i]? = some (some (V.ref a))) ∨ Nw H a
  lk : ∀ j ∈ lk, σ'[j]? = σ[j]? ∧ ρ'[j]? = ρ[j]?
  len : ρ'.length = ρ.length
theorem RVs.set {K : PySem.W.Frag} {fa : Fa} {H H1 : Hp} {U1 : Addr → Prop} {σ : L2.St} {ρ : Env} {xs : List V} {vs : List Vl} {i : Nat} {x : V} {v : Vl} (hs : i < σ.length) (n : v.own = true → ∀ a, x = .ref a → NotIn a xs vs) (h : RVs K fa H1 U1 σ ρ H xs vs) : RVs K fa H1 U1 (σ.set i (some x)) (ρ.set i (some v)) H xs vs := by
  induction h with
  | nil => exact .nil
  | @cons y ys u us r f m _ ih =>
    refine .cons r (fun o a z => ⟨fun q => ?_, (f o a z).2⟩) m (ih fun o a z j v' e o' => n o a z (j + 1) v' (by simpa using e) o')
    rcases set_hd hs q with q | ⟨o2, q⟩
    · exact (f o a z).1 q
    · exact n o2 a q 0 u rfl o (by rw [z]; rfl)
theorem putsS_ok {K : PySem.W.Frag} {H H1 : Hp} {U1 : Addr → Prop} : ∀ {is : List Nat} {xs : List V} {vs : List Vl} {σ : L2.St} {ρ ρ' : Env} {Q : L2.St → Hp → Prop}, ER K w.fa H1 U1 σ ρ → RVs K w.fa H1 U1 σ ρ H xs vs → putsS lk ρ is vs = some ρ' →
    (∀ σ', PutR K w lk H1 U1 H σ ρ σ' ρ' → Q σ' H1) → gNames is xs σ H1 Q
  | [], xs, vs, σ, ρ, ρ', Q, er, r, e, h => by
    cases r with
    | nil =>
      unfold putsS at e
      cases e
      exact ⟨rfl, h σ ⟨er, fun _ z => .inl z, fun _ v _ h o z => .inl ⟨v, h, o, z⟩, fun _ _ => ⟨rfl, rfl⟩, rfl⟩⟩
    | cons _ _ _ _ => unfold putsS at e; cases e
  | i :: is, xs, vs, σ, ρ, ρ', Q, er, r, e, h => by
    cases r with
    | nil => unfold putsS at e; cases e
    | @cons x xs v vs r1 f n r2 =>
      unfold putsS at e
      obtain ⟨ρ2, e1, e2⟩ := Option.bind_eq_some_iff.mp e
      obtain ⟨hn, hi, rfl⟩ := putS_some e1
      have hs : i < σ.length := by rw [er.len]; exact hi
      have er2 := er_set er r1 (fun o a z => (f o a z).1) hi
      refine ⟨_, _, rfl, putsS_ok er2 (r2.set hs n) e2 fun σ' p => h σ' ⟨p.er, fun a z => ?_, fun j u a h o z => ?_, fun j hj => ?_, by rw [p.len, List.length_set]⟩⟩
      · rcases p.own a z with z | z
        · rcases set_ow hs z with z | ⟨m, q⟩
          · exact .inl z
          · exact .inr (f (mut_own m) a q).2
        · exact .inr z
      · rcases p.held j u a h o z with ⟨u', h1, h2, h3⟩ | z
        · rcases get_set_some h1 with ⟨rfl, q⟩ | ⟨n, q⟩
          · cases q
            rw [List.getElem?_set_self hs] at h3
            cases h3
            exact .inr (f h2 a rfl).2
          · rw [List.getElem?_set_ne (Ne.symm n)] at h3
            exact .inl ⟨u', q, h2, h3⟩
        · exact .inr z
      · obtain ⟨p1, p2⟩ := p.lk j hj
        have ne : i ≠ j := fun q => hn (by rw [q]; exact hj)
        exact ⟨p1.trans (List.getElem?_set_ne ne), p2.trans (List.getElem?_set_ne ne)⟩
theorem RVs.grow {K : PySem.W.Frag} {fa : Fa} {H H1 H2 : Hp} {U1 : Addr → Prop} {σ : L2.St} {ρ : Env} {xs : List V} {vs : List Vl} (g : Grow H1 H2) (h : RVs K fa H1 U1 σ ρ H xs vs) : RVs K fa H2 U1 σ ρ H xs vs := by
  induction h with
  | nil => exact .nil
  | cons r f n _ ih => exact .cons (r.sta ⟨fun a o z _ _ => g a o z, fun a z => .inl z⟩ fun _ a _ u => ⟨fun o z _ => g a o z, u⟩) f n ih
theorem PutR.pss {K : PySem.W.Frag} {H H1 H2 : Hp} {U U1 : Addr → Prop} {σ σ' : L2.St} {ρ ρ1 ρ' : Env} (er : ER K w.fa H U σ ρ) (p : Pst K w.fa σ H U ρ H1 U1 ρ1) (g : Grow H1 H2) (q : PutR K w lk H2 U1 H σ ρ1 σ' ρ') : Pss K w lk σ H U ρ σ' H2 U1 ρ' := by
  refine ⟨q.er, p.go.trans (Go.grow (own := fun _ => False) g) (fun _ h => h.elim) er.dom, fun a h => (q.own a h).imp (p.own a) id, fun i v a h o z => (q.held i v a h o z).imp (fun ⟨u, e1, e2, e3⟩ => let ⟨u', e4, e5⟩ := p.held i u e1 e2; ⟨u', e4, e5, e3⟩) id, fun j hj => ⟨(q.lk j hj).1, fun v h l => ?_⟩, ?_⟩
  · obtain ⟨v', h', l'⟩ := p.set j v h
    exact ⟨v', (q.lk j hj).2.trans h', l' l⟩
  · rw [q.len, ← p.er.len, er.len]
theorem len_evV : ∀ (ts : List T) (ρ : Env) (ds : List Vl) (ρ' : Env), evVs cl ts ρ = .ok (ds, ρ') → ds.length = ts.length
  | [], ρ, ds, ρ', h => by
    unfold evVs at h
    cases h; rfl
  | t :: ts, ρ, ds, ρ', h => by
    unfold evVs at h
    cases e : evE cl t ρ with
    | stuck => rw [e] at h; cases h
    | exc x r => rw [e] at h; cases h
    | ok p =>
      rw [e] at h
      simp only [Res.bind_ok] at h
      cases e3 : evVs cl ts p.2 with
      | stuck => rw [e3] at h; cases h
      | exc x r => rw [e3] at h; cases h
      | ok q =>
        rw [e3] at h
        cases h
        simp [len_evV ts _ _ _ e3]
theorem RVs.len {K : PySem.W.Frag} {fa : Fa} {H H1 : Hp} {U1 : Addr → Prop} {σ : L2.St} {ρ : Env} {xs : List V} {vs : List Vl} (h : RVs K fa H1 U1 σ ρ H xs vs) : xs.length = vs.length := by
  induction h with
  | nil => rfl
  | cons _ _ _ _ ih => simp [ih]
/-- a tuple is written and taken apart -/
theorem ss_asgs {es : List Expr} {tg : Expr} {ts : List T} {is : List Nat} {pos : Pos} {k2 : Nat} {pt2 : Pos} (h : SV X w cl W es ts)
    (hp : ∀ t, PA X es t → ∃ ps : TS, PS X (.Assign [tg] (.Tuple es k2 pt2) pos) ps ∧ ∀ D σ H, (t σ H fun xs H1 => ∀ H2, (H2 = H1 ∨ ∃ p, H1 p = none ∧ H2 = upd H1 p (.tup xs)) → xs.length = is.length ∧ gNames is xs σ H2 D.nx) → ps D σ H)
    (hl : ts.length = is.length) : SS X w cl W lk (.Assign [tg] (.Tuple es k2 pt2) pos) (.asgs is ts) := by
  obtain ⟨te, p, k⟩ := h
  obtain ⟨ps, hps, hr⟩ := hp te p
  refine ⟨ps, hps, fun D σ H U ρ er h => hr D σ H (k σ H U ρ _ er ?_)⟩
  unfold evS at h
  refine (h.bind.and (P := fun vs => vs.length = ts.length) fun vs ρ' e => len_evV ts ρ vs ρ' e).mono (fun vs ρ1 ⟨hn, h⟩ xs H1 U1 p1 r H2 hH => ?_) fun _ _ h => h.e er
  obtain ⟨ρ2, e2, h⟩ := h.get
  have g : Grow H1 H2 := by
    rcases hH with rfl | ⟨q, hq, rfl⟩
    · exact fun _ _ z => z
    · exact fun a o z => by rw [upd_ne (ne_of_none z hq)]; exact z
  refine ⟨?_, putsS_ok (lk := lk) (er_grow p1.er g) (r.grow g) e2 fun σ' q => h σ' H2 U1 (PutR.pss er p1 g q)⟩
  have hx := r.len
  omega
def upA (t : TA) : TA := fun σ H Q => ∃ Q' : List V → Hp → Prop, t σ H Q' ∧ ∀ xs H1, Q' xs H1 → Q xs H1
theorem paUp {es : List Expr} {t : TA} (h : PA X es t) : PA X es (upA t) := ⟨fun pos pins s σ H Q I ⟨Q', h1, h2⟩ => thn (h.run pos pins s σ H Q' I h1) fun _ _ ⟨vs, H1, I1, r, q⟩ => ⟨vs, H1, I1, r, h2 vs H1 q⟩⟩
/-- two, three names of the def, stored without a tuple; any names, by one -/
theorem par2 {i j : Nat} {x y : Str} {a b : Expr} {px py pt pos : Pos} {kt k2 : Nat} {pt2 : Pos} (G : GC X W) (hi : X.N[i]? = some x) (hj : X.N[j]? = some y) (hij : i ≠ j) (hx : X.env.scope.names.lookup x = some .local) (hy : X.env.scope.names.lookup y = some .local)
    (hw : swappedStores [.Tuple [.Name x px, .Name y py] kt pt] (.Tuple [a, b] k2 pt2) X.env = pure (some [x, y])) (hs : swapsWithSole [.Tuple [.Name x px, .Name y py] kt pt] (.Tuple [a, b] k2 pt2) pos.line X.env = pure false := by rfl) (t : TA) (ht : PA X [a, b] t) :
    ∃ ps : TS, PS X (.Assign [.Tuple [.Name x px, .Name y py] kt pt] (.Tuple [a, b] k2 pt2) pos) ps ∧ ∀ D σ H, (t σ H fun xs H1 => ∀ H2, (H2 = H1 ∨ ∃ p, H1 p = none ∧ H2 = upd H1 p (.tup xs)) → xs.length = [i, j].length ∧ gNames [i, j] xs σ H2 D.nx) → ps D σ H := by
  refine ⟨_, ps_par G.calm G.nd hi hj hij hx hy (paUp ht) hw hs, fun D σ H h => ⟨_, h, fun xs H1 q => ?_⟩⟩
  obtain ⟨_, v, r, rfl, w, r', rfl, rfl, q'⟩ := q H1 (.inl rfl)
  exact ⟨v, w, rfl, q'⟩
theorem par3 {i j l : Nat} {x y z : Str} {a b c : Expr} {px py pz pt pos : Pos} {kt k2 : Nat} {pt2 : Pos} (G : GC X W) (hi : X.N[i]? = some x) (hj : X.N[j]? = some y) (hk : X.N[l]? = some z) (hij : i ≠ j) (hil : i ≠ l) (hjl : j ≠ l) (hx : X.env.scope.names.lookup x = some .local) (hy : X.env.scope.names.lookup y = some .local) (hz : X.env.scope.names.lookup z = some .local)
    (hw : swappedStores [.Tuple [.Name x px, .Name y py, .Name z pz] kt pt] (.Tuple [a, b, c] k2 pt2) X.env = pure (some [x, y, z])) (hs : swapsWithSole [.Tuple [.Name x px, .Name y py, .Name z pz] kt pt] (.Tuple [a, b, c] k2 pt2) pos.line X.env = pure false := by rfl) (t : TA) (ht : PA X [a, b, c] t) :
    ∃ ps : TS, PS X (.Assign [.Tuple [.Name x px, .Name y py, .Name z pz] kt pt] (.Tuple [a, b, c] k2 pt2) pos) ps ∧ ∀ D σ H, (t σ H fun xs H1 => ∀ H2, (H2 = H1 ∨ ∃ p, H1 p = none ∧ H2 = upd H1 p (.tup xs)) → xs.length = [i, j, l].length ∧ gNames [i, j, l] xs σ H2 D.nx) → ps D σ H := by
  refine ⟨_, ps_par3 G.calm G.nd hi hj hk hij hil hjl hx hy hz (paUp ht) hw hs, fun D σ H h => ⟨_, h, fun xs H1 q => ?_⟩⟩
  obtain ⟨_, v, r, rfl, w, r', rfl, u, r2, rfl, rfl, q'⟩ := q H1 (.inl rfl)
  exact ⟨v, w, u, rfl, q'⟩
theorem parT {tg : Expr} {es : List Expr} {is : List Nat} {k2 : Nat} {pt2 pos : Pos} (hg : PG X tg (gOf X.K (.tp is))) (hz : decide (is.length ≤ 16777216) = true)
    (hs : swapsWithSole [tg] (.Tuple es k2 pt2) pos.line X.env = pure false := by rfl) (hw : swappedStores [tg] (.Tuple es k2 pt2) X.env = pure none := by rfl) (h1 : (assignEach [tg] X.env).map (·.2) = [assign tg X.env] := by rfl) (t : TA) (ht : PA X es t) :
    ∃ ps : TS, PS X (.Assign [tg] (.Tuple es k2 pt2) pos) ps ∧ ∀ D σ H, (t σ H fun xs H1 => ∀ H2, (H2 = H1 ∨ ∃ p, H1 p = none ∧ H2 = upd H1 p (.tup xs)) → xs.length = is.length ∧ gNames is xs σ H2 D.nx) → ps D σ H := by
  refine ⟨_, ps_asg (pe_tup (paUp ht)) hg hs hw h1, fun D σ H h => ⟨_, h, fun xs H1 q => ?_⟩⟩
  refine ⟨by rw [(q H1 (.inl rfl)).1]; exact size_le hz, fun p hp => ?_⟩
  obtain ⟨q1, q2⟩ := q _ (.inr ⟨p, hp, rfl⟩)
  exact ⟨p, xs, rfl, SqT.of upd_same, q1, q2⟩
theorem pgs_names_nil : PGs X [] (gNames []) := pgs_nil
theorem pgs_names_cons {e : Expr} {es : List Expr} {i : Nat} {is : List Nat} (h1 : PG X e (gName i)) (h2 : PGs X es (gNames is)) (hs : (assignEach (e :: es) X.env).map (·.2) = assign e X.env :: (assignEach es X.env).map (·.2) := by rfl) : PGs X (e :: es) (gNames (i :: is)) := pgs_cons h1 h2 hs
theorem pg_tp {es : List Expr} {k : Nat} {is : List Nat} {pos : Pos} (hc : X.calm = true) (h : PGs X es (gNames is)) (hn : (assignEach es X.env).length = is.length := by rfl) (hst : (assignEach es X.env).findIdx? (·.1) = none := by rfl) : PG X (.Tuple es k pos) (gOf X.K (.tp is)) :=
  pg_tup hc h hn hst
/-! ### a, b = e -/
theorem ss_unp {tg e : Expr} {t : T} {is : List Nat} {pos : Pos} (he : SE X w cl W e t) (hg : PG X tg (gOf X.K (.tp is))) (hs : swapsWithSole [tg] e pos.line X.env = pure false := by rfl) (hw : swappedStores [tg] e X.env = pure none := by rfl) (h1 : (assignEach [tg] X.env).map (·.2) = [assign tg X.env] := by rfl) : SS X w cl W lk (.Assign [tg] e pos) (.unp is t) := by
  obtain ⟨te, p, k⟩ := he
  refine ⟨_, ps_asg p hg hs hw h1, fun D σ H U ρ er h => k σ H U ρ _ er ?_⟩
  unfold evS at h
  refine h.bind.mono (fun v ρ1 h x H1 U1 p1 r f => ?_) fun _ _ h => h.e er
  obtain ⟨d, e1, h⟩ := h.get
  obtain ⟨ρ2, e2, h⟩ := h.get
  split at e1
  · rename_i ok
    obtain ⟨U2, p2, r2⟩ := give er p1 r f e1
    refine gOf_ok p2.er r2 e2 fun σ1 sr => h σ1 H1 U2 ?_
    refine ⟨sr.er, p2.go, fun a z => .inl (p2.own a (sr.ow a z)), fun j v a h o z => ?_, fun j hj => ?_, ?_⟩
    · obtain ⟨e3, e4⟩ := sr.hd j v h o
      obtain ⟨u, e5, e6⟩ := p2.held j v e3 o
      exact .inl ⟨u, e5, e6, e4.symm.trans z⟩
    · have hn : j ∉ is := fun q => by
        have := List.all_eq_true.mp ok j q
        simp only [Bool.not_eq_true', List.contains_eq_mem, decide_eq_false_iff_not] at this
        exact this hj
      refine ⟨sr.off j hn, fun v z l => ?_⟩
      obtain ⟨v', h', l'⟩ := p2.set j v z
      exact ⟨v', (sr.offE j hn).trans h', l' l⟩
    · rw [store_len e2, ← p2.er.len, er.len]
  · cases e1
end
end Pv
set_option Elab.async false
set_option linter.all false
set_option maxRecDepth 100000
set_option maxHeartbeats 2100000
namespace Pv
open PySem L2 PyProof.Rows
section
variable {X : Cx} {w : Wd} {cl : Fun} {W : WX} {lk : List Nat}
/-! ### return -/
theorem ret_eq {t : T} (h : t.isVar = none) (ρ : Env) : evS cl lk (.ret t) ρ = (evE cl t ρ).bind fun p => .ok (.ret p.1, p.2) := by
  cases t <;> first | (unfold evS; rfl) | cases h
theorem ss_ret {e : Expr} {t : T} {pos : Pos} (hv : t.isVar = none) (he : SE X w cl W e t) : SS X w cl W lk (.Return (some e) pos) (.ret t) := by
  obtain ⟨te, p, k⟩ := he
  refine ⟨_, ps_ret p, fun D σ H U ρ er h => k σ H U ρ _ er ?_⟩
  rw [ret_eq hv] at h
  exact h.bind.mono (fun v ρ1 h x H1 U1 p1 r f => h σ H1 U1 (p1.pss er) x r fun o a z => ⟨(f o a z).1, .inr (f o a z).2⟩) fun _ _ h => h.e er
theorem ss_retN {pos : Pos} : SS X w cl W lk (.Return none pos) (.ret (.cst .none)) := by
  refine ⟨_, ps_retN, fun D σ H U ρ er h => ?_⟩
  rw [ret_eq rfl] at h
  exact h σ H U (Pss.refl er) .non .non fun z => nomatch z
theorem pss_drop {K : PySem.W.Frag} {σ : L2.St} {H : Hp} {U : Addr → Prop} {ρ : Env} {i : Nat} (er : ER K w.fa H U σ ρ) (hn : i ∉ lk) : Pss K w lk σ H U ρ σ H U (ρ.set i none) := by
  have sub : ∀ (j : Nat) (v : Vl), (ρ.set i none)[j]? = some (some v) → ρ[j]? = some (some v) := fun j v h => by
    rcases get_set_some h with ⟨_, q⟩ | ⟨_, q⟩
    · cases q
    · exact q
  refine ⟨⟨by rw [List.length_set]; exact er.len, fun j v h => er.val j v (sub j v h), fun j k v u a n h1 h2 => er.dj j k v u a n (sub j v h1) (sub k u h2), er.dom⟩, Go.refl _ _ _, fun a ⟨j, v, h, o, z⟩ => .inl ⟨j, v, sub j v h, o, z⟩,
    fun j v a h o z => .inl ⟨v, sub j v h, o, z⟩, fun j hj => ⟨rfl, fun v h l => ⟨v, by rw [List.getElem?_set_ne fun q => hn (by rw [q]; exact hj)]; exact h, l⟩⟩, List.length_set ..⟩
theorem no_drop {K : PySem.W.Frag} {fa : Fa} {σ : L2.St} {H : Hp} {U : Addr → Prop} {ρ : Env} {i : Nat} {v : Vl} {a : Addr} (er : ER K fa H U σ ρ) (h : ρ[i]? = some (some v)) (o : v.own = true) (z : σ[i]? = some (some (V.ref a))) : ¬ Hd (ρ.set i none) σ a := by
  rintro ⟨j, u, h1, h2, h3⟩
  rcases get_set_some h1 with ⟨_, q⟩ | ⟨n, q⟩
  · cases q
  · exact er.dj j i u v a n q h h2 o h3 z
/-- a name's value is handed back: what it holds alone goes with it -/
theorem ss_retv {i : Nat} {x : Str} {pos pos' : Pos} (hN : X.N[i]? = some x) (hv : Vis X.env.scope x) (hd : (x == ("__debug__" : Str)) = false := by decide) (hcd : (x == ("__classdict__" : Str)) = false := by decide) :
    SS X w cl W lk (.Return (some (.Name x pos)) pos') (.ret (.var i)) := by
  refine ⟨_, ps_ret (pe_var hN hv hd hcd), fun D σ H U ρ er h => ?_⟩
  unfold evS at h
  simp only at h
  split at h
  · rename_i ds e
    obtain ⟨x, e1, r⟩ := er.val i _ e
    split at h
    · exact h.elim
    · rename_i n
      have n' : i ∉ lk := by simpa using n
      refine ⟨x, e1, h σ H U (pss_drop er n') x r fun o a z => ?_⟩
      subst z
      exact ⟨no_drop er e rfl e1, .inl ⟨i, _, e, rfl, e1⟩⟩
  · rename_i ds e
    obtain ⟨x, e1, r⟩ := er.val i _ e
    split at h
    · exact h.elim
    · rename_i n
      have n' : i ∉ lk := by simpa using n
      refine ⟨x, e1, h σ H U (pss_drop er n') x r fun o a z => ?_⟩
      subst z
      exact ⟨no_drop er e rfl e1, .inl ⟨i, _, e, rfl, e1⟩⟩
  · rename_i d e
    obtain ⟨x, e1, r⟩ := er.val i _ e
    exact ⟨x, e1, h σ H U (Pss.refl er) x r fun z => nomatch z⟩
  · rename_i d e
    obtain ⟨x, e1, r⟩ := er.val i _ e
    exact ⟨x, e1, h σ H U (Pss.refl er) x r fun z => nomatch z⟩
  · rename_i d e
    obtain ⟨x, e1, r⟩ := er.val i _ e
    exact ⟨x, e1, h σ H U (Pss.refl er) x r fun z => nomatch z⟩
  · exact h.elim
/-! ### x += e over ints -/
theorem look_pk {ρ : Env} {i : Nat} {d : D} (h : look ρ (.pk i) = some d) : ∃ v, ρ[i]? = some (some v) ∧ v.view = some d := by
  unfold look at h
  simp only at h
  split at h
  · rename_i v e
    exact ⟨v, e, h⟩
  · cases h
theorem view_int {v : Vl} {a : Int} (h : v.view = some (.int a)) : v = .dat (.int a) := by
  cases v with
  | dat d => unfold Vl.view at h; cases h; rfl
  | _ => unfold Vl.view at h; cases h
theorem ss_aug {i : Nat} {x : Str} {e : Expr} {t : T} {o : Bin} {op : Operator} {pos pos' : Pos} (G : GC X W) (hi : X.N[i]? = some x) (hx : Loc X.env.scope x) (he : SO X w cl W e t) (ho : (o = .add ∧ op = .Add) ∨ (o = .sub ∧ op = .Sub))
    (hf : X.fn x = true ∨ X.env.scope.names.lookup x = some .local := by first | exact .inl rfl | exact .inr rfl) : SS X w cl W lk (.AugAssign (.Name x pos') op e pos) (.aug i o t) := by
  obtain ⟨te, p, k⟩ := he
  have fin : ∀ {D : Ends} {σ : L2.St} {H H1 : Hp} {U U1 : Addr → Prop} {ρ ρ1 : Env} {z : Int}, ER X.K w.fa H U σ ρ → Pst X.K w.fa σ H U ρ H1 U1 ρ1 →
      Aft ((get (putS lk ρ1 i (.dat (.int z)))).bind fun ρ' => Res.ok (Flow.nx, ρ')) (OkF X.K w lk σ H U ρ D) (XcF X.K w W lk σ H U ρ) → D.nx (σ.set i (some (.int z))) H1 := by
    intro D σ H H1 U U1 ρ ρ1 z er p1 h
    obtain ⟨ρ2, e2, h⟩ := h.get
    obtain ⟨n, hi, rfl⟩ := putS_some e2
    exact h _ H1 U1 (pss_set er p1 (.int _) (fun o => nomatch o) n hi)
  have val : ∀ {σ : L2.St} {H : Hp} {U : Addr → Prop} {ρ : Env} {x : D}, ER X.K w.fa H U σ ρ → look ρ (.pk i) = some x → ∃ y, σ[i]? = some (some y) ∧ ∀ a, x = .int a → y = .int a := by
    intro σ H U ρ x er h
    obtain ⟨v, e1, e2⟩ := look_pk h
    obtain ⟨y, e3, r⟩ := er.val i _ e1
    refine ⟨y, e3, fun a z => ?_⟩
    subst z
    rw [view_int e2] at r
    cases r
    rfl
  rcases ho with ⟨rfl, rfl⟩ | ⟨rfl, rfl⟩
  · refine ⟨_, ps_aug G.nd hi hx p ip_add hf, fun D σ H U ρ er h => ?_⟩
    unfold evS at h
    obtain ⟨x, e1, h⟩ := h.get
    obtain ⟨y0, e3, hy⟩ := val er e1
    refine ⟨_, e3, k σ H U ρ _ er (h.bind.mono (fun q ρ1 h y H1 U1 p1 r => ?_) fun _ _ h => h.e er)⟩
    obtain ⟨y', e2, h⟩ := h.get
    cases x with
    | int a =>
      cases y' with
      | int b =>
        have := rp_int (r.vw p1.er e2)
        subst this
        exact ⟨a, b, hy a rfl, rfl, fin er p1 h⟩
      | _ => exact h.elim
    | _ => exact h.elim
  · refine ⟨_, ps_aug G.nd hi hx p ip_sub hf, fun D σ H U ρ er h => ?_⟩
    unfold evS at h
    obtain ⟨x, e1, h⟩ := h.get
    obtain ⟨y0, e3, hy⟩ := val er e1
    refine ⟨_, e3, k σ H U ρ _ er (h.bind.mono (fun q ρ1 h y H1 U1 p1 r => ?_) fun _ _ h => h.e er)⟩
    obtain ⟨y', e2, h⟩ := h.get
    cases x with
    | int a =>
      cases y' with
      | int b =>
        have := rp_int (r.vw p1.er e2)
        subst this
        exact ⟨a, b, hy a rfl, rfl, fin er p1 h⟩
      | _ => exact h.elim
    | _ => exact h.elim
/-! ### what is held alone is changed -/
theorem pss_mut {K : PySem.W.Frag} {σ : L2.St} {H H1 : Hp} {U U1 : Addr → Prop} {ρ ρ1 : Env} {i : Nat} {v v' : Vl} {a : Addr} {o : HO} (er : ER K w.fa H U σ ρ) (p : Pst K w.fa σ H U ρ H1 U1 ρ1) (e : ρ1[i]? = some (some v)) (m : v.mut = true) (m' : v'.mut = true)
    (es : σ[i]? = some (some (V.ref a))) (r : RV K w.fa (upd H1 a o) U1 (.ref a) v') : Pss K w lk σ H U ρ σ (upd H1 a o) U1 (ρ1.set i (some v')) := by
  have oa : Ow ρ1 σ a := ⟨i, v, e, m, es⟩
  have ua : U1 a := p.er.ow oa
  have hi : i < ρ1.length := (List.getElem?_eq_some_iff.mp e).1
  have s : Sta H1 U1 (upd H1 a o) U1 := ⟨fun b ob h z _ => by rw [upd_ne fun q => z (by rw [q]; exact ua)]; exact h, fun b h => .inl h⟩
  have ho : OwnO o := by
    cases v' with
    | lst ds => obtain ⟨a', vs, q, _, h, _⟩ := r; cases q; rw [upd_same] at h; cases h; exact own_lst
    | dct ds => obtain ⟨a', vs, q, _, h, _⟩ := r; cases q; rw [upd_same] at h; cases h; exact own_dK
    | _ => cases m'
  have back : ∀ (j : Nat) (u : Vl), (ρ1.set i (some v'))[j]? = some (some u) → u.own = true → ∃ u', ρ1[j]? = some (some u') ∧ u'.own = true := fun j u h q => by
    rcases get_set_some h with ⟨rfl, z⟩ | ⟨n, z⟩
    · exact ⟨v, e, mut_own m⟩
    · exact ⟨u, z, q⟩
  refine ⟨⟨by rw [List.length_set]; exact p.er.len, fun j u h => ?_, fun j k u u' b n h1 h2 o1 o2 z1 z2 => ?_, p.er.dom.upd (.inr (p.er.dom.own a ua)) (fun _ z _ => z) fun _ => ho⟩, ?_, fun b ⟨j, u, h, q, z⟩ => ?_, fun j u b h q z => ?_, fun j hj => ⟨rfl, fun u h l => ?_⟩, by rw [List.length_set, ← p.er.len, er.len]⟩
  · rcases get_set_some h with ⟨rfl, q⟩ | ⟨n, q⟩
    · cases q
      exact ⟨_, es, r⟩
    · obtain ⟨x, e1, r1⟩ := p.er.val j u q
      refine ⟨x, e1, r1.sta s fun ou b z ub => ⟨fun ob y _ => ?_, ub⟩⟩
      subst z
      rw [upd_ne fun z => ?_]
      · exact y
      · subst z
        exact p.er.dj j i u v _ n q e ou (mut_own m) e1 es
  · obtain ⟨w1, g1, g2⟩ := back j u h1 o1
    obtain ⟨w2, g3, g4⟩ := back k u' h2 o2
    exact p.er.dj j k w1 w2 b n g1 g3 g2 g4 z1 z2
  · refine p.go.trans (own' := Ow ρ1 σ) ⟨fun b ob h n _ => ?_, fun b u _ => u, fun b u => .inl u, fun b h => (nw_upd ho.nt h).2⟩ (fun b h => .inl (p.own b h)) er.dom
    rw [upd_ne fun q => n (by rw [q]; exact oa)]
    exact h
  · rcases get_set_some h with ⟨rfl, y⟩ | ⟨n, y⟩
    · rw [es] at z
      cases z
      exact .inl (p.own a oa)
    · exact .inl (p.own b ⟨j, u, y, q, z⟩)
  · obtain ⟨w1, g1, g2⟩ := back j u h q
    obtain ⟨w2, g3, g4⟩ := p.held j w1 g1 g2
    exact .inl ⟨w2, g3, g4, z⟩
  · obtain ⟨u', h', l'⟩ := p.set j u h
    by_cases q : i = j
    · subst q
      exact ⟨v', List.getElem?_set_self hi, mut_LL m'⟩
    · exact ⟨u', by rw [List.getElem?_set_ne q]; exact h', l' l⟩
/-- l.append(e) -/
theorem ss_app {i : Nat} {x : Str} {e : Expr} {t : T} {apos cpos pos pos' : Pos} (hi : X.N[i]? = some x) (hv : Vis X.env.scope x) (he : SE X w cl W e t)
    (hbase : attributeBase (.Name x pos') "append" X.env (eval (.Name x pos') X.env) = eval (.Name x pos') X.env := by rfl)
    (hfew : ((backTo cpos (starEach [e] X.env)).all (fun x => !x.1) &&
      (backToKw cpos (keywordEach [] X.env)).all (fun x => x.1.isSome) && decide
        (([e] : List Expr).length + ([] : List Keyword).length + (if ([] : List Keyword).isEmpty then 0 else 1) < 30)) = true := by rfl)
    (hline : (apos.endLine == cpos.line) = true := by rfl) (hs : starEach [e] X.env = [(false, eval e X.env)] := by rfl) (hplain : (backTo cpos (starEach [] X.env)).any (·.1) = false := by rfl)
    (hsw : swapsWith (.Call (.Attribute (.Name x pos') "append" apos) [e] [] cpos) none pos.line X.env = pure false := by rfl)
    (hd : (x == ("__debug__" : Str)) = false := by decide)
    (hcd : (x == ("__classdict__" : Str)) = false := by decide) :
    SS X w cl W lk (.Expr (.Call (.Attribute (.Name x pos') "append" apos) [e] [] cpos) pos) (.app i t) := by
  obtain ⟨te, p, k⟩ := he
  refine ⟨_, ps_expr (pe_bm F.plainAttrs_list F.slot_list_append F.type_list_append mt_append (pe_var hi hv hd hcd) (pa_cons p pa_nil hs) hbase hfew hline hs hplain) hsw, fun D σ H U ρ er h => ?_⟩
  unfold evS at h
  split at h
  · rename_i l0 e0
    obtain ⟨y0, e1, r0⟩ := er.val i _ e0
    obtain ⟨a, vs0, rfl, u0, h0, rr0⟩ := r0
    refine ⟨_, e1, .inl ⟨rfl, vs0, SqL.of h0⟩, k σ H U ρ _ er (h.bind.mono (fun v ρ1 h y H1 U1 p1 r f => ?_) fun _ _ h => h.e er)⟩
    obtain ⟨d, e2, h⟩ := h.get
    obtain ⟨U2, p2, r2⟩ := give er p1 r f e2
    split at h
    · rename_i ds e3
      split at h
      · rename_i c
        obtain ⟨y1, e4, r1⟩ := p2.er.val i _ e3
        rw [e1] at e4
        cases e4
        obtain ⟨a', vs, q, u1, h1, rr⟩ := r1
        cases q
        refine ⟨a, vs, y, rfl, rfl, h1, by rw [rr.len, sizeLine_eq]; exact of_decide_eq_true c, h σ _ U2 (pss_mut er p2 e3 rfl rfl e1 ?_)⟩
        have s : Sta H1 U2 (upd H1 a (.lst (vs ++ [y]))) U2 := ⟨fun b ob h z _ => by rw [upd_ne fun q => z (by rw [q]; exact u1)]; exact h, fun b h => .inl h⟩
        exact ⟨a, _, rfl, u1, upd_same, (rr.app (.cons r2 .nil)).sta s⟩
      · exact h.elim
    · exact h.elim
  · exact h.elim
/-- l.extend(e) -/
theorem ss_ext {i : Nat} {x : Str} {e : Expr} {t : T} {apos cpos pos pos' : Pos} (hi : X.N[i]? = some x) (hv : Vis X.env.scope x) (he : SO X w cl W e t)
    (hbase : attributeBase (.Name x pos') "extend" X.env (eval (.Name x pos') X.env) = eval (.Name x pos') X.env := by rfl)
    (hfew : ((backTo cpos (starEach [e] X.env)).all (fun x => !x.1) &&
      (backToKw cpos (keywordEach [] X.env)).all (fun x => x.1.isSome) && decide
        (([e] : List Expr).length + ([] : List Keyword).length + (if ([] : List Keyword).isEmpty then 0 else 1) < 30)) = true := by rfl)
    (hline : (apos.endLine == cpos.line) = true := by rfl) (hs : starEach [e] X.env = [(false, eval e X.env)] := by rfl) (hplain : (backTo cpos (starEach [] X.env)).any (·.1) = false := by rfl)
    (hsw : swapsWith (.Call (.Attribute (.Name x pos') "extend" apos) [e] [] cpos) none pos.line X.env = pure false := by rfl)
    (hd : (x == ("__debug__" : Str)) = false := by decide)
    (hcd : (x == ("__classdict__" : Str)) = false := by decide) :
    SS X w cl W lk (.Expr (.Call (.Attribute (.Name x pos') "extend" apos) [e] [] cpos) pos) (.ext i t) := by
  obtain ⟨te, p, k⟩ := he
  refine ⟨_, ps_expr (pe_bm F.plainAttrs_list F.slot_list_extend F.type_list_extend mt_extend (pe_var hi hv hd hcd) (pa_cons p pa_nil hs) hbase hfew hline hs hplain) hsw, fun D σ H U ρ er h => ?_⟩
  unfold evS at h
  split at h
  · rename_i l0 e0
    obtain ⟨y0, e1, r0⟩ := er.val i _ e0
    obtain ⟨a, vs0, rfl, u0, h0, rr0⟩ := r0
    refine ⟨_, e1, .inl ⟨rfl, vs0, SqL.of h0⟩, k σ H U ρ _ er (h.bind.mono (fun q ρ1 h y H1 U1 p1 r => ?_) fun _ _ h => h.e er)⟩
    obtain ⟨d, e2, h⟩ := h.get
    have vw := r.vw p1.er e2
    split at h
    · rename_i _ _ ys ds e3
      split at h
      · rename_i c
        obtain ⟨y1, e4, r1⟩ := p1.er.val i _ e3
        rw [e1] at e4
        cases e4
        obtain ⟨a', vs, q, u1, h1, rr⟩ := r1
        cases q
        obtain ⟨b, zs, rfl, hb, rz⟩ := vw
        refine ⟨a, b, vs, zs, rfl, rfl, h1, hb, by rw [rr.len, rz.len]; exact size_le c, h σ _ U1 (pss_mut er p1 e3 rfl rfl e1 ?_)⟩
        have s : Sta H1 U1 (upd H1 a (.lst (vs ++ zs))) U1 := ⟨fun b ob h z _ => by rw [upd_ne fun q => z (by rw [q]; exact u1)]; exact h, fun b h => .inl h⟩
        exact ⟨a, _, rfl, u1, upd_same, (rr.app rz).sta s⟩
      · exact h.elim
    · exact h.elim
  · exact h.elim
/-! ### d[k] = e -/
theorem KvR.put {K : PySem.W.Frag} {H : Hp} {U : Addr → Prop} {ws : List (Key × V)} {kvs : List (Str × D)} {k : Str} {v : V} {d : D} (h : KvR K H U ws kvs) (r : Rp K H U v d) : KvR K H U (putK ws (.inr k) v) (putD kvs k d) := by
  have any : ∀ {ws : List (Key × V)} {kvs : List (Str × D)}, KvR K H U ws kvs → (ws.any fun kv => decide (kv.1 = .inr k)) = (kvs.any fun q => decide (q.1 = k)) := by
    intro ws kvs h
    induction h with
    | nil => rfl
    | cons _ _ ih => rw [List.any_cons, List.any_cons, ih]; simp
  have mp : ∀ {ws : List (Key × V)} {kvs : List (Str × D)}, KvR K H U ws kvs → KvR K H U (ws.map fun kv => if kv.1 = .inr k then (kv.1, v) else kv) (kvs.map fun q => if q.1 = k then (q.1, d) else q) := by
    intro ws kvs h
    induction h with
    | nil => exact .nil
    | @cons k' _ _ _ _ h _ ih =>
      simp only [List.map_cons]
      by_cases q : k' = k
      · subst q
        rw [if_pos rfl, if_pos rfl]
        exact .cons r ih
      · rw [if_neg (by simpa using q), if_neg (by simpa using q)]
        exact .cons h ih
  have app : ∀ {ws : List (Key × V)} {kvs : List (Str × D)}, KvR K H U ws kvs → KvR K H U (ws ++ [(.inr k, v)]) (kvs ++ [(k, d)]) := by
    intro ws kvs h
    induction h with
    | nil => exact .cons r .nil
    | cons h _ ih => exact .cons h ih
  unfold putK putD
  rw [any h]
  split
  · exact mp h
  · exact app h
theorem KvR.len {K : PySem.W.Frag} {H : Hp} {U : Addr → Prop} {ws : List (Key × V)} {kvs : List (Str × D)} (h : KvR K H U ws kvs) : ws.length = kvs.length := by
  induction h with
  | nil => rfl
  | cons _ _ ih => simp [ih]
theorem KvR.get {K : PySem.W.Frag} {H : Hp} {U : Addr → Prop} {ws : List (Key × V)} {kvs : List (Str × D)} {k : Str} (h : KvR K H U ws kvs) : match valD kvs k with
    | some d => ∃ v, valV ws (.inr k) = some v ∧ Rp K H U v d
    | none => valV ws (.inr k) = none := by
  induction h with
  | nil => exact rfl
  | @cons k' v d ws kvs h _ ih =>
    by_cases q : k' = k
    · subst q
      have e1 : valD ((k', d) :: kvs) k' = some d := by simp [valD, List.find?_cons]
      rw [e1]
      exact ⟨v, valV_pos rfl, h⟩
    · have e1 : valD ((k', d) :: kvs) k = valD kvs k := by simp [valD, List.find?_cons, q]
      have e2 : valV ((.inr k', v) :: ws) (.inr k : Key) = valV ws (.inr k) := valV_neg (by simpa using q)
      rw [e1, e2]
      exact ih
theorem keyOf_some {v : Vl} {k : Str} (h : keyOf v = some k) : v = .dat (.str k) := by
  unfold keyOf at h
  split at h
  · cases h; rfl
  · cases h
theorem ss_putd {i : Nat} {x : Str} {ke e : Expr} {tk t : T} {spos pos pos' : Pos} (G : GC X W) (hi : X.N[i]? = some x) (hv : Vis X.env.scope x) (hk : SE X w cl W ke tk) (he : SE X w cl W e t)
    (hs : swapsWith e (some (.Subscript (.Name x pos') ke spos)) pos.line X.env = pure false := by rfl)
    (hd : (x == ("__debug__" : Str)) = false := by decide)
    (hcd : (x == ("__classdict__" : Str)) = false := by decide) :
    SS X w cl W lk (.Assign [.Subscript (.Name x pos') ke spos] e pos) (.putd i tk t) := by
  obtain ⟨te, p, k⟩ := he
  obtain ⟨tke, pk, kk⟩ := hk
  refine ⟨_, ps_dput (by have := G.room; omega) (pe_var hi hv hd hcd) pk p hs, fun D σ H U ρ er h => k σ H U ρ _ er ?_⟩
  unfold evS at h
  refine h.bind.mono (fun v ρ1 h y H1 U1 p1 r f => ?_) fun _ _ h => h.e er
  obtain ⟨d, e2, h⟩ := h.get
  obtain ⟨U2, p2, r2⟩ := give er p1 r f e2
  split at h
  · rename_i kvs0 e0
    obtain ⟨y0, e1, r0⟩ := p2.er.val i _ e0
    obtain ⟨a, ws0, rfl, u0, h0, rr0⟩ := r0
    refine ⟨_, e1, kk σ H1 U2 ρ1 _ p2.er (h.bind.mono (fun kv ρ2 h ky H3 U3 p3 r3 f3 => ?_) fun _ _ h => h.e er |>.on er p2)⟩
    obtain ⟨ks, e3, h⟩ := h.get
    have e3' : keyOf kv = some ks := e3
    rw [keyOf_some e3'] at r3
    have hky : ky = .str ks := by cases r3; rfl
    subst hky
    split at h
    · rename_i kvs e4
      split at h
      · rename_i c
        obtain ⟨y1, e5, r1⟩ := p3.er.val i _ e4
        rw [e1] at e5
        cases e5
        obtain ⟨a', ws, q, u1, h1, rr⟩ := r1
        cases q
        refine ⟨a, _, rfl, DPut.k (k := .inr ks) h1 (by rw [rr.len, sizeLine_eq]; exact of_decide_eq_true c), h σ _ U3 (pss_mut er (p2.trans er p3) e4 rfl rfl e1 ?_)⟩
        have s : Sta H3 U3 (upd H3 a (.dK (putK ws (.inr ks) y))) U3 := ⟨fun b ob h z _ => by rw [upd_ne fun q => z (by rw [q]; exact u1)]; exact h, fun b h => .inl h⟩
        exact ⟨a, _, rfl, u1, upd_same, (rr.put (r2.sta (p3.sta p2.er))).sta s⟩
      · exact h.elim
    · exact h.elim
  · exact h.elim
theorem Rps.set {K : PySem.W.Frag} {H : Hp} {U : Addr → Prop} : ∀ {vs : List V} {ds : List PyData} (m : Nat) {v : V} {d : PyData}, Rps K H U vs ds → Rp K H U v d → Rps K H U (vs.set m v) (ds.set m d)
  | [], [], _, _, _, .nil, _ => .nil
  | _ :: _, _ :: _, 0, _, _, .cons _ r, p => .cons p r
  | _ :: _, _ :: _, m + 1, _, _, .cons q r, p => .cons q (Rps.set m r p)
/-- l[k] = e -/
theorem ss_puti {i : Nat} {x : Str} {ke e : Expr} {tk t : T} {spos pos pos' : Pos} (G : GC X W) (hi : X.N[i]? = some x) (hv : Vis X.env.scope x) (hk : SE X w cl W ke tk) (he : SE X w cl W e t)
    (hs : swapsWithSole [.Subscript (.Name x pos') ke spos] e pos.line X.env = pure false := by rfl) (hw : swappedStores [.Subscript (.Name x pos') ke spos] e X.env = pure none := by rfl)
    (ha : ∀ v, assign (.Subscript (.Name x pos') ke spos) X.env v = (do
      let ov ← holding [v] (eval (.Name x pos') X.env)
      let iv ← holding [v, ov] (eval ke X.env)
      standAt spos
      holding [v, ov, iv] (setItem ov iv v)
      release [v, ov, iv] []) := by intro _; rfl)
    (hd : (x == ("__debug__" : Str)) = false := by decide)
    (hcd : (x == ("__classdict__" : Str)) = false := by decide) :
    SS X w cl W lk (.Assign [.Subscript (.Name x pos') ke spos] e pos) (.puti i tk t) := by
  obtain ⟨te, p, k⟩ := he
  obtain ⟨tke, pk, kk⟩ := hk
  refine ⟨_, ps_asg p (pg_sub (pe_var hi hv hd hcd) pk set_list ha) hs hw, fun D σ H U ρ er h => k σ H U ρ _ er ?_⟩
  unfold evS at h
  refine h.bind.mono (fun v ρ1 h y H1 U1 p1 r f => ?_) fun _ _ h => h.e er
  obtain ⟨d, e2, h⟩ := h.get
  obtain ⟨U2, p2, r2⟩ := give er p1 r f e2
  split at h
  · rename_i kvs0 e0
    obtain ⟨y0, e1, r0⟩ := p2.er.val i _ e0
    obtain ⟨a, ws0, rfl, u0, h0, rr0⟩ := r0
    refine ⟨_, e1, kk σ H1 U2 ρ1 _ p2.er (h.bind.mono (fun kv ρ2 h ky H3 U3 p3 r3 f3 => ?_) fun _ _ h => h.e er |>.on er p2)⟩
    split at h
    · rename_i j ds e3 e4
      dsimp only at e3
      subst e3
      have hky : ky = .int j := by cases r3; rfl
      subst hky
      obtain ⟨m, e6, h⟩ := h.get
      obtain ⟨y1, e5, r1⟩ := p3.er.val i _ e4
      rw [e1] at e5
      cases e5
      obtain ⟨a', ws, q, u1, h1, rr⟩ := r1
      cases q
      refine ⟨a, ws, j, m, rfl, rfl, h1, by rw [rr.len]; exact e6, h σ _ U3 (pss_mut er (p2.trans er p3) e4 rfl rfl e1 ?_)⟩
      have s : Sta H3 U3 (upd H3 a (.lst (ws.set m y))) U3 := ⟨fun b ob h z _ => by rw [upd_ne fun q => z (by rw [q]; exact u1)]; exact h, fun b h => .inl h⟩
      exact ⟨a, _, rfl, u1, upd_same, (rr.set m (r2.sta (p3.sta p2.er))).sta s⟩
    · exact h.elim
  · exact h.elim
/-! ### for -/
section
variable {K : PySem.W.Frag} {σ σ' σ1 : L2.St} {H H' H1 : Hp} {U U' U1 : Addr → Prop} {ρ ρ' ρ1 : Env} {o : Opn} {a : Addr}
theorem hd_unlock {ρ0 : Env} (h : Hd (unlockO ρ0 o ρ) σ a) : Hd ρ σ a := by
  obtain ⟨j, v, h1, h2, h3⟩ := h
  rcases unlock_some h1 with q | ⟨l, ds, _, q, rfl⟩
  · exact ⟨j, v, q, h2, h3⟩
  · exact ⟨j, _, q, rfl, h3⟩
theorem hd_lock (h : Hd (lockO o ρ) σ a) : Hd ρ σ a :=
  let ⟨j, _, h1, h2, h3⟩ := h
  let ⟨v, e1, e2⟩ := own_lock h1 h2
  ⟨j, v, e1, e2, h3⟩
theorem pss_lock (er : ER K w.fa H U σ ρ) : Pss K w lk σ H U ρ σ H U (lockO o ρ) :=
  ⟨er_lock er, Go.refl _ _ _, fun a h => .inl (lock_sub h), fun j v a h q z => let ⟨u, e1, e2⟩ := own_lock h q; .inl ⟨u, e1, e2, z⟩, fun j _ => ⟨rfl, fun v h l => let ⟨v', e1, e2⟩ := set_lock h; ⟨v', e1, e2 l⟩⟩, lock_len o ρ⟩
theorem pss_unlock (er : ER K w.fa H U σ ρ) (p1 : Pst K w.fa σ H U ρ H1 U1 ρ1) (p : Pss K w lk σ H1 U1 (lockO o ρ1) σ' H' U' ρ') : Pss K w lk σ H U ρ σ' H' U' (unlockO ρ1 o ρ') := by
  have from_ : ∀ (j : Nat) (v : Vl), (unlockO ρ1 o ρ')[j]? = some (some v) → v.own = true → ∃ u, ρ'[j]? = some (some u) ∧ u.own = true := fun j v h q => by
    rcases unlock_some h with z | ⟨l, ds, _, z, rfl⟩
    · exact ⟨v, z, q⟩
    · exact ⟨_, z, rfl⟩
  refine ⟨⟨by rw [unlock_len]; exact p.er.len, fun j v h => ?_, fun j k u u' b n h1 h2 o1 o2 z1 z2 => ?_, p.er.dom⟩, p1.go.trans (p.go.mono fun _ h => lock_sub h) (fun b h => .inl (p1.own b h)) er.dom, fun b ⟨j, v, h, m, z⟩ => ?_, fun j v b h q z => ?_, fun j hj => ⟨(p.lk j hj).1, fun v h l => ?_⟩, ?_⟩
  · rcases unlock_some h with z | ⟨l, ds, _, z, rfl⟩
    · exact p.er.val j v z
    · obtain ⟨x, e1, r⟩ := p.er.val j _ z
      exact ⟨x, e1, r⟩
  · obtain ⟨w1, g1, g2⟩ := from_ j u h1 o1
    obtain ⟨w2, g3, g4⟩ := from_ k u' h2 o2
    exact p.er.dj j k w1 w2 b n g1 g3 g2 g4 z1 z2
  · rcases unlock_some h with y | ⟨l, ds, h1, y, rfl⟩
    · rcases p.own b ⟨j, v, y, m, z⟩ with q | q
      · exact .inl (p1.own b (lock_sub q))
      · exact .inr (none_of p1 q)
    · rcases p.held j _ b y rfl z with ⟨u, _, _, e3⟩ | q
      · exact .inl (p1.own b ⟨j, _, h1, rfl, e3⟩)
      · exact .inr (none_of p1 q)
  · obtain ⟨u, e1, e2⟩ := from_ j v h q
    rcases p.held j u b e1 e2 z with ⟨u2, e3, e4, e5⟩ | q
    · obtain ⟨u3, e6, e7⟩ := own_lock e3 e4
      obtain ⟨u4, e8, e9⟩ := p1.held j u3 e6 e7
      exact .inl ⟨u4, e8, e9, e5⟩
    · exact .inr (none_of p1 q)
  · obtain ⟨v1, e1, l1⟩ := p1.set j v h
    obtain ⟨v2, e2, l2⟩ := set_lock (o := o) e1
    obtain ⟨v3, e3, l3⟩ := (p.lk j hj).2 v2 e2 (l2 (l1 l))
    obtain ⟨v4, e4, l4⟩ := unlock_set (ρ0 := ρ1) (o := o) e3
    exact ⟨v4, e4, l4 l3⟩
  · rw [unlock_len, p.len, lock_len, ← p1.er.len, er.len]
theorem pss_store {tg : Tg} {d : D} (g : Grow H H') (e : store tg d ρ = some ρ1) (ok : tgOk lk tg = true) (sr : StoreR K w H' U σ ρ (tgIx tg) σ1 ρ1) : Pss K w lk σ H U ρ σ1 H' U ρ1 := by
  have no : ∀ j ∈ lk, j ∉ tgIx tg := by
    intro j hj q
    cases tg with
    | nm i =>
      obtain rfl : j = i := List.mem_singleton.mp q
      unfold tgOk at ok
      simp at ok
      exact ok hj
    | tp is =>
      have := List.all_eq_true.mp ok j q
      simp at this
      exact this hj
  exact ⟨sr.er, Go.grow g, fun a z => .inl (sr.ow a z), fun j v a h o z => let ⟨e3, e4⟩ := sr.hd j v h o; .inl ⟨v, e3, o, e4.symm.trans z⟩, fun j hj => ⟨sr.off j (no j hj), fun v z l => ⟨v, (sr.offE j (no j hj)).trans z, l⟩⟩, store_len e⟩
end
theorem ss_for {tg iter : Expr} {body : List Stmt} {tgT : Tg} {k : Wkd} {tit : T} {sb : List S} {pos : Pos} (G : GC X W) (hpo : PassesOwn (model X.prog X.w) X.A X.env X.xe) (hi : SI X w cl W tg iter tit k) (hg : PG X tg (gOf X.K tgT)) (hb : SSs X w cl W lk body sb)
    (hs : ∀ x, foldedSetIterable iter X.env x = pure x := by intro _; rfl) : SS X w cl W lk (.For tg iter body [] pos) (.forl tgT k tit sb) := by
  obtain ⟨wi, pi, ki⟩ := hi
  obtain ⟨tb, pb, kb⟩ := hb
  refine ⟨_, ps_for hpo G.calm pi hg pb hs, fun D σ H U ρ er h => ki σ H U ρ _ er ?_⟩
  unfold evS at h
  refine h.bind.mono (fun o ρ1 h => ?_) fun _ _ h => h.e er
  obtain ⟨x, e1, h⟩ := h.get
  obtain ⟨ds, e2, h⟩ := h.get
  split at h
  · rename_i ok
    refine ⟨x, ds, e1, e2, fun J src H1 U1 p1 wk hsrc hz => ?_⟩
    have er1 := er_lock (o := o) p1.er
    have k0 : Aft (forTurns tgT (evSs cl lk sb) ds (lockO o ρ1)) (OkF X.K w lk σ H1 U1 (lockO o ρ1) D) (XcF X.K w W lk σ H1 U1 (lockO o ρ1)) := by
      refine h.bind.mono (fun f ρ' h σ' H' U' p => ?_) fun ex ρ' h => h.on er ((p1.pss er).trans er (pss_lock p1.er))
      have h' := h σ' H' U' (pss_unlock er p1 p)
      cases f with
      | nx => exact h'
      | brk => exact h'
      | cnt => exact h'
      | ret v =>
        refine fun x r f => h' x r fun q a z => ?_
        obtain ⟨f1, f2⟩ := f q a z
        refine ⟨fun y => f1 (hd_unlock y), f2.imp (fun y => p1.hdd a (hd_lock y)) fun y => none_of p1 y⟩
    refine ⟨fun i m σi Hi => ∃ Ui ρi, m = ds.length - i ∧ i ≤ ds.length ∧ Pss X.K w lk σ H1 U1 (lockO o ρ1) σi Hi Ui ρi ∧ Aft (forTurns tgT (evSs cl lk sb) (ds.drop i) ρi) (OkF X.K w lk σ H1 U1 (lockO o ρ1) D) (XcF X.K w W lk σ H1 U1 (lockO o ρ1)),
      ⟨ds.length, U1, lockO o ρ1, rfl, Nat.zero_le _, Pss.refl er1, by rw [List.drop_zero]; exact k0⟩, ?_⟩
    rintro i m σi Hi ⟨Ui, ρi, rfl, hi, pi, kk⟩
    obtain ⟨w1, w2⟩ := wk i Hi Ui (hsrc Hi Ui (.inl pi.go)) fun a u => pi.er.dom.nn u
    by_cases hlt : i < ds.length
    · obtain ⟨go, yl⟩ := w1 hlt
      refine .inr ⟨go, fun σ' H' => ∃ U' ρ', Pss X.K w lk σ H1 U1 (lockO o ρ1) σ' H' U' ρ' ∧ Aft (forTurns tgT (evSs cl lk sb) (ds.drop (i + 1)) ρ') (OkF X.K w lk σ H1 U1 (lockO o ρ1) D) (XcF X.K w W lk σ H1 U1 (lockO o ρ1)),
        fun σ' H' ⟨U', ρ', h1, h2⟩ => ⟨ds.length - (i + 1), by omega, U', ρ', rfl, hlt, h1, h2⟩, fun x H' hx => ?_⟩
      obtain ⟨gr, d, e3, rx⟩ := yl x H' hx
      rw [List.getElem?_eq_getElem hlt] at e3
      cases e3
      rw [List.drop_eq_getElem_cons hlt] at kk
      unfold forTurns at kk
      obtain ⟨ρ2, e4, kk⟩ := kk.get
      refine gOf_ok (er_grow pi.er gr) rx e4 fun σ2 sr => ?_
      have ps : Pss X.K w lk σ H1 U1 (lockO o ρ1) σ2 H' Ui ρ2 := pi.trans er1 (pss_store gr e4 ok sr)
      refine kb _ σ2 H' Ui ρ2 sr.er (kk.bind.mono (fun f ρ3 kk => ?_) fun ex ρ3 kk => kk.on er1 ps)
      cases f with
      | nx => exact fun σ3 H3 U3 p3 => ⟨U3, ρ3, ps.trans er1 p3, kk⟩
      | cnt => exact fun σ3 H3 U3 p3 => ⟨U3, ρ3, ps.trans er1 p3, kk⟩
      | brk => exact fun σ3 H3 U3 p3 => kk σ3 H3 U3 (ps.trans er1 p3)
      | ret v =>
        have kk' : OkF X.K w lk σ H1 U1 (lockO o ρ1) D (.ret v) ρ3 := kk
        exact fun σ3 H3 U3 p3 => kk'.on er1 ps σ3 H3 U3 p3
    · have e : i = ds.length := by omega
      refine .inl ⟨w2 (by omega), ?_⟩
      rw [e, List.drop_length] at kk
      exact kk σi Hi Ui pi
  · exact h.elim
/-! ### while; what is not reached -/
theorem ss_bad {st : Stmt} : SS X w cl W lk st .bad := ⟨fun _ _ _ => False, ⟨fun _ _ _ _ _ _ h => h.elim⟩, fun D σ H U ρ er h => by unfold evS at h; exact h⟩
theorem ss_while {c : Expr} {body : List Stmt} {tc : T} {sb : List S} {n : Nat} {pos : Pos} (hpo : PassesOwn (model X.prog X.w) X.A X.env X.xe) (hc : ST X w cl W c tc) (hb : SSs X w cl W lk body sb) : SS X w cl W lk (.While c body [] pos) (.whl n tc sb) := by
  obtain ⟨ec, pc, kc⟩ := hc
  obtain ⟨tb, pb, kb⟩ := hb
  refine ⟨_, ps_while hpo pc pb, fun D σ H U ρ er h => ?_⟩
  unfold evS at h
  refine ⟨fun m σi Hi => ∃ Ui ρi, Pss X.K w lk σ H U ρ σi Hi Ui ρi ∧ Aft (whileTurns (evT cl tc) (evSs cl lk sb) m ρi) (OkF X.K w lk σ H U ρ D) (XcF X.K w W lk σ H U ρ), ⟨n, U, ρ, Pss.refl er, h⟩, ?_⟩
  rintro m σi Hi ⟨Ui, ρi, pi, kk⟩
  cases m with
  | zero => unfold whileTurns at kk; exact kk.elim
  | succ m =>
    unfold whileTurns at kk
    refine kc σi Hi Ui ρi _ pi.er (kk.bind.mono (fun v ρ1 kk H1 U1 p1 => ?_) fun _ _ kk => (kk.on er pi).e pi.er)
    have ps : Pss X.K w lk σ H U ρ σi H1 U1 ρ1 := pi.trans er (p1.pss pi.er)
    cases v with
    | false =>
      rw [if_neg (by decide)]
      have kk' : OkF X.K w lk σ H U ρ D .nx ρ1 := kk
      exact kk' σi H1 U1 ps
    | true =>
      rw [if_pos rfl]
      refine ⟨fun σ' H' => ∃ U' ρ', Pss X.K w lk σ H U ρ σ' H' U' ρ' ∧ Aft (whileTurns (evT cl tc) (evSs cl lk sb) m ρ') (OkF X.K w lk σ H U ρ D) (XcF X.K w W lk σ H U ρ), fun σ' H' z => ⟨m, Nat.lt_succ_self m, z⟩, ?_⟩
      have k2 : Aft ((evSs cl lk sb ρ1).bind fun q => match q.1 with
          | .nx => whileTurns (evT cl tc) (evSs cl lk sb) m q.2
          | .cnt => whileTurns (evT cl tc) (evSs cl lk sb) m q.2
          | .brk => .ok (.nx, q.2)
          | .ret v => .ok (.ret v, q.2)) (OkF X.K w lk σ H U ρ D) (XcF X.K w W lk σ H U ρ) := kk
      refine kb _ σi H1 U1 ρ1 ps.er (k2.bind.mono (fun f ρ3 kk => ?_) fun ex ρ3 kk => kk.on er ps)
      cases f with
      | nx => exact fun σ3 H3 U3 p3 => ⟨U3, ρ3, ps.trans er p3, kk⟩
      | cnt => exact fun σ3 H3 U3 p3 => ⟨U3, ρ3, ps.trans er p3, kk⟩
      | brk => exact fun σ3 H3 U3 p3 => kk σ3 H3 U3 (ps.trans er p3)
      | ret v =>
        have kk' : OkF X.K w lk σ H U ρ D (.ret v) ρ3 := kk
        exact fun σ3 H3 U3 p3 => kk'.on er ps σ3 H3 U3 p3
end
end Pv
set_option Elab.async false
set_option linter.all false
set_option maxRecDepth 100000
set_option maxHeartbeats 2100000
namespace Pv
open PySem L2 PyProof.Rows
section
variable {K : PySem.W.Frag} {σ : L2.St} {H : Hp} {U : Addr → Prop} {ρ : Env}
/-- between the turns of a comprehension, whatever the new object holds -/
structure CB (K : PySem.W.Frag) (w : Wd) (σ : L2.St) (own : List Nat) (H0 : Hp) (U0 : Addr → Prop) (ρ0 : Env) (D : Addr) (H : Hp) (U : Addr → Prop) (ρ : Env) : Prop where
  er : ER K w.fa H U (L2.wipe σ own) (ρ.wipe own)
  go : Go (Ow ρ0 σ) H0 U0 H U
  ow : ∀ a, Ow (ρ.wipe own) (L2.wipe σ own) a → Ow ρ0 σ a
  hd : ∀ (j : Nat) (v : Vl), (ρ.wipe own)[j]? = some (some v) → v.own = true → ∃ u, ρ0[j]? = some (some u) ∧ u.own = true
  set : ∀ (j : Nat) (v : Vl), j ∉ own → ρ0[j]? = some (some v) → ∃ v', ρ[j]? = some (some v') ∧ (LL v = true → LL v' = true)
  u : U D
theorem CB.noD {w : Wd} {own : List Nat} {H0 : Hp} {U0 : Addr → Prop} {ρ0 : Env} {D : Addr} (c : CB K w σ own H0 U0 ρ0 D H U ρ) (er0 : ER K w.fa H0 U0 σ ρ0) (hD : H0 D = none) : ¬ Hd (ρ.wipe own) (L2.wipe σ own) D :=
  fun h => by
    obtain ⟨i, v, h1, h2, h3⟩ := h
    obtain ⟨u, e1, e2⟩ := c.hd i v h1 h2
    rw [swipe_out (ewipe_some h1).2] at h3
    exact er0.dom.nn (er0.hd ⟨i, u, e1, e2, h3⟩) hD
/-- a turn's further way -/
theorem cb_step {w : Wd} {own is : List Nat} {H0 H' H3 : Hp} {U0 U4 : Addr → Prop} {ρ0 ρ1 ρ3 : Env} {σ1 : L2.St} {D : Addr} (c : CB K w σ own H0 U0 ρ0 D H U ρ) (er0 : ER K w.fa H0 U0 σ ρ0) (hD : H0 D = none)
    (g : Grow H H') (hin : ∀ i ∈ is, i ∈ own) (sr : StoreR K w H' U (L2.wipe σ own) (ρ.wipe own) is σ1 ρ1) (ew : L2.wipe σ1 own = L2.wipe σ own) (p : Pst K w.fa σ1 H' U ρ1 H3 U4 ρ3) : CB K w σ own H0 U0 ρ0 D H3 U4 ρ3 ∧ (∀ o, H D = some o → NT o → H3 D = some o) ∧ Sta H U H3 U4 := by
  have noD : ¬ Ow ρ1 σ1 D := fun h => c.noD er0 hD (sr.ow D h).hd
  have st : Sta H U H3 U4 := ⟨fun a o h n nt => p.go.keep a o (g a o h) (fun q => n (c.er.ow (sr.ow a q))) nt, fun a h => (p.go.u2 a h).imp id fun q o e => q o (g a o e)⟩
  refine ⟨⟨?_, ?_, fun a h => ?_, fun j v h o => ?_, fun j v n h => ?_, p.go.u1 D c.u noD⟩, fun o h nt => p.go.keep D _ (g D _ h) noD nt, st⟩
  · rw [← ew]
    exact er_wipe p.er
  · exact (c.go.trans (Go.grow (own := fun _ => False) g) (fun _ h => h.elim) er0.dom).trans p.go (fun a h => .inl (c.ow a (sr.ow a h))) er0.dom
  · rw [← ew] at h
    exact c.ow a (sr.ow a (p.own a (ow_wipe h)))
  · obtain ⟨h, n⟩ := ewipe_some h
    obtain ⟨u, e1, e2⟩ := p.held j v h o
    obtain ⟨e3, _⟩ := sr.hd j u e1 e2
    exact c.hd j u e3 e2
  · obtain ⟨v', h', l1⟩ := c.set j v n h
    rw [← ewipe_out (vs := own) (ρ := ρ) n, ← sr.offE j fun q => n (hin j q)] at h'
    obtain ⟨v2, h2, l2⟩ := p.set j v' h'
    exact ⟨v2, h2, fun z => l2 (l1 z)⟩
theorem cb_put {w : Wd} {own : List Nat} {H0 : Hp} {U0 : Addr → Prop} {ρ0 : Env} {D : Addr} {o : HO} (c : CB K w σ own H0 U0 ρ0 D H U ρ) (er0 : ER K w.fa H0 U0 σ ρ0) (hD : H0 D = none) (ho : OwnO o) :
    CB K w σ own H0 U0 ρ0 D (upd H D o) U ρ ∧ Sta H U (upd H D o) U := by
  have s : Sta H U (upd H D o) U := ⟨fun a ob h z _ => by rw [upd_ne fun q => z (by rw [q]; exact c.u)]; exact h, fun a h => .inl h⟩
  exact ⟨⟨er_upd c.er c.u (c.noD er0 hD) ho, c.go.trans (own' := fun a => a = D) ⟨fun a o h n _ => by rw [upd_ne n]; exact h, fun a h _ => h, fun a h => .inl h, fun a h => (nw_upd ho.nt h).2⟩ (fun a h => .inr (.of (by rw [h]; exact hD))) er0.dom, c.ow, c.hd, c.set, c.u⟩, s⟩
theorem cb_end {w : Wd} {own : List Nat} {o : Opn} {D : Addr} {ρe : Env} {He : Hp} {Ue : Addr → Prop} (er : ER K w.fa H U σ ρ) (ok : ownOk ρ own = true) (c : CB K w σ own H U (lockO o ρ) D He Ue ρe) : Pst K w.fa σ H U ρ He Ue (unlockO ρ o (Env.back ρ ρe own)) := by
  have st : Sta H U He Ue := c.go.sta fun a h => er.ow (lock_sub h)
  have notOwn : ∀ (j : Nat) (v : Vl), j ∈ own → ρ[j]? = some (some v) → v.own = false := by
    intro j v hj hv
    have := List.all_eq_true.mp ok j hj
    rw [hv] at this
    simpa using this
  -- where a held slot comes from
  have from_ : ∀ (j : Nat) (v : Vl), (unlockO ρ o (Env.back ρ ρe own))[j]? = some (some v) → (∃ u, j ∉ own ∧ ρe[j]? = some (some u) ∧ (u = v ∨ ∃ l ds, ρ[j]? = some (some (.lst l)) ∧ u = .lck ds ∧ v = .lst ds)) ∨ (j ∈ own ∧ ρ[j]? = some (some v) ∧ v.own = false) := by
    intro j v h
    rcases unlock_some h with h | ⟨l, ds, h1, h2, rfl⟩
    · rcases back_some h with ⟨n, q⟩ | ⟨n, q⟩
      · exact .inl ⟨v, n, q, .inl rfl⟩
      · exact .inr ⟨n, q, notOwn j v n q⟩
    · rcases back_some h2 with ⟨n, q⟩ | ⟨n, q⟩
      · exact .inl ⟨_, n, q, .inr ⟨l, ds, h1, rfl, rfl⟩⟩
      · rw [h1] at q; cases q
  have atE : ∀ (j : Nat) (u : Vl), j ∉ own → ρe[j]? = some (some u) → (ρe.wipe own)[j]? = some (some u) := fun j u n h => by rw [ewipe_out n]; exact h
  refine ⟨⟨?_, fun j v h => ?_, fun j k v v' a n h1 h2 o1 o2 z1 z2 => ?_, c.er.dom⟩, c.go.mono fun a h => lock_sub h, fun a ⟨j, v, h, o1, z⟩ => ?_, fun j v h o1 => ?_, fun j v h => ?_⟩
  · have := c.er.len
    rw [wipe_length, ewipe_len] at this
    rw [unlock_len, back_len, this]
  · rcases from_ j v h with ⟨u, n, q, k⟩ | ⟨n, q, no⟩
    · obtain ⟨x, e1, r⟩ := c.er.val j u (atE j u n q)
      rw [swipe_out n] at e1
      rcases k with rfl | ⟨l, ds, _, rfl, rfl⟩
      · exact ⟨x, e1, r⟩
      · exact ⟨x, e1, r⟩
    · obtain ⟨x, e1, r⟩ := er.val j v q
      exact ⟨x, e1, r.sta st fun o => by rw [no] at o; cases o⟩
  · rcases from_ j v h1 with ⟨u, m, q, kk⟩ | ⟨m, q, no⟩
    · rcases from_ k v' h2 with ⟨u', m', q', k'⟩ | ⟨m', q', no'⟩
      · refine c.er.dj j k u u' a n (atE j u m q) (atE k u' m' q') ?_ ?_ ((swipe_out m).trans z1) ((swipe_out m').trans z2)
        · rcases kk with rfl | ⟨_, _, _, rfl, _⟩
          · exact o1
          · rfl
        · rcases k' with rfl | ⟨_, _, _, rfl, _⟩
          · exact o2
          · rfl
      · rw [no'] at o2; cases o2
    · rw [no] at o1; cases o1
  · rcases from_ j v h with ⟨u, m, q, k⟩ | ⟨m, q, no⟩
    · rcases k with rfl | ⟨l, ds, h1, rfl, rfl⟩
      · exact lock_sub (c.ow a ⟨j, u, atE j u m q, o1, (swipe_out m).trans z⟩)
      · exact ⟨j, _, h1, rfl, z⟩
    · have := mut_own o1
      rw [no] at this; cases this
  · rcases from_ j v h with ⟨u, m, q, k⟩ | ⟨m, q, no⟩
    · rcases k with rfl | ⟨l, ds, h1, rfl, rfl⟩
      · obtain ⟨u', e1, e2⟩ := c.hd j u (atE j u m q) o1
        exact own_lock e1 e2
      · exact ⟨_, h1, rfl⟩
    · rw [no] at o1; cases o1
  · by_cases hj : j ∈ own
    · have hl : j < ρe.length := by
        have h1 := c.er.len
        rw [wipe_length, ewipe_len] at h1
        have h2 := er.len
        have h3 := (List.getElem?_eq_some_iff.mp h).1
        omega
      exact unlock_set (v := v) (by rw [back_in hj hl, h]; rfl)
    · obtain ⟨v1, e1, l1⟩ := set_lock (o := o) h
      obtain ⟨v2, e2, l2⟩ := c.set j v1 hj e1
      obtain ⟨v3, e3, l3⟩ := unlock_set (ρ0 := ρ) (o := o) (ρ := Env.back ρ ρe own) (v := v2) (by rw [back_out hj]; exact e2)
      exact ⟨v3, e3, fun z => l3 (l2 (l1 z))⟩
theorem putD_len (kvs : List (Str × D)) (k : Str) (d : D) : (putD kvs k d).length ≤ kvs.length + 1 := by
  unfold putD
  split
  · rw [List.length_map]; omega
  · rw [List.length_append]; exact Nat.le_refl _
theorem tC_if {w : Wd} {cl : Fun} {A B : Hp → Prop} (h : A H) : tC K w cl none σ H (fun b H3 => if b = true then A H3 else B H3) := by
  show (if true = true then A H else B H)
  rw [if_pos rfl]; exact h
/-- one turn's reading, the whole loop's -/
theorem dc_read {w : Wd} {cl : Fun} {own : List Nat} {tg : Tg} {tk tv : T} {H0 : Hp} {U0 : Addr → Prop} {ρ0 : Env} {Q : VK} {J : It} {src : Hp → (Addr → Prop) → Prop} {ds : List D}
    (er0 : ER K w.fa H0 U0 σ ρ0) (hin : ∀ i ∈ tgIx tg, i ∈ own) (wk : Wk K J src ds) (hs : ∀ H2 U2, Go (Ow ρ0 σ) H0 U0 H2 U2 → src H2 U2) (hz : ds.length ≤ 16777216)
    (h : Aft (dcTurns own tg (evE cl tk) (evE cl tv) ds [] ρ0) (fun ys ρe => ∀ D H U ws, H0 D = none → CB K w σ own H0 U0 ρ0 D H U ρe → H D = some (.dK ws) → KvR K H U ws ys → Q (.ref D) H) (fun _ _ => False)) :
    ∀ D, H0 D = none → ∃ Wi : Nat → Nat → Hp → Prop, (∃ m, Wi 0 m (upd H0 D (.dK []))) ∧ ∀ i m H, Wi i m H →
      (J.stop i H ∧ Q (.ref D) H) ∨ (J.go i H ∧ ∃ Nx : Hp → Prop, (∀ H', Nx H' → ∃ m', m' < m ∧ Wi (i + 1) m' H') ∧ ∀ x H', J.yld i H x H' → gOf K tg x (L2.wipe σ own) H' fun σ2 H2 => L2.wipe σ2 own = L2.wipe σ own ∧ tC K w cl none σ2 H2 fun b H3 =>
        if b = true then tE K w cl W0 tk σ2 H3 fun y H4 => tE K w cl W0 tv σ2 H4 fun z H5 => ∃ kvs k, y = kV k ∧ H5 D = some (.dK kvs) ∧ kvs.length < sizeLine ∧ Nx (upd H5 D (.dK (putK kvs k z))) else Nx H3) := by
  intro D hD
  refine ⟨fun i m H => ∃ U ρi ws ys, m = ds.length - i ∧ i ≤ ds.length ∧ ys.length ≤ i ∧ CB K w σ own H0 U0 ρ0 D H U ρi ∧ H D = some (.dK ws) ∧ KvR K H U ws ys ∧
    Aft (dcTurns own tg (evE cl tk) (evE cl tv) (ds.drop i) ys ρi) (fun ys ρe => ∀ D H U ws, H0 D = none → CB K w σ own H0 U0 ρ0 D H U ρe → H D = some (.dK ws) → KvR K H U ws ys → Q (.ref D) H) (fun _ _ => False), ⟨ds.length, ?_⟩, ?_⟩
  · have p := Pst.newU (o := .dK []) er0 hD own_dK
    exact ⟨addU U0 D, ρ0, [], [], by omega, Nat.zero_le _, Nat.zero_le _, ⟨er_wipe p.er, p.go, fun a h => ow_wipe h, fun j v h o => ⟨v, (ewipe_some h).1, o⟩, fun j v _ h => ⟨v, h, id⟩, .inr rfl⟩, upd_same, .nil, by simpa using h⟩
  · rintro i m H ⟨U, ρi, ws, ys, rfl, hi, hy, ci, hw, kr, k⟩
    obtain ⟨w1, w2⟩ := wk i H U (hs H U ci.go) fun a u => ci.er.dom.nn u
    by_cases hlt : i < ds.length
    · obtain ⟨go, yl⟩ := w1 hlt
      have ed : ds.drop i = ds[i] :: ds.drop (i + 1) := (List.drop_eq_getElem_cons hlt)
      refine .inr ⟨go, fun H' => ∃ U ρi ws ys, ys.length ≤ i + 1 ∧ CB K w σ own H0 U0 ρ0 D H' U ρi ∧ H' D = some (.dK ws) ∧ KvR K H' U ws ys ∧
        Aft (dcTurns own tg (evE cl tk) (evE cl tv) (ds.drop (i + 1)) ys ρi) (fun ys ρe => ∀ D H U ws, H0 D = none → CB K w σ own H0 U0 ρ0 D H U ρe → H D = some (.dK ws) → KvR K H U ws ys → Q (.ref D) H) (fun _ _ => False),
        fun H' ⟨U, ρi, ws, ys, h1, h2, h3, h4, h5⟩ => ⟨ds.length - (i + 1), by omega, U, ρi, ws, ys, rfl, hlt, h1, h2, h3, h4, h5⟩, fun x H' hx => ?_⟩
      obtain ⟨gr, d, e1, rx⟩ := yl x H' hx
      rw [List.getElem?_eq_getElem hlt] at e1
      cases e1
      rw [ed] at k
      unfold dcTurns at k
      obtain ⟨ρ1, e2, k⟩ := k.get
      refine gOf_ok (er_grow ci.er gr) rx e2 fun σ1 sr => ?_
      have ew : L2.wipe σ1 own = L2.wipe σ own := by
        refine wipe_eq ?_ fun j n => (sr.off j fun q => n (hin j q)).trans (swipe_out n)
        have l1 := sr.er.len
        have l2 := ci.er.len
        have l3 : ρ1.length = (ρi.wipe own).length := store_len e2
        rw [l1, l3, ← l2, wipe_length]
      refine ⟨ew, ?_⟩
      refine tC_if ⟨U, ρ1, sr.er, k.bind.mono (fun v ρ2 k y H3 U3 p3 rv f => ?_) fun _ _ h => h.elim⟩
      obtain ⟨s, e3, k⟩ := k.get
      have ev := keyOf_some e3
      subst ev
      have ey : y = .str s := rp_str rv
      subst ey
      refine ⟨U3, ρ2, p3.er, k.bind.mono (fun v2 ρ3 k z H4 U4 p4 rv2 f2 => ?_) fun _ _ h => h.elim⟩
      obtain ⟨dz, e4, k⟩ := k.get
      obtain ⟨U5, p5, rz⟩ := give p3.er p4 rv2 f2 e4
      obtain ⟨c4, keep, st⟩ := cb_step ci er0 hD gr hin sr ew (p3.trans sr.er p5)
      have hw4 := keep _ hw nt_dK
      obtain ⟨c5, st5⟩ := cb_put (o := .dK (putK ws (.inr s) z)) c4 er0 hD own_dK
      have kr5 := ((kr.sta st).put (k := s) rz).sta st5
      refine ⟨ws, .inr s, rfl, hw4, ?_, U5, ρ3, putK ws (.inr s) z, putD ys s dz, ?_, c5, upd_same, kr5, k⟩
      · rw [kr.len, sizeLine_eq]
        omega
      · have := putD_len ys s dz
        omega
    · have e : i = ds.length := by omega
      refine .inl ⟨w2 (by omega), ?_⟩
      rw [e, List.drop_length] at k
      exact k D H U ws hD ci hw kr
end
section
variable {X : Cx} {w : Wd} {cl : Fun} {W : WX}
theorem dc_at {tg iter : Expr} {own : List Nat} {tgT : Tg} {k : Wkd} {tit tk tv : T} (hi : SI X w cl W tg iter tit k) (hin : (tgIx tgT).all own.contains = true) :
    ∃ wi, PI X tg iter wi ∧ ∀ σ H U ρ Q, ER X.K w.fa H U σ ρ → Aft (evE cl (.dcomp tk tv own tgT k tit) ρ) (OkE X.K w σ H U ρ Q) (XcE X.K w W σ H U ρ) → tDc wi (gOf X.K tgT) (tC X.K w cl none) (tE X.K w cl W0 tk) (tE X.K w cl W0 tv) own σ H Q := by
  obtain ⟨wi, p, ki⟩ := hi
  refine ⟨wi, p, fun σ H U ρ Q er h => ki σ H U ρ _ er ?_⟩
  unfold evE at h
  refine h.bind.mono (fun o ρ' h => ?_) fun _ _ h => h
  obtain ⟨x, e1, h⟩ := h.get
  obtain ⟨ds, e2, h⟩ := h.get
  obtain ⟨_, e3, h⟩ := h.get
  refine ⟨x, ds, e1, e2, fun J src H' U' p1 wk hs hz => ?_⟩
  have ok : ownOk ρ' own = true := by
    unfold need at e3
    split at e3
    · assumption
    · cases e3
  refine dc_read (er_lock p1.er) (fun i hi => ?_) wk (fun H2 U2 g => hs H2 U2 (.inl g)) hz ?_
  · have := List.all_eq_true.mp hin i hi
    simpa using this
  · cases q : dcTurns own tgT (evE cl tk) (evE cl tv) ds [] (lockO o ρ') with
    | stuck => rw [q] at h; exact h
    | exc _ _ => rw [q] at h; exact h
    | ok r =>
      obtain ⟨ys, ρe⟩ := r
      rw [q] at h
      intro D He Ue ws hD c hw kr
      have pe := cb_end p1.er ok c
      have h' : OkE X.K w σ H U ρ Q (.dct ys) (unlockO ρ' o (Env.back ρ' ρe own)) := h
      refine h' _ _ Ue (p1.trans er pe) ⟨D, ws, rfl, c.u, hw, kr⟩ fun _ a z => ?_
      cases z
      exact ⟨fun z => p1.er.dom.nn (p1.er.hd (pe.hdd D z)) hD, p1.go.dom D (.of hD)⟩
/-- {key: value for .. in ..} -/
theorem se_dcomp {kx vx tg iter : Expr} {scope : Scope} {own : List (Str × Nat)} {pos : Pos} {tgT : Tg} {k : Wkd} {tit tk tv : T} (G : GC X W) (hi : SI X w cl W tg iter tit k) (ok : BlkOk X.N X.env.scope scope own)
    (hg : ∀ (s : Shared) (H : Hp) (C : Addr) (c : List (Str × Addr)) (fp : List Addr), PG (X.blk s H scope (compEnvC scope c C X.env) fp) tg (gOf X.K tgT)) (hin : (tgIx tgT).all (own.map (·.2)).contains = true)
    (hk : ∀ (s : Shared) (H : Hp) (C : Addr) (c : List (Str × Addr)) (fp : List Addr), SE (X.blk s H scope (compEnvC scope c C X.env) fp) w cl W0 kx tk)
    (hv : ∀ (s : Shared) (H : Hp) (C : Addr) (c : List (Str × Addr)) (fp : List Addr), SE (X.blk s H scope (compEnvC scope c C X.env) fp) w cl W0 vx tv) (hs : ∀ x, foldedSetIterable iter X.env x = pure x := by intro _; rfl) :
    SE X w cl W (.DictComp kx vx [⟨tg, iter, [], 0⟩] scope pos) (.dcomp tk tv (own.map (·.2)) tgT k tit) := by
  obtain ⟨wi, p, k⟩ := dc_at (tk := tk) (tv := tv) hi hin
  exact ⟨_, pe_dc (tt := tC X.K w cl none) G.calm G.nd p ok hg (fun s H C c fp => pts_nil) (fun s H C c fp => (hk s H C c fp).can) (fun s H C c fp => (hv s H C c fp).can) hs, k⟩
end
end Pv
set_option Elab.async false
set_option linter.all false
set_option maxRecDepth 100000
set_option maxHeartbeats 2100000
namespace Pv
open PySem L2 PyProof.Rows
/-! ### a def's entry, a def's end -/
theorem lentOf_mem : ∀ {ws : List Vl} {j i : Nat}, i ∈ lentOf ws j ↔ ∃ m v, i = j + m ∧ ws[m]? = some v ∧ v.own = true
  | [], j, i => by
    unfold lentOf
    exact ⟨(fun h => by cases h), (fun h => by obtain ⟨m, v, _, h, _⟩ := h; simp at h)⟩
  | u :: us, j, i => by
    have ih := lentOf_mem (ws := us) (j := j + 1) (i := i)
    have tail : (∃ m v, i = j + 1 + m ∧ us[m]? = some v ∧ v.own = true) → ∃ m v, i = j + m ∧ (u :: us)[m]? = some v ∧ v.own = true := fun ⟨m, v, h1, h2, h3⟩ => ⟨m + 1, v, by omega, by simpa using h2, h3⟩
    unfold lentOf
    split
    · rename_i o
      rw [List.mem_cons, ih]
      constructor
      · rintro (rfl | h)
        · exact ⟨0, u, rfl, rfl, o⟩
        · exact tail h
      · rintro ⟨m, v, h1, h2, h3⟩
        cases m with
        | zero => exact .inl h1
        | succ m => exact .inr ⟨m, v, by omega, by simpa using h2, h3⟩
    · rename_i o
      rw [ih]
      constructor
      · exact tail
      · rintro ⟨m, v, h1, h2, h3⟩
        cases m with
        | zero =>
          simp at h2
          subst h2
          exact (o h3).elim
        | succ m => exact ⟨m, v, by omega, by simpa using h2, h3⟩
theorem start_get {α : Type} {vs : List α} {n i : Nat} {x : α} : (vs.map some ++ List.replicate n (none : Option α))[i]? = some (some x) ↔ vs[i]? = some x := by
  by_cases h : i < vs.length
  · rw [List.getElem?_append_left (by simpa using h)]
    exact map_some_get
  · rw [List.getElem?_append_right (by simpa using h), List.getElem?_replicate, List.getElem?_eq_none (by omega)]
    constructor
    · intro z
      split at z <;> cases z
    · intro z; cases z
section
variable {K : PySem.W.Frag} {w : Wd} {H : Hp} {U : Addr → Prop}
theorem er_start {vs : List V} {ws : List Vl} {n : Nat} (er : ER K w.fa H U (vs.map some) (ws.map some)) : ER K w.fa H U (vs.map some ++ List.replicate (n - vs.length) none) (startE n ws) := by
  have hl : vs.length = ws.length := by simpa using er.len
  unfold startE
  refine ⟨by simp [hl], fun i v h => ?_, fun i j v u a ne h1 h2 o1 o2 z1 z2 => ?_, er.dom⟩
  · obtain ⟨x, e1, r⟩ := er.val i v (map_some_get.mpr (start_get.mp h))
    exact ⟨x, start_get.mpr (map_some_get.mp e1), r⟩
  · exact er.dj i j v u a ne (map_some_get.mpr (start_get.mp h1)) (map_some_get.mpr (start_get.mp h2)) o1 o2 (map_some_get.mpr (start_get.mp z1)) (map_some_get.mpr (start_get.mp z2))
theorem ow_start {vs : List V} {ws : List Vl} {n m : Nat} {a : Addr} (h : Ow (startE n ws) (vs.map some ++ List.replicate m none) a) : Ow (ws.map some) (vs.map some) a := by
  obtain ⟨i, v, h1, h2, h3⟩ := h
  exact ⟨i, v, map_some_get.mpr (start_get.mp h1), h2, map_some_get.mpr (start_get.mp h3)⟩
theorem fin_of {vs : List V} {ws : List Vl} {n p : Nat} {σ' : L2.St} {H' : Hp} {U' : Addr → Prop} {ρ' : Env} (er : ER K w.fa H U (vs.map some) (ws.map some)) (hp : ws.length = p)
    (h : Pss K w (lentOf ws 0) (vs.map some ++ List.replicate (n - vs.length) none) H U (startE n ws) σ' H' U' ρ') : Fin K w vs ws H U (ρ'.take p) H' U' := by
  refine ⟨h.go.mono fun a z => ow_start z, h.er.dom, fun i v x h1 h2 h3 => ?_⟩
  have hi : i ∈ lentOf ws 0 := lentOf_mem.mpr ⟨i, v, by omega, h1, h2⟩
  obtain ⟨k1, k2⟩ := h.lk i hi
  obtain ⟨v', e1, l1⟩ := k2 v (start_get.mpr h1) (by cases v <;> first | rfl | cases h2)
  obtain ⟨y, e2, r⟩ := h.er.val i v' e1
  rw [k1, start_get.mpr h3] at e2
  cases e2
  have hlt : i < p := by
    rw [← hp]
    exact (List.getElem?_eq_some_iff.mp h1).1
  exact ⟨v', by rw [List.getElem?_take_of_lt hlt]; exact e1, r, l1⟩
/-- what is handed back is new -/
theorem ret_new {vs : List V} {ws : List Vl} {n : Nat} {σ' : L2.St} {H' : Hp} {U' : Addr → Prop} {ρ' : Env} {x : V} {v : Vl} (er : ER K w.fa H U (vs.map some) (ws.map some))
    (h : Pss K w (lentOf ws 0) (vs.map some ++ List.replicate (n - vs.length) none) H U (startE n ws) σ' H' U' ρ') (r : RV K w.fa H' U' x v) (f : RetF (vs.map some ++ List.replicate (n - vs.length) none) H (startE n ws) σ' ρ' x v) :
    v.own = true → ∀ a, x = .ref a → Nw H a := by
  intro o a z
  obtain ⟨f1, f2⟩ := f o a z
  rcases f2 with ⟨i, u, h1, h2, h3⟩ | f2
  · refine (f1 ?_).elim
    have hi : i ∈ lentOf ws 0 := lentOf_mem.mpr ⟨i, u, by omega, start_get.mp h1, h2⟩
    obtain ⟨k1, k2⟩ := h.lk i hi
    obtain ⟨v', e1, l1⟩ := k2 u h1 (by cases u <;> first | rfl | cases h2)
    obtain ⟨y, e2, r'⟩ := h.er.val i v' e1
    rw [k1, h3] at e2
    cases e2
    by_cases q : v'.own = true
    · exact ⟨i, v', e1, q, by rw [k1]; exact h3⟩
    · exfalso
      subst z
      obtain ⟨b, e, ub⟩ := r.ownU o
      cases e
      cases v' with
      | dat d =>
        cases d with
        | list l =>
          cases r' with
          | lst _ n _ => exact n ub
        | _ => cases l1
      | _ => first | exact q rfl | cases l1
  · exact f2
end
section
variable {P : Program} {wd : World} {K : PySem.W.Frag} {mg : Str → Option Value} {base : Heap}
/-- the context of a def's body -/
abbrev bodyX (P : Program) (wd : World) (K : PySem.W.Frag) (mg : Str → Option Value) (base : Heap) (N : List Str) (qual : Str) (scope : Scope) (f : Addr) (cdv : Value) (A : Around) (outer : List PySem.Env) (s : Shared) (H : Hp) (E : XK) : Cx :=
  cxOf (L2.CX P wd) P wd K mg base N qual scope f cdv A outer s H E
theorem gc_of {N ps : List Str} {qual : Str} {scope : Scope} {f : Addr} {cdv : Value} {A : Around} {outer : List PySem.Env} {s : Shared} {H : Hp} {E : XK} {n : Nat} (S : FnScope N ps scope) (gd : A.guards = some []) (hr : Room n (A.deeper (envOfC qual scope s.heap.objs.size f cdv))) :
    GC (bodyX P wd K mg base N qual scope f cdv A outer s H E) (fun c d _ H' => E c d H') := by
  refine ⟨rfl, S.nd, gd, ?_, takes_of rfl rfl rfl rfl⟩
  have h := hr.un
  show (A.deeper (envOfC qual scope s.heap.objs.size f cdv)).units + 190 < cLine
  omega
theorem po_of {N : List Str} {qual : Str} {scope : Scope} {f : Addr} {cdv : Value} {A : Around} {outer : List PySem.Env} {s : Shared} {H : Hp} {E : XK} : PassesOwn (model (bodyX P wd K mg base N qual scope f cdv A outer s H E).prog (bodyX P wd K mg base N qual scope f cdv A outer s H E).w)
    (bodyX P wd K mg base N qual scope f cdv A outer s H E).A (bodyX P wd K mg base N qual scope f cdv A outer s H E).env (bodyX P wd K mg base N qual scope f cdv A outer s H E).xe := passes_of rfl
/-- a def whose body reads as its word does -/
theorem fn_df {n r : Nat} {f : Addr} {name qual : Str} {params : Arguments} {body : List Stmt} {scope : Scope} {dV kV doc pm cdv ct oc : Value} {an od : Option Addr} {osl : Array (Option Value)} {N ps : List Str} {w : Wd} {Pr : List Df} {k : Nat} {d : Df}
    (hd : Pr[k]? = some d) (lk : K.lookup f = some ⟨oc, od, .func (PySem.W.fnOf name qual params body scope dV kV doc pm an cdv ct), osl⟩) (hcd : PySem.W.codeIn K cdv qual = true) (S : FnScope N ps scope) (h1 : d.ps = ps.length) (h2 : d.n = N.length)
    (hb : ∀ (A : Around) (outer : List PySem.Env) (s : Shared) (H : Hp) (E : XK) (lk : List Nat), Room r (A.deeper (envOfC qual scope s.heap.objs.size f cdv)) → A.guards = some [] →
      SSs (bodyX P wd K mg base N qual scope f cdv A outer s H E) w (evF Pr n) (fun c d _ H' => E c d H') lk body d.body) :
    FnG P wd K mg base (r + 1) f (PySem.W.fnOf name qual params body scope dV kV doc pm an cdv ct) ps (spD K w (evF Pr (n + 1)) k) := by
  have ev : ∀ ws, evF Pr (n + 1) k ws = runF (evF Pr n) d ws := fun ws => by
    show (match Pr[k]? with | some d => runF (evF Pr n) d ws | none => if 1000 ≤ k then evF Pr n (k - 1000) ws else .stuck) = _
    rw [hd]
  have args : ∀ {vs H Q E}, spD K w (evF Pr (n + 1)) k vs H Q E → ∃ (U : Addr → Prop) (ws : List Vl), ER K w.fa H U (vs.map some) (ws.map some) ∧ ws.length = d.ps ∧ vs.length = d.ps ∧
      Aft (evSs (evF Pr n) (lentOf ws 0) d.body (startE d.n ws)) (OkF K w (lentOf ws 0) (start N vs) H U (startE d.n ws) { nx := fun _ H' => Q .non H', rt := Q }) (XcF K w (fun c d _ H' => E c d H') (lentOf ws 0) (start N vs) H U (startE d.n ws)) := by
    rintro vs H Q E ⟨U, ws, er, h⟩
    have hl : vs.length = ws.length := by simpa using er.len
    have hs : start N vs = vs.map some ++ List.replicate (d.n - vs.length) none := by rw [h2]; rfl
    rw [ev] at h
    unfold runF at h
    split at h
    · rename_i r he
      split at he
      · rename_i hw
        refine ⟨U, ws, er, hw, by omega, ?_⟩
        rw [hs]
        split at he
        · rename_i v ρ' e
          cases he
          rw [e]
          exact fun σ' H' U' p x r f => h x H' U' (fin_of er hw p) r (ret_new er p r f)
        · rename_i ρ' e
          cases he
          rw [e]
          exact fun σ' H' U' p => h .non H' U' (fin_of er hw p) .non fun o => nomatch o
        · cases he
        · cases he
        · cases he
      · cases he
    · rename_i ex fin he
      split at he
      · rename_i hw
        refine ⟨U, ws, er, hw, by omega, ?_⟩
        rw [hs]
        split at he
        · cases he
        · cases he
        · cases he
        · rename_i ex' ρ' e
          cases he
          rw [e]
          exact fun c d' σ' H' U' p rx => h c d' H' U' (fin_of er hw p) rx
        · cases he
      · cases he
    · exact h.elim
  refine ⟨fun vs H Q E q => ?_, fun A outer s0 s H as us vs Q E hr gd inK0 e0 bd r q => ?_⟩
  · obtain ⟨_, _, _, _, h, _⟩ := args q
    omega
  · obtain ⟨U, ws, er, hw, hv, h⟩ := args q
    have hlen : vs.length = ps.length := by omega
    have inK : K.In s.heap := e0.mod.kin.keeps fun b o z => (e0.bs b o z).1
    have noL : s.heap.NoLimit := e0.mod.nolimit.keeps fun b o z => (e0.bs b o z).1
    refine codeAny_call_function hr.depth (inK0 _ _ lk) rfl S.co S.gen rfl
      (PySem.W.codeRec_of inK0 hcd) (bd _ _ _ _ ?_)
    refine wpAny_newFunctionEnv_cells S.kind (fun y hy => ?_) fun env he s1 x => ?_
    · rcases S.par y.1 (List.of_mem_zip (show (y.1, y.2) ∈ ps.zip us from hy)).1 with z | z
      · exact .inl z
      · exact .inr ⟨z, PySem.W.cellsFrom_some _ _ _ (.inl z)⟩
    subst he
    refine ⟨noL.keeps x.toInCall.keep, codeAny_func ?_⟩
    obtain ⟨t, ht, hq⟩ := hb A outer s H E (lentOf ws 0) (hr.deeper _) gd
    have I0 : Inv (bodyX P wd K mg base N qual scope f cdv A outer s H E) [] (start N vs) H s1 :=
      inv_start S hr.hd e0 hlen r x
    have er0 : ER K w.fa H U (start N vs) (startE d.n ws) := by
      have z := er_start (n := d.n) er
      rw [h2] at z ⊢
      exact z
    have go := ht.run [] s1 (start N vs) H _ I0 (hq _ (start N vs) H U (startE d.n ws) er0 h)
    refine wpAny_mono go (fun fl s' z => ?_) fun e s' z => z
    cases fl with
    | ret u =>
      obtain ⟨v, σ', H', J, rv, z⟩ := z
      exact ⟨v, H', J.os, J.bare, J.base, J.hok, rv, z⟩
    | next =>
      obtain ⟨σ', H', J, z⟩ := z
      exact ⟨.non, H', J.os, J.bare, J.base, J.hok, rfl, z⟩
    | brk =>
      obtain ⟨_, _, _, z⟩ := z
      exact z.elim
    | cont =>
      obtain ⟨_, _, _, z⟩ := z
      exact z.elim
end
end Pv
set_option Elab.async false
set_option linter.all false
set_option maxRecDepth 100000
set_option maxHeartbeats 2100000
namespace Pv
open PySem L2 PyProof.Rows PySem.Spec
/-! ### level by level -/
section
variable {P : Program} {wd : World} {K : PySem.W.Frag} {mg : Str → Option Value} {base : Heap}
/-- all defs keep their words, called at most n deep -/
def Lvl (P : Program) (wd : World) (K : PySem.W.Frag) (mg : Str → Option Value) (base : Heap) (w : Wd) (Pr : List Df) (n : Nat) : Prop :=
  ∀ k f, (w.fa k = some f ∨ w.fs k = some f) → FnG P wd K mg base (n + 2) f (w.fd k) (w.ps k) (spD K w (evF Pr n) k)
/-- .. up to n -/
structure Lvls (P : Program) (wd : World) (K : PySem.W.Frag) (mg : Str → Option Value) (base : Heap) (w : Wd) (Pr : List Df) (n : Nat) : Prop where
  le : ∀ m, m ≤ n → Lvl P wd K mg base w Pr m
  few : Pr.length ≤ 1000
theorem lvl_zero {w : Wd} {Pr : List Df} : Lvl P wd K mg base w Pr 0 := fun k f _ => by
  have no : ∀ {vs H Q E}, spD K w (evF Pr 0) k vs H Q E → False := fun ⟨_, _, _, h⟩ => h
  exact ⟨fun _ _ _ _ h => (no h).elim, fun _ _ _ _ _ _ _ _ _ _ _ _ _ _ _ _ h => (no h).elim⟩
theorem lvls_all {w : Wd} {Pr : List Df} (few : Pr.length ≤ 1000) (step : ∀ n, Lvls P wd K mg base w Pr n → Lvl P wd K mg base w Pr (n + 1)) : ∀ n, Lvls P wd K mg base w Pr n
  | 0 => ⟨fun m h => by
    have e : m = 0 := by omega
    rw [e]
    exact lvl_zero, few⟩
  | n + 1 => ⟨fun m h => by
    have ih := lvls_all few step n
    by_cases e : m ≤ n
    · exact ih.le m e
    · have e : m = n + 1 := by omega
      rw [e]
      exact step n ih, few⟩
theorem lvl_all {w : Wd} {Pr : List Df} (few : Pr.length ≤ 1000) (step : ∀ n, Lvls P wd K mg base w Pr n → Lvl P wd K mg base w Pr (n + 1)) (n : Nat) : Lvl P wd K mg base w Pr n := (lvls_all few step n).le n (Nat.le_refl _)
theorem evF_sh {Pr : List Df} (few : Pr.length ≤ 1000) (n k : Nat) : sh (evF Pr (n + 2)) k = evF Pr n k := by
  have e1 : Pr[k + 2000]? = none := List.getElem?_eq_none (by omega)
  have e2 : Pr[k + 1000]? = none := List.getElem?_eq_none (by omega)
  have step : ∀ m j vs, Pr[j]? = none → 1000 ≤ j → evF Pr (m + 1) j vs = evF Pr m (j - 1000) vs := fun m j vs e h => by
    show (match Pr[j]? with
      | some d => runF (evF Pr m) d vs
      | none => if 1000 ≤ j then evF Pr m (j - 1000) vs else .stuck) = _
    rw [e]
    exact if_pos h
  funext vs
  show evF Pr (n + 2) (k + 2000) vs = evF Pr n k vs
  rw [step (n + 1) (k + 2000) vs e1 (by omega), show k + 2000 - 1000 = k + 1000 by omega, step n (k + 1000) vs e2 (by omega), show k + 1000 - 1000 = k by omega]
end
/-! ### the law's call -/
/-- a script's object known, nothing else tracked -/
def OneS (a : Addr) (o : Obj) (ns : List Int) : Hp := fun b => if b = a then some (.frz o (.lst (ns.map V.int))) else none
theorem law_go {P : Program} {wd : World} {K : PySem.W.Frag} {mg mb : Str → Option Value} {k : Nat} {fa a : Addr} {fd : FuncData} {x : Str} {sp : Sp} {s : Shared} {vs : List Value} {ns : List Int}
    (kin : K.In s.heap) (nm : s.heap.Ns mainGlobals mg) (nb : s.heap.Ns builtinsNs mb) (bb : ∀ x : Str, x ≠ "__name__" → mb x = bootBuiltins x) (lim : s.heap.NoLimit) (gens : s.gens = #[])
    (ha : s.heap.get? a = some { cls := .type "list", data := .seq vs.toArray }) (hi : IntsAre vs ns) (hl : ns.length ≤ sizeLine) (hr : Room k callerA)
    (F : ∀ base : Heap, K.In base → base.Ns mainGlobals mg → FnG P wd K mg base k fa fd [x] sp) (bd : ∀ (s : Shared) (u : Value), BindsTo s fd ⟨[u], []⟩ [(x, u)])
    (hsp : ∀ H : Hp, Only H → SqL K H a (ns.map V.int) → ((∃ o, H a = some (.frz o (.lst (ns.map V.int)))) ∨ SqL K (fun _ => none) a (ns.map V.int)) → sp [.ref a] H (fun v _ => v = .bl true) fun _ _ _ => False) :
    codeAny (model P wd) callerA (.call (.ref fa) ⟨[.ref a], []⟩) (fun r s' => r = .ok (.ret (.bool true)) ∧ OldK s.heap s'.heap ∧ s'.os = s.os ∧ AllBare s'.gens) s := by
  have vals := vals_ints hi
  -- whatever is tracked, it is the script at most
  suffices main : ∀ H : Hp, Only H → SqL K H a (ns.map V.int) → ((∃ o, H a = some (.frz o (.lst (ns.map V.int)))) ∨ SqL K (fun _ => none) a (ns.map V.int)) → HOk P wd H s.heap → (∀ b, H b ≠ none → b = a) → (H a ≠ none → K.lookup a = none) →
      codeAny (model P wd) callerA (.call (.ref fa) ⟨[.ref a], []⟩) (fun r s' => r = .ok (.ret (.bool true)) ∧ OldK s.heap s'.heap ∧ s'.os = s.os ∧ AllBare s'.gens) s by
    cases hk : K.lookup a with
    | some o =>
      have e := kin a o hk
      rw [ha] at e
      cases e
      have lv := hi.length
      have sq : SqL K (fun _ => none) a (ns.map V.int) :=
        .inr ⟨_, vs.toArray, _, hk, rfl, rfl, rfl, (by rw [List.size_toArray, lv]; exact hl), (by simpa using vals)⟩
      exact main (fun _ => none) (fun _ => .inl rfl) sq (.inr sq) (fun b u z => by cases (show (none : Option HO) = some u from z)) (fun b z => (z rfl).elim) fun z => (z rfl).elim
    | none =>
      have at_ : OneS a { cls := .type "list", data := .seq vs.toArray } ns a = some (.frz { cls := .type "list", data := .seq vs.toArray } (.lst (ns.map V.int))) := if_pos rfl
      have off : ∀ b, b ≠ a → OneS a { cls := .type "list", data := .seq vs.toArray } ns b = none := fun b n => if_neg n
      refine main (OneS a { cls := .type "list", data := .seq vs.toArray } ns) (fun b => ?_) (.inl (.inr ⟨_, at_⟩)) (.inl ⟨_, at_⟩) (fun b u z => ?_) (fun b z => ?_) fun _ => hk
      · by_cases q : b = a
        · subst q; exact .inr ⟨_, _, at_⟩
        · exact .inl (off b q)
      · by_cases q : b = a
        · subst q
          rw [at_] at z
          cases z
          exact ⟨ha, by rw [List.length_map]; exact hl, vs, _, vals, ha⟩
        · rw [off b q] at z; cases z
      · by_cases q : b = a
        · exact q
        · exact (z (off b q)).elim
  intro H only hS hS' hok one notK
  have free : ∀ {b : Addr} {o : Obj} {es : Array DictEntry} {n : Nat}, s.heap.get? b = some o → o.data = .dict es n → H b = none := by
    intro b o es n e d
    cases q : H b with
    | none => rfl
    | some u =>
      cases one b (by rw [q]; simp)
      rw [ha] at e
      cases e
      cases (show Data.seq vs.toArray _ = Data.dict es n from d)
  have ns_ : ∀ {b : Addr} {m : Str → Option Value}, s.heap.Ns b m → (hidT s.heap H).Ns b m :=
    fun ⟨o, es, n, e, d, r⟩ => ⟨o, es, n, hidT_get e (free e d), d, r⟩
  have kb : K.In (hidT s.heap H) := by
    intro b o e
    refine hidT_get (kin b o e) ?_
    cases q : H b with
    | none => rfl
    | some u =>
      have hb := one b (by rw [q]; simp)
      subst hb
      rw [notK (by rw [q]; simp)] at e
      cases e
  obtain ⟨mc, l1, l2⟩ := lim
  have env : Env0 P wd K mg (hidT s.heap H) callerA [] s H :=
    { frames := rfl
      mod := ⟨kb, ns_ nm, ⟨mb, ns_ nb, bb⟩, ⟨mc, ns_ l1, l2⟩⟩
      bs := fun b o e => of_hidT e
      bsz := Nat.le_of_eq (hidT_size _ _)
      funs := trivial
      frf := fun b hb => by cases hb
      hok := hok
      bare := .of_eq gens }
  refine codeAny_mono ((F _ kb (ns_ nm)).run callerA [] s s H ⟨[.ref a], []⟩ [.ref a] [.ref a] _ _ hr rfl kin env (bd s (.ref a)) (.cons rfl .nil) (hsp H only hS hS')) fun r s' h => ?_
  cases r with
  | error e =>
    obtain ⟨_, _, _, _, _, _, _, _, _, _, _, _, no⟩ := h
    exact no.elim
  | ok fl =>
    cases fl with
    | next => exact False.elim h
    | brk => exact False.elim h
    | cont => exact False.elim h
    | ret u =>
      obtain ⟨v, H', os, bare, un, hok', r', q⟩ := id h
      obtain rfl : v = .bl true := q
      obtain rfl : u = .bool true := r'
      refine ⟨rfl, OldK.of_keep (fun b o e => ?_), os, bare⟩
      rcases only b with z | ⟨ob, xs, z⟩
      · exact un.keep b o e z (by intro z; cases z) (by simp)
      · obtain ⟨e1, _⟩ := hok b _ z
        obtain ⟨e2, _⟩ := hok' b _ (un.frzs b ob _ z)
        rw [e] at e1
        cases e1
        exact e2
/-- the law's def, over the script -/
theorem law_sp {K : PySem.W.Frag} {w : Wd} {Pr : List Df} {k n : Nat} (h : ∀ ns : List Int, ns.length ≤ 63 → ∃ fin, evF Pr n k [.scr ns] = .ok (.dat (.bool true), fin)) {H : Hp} {a : Addr} {ns : List Int} (hl : ns.length ≤ 63)
    (hs : (∃ o, H a = some (.frz o (.lst (ns.map V.int)))) ∨ SqL K (fun _ => none) a (ns.map V.int)) (tb : LamX.Tabs w.fa.T H) : spD K w (evF Pr n) k [.ref a] H (fun v _ => v = .bl true) fun _ _ _ => False := by
  obtain ⟨fin, e⟩ := h ns hl
  refine ⟨fun _ => False, [.scr ns], ⟨rfl, fun i v h => ?_, fun i j v u b n h1 h2 o1 _ _ _ => ?_, ⟨fun _ z => z.elim, tb⟩⟩, ?_⟩
  · cases i with
    | zero =>
      cases h
      exact ⟨_, rfl, a, rfl, hs.imp (fun ⟨o, z⟩ => ⟨o, z, fun q => q⟩) id⟩
    | succ i => simp at h
  · cases i with
    | zero => cases h1; cases o1
    | succ i => simp at h1
  · rw [e]
    intro x H' U' _ r _
    cases r
    rfl
/-- the goal that the head leaves, from the words -/
theorem walk_pv {l : PySem.W.OpenLaw} {k n : Nat} {q : Program} {loose : List Str} {XP : (Str → Option Value) → Heap → Prop} {YP : World → Heap → Prop} {d : DefRec} {K : Params → PySem.W.Frag} {x : Str} {Pr : List Df}
    (hn : l.most = some 63) (hdf : d.params.defaults = []) (hr : Room (n + 2) callerA) (hY : ∀ (w : World) (h : Heap), YP w h → (K w.params).In h)
    (F : ∀ (wd : World) (mg : Str → Option Value) (fa : Addr) (h : Heap), (K wd.params).In h → h.Ns mainGlobals mg → mg d.name = some (.ref fa) →
      ∃ (fd : FuncData) (w : Wd), w.fa.T = [] ∧ (∀ (s : Shared) (u : Value), BindsTo s fd ⟨[u], []⟩ [(x, u)]) ∧
        ∀ base : Heap, (K wd.params).In base → base.Ns mainGlobals mg → FnG l.prog wd (K wd.params) mg base (n + 2) fa fd [x] (spD (K wd.params) w (evF Pr n) k))
    (hl : ∀ ns : List Int, ns.length ≤ 63 → ∃ fin, evF Pr n k [.scr ns] = .ok (.dat (.bool true), fin)) :
    PySem.W.WalkO q loose XP YP l.row.toRowW d [] (fun f us => PySem.call f us) := by
  refine Att.attach_call hn hdf fun w s₀ s₁ mg mb fa o pm cd doc a us ns G Y ho hd hcd hmg hobj hints hlen hg => ?_
  have kx := hY w _ Y
  obtain ⟨fd, wd, hT, hb, hF⟩ := F w mg fa _ kx G.T.g hmg
  exact law_go kx G.T.g G.T.b G.T.builtins G.T.nolimit hg hobj hints (Nat.le_trans hlen (by decide)) hr hF hb fun H _ _ hs => law_sp hl hlen hs (by rw [hT]; exact fun _ h => nomatch h)
end Pv
set_option Elab.async false
set_option linter.all false
set_option maxRecDepth 100000
set_option maxHeartbeats 2100000
/-! The law's call where defs make lambdas: cs, the code objects and their tables. -/
namespace Pv
open PySem L2 PyProof.Rows PySem.Spec
/-- what is known at the law's call -/
def Kn (a : Addr) (cs : List (Addr × Addr)) (sc : Option HO) : Hp := fun b => if b ∈ cs.map (·.2) then some (.tbl #[]) else if b = a then sc else none
theorem kn_tab {a : Addr} {cs : List (Addr × Addr)} {sc : Option HO} {p : Addr × Addr} (h : p ∈ cs) : Kn a cs sc p.2 = some (.tbl #[]) := if_pos (List.mem_map_of_mem h)
theorem kn_cases {a b : Addr} {cs : List (Addr × Addr)} {sc : Option HO} {u : HO} (h : Kn a cs sc b = some u) : (∃ p ∈ cs, p.2 = b ∧ u = .tbl #[]) ∨ (b = a ∧ sc = some u) := by
  unfold Kn at h
  split at h
  · rename_i m
    obtain ⟨p, hp, e⟩ := List.mem_map.mp m
    cases h
    exact .inl ⟨p, hp, e, rfl⟩
  · split at h
    · rename_i e
      exact .inr ⟨e, h⟩
    · cases h
theorem law_goT {P : Program} {wd : World} {K : PySem.W.Frag} {mg mb : Str → Option Value} {k : Nat} {fa a : Addr} {fd : FuncData} {x : Str} {sp : Sp} {s : Shared} {vs : List Value} {ns : List Int} {cs : List (Addr × Addr)}
    (kin : K.In s.heap) (nm : s.heap.Ns mainGlobals mg) (nb : s.heap.Ns builtinsNs mb) (bb : ∀ x : Str, x ≠ "__name__" → mb x = bootBuiltins x) (lim : s.heap.NoLimit) (gens : s.gens = #[])
    (hT : ∀ p ∈ cs, s.heap.get? p.2 = some (PySem.W.tabObj #[])) (nT : ∀ p ∈ cs, K.lookup p.2 = none) (hC : ∀ p ∈ cs, PySem.W.CodeHd s.heap p.1 p.2)
    (hbm : ∃ bm ob, mg "__builtins__" = some (.ref bm) ∧ bm ≠ builtinsNs ∧ s.heap.get? bm = some ob ∧ ob.cls = .type "module" ∧ ob.dict = some builtinsNs ∧ ob.data = .plain)
    (ha : s.heap.get? a = some { cls := .type "list", data := .seq vs.toArray }) (hi : IntsAre vs ns) (hl : ns.length ≤ sizeLine) (hr : Room k callerA)
    (F : ∀ base : Heap, K.In base → base.Ns mainGlobals mg → (∀ p ∈ cs, LamX.TabB base mg p.1 p.2) → FnG P wd K mg base k fa fd [x] sp) (bd : ∀ (s : Shared) (u : Value), BindsTo s fd ⟨[u], []⟩ [(x, u)])
    (hsp : ∀ H : Hp, (∀ p ∈ cs, H p.2 = some (.tbl #[])) → ((∃ o, H a = some (.frz o (.lst (ns.map V.int)))) ∨ SqL K (fun _ => none) a (ns.map V.int)) → sp [.ref a] H (fun v _ => v = .bl true) fun _ _ _ => False) :
    codeAny (model P wd) callerA (.call (.ref fa) ⟨[.ref a], []⟩) (fun r s' => r = .ok (.ret (.bool true)) ∧ OldK s.heap s'.heap ∧ s'.os = s.os ∧ AllBare s'.gens) s := by
  have vals := vals_ints hi
  have aT : ¬ a ∈ cs.map (·.2) := fun z => by
    obtain ⟨p, hp, e⟩ := List.mem_map.mp z
    have q := hT p hp
    have e' : p.2 = a := e
    rw [e', ha] at q
    have q' : Data.seq vs.toArray _ = Data.fields #[] := congrArg Obj.data (Option.some.inj q)
    cases q'
  -- the script is known, or written out
  obtain ⟨sc, hsc, hlk, hS⟩ : ∃ sc : Option HO, (∀ u, sc = some u → u = .frz { cls := .type "list", data := .seq vs.toArray } (.lst (ns.map V.int))) ∧ (sc ≠ none → K.lookup a = none) ∧
      ((∃ o, sc = some (.frz o (.lst (ns.map V.int)))) ∨ SqL K (fun _ => none) a (ns.map V.int)) := by
    cases hk : K.lookup a with
    | some o =>
      have e := kin a o hk
      rw [ha] at e
      cases e
      have lv := hi.length
      exact ⟨none, fun u z => (by cases z), fun z => (z rfl).elim, .inr (.inr ⟨_, vs.toArray, _, hk, rfl, rfl, rfl, (by rw [List.size_toArray, lv]; exact hl), (by simpa using vals)⟩)⟩
    | none => exact ⟨some (.frz { cls := .type "list", data := .seq vs.toArray } (.lst (ns.map V.int))), fun u z => (by cases z; rfl), fun _ => rfl, .inl ⟨_, rfl⟩⟩
  have known : ∀ {b : Addr} {o : Obj}, s.heap.get? b = some o → (∀ xs n, o.data ≠ .seq xs n) → o.data ≠ .fields #[] → Kn a cs sc b = none := by
    intro b o e n1 n2
    cases q : Kn a cs sc b with
    | none => rfl
    | some u =>
      rcases kn_cases q with ⟨p, hp, z, _⟩ | ⟨z, _⟩
      · rw [← z, hT p hp] at e
        cases e
        exact (n2 rfl).elim
      · rw [z, ha] at e
        cases e
        exact (n1 _ _ rfl).elim
  have ns_ : ∀ {b : Addr} {m : Str → Option Value}, s.heap.Ns b m → (hidT s.heap (Kn a cs sc)).Ns b m :=
    fun ⟨o, es, n, e, d, r⟩ => ⟨o, es, n, hidT_get e (known e (fun _ _ z => by rw [d] at z; cases z) fun z => by rw [d] at z; cases z), d, r⟩
  have kb : K.In (hidT s.heap (Kn a cs sc)) := by
    intro b o e
    refine hidT_get (kin b o e) ?_
    cases q : Kn a cs sc b with
    | none => rfl
    | some u =>
      rcases kn_cases q with ⟨p, hp, z, _⟩ | ⟨z, z2⟩
      · rw [← z, nT p hp] at e; cases e
      · rw [z, hlk (by rw [z2]; simp)] at e; cases e
  have tabB : ∀ p ∈ cs, LamX.TabB (hidT s.heap (Kn a cs sc)) mg p.1 p.2 := by
    intro p hp
    refine ⟨?_, ?_, fun z => ?_⟩
    · obtain ⟨o, us, file, tf, flags, tg, inF, text, tt, e1, r1, r2, r3, r⟩ := hC p hp
      refine ⟨o, us, file, tf, flags, tg, inF, text, tt, hidT_get e1 (known e1 (fun _ _ z => by rw [r2] at z; cases z) fun z => ?_), r1, r2, r3, r⟩
      rw [r2] at z
      cases z
      simp at r3
    · obtain ⟨bm, ob, b1, b2, b3, b4, b5, b6⟩ := hbm
      have e3 := hidT_get b3 (known b3 (fun _ _ z => by rw [b6] at z; cases z) fun z => by rw [b6] at z; cases z)
      refine ⟨bm, ob, b1, b2, fun q => ?_, fun q => ?_, e3, b4, b5, b6⟩
      · obtain ⟨o, es, n, e, d, _⟩ := nm
        rw [q, e] at b3
        cases b3
        rw [d] at b6
        cases b6
      · rw [q, hT p hp] at b3
        cases b3
        cases b6
    · obtain ⟨o, es, n, e, d, _⟩ := nm
      rw [z, hT p hp] at e
      cases e
      cases d
  have hok : HOk P wd (Kn a cs sc) s.heap := fun b u z => by
    rcases kn_cases z with ⟨p, hp, e, rfl⟩ | ⟨e, e2⟩
    · rw [← e]
      exact hT p hp
    · rw [hsc u e2, e]
      exact ⟨ha, by rw [List.length_map]; exact hl, vs, _, vals, ha⟩
  have at_ : Kn a cs sc a = sc := by
    unfold Kn
    rw [if_neg aT, if_pos rfl]
  obtain ⟨mc, l1, l2⟩ := lim
  have env : Env0 P wd K mg (hidT s.heap (Kn a cs sc)) callerA [] s (Kn a cs sc) :=
    { frames := rfl
      mod := ⟨kb, ns_ nm, ⟨mb, ns_ nb, bb⟩, ⟨mc, ns_ l1, l2⟩⟩
      bs := fun b o e => of_hidT e
      bsz := Nat.le_of_eq (hidT_size _ _)
      funs := trivial
      frf := fun b hb => by cases hb
      hok := hok
      bare := .of_eq gens }
  refine codeAny_mono ((F _ kb (ns_ nm) tabB).run callerA [] s s (Kn a cs sc) ⟨[.ref a], []⟩ [.ref a] [.ref a] _ _ hr rfl kin env (bd s (.ref a)) (.cons rfl .nil) (hsp _ (fun p hp => kn_tab hp) (by rw [at_]; exact hS))) fun r s' h => ?_
  cases r with
  | error e =>
    obtain ⟨_, _, _, _, _, _, _, _, _, _, _, _, no⟩ := h
    exact no.elim
  | ok fl =>
    cases fl with
    | next => exact False.elim h
    | brk => exact False.elim h
    | cont => exact False.elim h
    | ret u =>
      obtain ⟨v, H', os, bare, un, hok', r', q⟩ := id h
      obtain rfl : v = .bl true := q
      obtain rfl : u = .bool true := r'
      -- what stood
      have old : ∀ b o, s.heap.get? b = some o → (s'.heap.get? b = some o) ∨ ∃ p ∈ cs, p.2 = b ∧ ∃ more : Array Value, s'.heap.get? b = some (PySem.W.tabObj more) := by
        intro b o e
        cases z : Kn a cs sc b with
        | none => exact .inl (un.keep b o e z (by intro z; cases z) (by simp))
        | some u =>
          rcases kn_cases z with ⟨p, hp, e1, rfl⟩ | ⟨e1, e2⟩
          · obtain ⟨more, m⟩ := un.tbls b #[] z
            exact .inr ⟨p, hp, e1, _, hok' b _ m⟩
          · rw [hsc u e2] at z
            obtain ⟨e3, _⟩ := hok b _ z
            obtain ⟨e4, _⟩ := hok' b _ (un.frzs b _ _ z)
            rw [e] at e3
            cases e3
            exact .inl e4
      refine ⟨rfl, ⟨fun b o e => ?_, fun b o e => ?_⟩, os, bare⟩
      · rcases old b o e with z | ⟨p, hp, e1, more, z⟩
        · exact .inl z
        · rw [← e1] at e z ⊢
          rw [hT p hp] at e
          cases e
          exact .inr (.inl ⟨((hC p hp).tab (hT p hp)).isCodeTable, rfl, #[], more, rfl, by rw [Array.empty_append]; exact z⟩)
      · rcases old b o e with z | ⟨p, hp, e1, more, z⟩
        · exact ⟨o, z⟩
        · exact ⟨_, z⟩
/-- the goal that the head leaves, from the words: G.T's tables, and where they stand in what is written out -/
theorem walk_pvT {l : PySem.W.OpenLaw} {k n : Nat} {q : Program} {loose : List Str} {XP : (Str → Option Value) → Heap → Prop} {YP : World → Heap → Prop} {d : DefRec} {K : Params → PySem.W.Frag} {x : Str} {Pr : List Df}
    (hn : l.most = some 63) (hdf : d.params.defaults = []) (hr : Room (n + 2) callerA) (hY : ∀ (w : World) (h : Heap), YP w h → (K w.params).In h)
    (F : ∀ (wd : World) (mg : Str → Option Value) (fa : Addr) (h : Heap), (K wd.params).In h → h.Ns mainGlobals mg → mg d.name = some (.ref fa) →
      ∃ (fd : FuncData) (w : Wd) (cs : List (Str × Addr × Addr)), PySem.W.noTabs (K wd.params) = true ∧ (∀ p ∈ cs, PySem.W.tabIn (K wd.params) p.1 = some p.2 ∧ ((recsOf q).find? fun e => e.name == p.1).isSome = true) ∧
        (∀ p ∈ w.fa.T, ∃ r ∈ cs, r.2.2 = p.1) ∧ (∀ (s : Shared) (u : Value), BindsTo s fd ⟨[u], []⟩ [(x, u)]) ∧
        ∀ base : Heap, (K wd.params).In base → base.Ns mainGlobals mg → (∀ p ∈ cs, LamX.TabB base mg p.2.1 p.2.2) → FnG l.prog wd (K wd.params) mg base (n + 2) fa fd [x] (spD (K wd.params) w (evF Pr n) k))
    (hl : ∀ ns : List Int, ns.length ≤ 63 → ∃ fin, evF Pr n k [.scr ns] = .ok (.dat (.bool true), fin)) :
    PySem.W.WalkO q loose XP YP l.row.toRowW d [] (fun f us => PySem.call f us) := by
  refine Att.attach_call hn hdf fun w s₀ s₁ mg mb fa o pm cd doc a us ns G Y ho hd hcd hmg hobj hints hlen hg => ?_
  have kx := hY w _ Y
  obtain ⟨fd, wd, cs, hK, hcs, hTs, hb, hF⟩ := F w mg fa _ kx G.T.g hmg
  have tabs : ∀ p ∈ cs, PySem.W.CodeHd s₁.heap p.2.1 p.2.2 ∧ s₁.heap.get? p.2.2 = some (PySem.W.tabObj #[]) := fun p hp => by
    obtain ⟨h1, h2⟩ := hcs p hp
    obtain ⟨r, hr⟩ := Option.isSome_iff_exists.mp h2
    exact PySem.W.tab_of G.T kx hr h1
  have at_ : ∀ p ∈ cs.map (·.2), ∃ r ∈ cs, r.2 = p := fun p hp => let ⟨r, h1, h2⟩ := List.mem_map.mp hp; ⟨r, h1, h2⟩
  refine law_goT (cs := cs.map (·.2)) kx G.T.g G.T.b G.T.builtins G.T.nolimit hg (fun p hp => ?_) (fun p hp => ?_) (fun p hp => ?_) G.T.bmain hobj hints (Nat.le_trans hlen (by decide)) hr
    (fun base h1 h2 h3 => hF base h1 h2 fun p hp => h3 p.2 (List.mem_map_of_mem hp)) hb fun H hH hs => law_sp hl hlen hs fun p hp => ?_
  · obtain ⟨r, hr, e⟩ := at_ p hp
    rw [← e]
    exact (tabs r hr).2
  · obtain ⟨r, hr, e⟩ := at_ p hp
    cases z : (K w.params).lookup p.2 with
    | none => rfl
    | some ob =>
      exfalso
      have e1 := kx _ _ z
      rw [← e, (tabs r hr).2] at e1
      cases e1
      have := List.all_eq_true.mp hK _ (PySem.W.mem_of_lookupK z)
      exact Bool.false_ne_true this
  · obtain ⟨r, hr, e⟩ := at_ p hp
    rw [← e]
    exact (tabs r hr).1
  · obtain ⟨r, hr, e⟩ := hTs p hp
    rw [← e]
    exact LamX.TabS.nil (hH r.2 (List.mem_map_of_mem hr))
end Pv
set_option Elab.async false
set_option linter.all false
set_option maxRecDepth 100000
set_option maxHeartbeats 2100000
namespace Pv
open PySem L2 PyProof.Rows
section
variable {X : Cx} {w : Wd} {cl : Fun} {W : WX}
/-! ### names of the module -/
theorem se_fnv {k : Nat} {f : Addr} {x : Str} {pos : Pos} (hk : w.fa k = some f) (hg : Gl X x) (hm : X.mg x = some (.ref f)) (hd : (x == ("__debug__" : Str)) = false := by decide) : SE X w cl W (.Name x pos) (.fn k) :=
  ⟨_, pe_glob (v := .ref f) hg hm rfl hd, fun σ H U ρ Q er h => h _ H U (Pst.refl er) ⟨f, hk, rfl⟩ fun z => nomatch z⟩
theorem se_glob {x : Str} {v : V} {u : Value} {d : D} {pos : Pos} (hg : Gl X x) (hm : X.mg x = some u) (r : RelV v u) (hr : ∀ H U, Rp X.K H U v d) (hd : (x == ("__debug__" : Str)) = false := by decide) : SE X w cl W (.Name x pos) (.cst d) :=
  ⟨_, pe_glob hg hm r hd, fun σ H U ρ Q er h => h _ H U (Pst.refl er) (hr H U) fun z => nomatch z⟩
/-! ### texts -/
theorem se_fmt {e : Expr} {t : T} {pos : Pos} (he : SE X w cl W e t) : ∃ te : TE, PE X (.FormattedValue e (-1) none pos) te ∧ ∀ σ H U ρ Q, ER X.K w.fa H U σ ρ →
    Aft ((evE cl t ρ).bind fun p => (get (txtOf p.1)).bind fun y => Res.ok (y, p.2)) (fun y ρ' => ∀ H' U', Pst X.K w.fa σ H U ρ H' U' ρ' → Q (.str y) H') (XcE X.K w W σ H U ρ) → te σ H Q := by
  obtain ⟨te, p, k⟩ := he
  refine ⟨_, pe_fmt p, fun σ H U ρ Q er h => k σ H U ρ _ er (h.bind.mono (fun v ρ1 h x H1 U1 p1 r f => ?_) fun _ _ h => h)⟩
  obtain ⟨y, e1, h⟩ := h.get
  unfold txtOf at e1
  simp only at e1
  split at e1
  · rename_i z
    split at e1 <;> cases e1
    rename_i c
    cases r
    exact .inl ⟨_, rfl, size_le c, h H1 U1 p1⟩
  · rename_i i
    split at e1 <;> cases e1
    rename_i c
    cases r
    exact .inr ⟨_, rfl, of_decide_eq_true c, h H1 U1 p1⟩
  · cases e1
/-- a part of an f-string: a constant text, or a field -/
def SF1 (X : Cx) (w : Wd) (cl : Fun) (W : WX) (e : Expr) (t : T) : Prop := ∃ te : TE, PE X e te ∧ ∀ σ H U ρ Q, ER X.K w.fa H U σ ρ →
  Aft ((evE cl t ρ).bind fun p => (get (txtOf p.1)).bind fun y => Res.ok (y, p.2)) (fun y ρ' => ∀ H' U', Pst X.K w.fa σ H U ρ H' U' ρ' → Q (.str y) H') (XcE X.K w W σ H U ρ) → te σ H Q
theorem sf_fmt {e : Expr} {t : T} {pos : Pos} (he : SE X w cl W e t) : SF1 X w cl W (.FormattedValue e (-1) none pos) t := se_fmt he
theorem sf_str {x : Str} {j : Nat} {pos : Pos} : SF1 X w cl W (.Constant (.str x) j pos) (.cst (.str x)) := by
  refine ⟨_, pe_str, fun σ H U ρ Q er h => ?_⟩
  unfold evE at h
  obtain ⟨y, e1, h⟩ := Aft.get (o := txtOf (.dat (.str x))) (k := fun y => Res.ok (y, ρ)) h
  unfold txtOf at e1
  simp only at e1
  split at e1 <;> cases e1
  exact h H U (Pst.refl er)
def SFs (X : Cx) (w : Wd) (cl : Fun) (W : WX) (es : List Expr) (ts : List T) : Prop := ∃ tes : List TE, PJ X es tes ∧ ∀ σ H U ρ acc Q, ER X.K w.fa H U σ ρ →
  Aft (evFs cl ts acc ρ) (fun y ρ' => ∀ H' U', Pst X.K w.fa σ H U ρ H' U' ρ' → Q y H') (XcE X.K w W σ H U ρ) → tJs tes acc σ H Q
theorem sf_nil : SFs X w cl W [] [] := ⟨[], .nil, fun σ H U ρ acc Q er h => by
  unfold evFs at h
  exact h H U (Pst.refl er)⟩
theorem sf_cons {e : Expr} {es : List Expr} {t : T} {ts : List T} (he : SF1 X w cl W e t) (hs : SFs X w cl W es ts) : SFs X w cl W (e :: es) (t :: ts) := by
  obtain ⟨te, p, k⟩ := he
  obtain ⟨tes, ps, ks⟩ := hs
  refine ⟨te :: tes, .cons p ps, fun σ H U ρ acc Q er h => ?_⟩
  unfold evFs at h
  refine k σ H U ρ _ er ?_
  cases q : evE cl t ρ with
  | stuck => rw [q] at h; exact h
  | exc ex ρ1 => rw [q] at h; exact h
  | ok r =>
    rw [q] at h
    obtain ⟨y, e1, h⟩ := Aft.get (k := fun y => if sizeOk (acc ++ y).length then evFs cl ts (acc ++ y) r.2 else .stuck) h
    simp only [Res.bind_ok]
    rw [e1]
    intro H1 U1 p1
    split at h
    · rename_i c
      exact ⟨y, rfl, size_le c, ks σ H1 U1 r.2 _ _ p1.er (Aft.mono h (fun z ρ2 h H2 U2 p2 => h H2 U2 (p1.trans er p2)) fun _ _ h => h.on er p1)⟩
    · exact h.elim
theorem se_fstr {e1 e2 : Expr} {es : List Expr} {ts : List T} {pos : Pos} (h : SFs X w cl W (e1 :: e2 :: es) ts) : SE X w cl W (.JoinedStr (e1 :: e2 :: es) pos) (.fstr ts) := by
  obtain ⟨tes, p, k⟩ := h
  refine ⟨_, pe_joined p, fun σ H U ρ Q er h => k σ H U ρ _ _ er ?_⟩
  unfold evE at h
  exact h.bind.mono (fun y ρ1 h H1 U1 p1 => h _ H1 U1 p1 (.str y) fun z => nomatch z) fun _ _ h => h
theorem vw_items {K : PySem.W.Frag} {H : Hp} {U : Addr → Prop} {x : V} {d : D} {ds : List D} (h : Vw K H U x d) (e : itemsL d = some ds) : ∃ a vs, x = .ref a ∧ (SqL K H a vs ∨ SqT K H a vs) ∧ Rps K H U vs ds := by
  cases d with
  | list xs =>
    cases e
    obtain ⟨a, vs, rfl, s, r⟩ := h
    exact ⟨a, vs, rfl, .inl (SqL.of s), r⟩
  | tuple xs =>
    cases e
    obtain ⟨a, vs, rfl, s, r⟩ := rp_tup h
    exact ⟨a, vs, rfl, .inr s.sq, r⟩
  | _ => cases e
theorem se_join {o e : Expr} {to t : T} {apos pos : Pos} (ho : SE X w cl W o to) (he : SO X w cl W e t) (hs : starEach [e] X.env = [(false, eval e X.env)] := by rfl) (hbase : attributeBase o "join" X.env (eval o X.env) = eval o X.env := by rfl) (hline : (apos.endLine == pos.line) = true := by rfl) :
    SE X w cl W (.Call (.Attribute o "join" apos) [e] [] pos) (.join to t) := by
  obtain ⟨eo, po, ko⟩ := ho
  obtain ⟨te, p, k⟩ := he
  refine ⟨_, pe_join po p hs hbase hline, fun σ H U ρ Q er h => ko σ H U ρ _ er ?_⟩
  unfold evE at h
  refine h.bind.mono (fun v ρ1 h x H1 U1 p1 r f => ?_) fun _ _ h => h
  obtain ⟨s, e1, h⟩ := h.get
  have e1' : keyOf v = some s := e1
  rw [keyOf_some e1'] at r
  cases r
  refine ⟨⟨s, rfl⟩, k σ H1 U1 ρ1 _ p1.er (h.bind.mono (fun q ρ2 h y H2 U2 p2 r2 => ?_) fun _ _ h => h.on er p1)⟩
  obtain ⟨d, e2, h⟩ := h.get
  obtain ⟨z, e3, h⟩ := h.get
  unfold join2 at e3
  obtain ⟨ds, e4, e3⟩ := Option.bind_eq_some_iff.mp e3
  obtain ⟨ys, e5, e3⟩ := Option.bind_eq_some_iff.mp e3
  split at e3
  case isFalse => cases e3
  rename_i c
  cases e3
  obtain ⟨a, vs, rfl, hq, rr⟩ := vw_items (r2.vw p2.er e2) e4
  have := strs_of e5 rr
  subst this
  exact ⟨s, a, ys, rfl, rfl, hq, of_decide_eq_true c, h _ H2 U2 (p1.trans er p2) (.str _) fun z => nomatch z⟩
/-! ### an own dict -/
theorem mergeK_app {κ : Type} [DecidableEq κ] : ∀ {more kvs : List (κ × V)}, (∀ p ∈ more, ∀ q ∈ kvs, q.1 ≠ p.1) → (more.map (·.1)).Nodup → more.foldl (fun acc kv => putK acc kv.1 kv.2) kvs = kvs ++ more
  | [], kvs, _, _ => by simp
  | p :: r, kvs, h, n => by
    have e : putK kvs p.1 p.2 = kvs ++ [p] := by
      unfold putK
      rw [if_neg]
      intro z
      obtain ⟨q, hq, e⟩ := List.any_eq_true.mp z
      exact h p (List.mem_cons_self ..) q hq (of_decide_eq_true e)
    rw [List.foldl_cons, e, mergeK_app (kvs := kvs ++ [p]) (fun u hu q hq => ?_) (List.nodup_cons.mp n).2, List.append_assoc]
    · rfl
    · rcases (List.mem_append.mp hq) with hq | hq
      · exact h u (List.mem_cons_of_mem _ hu) q hq
      · cases List.mem_singleton.mp hq
        intro z
        exact (List.nodup_cons.mp n).1 (List.mem_map.mpr ⟨u, hu, z.symm⟩)
def SQ (X : Cx) (w : Wd) (cl : Fun) (W : WX) (keys : List (Option Expr)) (es : List Expr) (ks : List Str) (ts : List T) : Prop := ks.length = ts.length ∧ ∃ trs, (∀ pos, PPs X pos keys es trs) ∧ ∀ σ H U ρ Q, ER X.K w.fa H U σ ρ →
  Aft (evDs cl ts ρ) (fun ds ρ' => ∀ xs H' U', Pst X.K w.fa σ H U ρ H' U' ρ' → Rps X.K H' U' xs ds → Q ((ks.map V.str).zip xs) H') (XcE X.K w W σ H U ρ) → tPairs trs σ H Q
theorem sq_nil : SQ X w cl W [] [] [] [] := ⟨rfl, [], fun _ => pps_nil, fun σ H U ρ Q er h => by
  unfold evDs at h
  exact h [] H U (Pst.refl er) .nil⟩
theorem sq_cons {k : Str} {e : Expr} {keys : List (Option Expr)} {es : List Expr} {ks : List Str} {t : T} {ts : List T} {j : Nat} {pos : Pos} (he : SE X w cl W e t) (hs : SQ X w cl W keys es ks ts) : SQ X w cl W (some (.Constant (.str k) j pos) :: keys) (e :: es) (k :: ks) (t :: ts) := by
  obtain ⟨ea, pa, ka⟩ := he
  obtain ⟨hl, trs, ps, kb⟩ := hs
  refine ⟨by simp [hl], _, fun p => pps_cons pe_str pa (ps p), fun σ H U ρ Q er h => ka σ H U ρ _ er ?_⟩
  unfold evDs at h
  refine h.bind.mono (fun v ρ1 h x H1 U1 p1 r f => ?_) fun _ _ h => h
  obtain ⟨d, e1, h⟩ := h.get
  obtain ⟨U2, p2, r2⟩ := give er p1 r f e1
  refine kb σ H1 U2 ρ1 _ p2.er (h.bind.mono (fun ds ρ2 h xs H3 U3 p3 r3 => ?_) fun _ _ h => h.on er p2)
  exact h (x :: xs) H3 U3 (p2.trans er p3) (.cons (r2.sta (p3.sta p2.er)) r3)
theorem kvr_zip {K : PySem.W.Frag} {H : Hp} {U : Addr → Prop} : ∀ {ks : List Str} {xs : List V} {ds : List D}, Rps K H U xs ds → KvR K H U ((ks.map (Sum.inr : Str → Key)).zip xs) (ks.zip ds)
  | [], _, _, _ => .nil
  | _ :: _, _, _, .nil => .nil
  | k :: ks, _, _, .cons h r => .cons h (kvr_zip r)
theorem zip_kV : ∀ (ks : List Str) (xs : List V), (ks.map V.str).zip xs = ((ks.map (Sum.inr : Str → Key)).zip xs).map fun kv => (kV kv.1, kv.2)
  | [], _ => rfl
  | _ :: _, [] => rfl
  | k :: ks, x :: xs => by simp [zip_kV ks xs, kV]
theorem zip_keys : ∀ (ks : List Str) (xs : List V), ks.length = xs.length → ((ks.map (Sum.inr : Str → Key)).zip xs).map (·.1) = ks.map Sum.inr
  | [], _, _ => rfl
  | _ :: _, [], h => (by simp at h)
  | k :: ks, x :: xs, h => by simp [zip_keys ks xs (by simpa using h)]
theorem pst_upd {K : PySem.W.Frag} {σ : L2.St} {H H1 : Hp} {U U1 : Addr → Prop} {ρ ρ1 : Env} {D : Addr} {o : HO} (er : ER K w.fa H U σ ρ) (p : Pst K w.fa σ H U ρ H1 U1 ρ1) (u : U1 D) (hD : H D = none) (ho : OwnO o) : Pst K w.fa σ H U ρ (upd H1 D o) U1 ρ1 := by
  have n : ¬ Hd ρ1 σ D := fun z => er.dom.nn (er.hd (p.hdd D z)) hD
  exact ⟨er_upd p.er u n ho, p.go.trans (own' := fun a => a = D) ⟨fun a o h n _ => by rw [upd_ne n]; exact h, fun a h _ => h, fun a h => .inl h, fun a h => (nw_upd ho.nt h).2⟩ (fun a h => .inr (.of (by rw [h]; exact hD))) er.dom, p.own, p.held, p.set⟩
theorem se_dct {keys : List (Option Expr)} {es : List Expr} {ks : List Str} {ts : List T} {pos : Pos} (h : SQ X w cl W keys es ks ts) (hn : ks.Nodup) (hall : keys.all (·.isSome) = true := by rfl) (hl : keys.length = es.length := by rfl) (h0 : keys ≠ [] := by simp) (h15 : keys.length ≤ 15 := by decide) (k15 : ks.length ≤ 15 := by decide) :
    SE X w cl W (.Dict keys es pos) (.dct ks ts) := by
  obtain ⟨hkl, trs, ps, k⟩ := h
  refine ⟨_, pe_disp (ps pos) hall hl h0 h15, fun σ H U ρ Q er h p hp => ?_⟩
  have p0 := Pst.newU (o := .dK []) er hp own_dK
  have no : ¬ Hd ρ σ p := ow_none er hp
  refine k σ _ _ ρ _ p0.er ?_
  unfold evE at h
  refine (h.bind.and (P := fun ds => ds.length = ts.length) fun ds ρ' e => len_ev ts ρ ds ρ' e).mono (fun ds ρ2 ⟨hlen, h⟩ xs H2 U2 pv r => ?_) fun _ _ h => h.on er p0
  have no' : ¬ Ow ρ σ p := fun z => no z.hd
  have kp := pv.go.keep p _ upd_same no' nt_dK
  have up := pv.go.u1 p (.inr rfl) no'
  have pt := p0.trans er pv
  have lx : ks.length = xs.length := by rw [r.len, hlen, hkl]
  have mk : mergeK [] ((ks.map (Sum.inr : Str → Key)).zip xs) = (ks.map (Sum.inr : Str → Key)).zip xs := by
    unfold mergeK
    rw [mergeK_app (fun _ _ _ z => by cases z) (by rw [zip_keys ks xs lx]; exact List.Pairwise.map _ (fun a b n z => n (Sum.inr.inj z)) hn)]
    rfl
  refine ⟨kp, _, zip_kV ks xs, ?_, ?_⟩
  · rw [List.length_zip, List.length_map]
    omega
  · rw [mk]
    have pf := pst_upd (o := .dK ((ks.map (Sum.inr : Str → Key)).zip xs)) er pt up hp own_dK
    have s : Sta H2 U2 (upd H2 p (.dK ((ks.map (Sum.inr : Str → Key)).zip xs))) U2 := ⟨fun a ob z n _ => by rw [upd_ne fun q => n (by rw [q]; exact up)]; exact z, fun a z => .inl z⟩
    have h' : OkE X.K w σ H U ρ Q (.dct (ks.zip ds)) ρ2 := h
    exact h' _ _ U2 pf ⟨p, _, rfl, up, upd_same, (kvr_zip r).sta s⟩ fun _ a z => by
      cases z
      exact ⟨fun z => no (pt.hdd p z), .of hp⟩
theorem lookD_some {ρ : Env} {i : Nat} {v : Vl} {o : Option D} (h : lookD ρ i v = some o) : ∃ k kvs, v = .dat (.str k) ∧ (ρ[i]? = some (some (.dct kvs)) ∨ ρ[i]? = some (some (.fdct kvs))) ∧ o = valD kvs k := by
  unfold lookD at h
  split at h
  · rename_i k kvs e1 e2
    cases h
    exact ⟨k, kvs, keyOf_some e1, .inl e2, rfl⟩
  · rename_i k kvs e1 e2
    cases h
    exact ⟨k, kvs, keyOf_some e1, .inr e2, rfl⟩
  · cases h
theorem ER.dict {K : PySem.W.Frag} {fa : Fa} {H : Hp} {U : Addr → Prop} {σ : L2.St} {ρ : Env} {i : Nat} {kvs : List (Str × D)} (er : ER K fa H U σ ρ) (h : ρ[i]? = some (some (.dct kvs)) ∨ ρ[i]? = some (some (.fdct kvs))) : ∃ x, σ[i]? = some (some x) ∧ ∃ a ws, x = .ref a ∧ H a = some (.dK ws) ∧ KvR K H U ws kvs := by
  rcases h with h | h
  · obtain ⟨x, e, a, ws, e1, _, e2, e3⟩ := er.val i _ h
    exact ⟨x, e, a, ws, e1, e2, e3⟩
  · obtain ⟨x, e, a, ws, e1, _, e2, e3⟩ := er.val i _ h
    exact ⟨x, e, a, ws, e1, e2, e3⟩
theorem se_ixd {i : Nat} {x : Str} {ke : Expr} {tk : T} {pos pos' : Pos} (G : GC X W) (hi : X.N[i]? = some x) (hv : Vis X.env.scope x) (hk : SE X w cl W ke tk) (hs : NoSl ke := by first | exact fun _ _ => rfl | rfl)
    (hd : (x == ("__debug__" : Str)) = false := by decide) (hcd : (x == ("__classdict__" : Str)) = false := by decide) : SE X w cl W (.Subscript (.Name x pos') ke pos) (.ixd i tk) := by
  obtain ⟨te, p, k⟩ := hk
  refine ⟨_, pe_dget (by have := G.room; omega) (pe_var hi hv hd hcd) p hs, fun σ H U ρ Q er h => ?_⟩
  unfold evE at h
  split at h
  · rename_i kvs0 e0
    obtain ⟨y0, e1, r0⟩ := er.val i _ e0
    refine ⟨_, e1, k σ H U ρ _ er (h.bind.mono (fun v ρ1 h y H1 U1 p1 r f => ?_) fun _ _ h => h)⟩
    obtain ⟨o, e2, h2⟩ := h.get
    obtain ⟨d, e3, h3⟩ := h2.get
    have hq : OkE X.K w σ H U ρ Q (.dat d) ρ1 := h3
    clear h3 h2
    obtain ⟨ks, kvs, rfl, e4, rfl⟩ := lookD_some e2
    cases r
    obtain ⟨y1, e5, r1⟩ := p1.er.dict e4
    rw [e1] at e5
    cases e5
    obtain ⟨a, ws, rfl, hw, rr⟩ := r1
    have g := rr.get (k := ks)
    rw [e3] at g
    obtain ⟨v', g1, g2⟩ := g
    refine ⟨a, v', rfl, ?_, hq _ H1 U1 p1 g2 fun z => nomatch z⟩
    rw [← g1]
    exact DGet.k (k := .inr ks) hw
  · rename_i kvs0 e0
    obtain ⟨y0, e1, r0⟩ := er.val i _ e0
    refine ⟨_, e1, k σ H U ρ _ er (h.bind.mono (fun v ρ1 h y H1 U1 p1 r f => ?_) fun _ _ h => h)⟩
    obtain ⟨o, e2, h2⟩ := h.get
    obtain ⟨d, e3, h3⟩ := h2.get
    have hq : OkE X.K w σ H U ρ Q (.dat d) ρ1 := h3
    clear h3 h2
    obtain ⟨ks, kvs, rfl, e4, rfl⟩ := lookD_some e2
    cases r
    obtain ⟨y1, e5, r1⟩ := p1.er.dict e4
    rw [e1] at e5
    cases e5
    obtain ⟨a, ws, rfl, hw, rr⟩ := r1
    have g := rr.get (k := ks)
    rw [e3] at g
    obtain ⟨v', g1, g2⟩ := g
    refine ⟨a, v', rfl, ?_, hq _ H1 U1 p1 g2 fun z => nomatch z⟩
    rw [← g1]
    exact DGet.k (k := .inr ks) hw
  · exact h.elim
end
end Pv
set_option Elab.async false
set_option linter.all false
set_option maxRecDepth 100000
set_option maxHeartbeats 2100000
namespace Pv
open PySem L2 PyProof.Rows
section
variable {X : Cx} {w : Wd} {cl : Fun} {W : WX}
theorem se_rngt {a : Expr} {ta : T} {p p2 pos pos2 : Pos} (hc : X.calm = true) (ha : SO X w cl W a ta) (hg : Gl X "tuple") (hm : X.mg "tuple" = none) (hg2 : Gl X "range") (hm2 : X.mg "range" = none)
    (he : starEach [a] X.env = (false, eval a X.env) :: starEach [] X.env := by rfl) : SE X w cl W (.Call (.Name "tuple" p) [.Call (.Name "range" p2) [a] [] pos2] [] pos) (.blt .rngt ta) := by
  obtain ⟨ea, pa, ka⟩ := ha
  refine ⟨_, pe_tupRg hc hg hm (prg_1 hg2 hm2 pa he), fun σ H U ρ Q er h => ka σ H U ρ _ er ?_⟩
  unfold evE at h
  refine h.bind.mono (fun o1 ρ1 h x H1 U1 p1 r1 => ?_) fun _ _ h => h
  obtain ⟨d, e1, h⟩ := h.get
  obtain ⟨v, e2, h⟩ := h.get
  have hx := r1.vw p1.er e1
  have h' := OkE.on h er p1
  unfold blt1 at e2
  split at e2 <;> try cases e2
  all_goals first | contradiction | skip
  split at e2 <;> try cases e2
  rename_i c
  obtain ⟨c1, c2⟩ := of_decide_eq_true c
  refine ⟨_, rp_int hx, RgOk.of_le (by omega) c2 (by omega) c1, fun p hp => ?_⟩
  refine h'.newT p1.er ?_ hp
  unfold rgV nums
  rw [Int.sub_zero]
  exact rps_nums _ _ _ fun k => by
    rw [Int.zero_add]
    exact .int _
/-! ### xs[i::k] -/
theorem vals_pick {xs : List V} {us : List Value} (h : Vals xs us) : ∀ is : List Nat, Vals (is.filterMap fun i => xs[i]?) (is.filterMap fun i => us[i]?)
  | [] => .nil
  | i :: is => by
    rw [List.filterMap_cons, List.filterMap_cons]
    have hl := h.length
    by_cases q : i < xs.length
    · obtain ⟨u, e, r⟩ := h.get (List.getElem?_eq_getElem q)
      rw [List.getElem?_eq_getElem q, e]
      exact .cons r (vals_pick h is)
    · rw [List.getElem?_eq_none (by omega), List.getElem?_eq_none (by omega)]
      exact vals_pick h is
theorem rps_pick {K : PySem.W.Frag} {H : Hp} {U : Addr → Prop} {xs : List V} {ds : List D} (h : Rps K H U xs ds) : ∀ is : List Nat, Rps K H U (is.filterMap fun i => xs[i]?) (is.filterMap fun i => ds[i]?)
  | [] => .nil
  | i :: is => by
    rw [List.filterMap_cons, List.filterMap_cons]
    have hl := h.len
    by_cases q : i < xs.length
    · obtain ⟨u, e, r⟩ := h.getV (List.getElem?_eq_getElem q)
      rw [List.getElem?_eq_getElem q, e]
      exact .cons r (rps_pick h is)
    · rw [List.getElem?_eq_none (by omega), List.getElem?_eq_none (by omega)]
      exact rps_pick h is
theorem len_pick {α : Type} (b : Int × Int × Int) (xs : List α) : (pickB b xs).length ≤ (sliceRange b.1 b.2.1 b.2.2).length := List.length_filterMap_le ..
def tSls (K : PySem.W.Frag) (k : Nat) (te ti : TE) : TE := fun σ H Q => te σ H fun x H1 => ti σ H1 fun y H2 => ∃ a xs i, x = .ref a ∧ y = .int i ∧ SqL K H2 a xs ∧ k ≠ 0 ∧
  ∀ p, H2 p = none → Q (.ref p) (upd H2 p (.lst (pickB (sliceBounds (some i) none (some (k : Int)) xs.length) xs)))
theorem pe_sls {e ie : Expr} {te ti : TE} {j k : Nat} {p1 p3 pos : Pos} (he : PE X e te) (hi : PE X ie ti) : PE X (.Subscript e (.Slice (some ie) none (some (.Constant (.int (k : Nat)) j p1)) p3) pos) (tSls X.K k te ti) := by
  refine ⟨fun pins s σ H Q I hq0 => ?_⟩
  have h := hq0
  refine Subscript_ (thn (he.run pins s σ H _ I h) fun v s1 z => ?_)
  obtain ⟨x, H1, I1, r1, q1⟩ := z
  refine wpAny_Slice ?_
  rw [evalPart_some]
  refine thn (hi.run pins s1 σ H1 _ I1 q1) fun u0 s2 ⟨y, H2, I2, r2, a, xs, i, ex, ey, hx, k0, q⟩ => ?_
  subst ey
  obtain ⟨ti0, rfl⟩ := r2
  have pl : IsPart (.int i ti0) (some i) := .int i ti0
  subst ex
  cases r1
  refine thn (po_none.run pins s2 σ H2 (fun o J => o = none ∧ J = H2) I2 ⟨rfl, rfl⟩) fun vu s3 z => ?_
  obtain ⟨u, H3, I3, pu, eu, e3⟩ := z
  subst eu e3
  refine thn ((po_some (pe_int (i := (k : Int)))).run pins s3 σ H3 (fun o H4 => o = some (k : Int) ∧ H4 = H3) I3 ⟨k, rfl, rfl, rfl⟩) fun vs s4 ⟨o, H4, I4, ps, eo, e4⟩ => ?_
  subst eo e4
  have I5 : Inv X pins σ H4 { s4 with heap := s4.heap.push { cls := .type "slice", data := .fields #[.int i ti0, vu, vs] } } :=
    I4.kept (t' := s4.toks) fun b ob q => Heap.get?_push_of_some _ q
  obtain ⟨its, r, ht, hl⟩ := I5.list hx
  have hlen := r.length
  refine tail_any (ops := [.ref a, .ref s4.heap.objs.size]) ht.isList.typeIs
    (PySem.slot_list_getitem.lookup) ?_ (by with_unfolding_all rfl)
  refine wpAny_getItem_list_slice ht.isList (Heap.IsSliceOf.new _ (.int i ti0) vu vs) pl pu ps (by simpa using k0) ?_ (by rw [List.size_toArray]; omega)
  have e : slicePick its.toArray (some i) none (some (k : Int)) = (pickB (sliceBounds (some i) none (some (k : Int)) xs.length) its).toArray := by
    unfold slicePick pickB
    rw [List.size_toArray, hlen]
    congr 1
    refine congrArg (fun g => List.filterMap g _) (funext fun x => ?_)
    simp
  have vp := vals_pick r (sliceRange (sliceBounds (some i) none (some (k : Int)) xs.length).1 (sliceBounds (some i) none (some (k : Int)) xs.length).2.1 (sliceBounds (some i) none (some (k : Int)) xs.length).2.2)
  have hz : (pickB (sliceBounds (some i) none (some (k : Int)) xs.length) xs).length ≤ sizeLine := by
    have z := slicePick_size_le its.toArray (some i) none (some (k : Int))
    rw [e, List.size_toArray, List.size_toArray] at z
    have z2 : (pickB (sliceBounds (some i) none (some (k : Int)) xs.length) xs).length = (pickB (sliceBounds (some i) none (some (k : Int)) xs.length) its).length := vp.length
    omega
  refine ⟨.ref _, _, I5.laid (t' := s4.toks) (o := .lst (pickB (sliceBounds (some i) none (some (k : Int)) xs.length) xs)) (fun b ob q => Heap.get?_push_of_some _ q) (Nat.le_refl _) ?_, rfl, q _ (I5.hok.fresh (Nat.le_refl _))⟩
  refine ⟨hz, pickB (sliceBounds (some i) none (some (k : Int)) xs.length) its, 0, vp, ?_⟩
  rw [Heap.get?_push_size _ rfl, e]
theorem se_sls {e ie : Expr} {t ti : T} {j k : Nat} {p1 p3 pos : Pos} (he : SO X w cl W e t) (hi : SO X w cl W ie ti) : SE X w cl W (.Subscript e (.Slice (some ie) none (some (.Constant (.int (k : Nat)) j p1)) p3) pos) (.sls t ti k) := by
  obtain ⟨te, p, kk⟩ := he
  obtain ⟨tj, p', kk'⟩ := hi
  refine ⟨_, pe_sls p p', fun σ H U ρ Q er h => kk σ H U ρ _ er ?_⟩
  unfold evE at h
  refine h.bind.mono (fun o ρ1 h x H1 U1 p1 r => kk' σ H1 U1 ρ1 _ p1.er ?_) fun _ _ h => h
  refine h.bind.mono (fun o2 ρ2 h y H2 U2 p2 r2 => ?_) fun _ _ h => h.on er p1
  obtain ⟨d, e1, h⟩ := h.get
  obtain ⟨d2, e2, h⟩ := h.get
  obtain ⟨v, e3, h⟩ := h.get
  have v1 := (r.on p2 p1.er).vw p2.er e1
  have v2 := r2.vw p2.er e2
  cases d with
  | list ds =>
   cases d2 with
   | int i =>
    unfold steps2 at e3
    simp only at e3
    split at e3 <;> cases e3
    rename_i k0
    obtain ⟨a, vs, rfl, s, rr⟩ := v1
    refine ⟨a, vs, i, rfl, rp_int v2, SqL.of s, k0, fun p hp => ?_⟩
    have hl := rr.len
    refine (OkE.on h er (p1.trans er p2)).newL p2.er ?_ hp
    rw [← hl]
    exact rps_pick rr _
   | _ => cases e3
  | _ => cases e3
/-! ### enumerate(a list) -/
theorem enumD_get : ∀ (ds : List D) (n : Int) (i : Nat), (enumD n ds)[i]? = ds[i]?.map fun d => .tuple [.int (n + (i : Int)), d]
  | [], n, i => by simp [enumD]
  | d :: ds, n, 0 => by simp [enumD]
  | d :: ds, n, i + 1 => by
    have e : n + 1 + (i : Int) = n + ((i + 1 : Nat) : Int) := by omega
    unfold enumD
    rw [List.getElem?_cons_succ, List.getElem?_cons_succ, enumD_get ds (n + 1) i, e]
theorem enumD_len : ∀ (ds : List D) (n : Int), (enumD n ds).length = ds.length
  | [], _ => rfl
  | _ :: ds, n => by unfold enumD; rw [List.length_cons, List.length_cons, enumD_len ds]
theorem wk_enum {K : PySem.W.Frag} {a : Addr} {ds : List D} : Wk K (Ite K a) (fun H U => ∃ vs, H a = some (.lst vs) ∧ Rps K H U vs ds) (enumD 0 ds) := fun i H U ⟨vs, h, r⟩ dom => by
  have hl := r.len
  rw [enumD_len]
  refine ⟨fun hi => ?_, fun hi => ⟨vs, SqL.of h, by omega⟩⟩
  rw [← hl] at hi
  refine ⟨⟨vs, vs[i], SqL.of h, List.getElem?_eq_getElem hi⟩, fun x H' hy => ?_⟩
  obtain ⟨T, y, rfl, hT, rfl, k⟩ := hy
  obtain ⟨d, e1, e2⟩ := r.getV (k vs (SqL.of h))
  have g : Grow H (upd H T (.tup [.int (i : Nat), y])) := fun b o z => by rw [upd_ne (ne_of_none z hT)]; exact z
  refine ⟨g, .tuple [.int (0 + (i : Int)), d], by rw [enumD_get, e1]; rfl, ?_⟩
  have s : Sta H U (upd H T (.tup [.int (i : Nat), y])) U := ⟨fun b o z _ _ => g b o z, fun b z => .inl z⟩
  rw [Int.zero_add]
  exact .tup (.inl ⟨.inl upd_same, fun u => dom T u hT⟩) (.cons (.int _) (.cons (e2.sta s) .nil))
theorem si_enum {e : Expr} {t : T} {elts : List Expr} {kk : Nat} {p pos tpos : Pos} (hg : Gl X "enumerate") (hm : X.mg "enumerate" = none) (h : SO X w cl W e t) (hs : starEach [e] X.env = [(false, eval e X.env)] := by rfl) :
    SI X w cl W (.Tuple elts kk tpos) (.Call (.Name "enumerate" p) [e] [] pos) t .enum := by
  obtain ⟨te, pe, k⟩ := h
  refine ⟨_, pi_enum hg hm (pa_cons pe pa_nil hs) hs, fun σ H U ρ R er h => k σ H U ρ _ er ?_⟩
  refine h.mono (fun o ρ' h x H' U' p1 r => ?_) fun _ _ h => h
  obtain ⟨d, ds, e1, e2, h⟩ := h
  unfold itemsOf at e2
  split at e2 <;> try cases e2
  all_goals first | contradiction | skip
  split at e2 <;> cases e2
  rename_i c
  obtain ⟨a, vs, rfl, s, rr⟩ := r.vw p1.er e1
  have no := lock_no p1.er r e1
  exact ⟨a, vs, rfl, SqL.of s, h _ _ H' U' p1 wk_enum (fun H2 U2 g => ⟨vs, (Src.go g).keep a _ s no nt_lst, rr.sta (g.sta fun b hb => p1.er.ow (lock_sub hb))⟩) (by rw [enumD_len]; exact line_le (size_le c))⟩
end
end Pv
set_option Elab.async false
set_option linter.all false
set_option maxRecDepth 100000
set_option maxHeartbeats 2100000
/-! dict(pairs), and one that is asked at once. -/
namespace Pv
open PySem L2 PyProof.Rows
section
variable {K : PySem.W.Frag} {w : Wd} {σ : L2.St} {H : Hp} {U : Addr → Prop} {ρ : Env} {Q : VK}
theorem OkE.newD {ws : List (Key × V)} {kvs : List (Str × D)} {p : Addr} (h : OkE K w σ H U ρ Q (.dct kvs) ρ) (er : ER K w.fa H U σ ρ) (r : KvR K H U ws kvs) (hp : H p = none) : Q (.ref p) (upd H p (.dK ws)) :=
  h _ _ (addU U p) (Pst.newU er hp own_dK) ⟨p, ws, rfl, .inr rfl, upd_same, r.sta (Sta.new hp)⟩ fun _ a e => by
    cases e
    exact ⟨ow_none er hp, .of hp⟩
theorem KvR.merge {more : List (Str × D)} {wm : List (Key × V)} (r : KvR K H U wm more) : ∀ {ws : List (Key × V)} {kvs : List (Str × D)}, KvR K H U ws kvs → KvR K H U (mergeK ws wm) (mergeD kvs more) := by
  induction r with
  | nil => intro ws kvs h; exact h
  | cons r t ih => intro ws kvs h; exact ih (h.put r)
theorem kv_of : ∀ {xs : List D} {kvs : List (Str × D)} {vs : List V}, kvOf xs = some kvs → Rps K H U vs xs → ∃ (ps : List Addr) (ws : List (Key × V)), vs = ps.map V.ref ∧ Paired (fun p kv => SqT K H p [kV kv.1, kv.2]) ps ws ∧ KvR K H U ws kvs
  | [], kvs, vs, h, r => by
    cases h
    cases r
    exact ⟨[], [], rfl, .nil, .nil⟩
  | d :: ds, kvs, vs, h, r => by
    cases r with
    | cons r1 r2 =>
      unfold kvOf at h
      split at h
      · rename_i heq; cases heq
      · rename_i k x rest heq
        cases heq
        obtain ⟨kvs', e1, rfl⟩ := Option.map_eq_some_iff.mp h
        obtain ⟨ps, ws, e2, p, kr⟩ := kv_of e1 r2
        obtain ⟨a, us, rfl, s, ru⟩ := rp_tup r1
        cases ru with
        | cons q1 q2 =>
          cases q2 with
          | cons q2 q3 =>
            cases q3
            cases q1
            exact ⟨a :: ps, (.inr k, _) :: ws, by rw [e2]; rfl, .cons s.sq p, .cons q2 kr⟩
      · cases h
end
section
variable {X : Cx} {w : Wd} {cl : Fun} {W : WX}
theorem blt_dict (hc : X.calm = true) : BltOk X w .dict (.type "dict") := ⟨_, call_dictP hc, fun σ H U ρ x d v Q er hx hv h => by
  unfold blt1 at hv
  split at hv <;> try cases hv
  all_goals first | contradiction | skip
  obtain ⟨kvs, e1, rfl⟩ := Option.map_eq_some_iff.mp hv
  obtain ⟨a, vs, rfl, s, r⟩ := hx
  obtain ⟨ps, ws, rfl, p, kr⟩ := kv_of e1 r
  exact ⟨a, ps, ws, rfl, SqL.of s, p, fun p hn => h.newD er (kr.merge .nil) hn⟩⟩
theorem se_dget {e ke : Expr} {t tk : T} {pos : Pos} (G : GC X W) (he : SE X w cl W e t) (hk : SE X w cl W ke tk) (hs : NoSl ke := by first | exact fun _ _ => rfl | rfl) : SE X w cl W (.Subscript e ke pos) (.dget t tk) := by
  obtain ⟨ta, pa, ka⟩ := he
  obtain ⟨te, p, k⟩ := hk
  refine ⟨_, pe_dget (by have := G.room; omega) pa p hs, fun σ H U ρ Q er h => ka σ H U ρ _ er ?_⟩
  unfold evE at h
  refine h.bind.mono (fun v ρ1 h x H1 U1 p1 r f => ?_) fun _ _ h => h
  cases v with
  | dct kvs =>
    obtain ⟨a, ws, rfl, u, hw, rr⟩ := r
    have h2 : Aft ((evE cl tk ρ1).bind fun q => (get (keyOf q.1)).bind fun s => (get (valD kvs s)).bind fun d => .ok (.dat d, q.2)) (OkE X.K w σ H U ρ Q) (XcE X.K w W σ H U ρ) := h
    refine k σ H1 U1 ρ1 _ p1.er (h2.bind.mono (fun v2 ρ2 h y H2 U2 p2 r2 f2 => ?_) fun _ _ h => h.on er p1)
    obtain ⟨s, e3, h⟩ := h.get
    obtain ⟨d, e4, h⟩ := h.get
    have hq : OkE X.K w σ H U ρ Q (.dat d) ρ2 := h
    have ev := keyOf_some e3
    subst ev
    have ey : y = .str s := rp_str r2
    subst ey
    have no : ¬ Ow ρ1 σ a := fun z => (f rfl a rfl).1 z.hd
    have hw2 := p2.go.keep a _ hw no nt_dK
    have st : Sta H1 U1 H2 U2 := p2.go.sta fun b hb => p1.er.ow hb
    have rr2 := rr.sta st
    have g := rr2.get (k := s)
    rw [e4] at g
    obtain ⟨v', g1, g2⟩ := g
    refine ⟨a, v', rfl, ?_, hq _ H2 U2 (p1.trans er p2) g2 fun z => nomatch z⟩
    rw [← g1]
    exact DGet.k (k := .inr s) hw2
  | dat _ => exact h.elim
  | fn _ => exact h.elim
  | lst _ => exact h.elim
  | lck _ => exact h.elim
  | scr _ => exact h.elim
  | err _ _ => exact h.elim
  | fdct _ => exact h.elim
/-- max(a, b) of whole numbers -/
theorem se_mx {a b : Expr} {ta tb : T} {x : Str} {p pos : Pos} (hc : X.calm = true) (ha : SE X w cl W a ta) (hb : SE X w cl W b tb) (hg : Gl X x) (hm : X.mg x = none) (hv : bootBuiltins x = some (.builtin "max")) (hn : x ≠ "__name__" := by decide) (hdb : (x == ("__debug__" : Str)) = false := by decide)
    (h1 : starEach [a, b] X.env = (false, eval a X.env) :: starEach [b] X.env := by rfl) (h2 : starEach [b] X.env = (false, eval b X.env) :: starEach [] X.env := by rfl) (hpl : (backTo pos (starEach [b] X.env)).any (·.1) = false := by rfl) : SE X w cl W (.Call (.Name x p) [a, b] [] pos) (.mx ta tb) := by
  obtain ⟨ea, pa, ka⟩ := ha
  obtain ⟨eb, pb, kb⟩ := hb
  refine ⟨_, pe_callB (call_max2 hc) hg hm hv (pa_cons pa (pa_cons pb pa_nil h2) h1) hn hdb h1 hpl, fun σ H U ρ Q er h => ka σ H U ρ _ er ?_⟩
  unfold evE at h
  refine h.bind.mono (fun v ρ1 h x H1 U1 p1 r f => ?_) fun _ _ h => h
  refine kb σ H1 U1 ρ1 _ p1.er (h.bind.mono (fun v2 ρ2 h y H2 U2 p2 r2 f2 => ?_) fun _ _ h => h.on er p1)
  split at h
  · rename_i i j e1 e2
    have e1' : v = .dat (.int i) := e1
    have e2' : v2 = .dat (.int j) := e2
    subst e1' e2'
    have ex : x = .int i := rp_int r
    have ey : y = .int j := rp_int r2
    subst ex ey
    have hq : OkE X.K w σ H U ρ Q (.dat (.int (if j > i then j else i))) ρ2 := h
    exact ⟨i, j, rfl, hq _ H2 U2 (p1.trans er p2) (.int _) fun z => nomatch z⟩
  · exact h.elim
end
end Pv
set_option Elab.async false
set_option linter.all false
set_option maxRecDepth 100000
set_option maxHeartbeats 2100000
/-! max(e, default=d) of whole numbers. -/
namespace Pv
open PySem L2 PyProof.Rows PySem.W
def rMaxd (K : PySem.W.Frag) : List V → List V → Hp → VK → Prop := fun vs zs H Q => ∃ (a : Addr) (ns : List Int) (j : Int), vs = [V.ref a] ∧ zs = [V.int j] ∧ SqL K H a (ns.map V.int) ∧ Q (.int (maxZ j ns)) H
section
variable {X : Cx}
theorem alike_ints (ns : List Int) : AlikeAll (ns.map PyData.int) := by
  refine ⟨fun x hx y hy => ?_, fun x hx e => ?_⟩
  · obtain ⟨i, _, rfl⟩ := List.mem_map.mp hx
    obtain ⟨j, _, rfl⟩ := List.mem_map.mp hy
    unfold alike
    rfl
  · obtain ⟨i, _, rfl⟩ := List.mem_map.mp hx
    cases e
theorem depth_ints0 : ∀ ns : List Int, PyData.depthAll (ns.map PyData.int) = 0
  | [] => by
    rw [List.map_nil]
    unfold PyData.depthAll
    rfl
  | i :: r => by
    rw [List.map_cons]
    unfold PyData.depthAll PyData.depth
    rw [depth_ints0 r]
    rfl
theorem cr_maxd (hc : X.calm = true) (hu : X.A.units + 64 < cLine) : CallRK X (.builtin "max") ["default"] (rMaxd X.K) := by
  intro pins s σ H vs zs us ws Q I r1 r2 h
  obtain ⟨a, ns, j, rfl, rfl, hs, q⟩ := h
  obtain ⟨its, rv, hl, _⟩ := I.list hs
  rw [Vals.ref1 r1]
  obtain ⟨u, rfl, ⟨t, rfl⟩⟩ := vals1 r2
  refine max_list_default (I.ok.hd hc) hl.isList (ints_readAll s.heap (by simpa using rv.ints)) (alike_ints ns) (by rw [depth_ints0]; omega) (fun e h' tk k => ?_) fun y ys i v h' tk bs e hv r k => ?_
  · cases ns with
    | nil => exact ⟨.int j, H, I.kept k, ⟨_, rfl⟩, q⟩
    | cons n r => cases e
  · cases ns with
    | nil => cases e
    | cons n ms =>
      rw [List.map_cons] at e
      injection e with e1 e2
      subst e1 e2
      rw [maxD_ints] at r
      obtain ⟨t', rfl, _⟩ := reads_int_inv r
      exact ⟨.int (maxZ j (n :: ms)), H, I.kept k, ⟨_, rfl⟩, q⟩
end
section
variable {X : Cx} {w : Wd} {cl : Fun} {W : WX}
theorem vints_of {K : PySem.W.Frag} {H : Hp} {U : Addr → Prop} : ∀ {ds : List D} {ns : List Int} {vs : List V}, intsOf ds = some ns → Rps K H U vs ds → vs = ns.map V.int
  | [], ns, vs, h, r => by cases h; cases r; rfl
  | d :: ds, ns, vs, h, r => by
    cases r with
    | cons r1 r2 =>
      unfold intsOf at h
      split at h
      · rename_i heq; cases heq
      · rename_i x r heq
        cases heq
        obtain ⟨ms, e1, rfl⟩ := Option.map_eq_some_iff.mp h
        cases r1
        rw [vints_of e1 r2]
        rfl
      · cases h
theorem se_mxd {a e : Expr} {ta td : T} {x : Str} {p pos kpos : Pos} (hc : X.calm = true) (hu : X.A.units + 64 < cLine) (ha : SO X w cl W a ta) (hd : SE X w cl W e td) (hg : Gl X x) (hm : X.mg x = none) (hv : bootBuiltins x = some (.builtin "max")) (hn : x ≠ "__name__" := by decide) (hdb : (x == ("__debug__" : Str)) = false := by decide)
    (he : backTo pos (starEach [a] X.env) = (false, eval a X.env) :: backTo pos (starEach [] X.env) := by rfl) (hpl : (backTo pos (starEach [a] X.env)).any (·.1) = false := by rfl)
    (hall : (backToKw pos (keywordEach [⟨some "default", e, kpos⟩] X.env)).all (·.1.isSome) = true := by rfl) (hnone : (backToKw pos (keywordEach [⟨some "default", e, kpos⟩] X.env)).any (·.1.isNone) = false := by rfl) (hks : (backToKw pos (keywordEach [⟨some "default", e, kpos⟩] X.env)).filterMap (·.1) = ([("default" : Str)] : List Str) := by rfl)
    (h1 : starEach [a] X.env = (false, eval a X.env) :: starEach [] X.env := by rfl) :
    SE X w cl W (.Call (.Name x p) [a] [⟨some "default", e, kpos⟩] pos) (.mxd ta td) := by
  obtain ⟨ea, pa, ka⟩ := ha
  obtain ⟨ed, pd, kd⟩ := hd
  refine ⟨_, pe_callBK (cr_maxd hc hu) hg hm hv (pa_cons pa pa_nil h1) (pk_cons pd pk_nil) hn hdb he hpl hall hnone hks, fun σ H U ρ Q er h => ka σ H U ρ _ er ?_⟩
  unfold evE at h
  refine h.bind.mono (fun o1 ρ1 h x H1 U1 p1 r1 => ?_) fun _ _ h => h
  refine kd σ H1 U1 ρ1 _ p1.er (h.bind.mono (fun v2 ρ2 h y H2 U2 p2 r2 f2 => ?_) fun _ _ h => h.on er p1)
  obtain ⟨d, e1, h⟩ := h.get
  have hx := (RO.on p2 p1.er r1).vw p2.er e1
  split at h
  · rename_i j0 xs j e3
    have e3' : v2 = .dat (.int j) := e3
    subst e3'
    obtain ⟨ns, e4, h⟩ := h.get
    have ey : y = .int j := rp_int r2
    subst ey
    obtain ⟨l, vs, rfl, s, r⟩ := hx
    have := vints_of e4 r
    subst this
    have hq : OkE X.K w σ H U ρ Q (.dat (.int (maxZ j ns))) ρ2 := h
    exact ⟨l, ns, j, rfl, rfl, SqL.of s, hq _ H2 U2 (p1.trans er p2) (.int _) fun z => nomatch z⟩
  · exact h.elim
end
end Pv
set_option Elab.async false
set_option linter.all false
set_option maxRecDepth 100000
set_option maxHeartbeats 2100000
/-! t[::-1] of a tuple -/
namespace Pv
open PySem L2 PyProof.Rows HT
section
variable {s : Shared} {A : Around} {pg : Program} {wo : World} {E : Value → Shared → Prop}
theorem applied_rev {sl : Addr} {vl vu vs : Value} {n : Nat} {Q : Int × Int × Nat → Shared → Prop} (hs : s.heap.IsSliceOf sl vl vu vs) (pl : IsPart vl none) (pu : IsPart vu none) (ps : IsPart vs (some (-1)))
    (h : Q ((n : Int) - 1, -1, n) s) : wpAny (model pg wo) A (Builtin.Slice.sliceApplied (.ref sl) (pure (n : Int))) Q E s := by
  obtain ⟨so, so1, so2, so3⟩ := id hs
  unfold Builtin.Slice.sliceApplied
  unfold Builtin.Slice.sliceFields
  refine wpAny_bind (wpAny_bind (wpAny_field so1 so3 (x := vl) rfl
    (wpAny_bind (wpAny_field so1 so3 (x := vu) rfl (wpAny_bind (wpAny_field so1 so3 (x := vs) rfl (wpAny_pure ?_)))))))
  refine wpAny_bind (slicePart_ ps ?_)
  show wpAny _ _ (if ((-1 : Int) == 0) = true then _ else _) _ _ s
  rw [if_neg (by decide)]
  refine wpAny_bind (slicePart_ pl
    (wpAny_bind (slicePart_ pu (wpAny_bind (wpAny_pure ?_)))))
  have e1 : Builtin.Slice.sliceAdjust none none (-1) (n : Int) = ((n : Int) - 1, -1) := rfl
  show wpAny _ _ (match Builtin.Slice.sliceAdjust none none (-1) (n : Int) with | (lo, hi) => pure (lo, (-1 : Int), Builtin.Slice.slicePlaces lo hi (-1))) _ _ s
  rw [e1]
  have e2 : Builtin.Slice.slicePlaces ((n : Int) - 1) (-1) (-1) = n := by
    unfold Builtin.Slice.slicePlaces; rw [if_neg (by omega)]
    split
    · have : ((n : Int) - 1 - -1 - 1) / - -1 + 1 = n := by
        rw [show (- -1 : Int) = 1 from rfl, Int.ediv_one]
        omega
      rw [this]
      exact Int.toNat_natCast n
    · omega
  show wpAny _ _ (pure ((n : Int) - 1, (-1 : Int), Builtin.Slice.slicePlaces ((n : Int) - 1) (-1) (-1))) _ _ s
  rw [e2]
  exact wpAny_pure h
theorem fm_congr {α β : Type} {f g : α → Option β} : ∀ {l : List α}, (∀ m ∈ l, f m = g m) → l.filterMap f = l.filterMap g
  | [], _ => rfl
  | a :: l, h => by
    rw [List.filterMap_cons, List.filterMap_cons, h a (List.mem_cons_self ..), fm_congr fun m hm => h m (List.mem_cons_of_mem _ hm)]
theorem pick_rev (xs : Array Value) : ((List.range xs.size).filterMap fun (m : Nat) => xs[((xs.size : Int) - 1 + (m : Int) * -1).toNat]?).toArray = xs.toList.reverse.toArray := by
  have e : ((List.range xs.size).filterMap fun (m : Nat) => xs[((xs.size : Int) - 1 + (m : Int) * -1).toNat]?) = ((List.range xs.size).map (fun k => xs.size - 1 - k)).filterMap (fun i => xs[i]?) := by
    rw [List.filterMap_map]
    refine fm_congr fun m hm => ?_
    have hm' := List.mem_range.mp hm
    show xs[((xs.size : Int) - 1 + (m : Int) * -1).toNat]? = xs[xs.size - 1 - m]?
    have : ((xs.size : Int) - 1 + (m : Int) * -1).toNat = xs.size - 1 - m := by omega
    rw [this]
  rw [e, PySem.W.krv_range, List.filterMap_reverse, PySem.W.krv_all]
theorem tuple_rev {t sl : Addr} {items : Array Value} {vl vu vs : Value} {Q : Value → Shared → Prop} (ht : IsTup s.heap t items) (hs : s.heap.IsSliceOf sl vl vu vs) (pl : IsPart vl none) (pu : IsPart vu none) (ps : IsPart vs (some (-1)))
    (h : Q (.ref s.heap.objs.size) { s with heap := s.heap.push { cls := .type "tuple", data := .seq items.toList.reverse.toArray } }) (hsz : items.size ≤ sizeLine) : wpAny (model pg wo) A (getItem (.ref t) (.ref sl)) Q E s := by
  have htake : PySem.sizeOk (.seq items.toList.reverse.toArray) := by
    show items.toList.reverse.toArray.size ≤ sizeLine
    rw [List.size_toArray, List.length_reverse, Array.length_toList]
    exact hsz
  obtain ⟨so, so1, so2, so3⟩ := id hs
  have isS : s.TypeIs (.ref sl) "slice" := ⟨so, so1, so2⟩
  unfold getItem
  try (with_reducible refine wpAny_holding ?_)
  try (refine wpAny_bind (wpAny_pure ?_))
  have tt := ht.typeIs (s := s)
  refine wpAny_bind (wpAny_sequenceKey tt (by decide) ?_)
  refine wpAny_bind (wpAny_callSpecial?_slot (name := Str.ofString "__getitem__") tt slot_tuple_getitem ?_)
  refine wpAny_call_entry slot_tuple_getitem tt entry_tuple_getitem ?_ (args_tuple_getitem _ _)
  show wpAny (model pg wo) _ (Builtin.Tuple.tupleItemsOf (.ref t) >>= _) _ _ s
  refine wpAny_bind (tupleItemsOf_ ht (wpAny_bind (wpAny_typeOf isS ?_)))
  rw [if_pos (by decide)]
  refine wpAny_bind (applied_rev hs pl pu ps ?_)
  have no : ¬ ((((items.size : Int) - 1) == 0 && (-1 : Int) == 1 && items.size == items.size) = true) := by
    intro q
    simp only [Bool.and_eq_true] at q
    exact absurd q.1.2 (by decide)
  show wpAny _ _ (if (((items.size : Int) - 1) == 0 && (-1 : Int) == 1 && items.size == items.size) = true then _ else _) _ _ s
  rw [if_neg no, pick_rev]
  refine wpAny_bind (m := Builtin.Tuple.tupleExact _) ?_
  refine wpAny_newObj_type ?_ htake
  exact (wpAny_pure ⟨_, rfl, (wpAny_pure h)⟩)
end
end Pv
namespace Pv
open PySem L2 PyProof.Rows
section
variable {X : Cx} {w : Wd} {cl : Fun} {W : WX}
def tRevT (K : PySem.W.Frag) (te : TE) : TE := fun σ H Q => te σ H fun x H1 => ∃ a xs, x = .ref a ∧ SqT K H1 a xs ∧ ∀ p, H1 p = none → Q (.ref p) (upd H1 p (.tup xs.reverse))
theorem pe_revT {e : Expr} {te : TE} {k : Nat} {p1 p2 p3 pos : Pos} (he : PE X e te) : PE X (.Subscript e (.Slice none none (some (.UnaryOp .USub (.Constant (.int 1) k p1) p2)) p3) pos) (tRevT X.K te) := by
  refine ⟨fun pins s σ H Q I hq0 => ?_⟩
  have h := hq0
  refine Subscript_ (thn (he.run pins s σ H _ I h) fun v s1 ⟨x, H1, I1, r1, a, xs, ex, hx, q⟩ => ?_)
  subst ex
  obtain rfl : v = .ref a := r1
  have pst : PO X (some (.UnaryOp .USub (.Constant (.int 1) k p1) p2)) (tPart (tUn (L2.rU fun i => .int (-i)) (L2.tC (.int 1)))) :=
    po_some (pe_un un_neg pe_int)
  refine wpAny_Slice (thn (po_none.run pins s1 σ H1 (fun o J => o = none ∧ J = H1) I1 ⟨rfl, rfl⟩) fun vl s2 ⟨_, H2, I2, pl, el, e2⟩ => ?_)
  cases el
  cases e2
  refine thn (po_none.run pins s2 σ H1 (fun o J => o = none ∧ J = H1) I2 ⟨rfl, rfl⟩) fun vu s3 ⟨_, H3, I3, pu, eu, e3⟩ => ?_
  cases eu
  cases e3
  refine thn (pst.run pins s3 σ H1 (fun o J => o = some (-1) ∧ J = H1) I3 ⟨1, rfl, -1, rfl, rfl, rfl⟩) fun vs s4 ⟨_, H4, I4, ps, eo, e4⟩ => ?_
  cases eo
  cases e4
  have I5 : L2.Inv X pins σ H1 { s4 with heap := s4.heap.push { cls := .type "slice", data := .fields #[vl, vu, vs] } } :=
    I4.kept (t' := s4.toks) fun b ob z => Heap.get?_push_of_some _ z
  obtain ⟨its, r, ht, hz⟩ := I5.tuple hx
  refine tail_any (ops := [.ref a, .ref s4.heap.objs.size]) ht.typeIs
    (PyProof.Rows.slot_tuple_getitem.lookup) ?_ (by with_unfolding_all rfl)
  refine tuple_rev ht (Heap.IsSliceOf.new _ vl vu vs) pl pu ps ?_ (by rw [List.size_toArray, ← r.length]; exact hz)
  refine ⟨.ref _, _, I5.laid (t' := s4.toks) (o := .tup xs.reverse) (fun b ob z => Heap.get?_push_of_some _ z) (Nat.le_refl _) ?_, rfl, q _ (I5.hok.fresh (Nat.le_refl _))⟩
  exact ⟨by rw [List.length_reverse]; exact hz, _, r.reverse, IsTup.new _ _⟩
/-- xs[::-1] -/
theorem se_slb {e : Expr} {t : T} {k : Nat} {p1 p2 p3 pos : Pos} (he : SO X w cl W e t) : SE X w cl W (.Subscript e (.Slice none none (some (.UnaryOp .USub (.Constant (.int 1) k p1) p2)) p3) pos) (.slb t) := by
  obtain ⟨te, p, kk⟩ := he
  refine ⟨fun σ H Q => tRevL X.K te σ H Q ∨ tRevT X.K te σ H Q, ⟨fun pins s σ H Q I h => h.elim ((pe_revL p).run pins s σ H Q I) ((pe_revT p).run pins s σ H Q I)⟩, fun σ H U ρ Q er h => ?_⟩
  unfold evE at h
  cases q : opnd t (evE cl t) ρ with
  | stuck => rw [q] at h; exact h.elim
  | exc ex ρ' => exact .inl (kk σ H U ρ _ er (by rw [q] at h ⊢; exact h))
  | ok r =>
    obtain ⟨o, ρ'⟩ := r
    rw [q] at h
    obtain ⟨d, e1, h1⟩ := Aft.get (o := look ρ' o) (k := fun x => (get (rev1 x)).bind fun v => Res.ok (v, ρ')) h
    obtain ⟨v, e2, h2⟩ := h1.get
    cases d with
    | list xs =>
      cases e2
      refine .inl (kk σ H U ρ _ er ?_)
      rw [q]
      intro x H' U' p1 r
      obtain ⟨a, vs, rfl, s, rr⟩ := r.vw p1.er e1
      exact ⟨a, vs, rfl, SqL.of s, fun p hp => (OkE.on h2 er p1).newL p1.er rr.rev hp⟩
    | tuple xs =>
      cases e2
      refine .inr (kk σ H U ρ _ er ?_)
      rw [q]
      intro x H' U' p1 r
      obtain ⟨a, vs, rfl, s, rr⟩ := rp_tup (r.vw p1.er e1)
      exact ⟨a, vs, rfl, s.sq, fun p hp => (OkE.on h2 er p1).newT p1.er rr.rev hp⟩
    | _ => cases e2
end
end Pv
set_option Elab.async false
set_option linter.all false
set_option maxRecDepth 100000
namespace Pv
open PySem L2 PyProof.Rows
section
variable {X : Cx} {w : Wd} {cl : Fun} {W : WX} {lk : List Nat}
theorem ev (i : Nat) {x : Str} {pos : Pos} (hN : X.N[i]? = some x := by rfl) (hv : Vis X.env.scope x := by first | exact Or.inl rfl | exact Or.inr (Or.inl rfl) | exact Or.inr (Or.inr rfl)) (hd : (x == ("__debug__" : Str)) = false := by decide) (hcd : (x == ("__classdict__" : Str)) = false := by decide) :
    SE X w cl W (.Name x pos) (.var i) := se_var hN hv hd hcd
theorem ev_frz (i : Nat) (ρ : Pv.Env) : evE cl (.frz i) ρ = evE cl (.var i) ρ := by unfold evE; rfl
theorem zv (i : Nat) {x : Str} {pos : Pos} (hN : X.N[i]? = some x := by rfl) (hv : Vis X.env.scope x := by first | exact Or.inl rfl | exact Or.inr (Or.inl rfl) | exact Or.inr (Or.inr rfl)) (hd : (x == ("__debug__" : Str)) = false := by decide) (hcd : (x == ("__classdict__" : Str)) = false := by decide) :
    SE X w cl W (.Name x pos) (.frz i) := by
  obtain ⟨te, he, k⟩ := se_var (X := X) (w := w) (cl := cl) (W := W) (pos := pos) hN hv hd hcd
  exact ⟨te, he, fun σ H U ρ Q er h => k σ H U ρ Q er (by rw [← ev_frz]; exact h)⟩
theorem ov (i : Nat) {x : Str} {pos : Pos} (hN : X.N[i]? = some x := by rfl) (hv : Vis X.env.scope x := by first | exact Or.inl rfl | exact Or.inr (Or.inl rfl) | exact Or.inr (Or.inr rfl)) (hd : (x == ("__debug__" : Str)) = false := by decide) (hcd : (x == ("__classdict__" : Str)) = false := by decide) :
    SO X w cl W (.Name x pos) (.var i) := so_var hN hv hd hcd
theorem gv (i : Nat) {x : Str} {pos : Pos} (hN : X.N[i]? = some x := by rfl) (hv : Vis X.env.scope x := by first | exact Or.inl rfl | exact Or.inr (Or.inl rfl) | exact Or.inr (Or.inr rfl)) (hd : (x == ("__debug__" : Str)) = false := by decide) (hcd : (x == ("__classdict__" : Str)) = false := by decide) :
    SG X w cl W (.Name x pos) (.var i) := sg_var hN hv hd hcd
theorem rv (i : Nat) {x : Str} {pos pos' : Pos} (hN : X.N[i]? = some x := by rfl) (hv : Vis X.env.scope x := by first | exact Or.inl rfl | exact Or.inr (Or.inl rfl) | exact Or.inr (Or.inr rfl)) (hd : (x == ("__debug__" : Str)) = false := by decide) (hcd : (x == ("__classdict__" : Str)) = false := by decide) :
    SS X w cl W lk (.Return (some (.Name x pos)) pos') (.ret (.var i)) := ss_retv hN hv hd hcd
theorem cutv (i : Nat) {n : Nat} {x : Str} {j : Nat} {p p1 p2 pos : Pos} (hN : X.N[i]? = some x := by rfl) (hv : Vis X.env.scope x := by first | exact Or.inl rfl | exact Or.inr (Or.inl rfl) | exact Or.inr (Or.inr rfl)) (hd : (x == ("__debug__" : Str)) = false := by decide) (hcd : (x == ("__classdict__" : Str)) = false := by decide) :
    SE X w cl W (.Subscript (.Name x p) (.Slice none (some (.Constant (.int n) j p1)) none p2) pos) (.cut i n) := se_cut hN hv hd hcd
theorem xv (i : Nat) {x : Str} {ke : Expr} {tk : T} {pos pos' : Pos} (G : GC X W) (hk : SE X w cl W ke tk) (hN : X.N[i]? = some x := by rfl) (hv : Vis X.env.scope x := by first | exact Or.inl rfl | exact Or.inr (Or.inl rfl) | exact Or.inr (Or.inr rfl)) (hs : NoSl ke := by first | exact fun _ _ => rfl | rfl)
    (hd : (x == ("__debug__" : Str)) = false := by decide) (hcd : (x == ("__classdict__" : Str)) = false := by decide) : SE X w cl W (.Subscript (.Name x pos') ke pos) (.ixd i tk) := se_ixd G hN hv hk hs hd hcd
theorem GC.blk {s : Shared} {H : Hp} {scope : Scope} {env : PySem.Env} {fp : List Addr} (G : GC X W) : GC (X.blk s H scope env fp) W0 := ⟨G.calm, G.nd, G.gd, G.room, fun _ _ h => by
  obtain ⟨_, _, _, _, _, _, _, _, _, _, _, _, _, _, _, _, no⟩ := h
  exact no.elim⟩
theorem HasF.blk {n : Nat} {s : Shared} {H : Hp} {scope : Scope} {env : PySem.Env} {fp : List Addr} (F : HasF X w cl n) : HasF (X.blk s H scope env fp) w cl n := ⟨F.fn, F.keep, F.binds, F.bstar, F.room⟩
theorem ev_ix (a i : T) (ρ : Env) : evT cl (.ix a i) ρ = (evE cl (.ix a i) ρ).bind fun q => (get (truth q.1)).bind fun b => .ok (b, q.2) := by
  unfold evT evE
  cases opnd a (evE cl a) ρ with
  | ok p =>
    simp only [Res.bind_ok]
    cases opnd i (evE cl i) p.2 with
    | ok q =>
      simp only [Res.bind_ok]
      cases look q.2 p.1 with
      | none => rfl
      | some x =>
        simp only [get_some, Res.bind_ok]
        cases look q.2 q.1 with
        | none => rfl
        | some y =>
          simp only [get_some, Res.bind_ok]
          cases ix2 x y <;> rfl
    | exc _ _ => rfl
    | stuck => rfl
  | exc _ _ => rfl
  | stuck => rfl
/-- a name as a test -/
theorem st_var (i : Nat) {x : Str} {pos : Pos} (hN : X.N[i]? = some x := by rfl) (hv : Vis X.env.scope x := by first | exact Or.inl rfl | exact Or.inr (Or.inl rfl) | exact Or.inr (Or.inr rfl)) (hd : (x == ("__debug__" : Str)) = false := by decide) (hcd : (x == ("__classdict__" : Str)) = false := by decide)
    (hs : ∀ whole, isTrue (.Name x pos) X.env whole = (do let v ← whole; standAt (Expr.Name x pos).pos; holding [v] (truthy v)) := by intro _; rfl) : ST X w cl W (.Name x pos) (.var i) := by
  refine ⟨_, pt_truth (pe_var hN hv hd hcd) hs, fun σ H U ρ Q er h => ?_⟩
  unfold evT at h
  split at h
  · rename_i b e
    obtain ⟨y, e1, r⟩ := er.val i _ e
    cases r
    exact ⟨_, e1, _, rfl, h H U (Pst.refl er)⟩
  · rename_i ds e
    obtain ⟨y, e1, a, vs, rfl, u, eh, rr⟩ := er.val i _ e
    refine ⟨_, e1, _, .inl ⟨vs, SqL.of eh, ?_⟩, h H U (Pst.refl er)⟩
    have := rr.len
    cases vs <;> cases ds <;> first | rfl | cases this
  · exact h.elim
end
end Pv
set_option Elab.async false
set_option linter.all false
set_option maxRecDepth 100000
set_option maxHeartbeats 2100000
/-! a.split(b), a.partition(b), a.startswith(b), all texts. -/
namespace Pv
open PySem L2 PyProof.Rows
section
variable {X : Cx} {w : Wd} {cl : Fun} {W : WX}
theorem se_split {o e : Expr} {ta tb : T} {apos pos : Pos} (ha : SE X w cl W o ta) (hb : SE X w cl W e tb) (hs : starEach [e] X.env = [(false, eval e X.env)] := by rfl) (hbase : attributeBase o "split" X.env (eval o X.env) = eval o X.env := by rfl) (hline : (apos.endLine == pos.line) = true := by rfl) :
    SE X w cl W (.Call (.Attribute o "split" apos) [e] [] pos) (.mth .split ta tb) := by
  obtain ⟨ea, pa, ka⟩ := ha
  obtain ⟨eb, pb, kb⟩ := hb
  refine ⟨_, pe_split pa pb hs hbase hline, fun σ H U ρ Q er h => ka σ H U ρ _ er ?_⟩
  unfold evE at h
  refine h.bind.mono (fun v ρ1 h x H1 U1 p1 r f => ?_) fun _ _ h => h
  obtain ⟨s, e1, h⟩ := h.get
  have e1 : keyOf v = some s := e1
  rw [keyOf_some e1] at r
  cases r
  refine ⟨⟨s, rfl⟩, kb σ H1 U1 ρ1 _ p1.er (h.bind.mono (fun u ρ2 h y H2 U2 p2 r2 f2 => ?_) fun _ _ h => h.on er p1)⟩
  obtain ⟨t, e2, h⟩ := h.get
  have e2 : keyOf u = some t := e2
  rw [keyOf_some e2] at r2
  cases r2
  obtain ⟨z, e3, h⟩ := h.get
  unfold mth2 at e3
  simp only at e3
  split at e3
  · rename_i c
    cases e3
    have h : OkE X.K w σ H U ρ Q (.lst ((Txt.split s t).map .str)) ρ2 := h
    exact ⟨s, t, rfl, rfl, beq_eq_false_iff_ne.mpr c.1, by rw [sizeLine_eq]; exact c.2, fun p hp => (OkE.on h er (p1.trans er p2)).newL p2.er (rps_strs _) hp⟩
  · cases e3
theorem se_part {o e : Expr} {ta tb : T} {apos pos : Pos} (ha : SE X w cl W o ta) (hb : SE X w cl W e tb) (hs : starEach [e] X.env = [(false, eval e X.env)] := by rfl) (hbase : attributeBase o "partition" X.env (eval o X.env) = eval o X.env := by rfl) (hline : (apos.endLine == pos.line) = true := by rfl) :
    SE X w cl W (.Call (.Attribute o "partition" apos) [e] [] pos) (.mth .part ta tb) := by
  obtain ⟨ea, pa, ka⟩ := ha
  obtain ⟨eb, pb, kb⟩ := hb
  refine ⟨_, pe_partition pa pb hs hbase hline, fun σ H U ρ Q er h => ka σ H U ρ _ er ?_⟩
  unfold evE at h
  refine h.bind.mono (fun v ρ1 h x H1 U1 p1 r f => ?_) fun _ _ h => h
  obtain ⟨s, e1, h⟩ := h.get
  have e1 : keyOf v = some s := e1
  rw [keyOf_some e1] at r
  cases r
  refine ⟨⟨s, rfl⟩, kb σ H1 U1 ρ1 _ p1.er (h.bind.mono (fun u ρ2 h y H2 U2 p2 r2 f2 => ?_) fun _ _ h => h.on er p1)⟩
  obtain ⟨t, e2, h⟩ := h.get
  have e2 : keyOf u = some t := e2
  rw [keyOf_some e2] at r2
  cases r2
  obtain ⟨z, e3, h⟩ := h.get
  unfold mth2 at e3
  simp only at e3
  split at e3
  · rename_i c
    cases e3
    have h : OkE X.K w σ H U ρ Q (.dat (.tuple [.str (Txt.partition s t).1, .str (Txt.partition s t).2.1, .str (Txt.partition s t).2.2])) ρ2 := h
    exact ⟨s, t, rfl, rfl, beq_eq_false_iff_ne.mpr c.1, by rw [sizeLine_eq]; exact c.2, fun p hp => (OkE.on h er (p1.trans er p2)).newT p2.er (.cons (.str _) (.cons (.str _) (.cons (.str _) .nil))) hp⟩
  · cases e3
theorem se_starts {o e : Expr} {ta tb : T} {apos pos : Pos} (ha : SE X w cl W o ta) (hb : SE X w cl W e tb) (hs : starEach [e] X.env = [(false, eval e X.env)] := by rfl) (hbase : attributeBase o "startswith" X.env (eval o X.env) = eval o X.env := by rfl) (hline : (apos.endLine == pos.line) = true := by rfl) :
    SE X w cl W (.Call (.Attribute o "startswith" apos) [e] [] pos) (.mth .starts ta tb) := by
  obtain ⟨ea, pa, ka⟩ := ha
  obtain ⟨eb, pb, kb⟩ := hb
  refine ⟨_, pe_m1 F.slot_str_startswith F.type_str_startswith mt_startswith pa pb hs hbase hline, fun σ H U ρ Q er h => ka σ H U ρ _ er ?_⟩
  unfold evE at h
  refine h.bind.mono (fun v ρ1 h x H1 U1 p1 r f => ?_) fun _ _ h => h
  obtain ⟨s, e1, h⟩ := h.get
  have e1 : keyOf v = some s := e1
  rw [keyOf_some e1] at r
  cases r
  refine ⟨⟨s, rfl⟩, kb σ H1 U1 ρ1 _ p1.er (h.bind.mono (fun u ρ2 h y H2 U2 p2 r2 f2 => ?_) fun _ _ h => h.on er p1)⟩
  obtain ⟨t, e2, h⟩ := h.get
  have e2 : keyOf u = some t := e2
  rw [keyOf_some e2] at r2
  cases r2
  obtain ⟨z, e3, h⟩ := h.get
  cases e3
  have h : OkE X.K w σ H U ρ Q (.dat (.bool (Txt.startswith s t))) ρ2 := h
  exact ⟨s, t, rfl, rfl, (OkE.on h er (p1.trans er p2)).one p2.er (.bl _)⟩
theorem ev_mth (o : Mth) (a b : T) (ρ : Env) : evT cl (.mth o a b) ρ = (evE cl (.mth o a b) ρ).bind fun q => (get (truth q.1)).bind fun b => .ok (b, q.2) := by
  rw [evT, evE]
  cases evE cl a ρ with
  | stuck => rfl
  | exc _ _ => rfl
  | ok p =>
    simp only [Res.bind_ok]
    cases keyOf p.1 with
    | none => rfl
    | some s =>
      simp only [get_some, Res.bind_ok]
      cases evE cl b p.2 with
      | stuck => rfl
      | exc _ _ => rfl
      | ok q =>
        simp only [Res.bind_ok]
        cases keyOf q.1 with
        | none => rfl
        | some t =>
          simp only [get_some, Res.bind_ok]
          cases mth2 o s t <;> rfl
end
end Pv
set_option Elab.async false
set_option linter.all false
set_option maxRecDepth 100000
set_option maxHeartbeats 2100000
/-! Comprehensions of two clauses. -/
namespace Pv
open PySem L2 PyProof.Rows
theorem Aft.ok1 {α : Type} {a : α} {ρ : Env} {ok : α → Env → Prop} {ex : Ex → Env → Prop} (h : Aft (Res.ok (a, ρ)) ok ex) : ok a ρ := h
theorem ewipe_eq {ρ ρ1 : Env} {vs : List Nat} (hl : ρ1.length = ρ.length) (h : ∀ j : Nat, j ∉ vs → ρ1[j]? = ρ[j]?) : ρ1.wipe vs = ρ.wipe vs := by
  refine List.ext_getElem? fun j => ?_
  by_cases hj : j ∈ vs
  · have at_ : ∀ (τ : Env) (us : List Nat), j ∈ us → (τ.wipe us)[j]? = if j < τ.length then some none else none := by
      intro τ us
      induction us with
      | nil => intro z; cases z
      | cons u us ih =>
        intro m
        unfold Env.wipe
        by_cases q : u = j
        · subst q
          rw [List.getElem?_set]
          simp [ewipe_len]
        · rw [List.getElem?_set_ne q]
          exact ih ((List.mem_cons.mp m).resolve_left fun z => q z.symm)
    rw [at_ ρ1 vs hj, at_ ρ vs hj, hl]
  · rw [ewipe_out hj, ewipe_out hj, h j hj]
theorem ewipe2 {ρ : Env} {own own1 : List Nat} (h : ∀ i ∈ own1, i ∈ own) : (ρ.wipe own1).wipe own = ρ.wipe own := ewipe_eq ewipe_len fun _ n => ewipe_out fun z => n (h _ z)
theorem swipe2 {σ : L2.St} {own own1 : List Nat} (h : ∀ i ∈ own1, i ∈ own) : L2.wipe (L2.wipe σ own1) own = L2.wipe σ own := wipe_eq (wipe_length ..) fun _ n => swipe_out fun z => n (h _ z)
/-- what the second clause walks, from its reading -/
def tI (K : PySem.W.Frag) (w : Wd) (cl : Fun) (W : WX) (t : T) (k : Wkd) : TI := fun σ H R => ∃ U ρ, ER K w.fa H U σ ρ ∧
  Aft (opnd t (evE cl t) ρ) (fun o ρ' => ∃ x ds, look ρ' o = some x ∧ itemsOf k x = some ds ∧ ∀ J src H' U', Pst K w.fa σ H U ρ H' U' ρ' → Wk K J src ds →
    (∀ H2 U2, Src (Ow (lockO o ρ') σ) (flat k x) H' U' H2 U2 → src H2 U2) → ds.length ≤ 16777216 → R J H') (XcE K w W σ H U ρ)
theorem SI.can {X : Cx} {w : Wd} {cl : Fun} {W : WX} {tg e : Expr} {t : T} {k : Wkd} (h : SI X w cl W tg e t k) : PI X tg e (tI X.K w cl W t k) := by
  obtain ⟨wi, p, ki⟩ := h
  exact ⟨fun pins s σ H R I ⟨U, ρ, er, h⟩ => p.run pins s σ H R I (ki σ H U ρ R er h)⟩
section
variable {K : PySem.W.Frag} {H : Hp} {U : Addr → Prop} {σ τ : L2.St} {ρ : Env}
/-- between two turns of the second clause: τ, how the slots stood when it began -/
structure CJ (K : PySem.W.Frag) (w : Wd) (σ : L2.St) (own : List Nat) (H0 : Hp) (U0 : Addr → Prop) (ρ0 : Env) (D : Addr) (τ : L2.St) (own1 : List Nat) (H : Hp) (U : Addr → Prop) (ρ : Env) (acc : List V) (ys : List PyData) : Prop where
  er : ER K w.fa H U (L2.wipe τ own1) (ρ.wipe own1)
  go : Go (Ow ρ0 σ) H0 U0 H U
  ow : ∀ a, Ow (ρ.wipe own1) (L2.wipe τ own1) a → Ow ρ0 σ a
  hd : ∀ (j : Nat) (v : Vl), (ρ.wipe own1)[j]? = some (some v) → v.own = true → j ∉ own ∧ ∃ u, ρ0[j]? = some (some u) ∧ u.own = true
  set : ∀ (j : Nat) (v : Vl), j ∉ own → ρ0[j]? = some (some v) → ∃ v', ρ[j]? = some (some v') ∧ (LL v = true → LL v' = true)
  lst : H D = some (.lst acc)
  els : Rps K H U acc ys
  u : U D
/-- where the second clause stands -/
structure In2 (σ τ : L2.St) (own own1 : List Nat) : Prop where
  sub : ∀ i ∈ own1, i ∈ own
  eq : L2.wipe τ own = L2.wipe σ own
theorem In2.at_ {own own1 : List Nat} (h : In2 σ τ own own1) {j : Nat} (n : j ∉ own) : τ[j]? = σ[j]? := by
  have e := congrArg (fun z : L2.St => z[j]?) h.eq
  simp only [swipe_out n] at e
  exact e
variable {w : Wd} {own own1 : List Nat} {H0 : Hp} {U0 : Addr → Prop} {ρ0 : Env} {D : Addr} {acc : List V} {ys : List PyData}
theorem CJ.noD (c : CJ K w σ own H0 U0 ρ0 D τ own1 H U ρ acc ys) (i2 : In2 σ τ own own1) (er0 : ER K w.fa H0 U0 σ ρ0) (hD : H0 D = none) : ¬ Hd (ρ.wipe own1) (L2.wipe τ own1) D :=
  fun h => by
    obtain ⟨i, v, h1, h2, h3⟩ := h
    obtain ⟨n, u, e1, e2⟩ := c.hd i v h1 h2
    rw [swipe_out (ewipe_some h1).2, i2.at_ n] at h3
    exact er0.dom.nn (er0.hd ⟨i, u, e1, e2, h3⟩) hD
/-- it begins -/
theorem cj_start {is : List Nat} {H' H3 : Hp} {U3 : Addr → Prop} {ρ1 ρ3 : Env} (c : CI K w σ own H0 U0 ρ0 D H U ρ acc ys) (er0 : ER K w.fa H0 U0 σ ρ0) (hD : H0 D = none) (i2 : In2 σ τ own own1)
    (g : Grow H H') (hin : ∀ i ∈ is, i ∈ own) (sr : StoreR K w H' U (L2.wipe σ own) (ρ.wipe own) is τ ρ1) (p : Pst K w.fa τ H' U ρ1 H3 U3 ρ3) : CJ K w σ own H0 U0 ρ0 D τ own1 H3 U3 ρ3 acc ys := by
  have c3 := ci_step c er0 hD g hin sr i2.eq p
  refine ⟨er_wipe p.er, c3.go, fun a h => c.ow a (sr.ow a (p.own a (ow_wipe h))), fun j v h o => ?_, c3.set, c3.lst, c3.els, c3.u⟩
  obtain ⟨u, e1, e2⟩ := p.held j v (ewipe_some h).1 o
  obtain ⟨e3, _⟩ := sr.hd j u e1 e2
  exact ⟨(ewipe_some e3).2, c.hd j u e3 e2⟩
/-- it is over -/
theorem cj_end (c : CJ K w σ own H0 U0 ρ0 D τ own1 H U ρ acc ys) (i2 : In2 σ τ own own1) : CI K w σ own H0 U0 ρ0 D H U ρ acc ys := by
  have e1 : (ρ.wipe own1).wipe own = ρ.wipe own := ewipe2 i2.sub
  have e2 : L2.wipe (L2.wipe τ own1) own = L2.wipe σ own := (swipe2 i2.sub).trans i2.eq
  refine ⟨?_, c.go, fun a h => ?_, fun j v h o => ?_, c.set, c.lst, c.els, c.u⟩
  · rw [← e1, ← e2]
    exact er_wipe c.er
  · rw [← e1, ← e2] at h
    exact c.ow a (ow_wipe h)
  · rw [← e1] at h
    exact (c.hd j v (ewipe_some h).1 o).2
/-- a turn of it -/
theorem cj_step {is : List Nat} {H' H3 : Hp} {U4 : Addr → Prop} {ρ1 ρ3 : Env} {σ1 : L2.St} (c : CJ K w σ own H0 U0 ρ0 D τ own1 H U ρ acc ys) (i2 : In2 σ τ own own1) (er0 : ER K w.fa H0 U0 σ ρ0) (hD : H0 D = none)
    (g : Grow H H') (hin : ∀ i ∈ is, i ∈ own1) (sr : StoreR K w H' U (L2.wipe τ own1) (ρ.wipe own1) is σ1 ρ1) (ew : L2.wipe σ1 own1 = L2.wipe τ own1) (p : Pst K w.fa σ1 H' U ρ1 H3 U4 ρ3) : CJ K w σ own H0 U0 ρ0 D τ own1 H3 U4 ρ3 acc ys := by
  have noD : ¬ Ow ρ1 σ1 D := fun h => c.noD i2 er0 hD (sr.ow D h).hd
  have st : Sta H U H3 U4 := ⟨fun a o h n nt => p.go.keep a o (g a o h) (fun q => n (c.er.ow (sr.ow a q))) nt, fun a h => (p.go.u2 a h).imp id fun q o e => q o (g a o e)⟩
  refine ⟨?_, ?_, fun a h => ?_, fun j v h o => ?_, fun j v n h => ?_, p.go.keep D _ (g D _ c.lst) noD nt_lst, c.els.sta st, p.go.u1 D c.u noD⟩
  · rw [← ew]
    exact er_wipe p.er
  · exact (c.go.trans (Go.grow (own := fun _ => False) g) (fun _ h => h.elim) er0.dom).trans p.go (fun a h => .inl (c.ow a (sr.ow a h))) er0.dom
  · rw [← ew] at h
    exact c.ow a (sr.ow a (p.own a (ow_wipe h)))
  · obtain ⟨u, e1, e2⟩ := p.held j v (ewipe_some h).1 o
    obtain ⟨e3, _⟩ := sr.hd j u e1 e2
    exact c.hd j u e3 e2
  · obtain ⟨v', h', l1⟩ := c.set j v n h
    rw [← ewipe_out (vs := own1) (ρ := ρ) fun q => n (i2.sub j q), ← sr.offE j fun q => n (i2.sub j (hin j q))] at h'
    obtain ⟨v2, h2, l2⟩ := p.set j v' h'
    exact ⟨v2, h2, fun z => l2 (l1 z)⟩
theorem cj_app {y : V} {d : PyData} (c : CJ K w σ own H0 U0 ρ0 D τ own1 H U ρ acc ys) (i2 : In2 σ τ own own1) (er0 : ER K w.fa H0 U0 σ ρ0) (hD : H0 D = none) (r : Rp K H U y d) :
    CJ K w σ own H0 U0 ρ0 D τ own1 (upd H D (.lst (acc ++ [y]))) U ρ (acc ++ [y]) (ys ++ [d]) := by
  have s : Sta H U (upd H D (.lst (acc ++ [y]))) U := ⟨fun a ob h z _ => by rw [upd_ne fun q => z (by rw [q]; exact c.u)]; exact h, fun a h => .inl h⟩
  exact ⟨er_upd c.er c.u (c.noD i2 er0 hD) own_lst, c.go.trans (own' := fun a => a = D) ⟨fun a o h n _ => by rw [upd_ne n]; exact h, fun a h _ => h, fun a h => .inl h, fun a h => (nw_upd nt_lst h).2⟩ (fun a h => .inr (.of (by rw [h]; exact hD))) er0.dom, c.ow, c.hd, c.set, upd_same, (c.els.app (.cons r .nil)).sta s, c.u⟩
/-- what stood where the second clause began -/
structure Kp2 (H4 : Hp) (U4 : Addr → Prop) (O4 : Addr → Prop) (H : Hp) (U : Addr → Prop) (O : Addr → Prop) : Prop where
  go : Go O4 H4 U4 H U
  ow : ∀ a, O a → O4 a
/-- the loop of the second clause -/
theorem comp2_in {cl : Fun} {tg : Tg} {tc : Option T} {te : T} {J : It} {src : Hp → (Addr → Prop) → Prop} {ds : List PyData} {H4 : Hp} {U4 : Addr → Prop} {ρ4 : Env} {Nx : Hp → Prop}
    (er0 : ER K w.fa H0 U0 σ ρ0) (hD : H0 D = none) (i2 : In2 σ τ own own1) (hin : ∀ i ∈ tgIx tg, i ∈ own1) (c4 : CJ K w σ own H0 U0 ρ0 D τ own1 H4 U4 ρ4 acc ys) (wk : Wk K J src ds) (hs : ∀ H2 U2, Sta H4 U4 H2 U2 → src H2 U2) (hz : ys.length + ds.length ≤ 16777216)
    (h : Aft (compTurns own1 tg (evC cl tc) (evE cl te) ds ys ρ4) (fun ys ρe => ∀ H U acc, CJ K w σ own H0 U0 ρ0 D τ own1 H U ρe acc ys → Nx H) (fun _ _ => False)) :
    ∃ W1 : Nat → Nat → Hp → Prop, (∃ m, W1 0 m H4) ∧ ∀ j k H, W1 j k H →
      (J.stop j H ∧ Nx H) ∨ (J.go j H ∧ ∃ Nx1 : Hp → Prop, (∀ H', Nx1 H' → ∃ k', k' < k ∧ W1 (j + 1) k' H') ∧ ∀ x H', J.yld j H x H' → gOf K tg x (L2.wipe τ own1) H' fun σ3 H5 => L2.wipe σ3 own1 = L2.wipe τ own1 ∧ tC K w cl tc σ3 H5 fun b H6 =>
        if b = true then tE K w cl W0 te σ3 H6 fun y H7 => ∃ acc, H7 D = some (.lst acc) ∧ acc.length < sizeLine ∧ Nx1 (upd H7 D (.lst (acc ++ [y]))) else Nx1 H6) := by
  have ow4 : ∀ a, (Ow (ρ4.wipe own1) (L2.wipe τ own1) a ∨ a = D) → U4 a := fun a z => z.elim (fun z => c4.er.ow z) fun z => by rw [z]; exact c4.u
  refine ⟨fun i m H => ∃ U ρi acc zs, m = ds.length - i ∧ i ≤ ds.length ∧ zs.length ≤ ys.length + i ∧ CJ K w σ own H0 U0 ρ0 D τ own1 H U ρi acc zs ∧
    Kp2 H4 U4 (fun a => Ow (ρ4.wipe own1) (L2.wipe τ own1) a ∨ a = D) H U (Ow (ρi.wipe own1) (L2.wipe τ own1)) ∧
    Aft (compTurns own1 tg (evC cl tc) (evE cl te) (ds.drop i) zs ρi) (fun ys ρe => ∀ H U acc, CJ K w σ own H0 U0 ρ0 D τ own1 H U ρe acc ys → Nx H) (fun _ _ => False), ⟨ds.length, ?_⟩, ?_⟩
  · exact ⟨U4, ρ4, acc, ys, rfl, Nat.zero_le _, Nat.le_refl _, c4, ⟨Go.refl _ _ _, fun _ h => .inl h⟩, by rw [List.drop_zero]; exact h⟩
  · rintro i m H ⟨U, ρi, acc, zs, rfl, hi, hy, cj, kp, k⟩
    obtain ⟨w1, w2⟩ := wk i H U (hs H U (kp.go.sta ow4)) fun a u => cj.er.dom.nn u
    by_cases hlt : i < ds.length
    · obtain ⟨go, yl⟩ := w1 hlt
      have ed : ds.drop i = ds[i] :: ds.drop (i + 1) := (List.drop_eq_getElem_cons hlt)
      refine .inr ⟨go, fun H' => ∃ U ρi acc zs, zs.length ≤ ys.length + (i + 1) ∧ CJ K w σ own H0 U0 ρ0 D τ own1 H' U ρi acc zs ∧
        Kp2 H4 U4 (fun a => Ow (ρ4.wipe own1) (L2.wipe τ own1) a ∨ a = D) H' U (Ow (ρi.wipe own1) (L2.wipe τ own1)) ∧
        Aft (compTurns own1 tg (evC cl tc) (evE cl te) (ds.drop (i + 1)) zs ρi) (fun ys ρe => ∀ H U acc, CJ K w σ own H0 U0 ρ0 D τ own1 H U ρe acc ys → Nx H) (fun _ _ => False),
        fun H' ⟨U, ρi, acc, zs, h1, h2, h3, h4⟩ => ⟨ds.length - (i + 1), by omega, U, ρi, acc, zs, rfl, hlt, h1, h2, h3, h4⟩, fun x H' hx => ?_⟩
      obtain ⟨gr, d, e1, rx⟩ := yl x H' hx
      rw [List.getElem?_eq_getElem hlt] at e1
      cases e1
      rw [ed] at k
      unfold compTurns at k
      obtain ⟨ρ1, e2, k⟩ := k.get
      refine gOf_ok (er_grow cj.er gr) rx e2 fun σ1 sr => ?_
      have ew : L2.wipe σ1 own1 = L2.wipe τ own1 := by
        refine wipe_eq ?_ fun j n => (sr.off j fun q => n (hin j q)).trans (swipe_out n)
        have l1 := sr.er.len
        have l2 := cj.er.len
        have l3 : ρ1.length = (ρi.wipe own1).length := store_len e2
        rw [l1, l3, ← l2, wipe_length]
      -- what stood stands behind a turn
      have kpn : ∀ {H3 : Hp} {U3 : Addr → Prop} {ρ3 : Env}, Pst K w.fa σ1 H' U ρ1 H3 U3 ρ3 → Kp2 H4 U4 (fun a => Ow (ρ4.wipe own1) (L2.wipe τ own1) a ∨ a = D) H3 U3 (Ow (ρ3.wipe own1) (L2.wipe τ own1)) := fun {H3 U3 ρ3} p => by
        have g1 := kp.go.trans (Go.grow (own := fun _ => False) gr) (fun _ h => h.elim) c4.er.dom
        refine ⟨g1.trans p.go (fun a h => .inl (kp.ow a (sr.ow a h))) c4.er.dom, fun a h => ?_⟩
        rw [← ew] at h
        exact kp.ow a (sr.ow a (p.own a (ow_wipe h)))
      refine ⟨ew, tC_ok sr.er (k.bind.mono (fun b ρ2 k H2 U2 p2 => ?_) fun _ _ h => h)⟩
      cases b with
      | false =>
        rw [if_neg (by decide)]
        exact ⟨U2, ρ2, acc, zs, by omega, cj_step cj i2 er0 hD gr hin sr ew p2, kpn p2, k⟩
      | true =>
        rw [if_pos rfl]
        refine ⟨U2, ρ2, p2.er, k.bind.mono (fun v ρ3 k y H3 U3 p3 rv f => ?_) fun _ _ h => h.elim⟩
        obtain ⟨dy, e3, k⟩ := k.get
        obtain ⟨U5, p4, ry⟩ := give p2.er p3 rv f e3
        have p5 := p2.trans sr.er p4
        have c5 := cj_step cj i2 er0 hD gr hin sr ew p5
        have kn := kpn p5
        refine ⟨acc, c5.lst, ?_, U5, ρ3, acc ++ [y], zs ++ [dy], by simp; omega, cj_app c5 i2 er0 hD ry, ⟨?_, kn.ow⟩, k⟩
        · rw [c5.els.len, sizeLine_eq]
          omega
        · exact kn.go.trans (own' := fun a => a = D) ⟨fun a o h n _ => by rw [upd_ne n]; exact h, fun a h _ => h, fun a h => .inl h, fun a h => (nw_upd nt_lst h).2⟩ (fun a h => .inl (.inr h)) c4.er.dom
    · have e : i = ds.length := by omega
      refine .inl ⟨w2 (by omega), ?_⟩
      rw [e, List.drop_length] at k
      exact k H U acc cj
/-- the whole loop's reading -/
theorem comp2_read {cl : Fun} {tg tg1 : Tg} {tc tc1 : Option T} {te it1 : T} {k1 : Wkd} {Q : VK} {J : It} {src : Hp → (Addr → Prop) → Prop} {ds : List PyData}
    (er0 : ER K w.fa H0 U0 σ ρ0) (hin : ∀ i ∈ tgIx tg, i ∈ own) (hin1 : ∀ i ∈ tgIx tg1, i ∈ own1) (h11 : ∀ i ∈ own1, i ∈ own) (wk : Wk K J src ds) (hs : ∀ H2 U2, Go (Ow ρ0 σ) H0 U0 H2 U2 → src H2 U2)
    (h : Aft (comp2Turns own own1 tg tg1 (evC cl tc) (evW k1 it1 (evE cl it1)) (evC cl tc1) (evE cl te) ds [] ρ0) (fun ys ρe => ∀ D H U acc, H0 D = none → CI K w σ own H0 U0 ρ0 D H U ρe acc ys → Q (.ref D) H) (fun _ _ => False)) :
    ∀ D, H0 D = none → ∃ Wi : Nat → Nat → Hp → Prop, (∃ m, Wi 0 m (upd H0 D (.lst []))) ∧ ∀ i m H, Wi i m H →
      (J.stop i H ∧ Q (.ref D) H) ∨ (J.go i H ∧ ∃ Nx : Hp → Prop, (∀ H', Nx H' → ∃ m', m' < m ∧ Wi (i + 1) m' H') ∧ ∀ x H', J.yld i H x H' → gOf K tg x (L2.wipe σ own) H' fun σ2 H2 => L2.wipe σ2 own = L2.wipe σ own ∧ tC K w cl tc σ2 H2 fun b H3 =>
        if b = true then tI K w cl W0 it1 k1 σ2 H3 fun J1 H4 => ∃ W1 : Nat → Nat → Hp → Prop, (∃ m, W1 0 m H4) ∧ ∀ j k H, W1 j k H →
          (J1.stop j H ∧ Nx H) ∨ (J1.go j H ∧ ∃ Nx1 : Hp → Prop, (∀ H', Nx1 H' → ∃ k', k' < k ∧ W1 (j + 1) k' H') ∧ ∀ x H', J1.yld j H x H' → gOf K tg1 x (L2.wipe σ2 own1) H' fun σ3 H5 => L2.wipe σ3 own1 = L2.wipe σ2 own1 ∧ tC K w cl tc1 σ3 H5 fun b H6 =>
            if b = true then tE K w cl W0 te σ3 H6 fun y H7 => ∃ acc, H7 D = some (.lst acc) ∧ acc.length < sizeLine ∧ Nx1 (upd H7 D (.lst (acc ++ [y]))) else Nx1 H6)
        else Nx H3) := by
  intro D hD
  refine ⟨fun i m H => ∃ U ρi acc ys, m = ds.length - i ∧ i ≤ ds.length ∧ CI K w σ own H0 U0 ρ0 D H U ρi acc ys ∧
    Aft (comp2Turns own own1 tg tg1 (evC cl tc) (evW k1 it1 (evE cl it1)) (evC cl tc1) (evE cl te) (ds.drop i) ys ρi) (fun ys ρe => ∀ D H U acc, H0 D = none → CI K w σ own H0 U0 ρ0 D H U ρe acc ys → Q (.ref D) H) (fun _ _ => False), ⟨ds.length, ?_⟩, ?_⟩
  · have p := Pst.newU (o := .lst []) er0 hD own_lst
    exact ⟨addU U0 D, ρ0, [], [], by omega, Nat.zero_le _, ⟨er_wipe p.er, p.go, fun a h => ow_wipe h, fun j v h o => ⟨v, (ewipe_some h).1, o⟩, fun j v _ h => ⟨v, h, id⟩, upd_same, .nil, .inr rfl⟩, by simpa using h⟩
  · rintro i m H ⟨U, ρi, acc, ys, rfl, hi, ci, k⟩
    obtain ⟨w1, w2⟩ := wk i H U (hs H U ci.go) fun a u => ci.er.dom.nn u
    by_cases hlt : i < ds.length
    · obtain ⟨go, yl⟩ := w1 hlt
      have ed : ds.drop i = ds[i] :: ds.drop (i + 1) := (List.drop_eq_getElem_cons hlt)
      refine .inr ⟨go, fun H' => ∃ U ρi acc ys, CI K w σ own H0 U0 ρ0 D H' U ρi acc ys ∧
        Aft (comp2Turns own own1 tg tg1 (evC cl tc) (evW k1 it1 (evE cl it1)) (evC cl tc1) (evE cl te) (ds.drop (i + 1)) ys ρi) (fun ys ρe => ∀ D H U acc, H0 D = none → CI K w σ own H0 U0 ρ0 D H U ρe acc ys → Q (.ref D) H) (fun _ _ => False),
        fun H' ⟨U, ρi, acc, ys, h2, h3⟩ => ⟨ds.length - (i + 1), by omega, U, ρi, acc, ys, rfl, hlt, h2, h3⟩, fun x H' hx => ?_⟩
      obtain ⟨gr, d, e1, rx⟩ := yl x H' hx
      rw [List.getElem?_eq_getElem hlt] at e1
      cases e1
      rw [ed] at k
      unfold comp2Turns at k
      obtain ⟨ρ1, e2, k⟩ := k.get
      refine gOf_ok (er_grow ci.er gr) rx e2 fun σ1 sr => ?_
      have ew : L2.wipe σ1 own = L2.wipe σ own := by
        refine wipe_eq ?_ fun j n => (sr.off j fun q => n (hin j q)).trans (swipe_out n)
        have l1 := sr.er.len
        have l2 := ci.er.len
        have l3 : ρ1.length = (ρi.wipe own).length := store_len e2
        rw [l1, l3, ← l2, wipe_length]
      refine ⟨ew, tC_ok sr.er (k.bind.mono (fun b ρ2 k H2 U2 p2 => ?_) fun _ _ h => h)⟩
      cases b with
      | false =>
        rw [if_neg (by decide)]
        exact ⟨U2, ρ2, acc, ys, ci_step ci er0 hD gr hin sr ew p2, k⟩
      | true =>
        rw [if_pos rfl]
        have i2 : In2 σ σ1 own own1 := ⟨h11, ew⟩
        refine ⟨U2, ρ2, p2.er, ?_⟩
        have k := k.bind
        change Aft ((opnd it1 (evE cl it1) ρ2).bind fun p => (get (look p.2 p.1)).bind fun x => (get (itemsOf k1 x)).bind fun ds => (get (need (flat k1 x))).bind fun _ => Res.ok (ds, p.2)) _ _ at k
        refine k.bind.mono (fun o ρ3 k => ?_) fun _ _ h => h.elim
        obtain ⟨x1, e3, k⟩ := k.get
        obtain ⟨ds1, e4, k⟩ := k.get
        obtain ⟨_, e5, k⟩ := k.get
        have fl : flat k1 x1 = true := by
          unfold need at e5
          split at e5
          · assumption
          · cases e5
        have k := Aft.ok1 k
        dsimp only at k
        obtain ⟨_, e6, k⟩ := k.get
        have hz1 : ys.length + ds1.length ≤ 16777216 := by
          unfold need at e6
          split at e6
          · exact of_decide_eq_true (by assumption)
          · cases e6
        refine ⟨x1, ds1, e3, e4, fun J1 src1 H4 U4 p3 wk1 hs1 _ => ?_⟩
        have c4 := cj_start (own1 := own1) ci er0 hD i2 gr hin sr (p2.trans sr.er p3)
        refine comp2_in er0 hD i2 hin1 c4 wk1 (fun H2 U2 s => hs1 H2 U2 (.inr ⟨fl, s⟩)) hz1 (k.bind.mono (fun ys2 ρe k H5 U5 acc5 c5 => ?_) fun _ _ h => h)
        exact ⟨U5, ρe, acc5, ys2, cj_end c5 i2, k⟩
    · have e : i = ds.length := by omega
      refine .inl ⟨w2 (by omega), ?_⟩
      rw [e, List.drop_length] at k
      exact k D H U acc hD ci
end
section
variable {X : Cx} {w : Wd} {cl : Fun} {W : WX}
theorem comp2_at {tg iter : Expr} {own own1 : List Nat} {tgT tgT1 : Tg} {k k1 : Wkd} {tit te it1 : T} {tc tc1 : Option T} (hi : SI X w cl W tg iter tit k) (hin : (tgIx tgT).all own.contains = true) (hin1 : (tgIx tgT1).all own1.contains = true) (h11 : own1.all own.contains = true) :
    ∃ wi, PI X tg iter wi ∧ ∀ σ H U ρ Q, ER X.K w.fa H U σ ρ → Aft (evE cl (.comp2 te own own1 tgT k tit tc tgT1 k1 it1 tc1) ρ) (OkE X.K w σ H U ρ Q) (XcE X.K w W σ H U ρ) →
      tLc2 wi (gOf X.K tgT) (tC X.K w cl tc) (tI X.K w cl W0 it1 k1) (gOf X.K tgT1) (tC X.K w cl tc1) (tE X.K w cl W0 te) own own1 σ H Q := by
  have all_ : ∀ {a b : List Nat}, a.all b.contains = true → ∀ i ∈ a, i ∈ b := fun z i m => by
    have := List.all_eq_true.mp z i m
    simpa using this
  obtain ⟨wi, p, ki⟩ := hi
  refine ⟨wi, p, fun σ H U ρ Q er h => ki σ H U ρ _ er ?_⟩
  unfold evE at h
  refine h.bind.mono (fun o ρ' h => ?_) fun _ _ h => h
  obtain ⟨x, e1, h⟩ := h.get
  obtain ⟨ds, e2, h⟩ := h.get
  obtain ⟨_, e3, h⟩ := h.get
  refine ⟨x, ds, e1, e2, fun J src H' U' p1 wk hs hz => ?_⟩
  have ok : ownOk ρ' own = true := by
    unfold need at e3
    split at e3
    · assumption
    · cases e3
  refine comp2_read (er_lock p1.er) (all_ hin) (all_ hin1) (all_ h11) wk (fun H2 U2 g => hs H2 U2 (.inl g)) ?_
  cases q : comp2Turns own own1 tgT tgT1 (evC cl tc) (evW k1 it1 (evE cl it1)) (evC cl tc1) (evE cl te) ds [] (lockO o ρ') with
  | stuck => rw [q] at h; exact h
  | exc _ _ => rw [q] at h; exact h
  | ok r =>
    obtain ⟨ys, ρe⟩ := r
    rw [q] at h
    intro D He Ue acc hD c
    have pe := ci_end p1.er ok c
    have h' : OkE X.K w σ H U ρ Q (.lst ys) (unlockO ρ' o (Env.back ρ' ρe own)) := h
    refine h' _ _ Ue (p1.trans er pe) ⟨D, acc, rfl, c.u, c.lst, c.els⟩ fun _ a z => ?_
    cases z
    exact ⟨fun z => p1.er.dom.nn (p1.er.hd (pe.hdd D z)) hD, p1.go.dom D (.of hD)⟩
theorem se_comp2 {elt tg iter tg1 iter1 : Expr} {ifs ifs1 : List Expr} {scope : Scope} {own : List (Str × Nat)} {own1 : List Nat} {pos : Pos} {tgT tgT1 : Tg} {k k1 : Wkd} {tit te it1 : T} {tc tc1 : Option T} (G : GC X W) (hi : SI X w cl W tg iter tit k) (ok : BlkOk X.N X.env.scope scope own)
    (hg : ∀ (s : Shared) (H : Hp) (C : Addr) (c : List (Str × Addr)) (fp : List Addr), PG (X.blk s H scope (compEnvC scope c C X.env) fp) tg (gOf X.K tgT)) (hin : (tgIx tgT).all (own.map (·.2)).contains = true) (hin1 : (tgIx tgT1).all own1.contains = true) (h11 : own1.all (own.map (·.2)).contains = true)
    (ht : ∀ (s : Shared) (H : Hp) (C : Addr) (c : List (Str × Addr)) (fp : List Addr), SC (X.blk s H scope (compEnvC scope c C X.env) fp) w cl ifs tc)
    (hi1 : ∀ (s : Shared) (H : Hp) (C : Addr) (c : List (Str × Addr)) (fp : List Addr), SI (X.blk s H scope (compEnvC scope c C X.env) fp) w cl W0 tg1 iter1 it1 k1)
    (hg1 : ∀ (s : Shared) (H : Hp) (C : Addr) (c : List (Str × Addr)) (fp : List Addr), PG (X.blk s H scope (compEnvC scope c C X.env) fp) tg1 (gOf X.K tgT1))
    (ht1 : ∀ (s : Shared) (H : Hp) (C : Addr) (c : List (Str × Addr)) (fp : List Addr), SC (X.blk s H scope (compEnvC scope c C X.env) fp) w cl ifs1 tc1)
    (he : ∀ (s : Shared) (H : Hp) (C : Addr) (c : List (Str × Addr)) (fp : List Addr), SE (X.blk s H scope (compEnvC scope c C X.env) fp) w cl W0 elt te) (hs : ∀ x, foldedSetIterable iter X.env x = pure x := by intro _; rfl) (hs1 : ∀ env x, foldedSetIterable iter1 env x = pure x := by intro _ _; rfl) :
    SE X w cl W (.ListComp elt [⟨tg, iter, ifs, 0⟩, ⟨tg1, iter1, ifs1, 0⟩] scope pos) (.comp2 te (own.map (·.2)) own1 tgT k tit tc tgT1 k1 it1 tc1) := by
  obtain ⟨wi, p, kk⟩ := comp2_at (te := te) (tc := tc) (k1 := k1) (it1 := it1) (tc1 := tc1) hi hin hin1 h11
  refine ⟨_, pe_lc2 (tt := tC X.K w cl tc) (tt1 := tC X.K w cl tc1) (vs1 := own1) G.calm G.nd p ok (fun i m => ?_) hg (fun s H C c fp => ht s H C c fp) (fun s H C c fp => (hi1 s H C c fp).can) hg1 (fun s H C c fp => ht1 s H C c fp) (fun s H C c fp => (he s H C c fp).can) hs hs1, kk⟩
  have := List.all_eq_true.mp h11 i m
  simpa using this
theorem ss_asgC2 {i : Nat} {y : Str} {py : Pos} {elt tg iter tg1 iter1 : Expr} {ifs ifs1 : List Expr} {scope : Scope} {own : List (Str × Nat)} {own1 : List Nat} {pos spos : Pos} {tgT tgT1 : Tg} {k k1 : Wkd} {tit te it1 : T} {tc tc1 : Option T} {lk : List Nat} (G : GC X W) (hy : X.N[i]? = some y) (hyl : X.env.scope.names.lookup y = some .local)
    (hsw : swapsWith (.ListComp elt [⟨tg, iter, ifs, 0⟩, ⟨tg1, iter1, ifs1, 0⟩] scope pos) (some (.Name y py)) spos.line X.env = pure true) (hi : SI X w cl W tg iter tit k) (ok : BlkOk X.N X.env.scope scope own)
    (hg : ∀ (s : Shared) (H : Hp) (C : Addr) (c : List (Str × Addr)) (fp : List Addr), PG (X.blk s H scope (compEnvC scope c C X.env) fp) tg (gOf X.K tgT)) (hin : (tgIx tgT).all (own.map (·.2)).contains = true) (hin1 : (tgIx tgT1).all own1.contains = true) (h11 : own1.all (own.map (·.2)).contains = true)
    (ht : ∀ (s : Shared) (H : Hp) (C : Addr) (c : List (Str × Addr)) (fp : List Addr), SC (X.blk s H scope (compEnvC scope c C X.env) fp) w cl ifs tc)
    (hi1 : ∀ (s : Shared) (H : Hp) (C : Addr) (c : List (Str × Addr)) (fp : List Addr), SI (X.blk s H scope (compEnvC scope c C X.env) fp) w cl W0 tg1 iter1 it1 k1)
    (hg1 : ∀ (s : Shared) (H : Hp) (C : Addr) (c : List (Str × Addr)) (fp : List Addr), PG (X.blk s H scope (compEnvC scope c C X.env) fp) tg1 (gOf X.K tgT1))
    (ht1 : ∀ (s : Shared) (H : Hp) (C : Addr) (c : List (Str × Addr)) (fp : List Addr), SC (X.blk s H scope (compEnvC scope c C X.env) fp) w cl ifs1 tc1)
    (he : ∀ (s : Shared) (H : Hp) (C : Addr) (c : List (Str × Addr)) (fp : List Addr), SE (X.blk s H scope (compEnvC scope c C X.env) fp) w cl W0 elt te) (hs : ∀ x, foldedSetIterable iter X.env x = pure x := by intro _; rfl) (hs1 : ∀ env x, foldedSetIterable iter1 env x = pure x := by intro _ _; rfl) :
    SS X w cl W lk (.Assign [.Name y py] (.ListComp elt [⟨tg, iter, ifs, 0⟩, ⟨tg1, iter1, ifs1, 0⟩] scope pos) spos) (.asg i (.comp2 te (own.map (·.2)) own1 tgT k tit tc tgT1 k1 it1 tc1)) := by
  obtain ⟨wi, p, kk⟩ := comp2_at (te := te) (tc := tc) (k1 := k1) (it1 := it1) (tc1 := tc1) hi hin hin1 h11
  refine ⟨_, ps_setLc2 (tt := tC X.K w cl tc) (tt1 := tC X.K w cl tc1) (vs1 := own1) G.calm G.nd hy hyl hsw p ok (fun i m => ?_) hg (fun s H C c fp => ht s H C c fp) (fun s H C c fp => (hi1 s H C c fp).can) hg1 (fun s H C c fp => ht1 s H C c fp) (fun s H C c fp => (he s H C c fp).can) hs hs1, fun D σ H U ρ er h => asg_go er (fun Q => kk σ H U ρ Q er) h⟩
  have := List.all_eq_true.mp h11 i m
  simpa using this
end
end Pv
set_option Elab.async false
set_option linter.all false
set_option maxRecDepth 100000
set_option maxHeartbeats 2100000
/-! l.index(e), d.get(k, e), l.pop(), any(bs). -/
namespace Pv
open PySem L2 PyProof.Rows
theorem need_true {b : Bool} {u : Unit} (h : need b = some u) : b = true := by
  unfold need at h
  split at h
  · assumption
  · cases h
section
variable {X : Cx} {w : Wd} {cl : Fun} {W : WX}
theorem blt_any (hc : X.calm = true) : BltOk X w .any (.builtin "any") := ⟨_, cr_any hc, fun σ H U ρ x d v Q er hx hv h => by
  unfold blt1 at hv
  split at hv <;> try cases hv
  all_goals first | contradiction | skip
  obtain ⟨bs, e1, rfl⟩ := Option.map_eq_some_iff.mp hv
  obtain ⟨a, vs, rfl, s, r⟩ := hx
  have := bools_of e1 r
  subst this
  exact ⟨a, bs, rfl, SqL.of s, h.one er (.bl _)⟩⟩
theorem idx2_some {x y : PyData} {n : Int} (h : idx2 x y = some n) : ∃ (xs : List PyData) (j : Nat) (z : PyData), x = .list xs ∧ n = (j : Int) ∧ shp (.list xs) = true ∧ shp y = true ∧ xs[j]? = some z ∧ PyData.eqv z y = true ∧ ∀ (m : Nat) (z' : PyData), m < j → xs[m]? = some z' → PyData.eqv z' y = false := by
  cases x with
  | list xs =>
    have h : (if shp (.list xs) && shp y then (xs.findIdx? fun z => PyData.eqv z y).map fun (n : Nat) => (n : Int) else none) = some n := h
    split at h
    · rename_i c
      obtain ⟨c1, c2⟩ := Bool.and_eq_true_iff.mp c
      obtain ⟨j, e1, e2⟩ := Option.map_eq_some_iff.mp h
      obtain ⟨hj, e3, e4⟩ := List.findIdx?_eq_some_iff_getElem.mp e1
      refine ⟨xs, j, xs[j], rfl, e2.symm, c1, c2, List.getElem?_eq_getElem hj, e3, fun m z' hm hz => ?_⟩
      have := e4 m hm
      rw [List.getElem?_eq_getElem (by omega)] at hz
      cases hz
      exact Bool.eq_false_iff.mpr this
    · cases h
  | _ => cases h
theorem se_idx {o e : Expr} {to t : T} {apos pos : Pos} (G : GC X W) (ho : SO X w cl W o to) (he : SO X w cl W e t)
    (hb : attributeBase o (Str.ofString "index") X.env (eval o X.env) = eval o X.env := by rfl)
    (hf : ((backTo pos (starEach [e] X.env)).all (fun x => !x.1) && (backToKw pos (keywordEach [] X.env)).all (fun x => x.1.isSome) && decide (([e] : List Expr).length + ([] : List Keyword).length + (if ([] : List Keyword).isEmpty then 0 else 1) < 30)) = true := by rfl)
    (hl : (apos.endLine == pos.line) = true := by rfl) (hs : starEach [e] X.env = [(false, eval e X.env)] := by rfl) (hp : (backTo pos (starEach [] X.env)).any (·.1) = false := by rfl) :
    SE X w cl W (.Call (.Attribute o "index" apos) [e] [] pos) (.idx to t) := by
  obtain ⟨eo, po, ko⟩ := ho
  obtain ⟨te, p, k⟩ := he
  refine ⟨_, pe_bm F.plainAttrs_list F.slot_list_index F.type_list_index (mt_indexD (by have := G.room; omega)) po (pa_cons p pa_nil hs) hb hf hl hs hp, fun σ H U ρ Q er h => ko σ H U ρ _ er ?_⟩
  unfold evE at h
  refine h.bind.mono (fun o1 ρ1 h x H1 U1 p1 r1 => ?_) fun _ _ h => h
  obtain ⟨x0, e0, h⟩ := h.get
  obtain ⟨_, e1, h⟩ := h.get
  have il := need_true e1
  cases x0 with
  | list zs =>
    have hx := r1.vw p1.er e0
    obtain ⟨a, vs, rfl, hs0, _⟩ := hx
    refine ⟨.inl ⟨rfl, vs, SqL.of hs0⟩, k σ H1 U1 ρ1 _ p1.er (h.bind.mono (fun o2 ρ2 h y H2 U2 p2 r2 => ?_) fun _ _ h => h.on er p1)⟩
    obtain ⟨x2, e2, h⟩ := h.get
    obtain ⟨y2, e3, h⟩ := h.get
    obtain ⟨n, e4, h⟩ := h.get
    obtain ⟨xs, j, z, rfl, rfl, c1, c2, e5, e6, e7⟩ := idx2_some e4
    have hx2 := (RO.on p2 p1.er r1).vw p2.er e2
    have hy2 := r2.vw p2.er e3
    have h' := OkE.on h er (p1.trans er p2)
    exact ⟨a, y, y2, xs, j, z, rfl, rfl, hx2.dp, hy2.dp, c1, c2, e5, e6, e7, h'.one p2.er (.int _)⟩
  | _ => cases il
/-- d.get(k, e) -/
theorem se_dgt {i : Nat} {x : Str} {ke e : Expr} {tk t : T} {apos pos pos' : Pos} (G : GC X W) (hi : X.N[i]? = some x) (hv : Vis X.env.scope x) (hk : SE X w cl W ke tk) (he : SE X w cl W e t)
    (m : M2 X (.Name x pos') "get" apos ke e pos := by exact ⟨rfl, rfl, rfl, rfl⟩)
    (hd : (x == ("__debug__" : Str)) = false := by decide) (hcd : (x == ("__classdict__" : Str)) = false := by decide) : SE X w cl W (.Call (.Attribute (.Name x pos') "get" apos) [ke, e] [] pos) (.dgt i tk t) := by
  obtain ⟨te, p, k⟩ := hk
  obtain ⟨td, q, kd⟩ := he
  refine ⟨_, pe_dget2 (by have := G.room; omega) (pe_var hi hv hd hcd) p q m, fun σ H U ρ Q er h => ?_⟩
  have main : ∀ (kvs0 : List (Str × PyData)) (a : Addr) (ws0 : List (Key × V)), σ[i]? = some (some (.ref a)) → Rd H a (.dK ws0) →
      Aft ((evE cl tk ρ).bind fun p => (evE cl t p.2).bind fun q => (get q.1.frz).bind fun d => (get (lookD q.2 i p.1)).bind fun o => .ok (.dat (o.getD d), q.2)) (OkE X.K w σ H U ρ Q) (XcE X.K w W σ H U ρ) →
      tDGet2 (tVar i) te td σ H Q := by
    intro kvs0 a ws0 e1 hw0 h
    refine ⟨_, e1, a, rfl, .inl ⟨ws0, hw0⟩, k σ H U ρ _ er (h.bind.mono (fun v ρ1 h y H1 U1 p1 r f => ?_) fun _ _ h => h)⟩
    refine kd σ H1 U1 ρ1 _ p1.er (h.bind.mono (fun v2 ρ2 h z H2 U2 p2 r2 f2 => ?_) fun _ _ h => h.on er p1)
    obtain ⟨d, e3, h⟩ := h.get
    obtain ⟨o, e2, h⟩ := h.get
    obtain ⟨ks, kvs, rfl, e4, rfl⟩ := lookD_some e2
    cases r
    obtain ⟨U3, p3, rd⟩ := give p1.er p2 r2 f2 e3
    have pp := p1.trans er p3
    obtain ⟨y1, e5, r1⟩ := p3.er.dict e4
    rw [e1] at e5
    cases e5
    obtain ⟨a', ws, q1, hw, rr⟩ := r1
    cases q1
    have g := rr.get (k := ks)
    have hq : OkE X.K w σ H U ρ Q (.dat ((valD kvs ks).getD d)) ρ2 := h
    refine ⟨_, DGet.k (k := .inr ks) hw, ?_⟩
    cases z : valD kvs ks with
    | none =>
      rw [z] at g hq
      have g' : valV ws (.inr ks) = none := g
      rw [g']
      exact hq _ H2 U3 pp rd fun z => nomatch z
    | some dv =>
      rw [z] at g hq
      obtain ⟨v', g1, g2⟩ := g
      rw [g1]
      exact hq _ H2 U3 pp g2 fun z => nomatch z
  unfold evE at h
  split at h
  · rename_i kvs0 e0
    obtain ⟨y0, e1, r0⟩ := er.dict (.inl e0)
    obtain ⟨a, ws, rfl, hw, _⟩ := r0
    exact main kvs0 a ws e1 (.inl hw) h
  · rename_i kvs0 e0
    obtain ⟨y0, e1, r0⟩ := er.dict (.inr e0)
    obtain ⟨a, ws, rfl, hw, _⟩ := r0
    exact main kvs0 a ws e1 (.inl hw) h
  · exact h.elim
/-- l.pop() -/
theorem se_pop {i : Nat} {x : Str} {apos pos pos' : Pos} (hi : X.N[i]? = some x) (hv : Vis X.env.scope x)
    (hb : attributeBase (.Name x pos') (Str.ofString "pop") X.env (eval (.Name x pos') X.env) = eval (.Name x pos') X.env := by rfl) (hl : (apos.endLine == pos.line) = true := by rfl)
    (hd : (x == ("__debug__" : Str)) = false := by decide) (hcd : (x == ("__classdict__" : Str)) = false := by decide) : SE X w cl W (.Call (.Attribute (.Name x pos') "pop" apos) [] [] pos) (.pop i) := by
  refine ⟨_, pe_bm0 F.plainAttrs_list F.slot_list_pop F.type_list_pop mt_pop (pe_var hi hv hd hcd) hb hl, fun σ H U ρ Q er h => ?_⟩
  unfold evE at h
  split at h
  · rename_i ds e0
    obtain ⟨d, e2, h⟩ := h.get
    obtain ⟨y0, e1, r0⟩ := er.val i _ e0
    obtain ⟨a, vs, rfl, u0, h0, rr⟩ := id r0
    have sta : Sta H U (upd H a (.lst vs.dropLast)) U := ⟨fun b ob h z _ => by rw [upd_ne fun q => z (by rw [q]; exact u0)]; exact h, fun b h => .inl h⟩
    have hlast : ∃ y, vs[vs.length - 1]? = some y ∧ Rp X.K H U y d := by
      rw [List.getLast?_eq_getElem?] at e2
      obtain ⟨v, g1, g2⟩ := rr.get (by rw [← rr.len] at e2; exact e2)
      exact ⟨v, g1, g2⟩
    obtain ⟨y, hy, ry⟩ := hlast
    have rl : Rps X.K H U vs.dropLast ds.dropLast := by
      rw [List.dropLast_eq_take, List.dropLast_eq_take, rr.len]
      exact rr.take _
    have rn : RV X.K w.fa (upd H a (.lst vs.dropLast)) U (.ref a) (.lst ds.dropLast) := ⟨a, _, rfl, u0, upd_same, rl.sta sta⟩
    have ps := pss_mut (lk := []) er (Pst.refl er) e0 rfl rfl e1 rn
    refine ⟨_, e1, .inl ⟨rfl, vs, SqL.of h0⟩, a, vs, y, rfl, rfl, h0, hy, ?_⟩
    have hlt : i < ρ.length := (List.getElem?_eq_some_iff.mp e0).1
    refine h y _ U ⟨ps.er, ps.go, fun b ⟨j, u, g1, g2, g3⟩ => ?_, fun j u g1 g2 => ?_, fun j u g1 => ?_⟩ (ry.sta sta) fun z => nomatch z
    · rcases get_set_some g1 with ⟨rfl, q⟩ | ⟨n, q⟩
      · exact ⟨_, _, e0, rfl, g3⟩
      · exact ⟨j, u, q, g2, g3⟩
    · rcases get_set_some g1 with ⟨rfl, q⟩ | ⟨n, q⟩
      · exact ⟨_, e0, rfl⟩
      · exact ⟨u, q, g2⟩
    · by_cases q : i = j
      · subst q
        exact ⟨_, List.getElem?_set_self hlt, fun _ => rfl⟩
      · exact ⟨u, by rw [List.getElem?_set_ne q]; exact g1, id⟩
  · exact h.elim
end
end Pv
set_option Elab.async false
set_option linter.all false
set_option maxRecDepth 100000
set_option maxHeartbeats 2100000
namespace Pv
open PySem L2 PyProof.Rows
section
variable {P : Program} {wd : World} {K : PySem.W.Frag} {mg : Str → Option Value} {base : Heap} {w : Wd} {Pr : List Df}
/-- every def is kept, and binds its arguments -/
structure Ks (K : PySem.W.Frag) (w : Wd) : Prop where
  keep : ∀ k f, (w.fa k = some f ∨ w.fs k = some f) → PySem.W.keepIn K (.ref f) = true
  binds : ∀ k f, w.fa k = some f → Bnd K (w.fd k) (w.ps k)
  bstar : ∀ k f, w.fs k = some f → BndS (w.fd k) (w.ps k)
theorem no_sp {K : PySem.W.Frag} {w : Wd} {cl : Fun} {k n : Nat} {f : Addr} {fd : FuncData} {ps : List Str} (h : ∀ vs, cl k vs = .stuck) : FnG P wd K mg base n f fd ps (spD K w cl k) := by
  have no : ∀ {vs H Q E}, spD K w cl k vs H Q E → False := fun ⟨_, ws, _, z⟩ => by
    rw [h ws] at z
    exact z
  exact ⟨fun _ _ _ _ h => (no h).elim, fun _ _ _ _ _ _ _ _ _ _ _ _ _ _ _ _ h => (no h).elim⟩
theorem sp_sh {K : PySem.W.Frag} {w : Wd} {cl cl' : Fun} {k n : Nat} {f : Addr} {fd : FuncData} {ps : List Str} (e : cl' k = cl k) (h : FnG P wd K mg base n f fd ps (spD K w cl k)) : FnG P wd K mg base n f fd ps (spD K w cl' k) := by
  unfold spD at h ⊢
  rw [e]
  exact h
theorem hasF_of {N : List Str} {qual : Str} {scope : Scope} {f : Addr} {cdv : Value} {A : Around} {outer : List PySem.Env} {s : Shared} {H : Hp} {E : XK} {n : Nat} (h : Lvls P wd K mg base w Pr n) (B : Ks K w) (hr : Room (n + 2) (A.deeper (envOfC qual scope s.heap.objs.size f cdv))) :
    HasF (bodyX P wd K mg base N qual scope f cdv A outer s H E) w (evF Pr n) (n + 2) := ⟨h.le n (Nat.le_refl _), B.keep, B.binds, B.bstar, hr⟩
theorem hasL_of {N : List Str} {qual : Str} {scope : Scope} {f : Addr} {cdv : Value} {A : Around} {outer : List PySem.Env} {s : Shared} {H : Hp} {E : XK} {n : Nat} (h : Lvls P wd K mg base w Pr n) :
    HasL (bodyX P wd K mg base N qual scope f cdv A outer s H E) w (evF Pr n) n := fun k f hk =>
  match n, h with
  | 0, _ => no_sp fun vs => rfl
  | 1, h => no_sp fun vs => by
    have e1 : Pr[k + 2000]? = none := List.getElem?_eq_none (by have := h.few; omega)
    show (match Pr[k + 2000]? with
      | some d => runF (evF Pr 0) d vs
      | none => if 1000 ≤ k + 2000 then evF Pr 0 (k + 2000 - 1000) vs else .stuck) = _
    rw [e1]
    exact if_pos (by omega)
  | n + 2, h => sp_sh (evF_sh h.few n k) (h.le n (by omega) k f hk)
theorem fn_F {x qual : Str} {st : Stmt} {f : Addr} {fd : FuncData} {N ps : List Str} {n r k : Nat} {d : Df} (F : L2.Fun K x qual st f fd) (hd : Pr[k]? = some d) (S : FnScope N ps (defScope st)) (h1 : d.ps = ps.length) (h2 : d.n = N.length)
    (hb : ∀ (cdv : Value) (A : Around) (outer : List PySem.Env) (s : Shared) (H : Hp) (E : XK) (lk : List Nat), Room r (A.deeper (envOfC qual (defScope st) s.heap.objs.size f cdv)) → A.guards = some [] →
      SSs (bodyX P wd K mg base N qual (defScope st) f cdv A outer s H E) w (evF Pr n) (fun c d _ H' => E c d H') lk (defBody st) d.body) : FnG P wd K mg base (r + 1) f fd ps (spD K w (evF Pr (n + 1)) k) := by
  have ex := F.ex
  obtain ⟨oc, od, kV, doc, pm, an, cdv, ct, osl, rfl, lk, hcd⟩ := ex
  exact fn_df hd lk hcd S h1 h2 fun A outer s H E lk => hb cdv A outer s H E lk
theorem bnd_of {x qual : Str} {st : Stmt} {f : Addr} {fd : FuncData} {ps : List Str} (F : L2.Fun K x qual st f fd)
    (h : ∀ (kV doc pm : Value) (an : Option Addr) (cdv ct : Value) (us : List Value), us.length = ps.length → bindArgs (PySem.W.fnOf x qual (defArgs st) (defBody st) (defScope st) .none kV doc pm an cdv ct) ⟨us, []⟩ = pure (ps.zip us))
    (h' : ∀ (kV doc pm : Value) (an : Option Addr) (cdv ct : Value) (us : List Value), us.length = ps.length → bindArgs (PySem.W.fnOf x qual (defArgs st) (defBody st) (defScope st) .none kV doc pm an cdv ct) ⟨[], ps.zip us⟩ = pure (ps.zip us))
    (h'' : ∀ (kV doc pm : Value) (an : Option Addr) (cdv ct : Value) (us : List Value), us.length = ps.length → bindArgs (PySem.W.fnOf x qual (defArgs st) (defBody st) (defScope st) .none kV doc pm an cdv ct) ⟨[], (ps.zip us).reverse⟩ = pure (ps.zip us)) : Bnd K fd ps := by
  have ex := F.ex
  obtain ⟨oc, od, kV, doc, pm, an, cdv, ct, osl, rfl, lk, hcd⟩ := ex
  exact ⟨fun s us _ hl => .of_eq (h kV doc pm an cdv ct us hl), fun s us _ hl => .of_eq (h' kV doc pm an cdv ct us hl), fun s us _ hl => .of_eq (h'' kV doc pm an cdv ct us hl)⟩
theorem rp_tupStrs {xs : List Str} {a : Addr} {od : Option Addr} {its : Array Value} {n : Nat} {sl : Array (Option Value)} (y : K.lookup a = some ⟨.type "tuple", od, .seq its n, sl⟩) (h : its.size ≤ sizeLine) (v : Vals (xs.map V.str) its.toList) (H : Hp) (U : Addr → Prop) : Rp K H U (.ref a) (.tuple (xs.map .str)) := by
  refine .tup (.inr (.inr ⟨_, its, n, y, rfl, rfl, h, v⟩)) ?_
  clear v y
  induction xs with
  | nil => exact .nil
  | cons x xs ih => exact .cons (.str x) ih
end
end Pv
set_option Elab.async false
set_option linter.all false
set_option maxRecDepth 100000
set_option maxHeartbeats 2100000
namespace Pv
open PySem L2 PyProof.Rows
section
variable {X : Cx} {w : Wd} {cl : Fun} {W : WX} {n : Nat}
/-- arguments by place: the named ones, and what is left over -/
def SAS (X : Cx) (w : Wd) (cl : Fun) (W : WX) (es : List Expr) (ts tsr : List T) : Prop :=
  ∃ ta : TA, PA X es ta ∧ ∀ σ H U ρ Q, ER X.K w.fa H U σ ρ →
    Aft ((evAs cl ts ρ).bind fun p => (evDs cl tsr p.2).bind fun q => Res.ok ((p.1, q.1), q.2)) (fun a ρ' => ∀ xs ys H' U', Pst X.K w.fa σ H U ρ H' U' ρ' → RAs X.K w.fa H' U' σ ρ' xs a.1 → Rps X.K H' U' ys a.2 → Q (xs ++ ys) H') (XcE X.K w W σ H U ρ) → ta σ H Q
theorem sas_nil {es : List Expr} {tsr : List T} (h : SD X w cl W es tsr) : SAS X w cl W es [] tsr := by
  obtain ⟨ta, pa, k⟩ := h
  refine ⟨ta, pa, fun σ H U ρ Q er h => k σ H U ρ _ er ?_⟩
  have e : ((evAs cl [] ρ).bind fun p => (evDs cl tsr p.2).bind fun q => Res.ok ((p.1, q.1), q.2)) = (evDs cl tsr ρ).bind fun q => Res.ok (([], q.1), q.2) := by
    unfold evAs
    rfl
  rw [e] at h
  exact h.bind.mono (fun ds ρ1 h xs H1 U1 p1 r => h [] xs H1 U1 p1 .nil r) fun _ _ h => h
theorem sas_cons {e : Expr} {es : List Expr} {t : T} {ts tsr : List T} (he : SG X w cl W e t) (hs : SAS X w cl W es ts tsr) (hst : starEach (e :: es) X.env = (false, eval e X.env) :: starEach es X.env := by rfl) : SAS X w cl W (e :: es) (t :: ts) tsr := by
  obtain ⟨ea, pa, ka⟩ := he
  obtain ⟨eb, pb, kb⟩ := hs
  refine ⟨_, pa_cons pa pb hst, fun σ H U ρ Q er h => ka σ H U ρ _ er ?_⟩
  have e : ((evAs cl (t :: ts) ρ).bind fun p => (evDs cl tsr p.2).bind fun q => Res.ok ((p.1, q.1), q.2)) =
      (argOf t (evE cl t) ρ).bind fun p => ((evAs cl ts p.2).bind fun p => (evDs cl tsr p.2).bind fun q => Res.ok ((p.1, q.1), q.2)).bind fun r => Res.ok ((p.1 :: r.1.1, r.1.2), r.2) := by
    rw [evAs]
    cases argOf t (evE cl t) ρ with
    | stuck => rfl
    | exc _ _ => rfl
    | ok p =>
      show ((evAs cl ts p.2).bind fun q => Res.ok (p.1 :: q.1, q.2)).bind _ = ((evAs cl ts p.2).bind fun p => (evDs cl tsr p.2).bind fun q => Res.ok ((p.1, q.1), q.2)).bind _
      cases evAs cl ts p.2 with
      | stuck => rfl
      | exc _ _ => rfl
      | ok q =>
        show (evDs cl tsr q.2).bind _ = ((evDs cl tsr q.2).bind _).bind _
        cases evDs cl tsr q.2 <;> rfl
  rw [e] at h
  refine h.bind.mono (fun a ρ1 h x H1 U1 p1 r => ?_) fun _ _ h => h
  refine kb σ H1 U1 ρ1 _ p1.er (h.bind.mono (fun as ρ2 h xs ys H3 U3 p3 r3 rr => ?_) fun _ _ h => h.on er p1)
  exact h (x :: xs) ys H3 U3 (p1.trans er p3) (.cons (r.on p3 p1.er) r3) rr
theorem RAs.on {K : PySem.W.Frag} {σ : L2.St} {H H1 : Hp} {U U1 : Addr → Prop} {ρ ρ1 : Env} (p : Pst K w.fa σ H U ρ H1 U1 ρ1) (e : ER K w.fa H U σ ρ) : ∀ {xs : List V} {as : List Arg}, RAs K w.fa H U σ ρ xs as → RAs K w.fa H1 U1 σ ρ1 xs as
  | _, _, .nil => .nil
  | _, _, .cons a r => .cons (a.on p e) (RAs.on p e r)
theorem RAs.append {K : PySem.W.Frag} {fa : Fa} {σ : L2.St} {H : Hp} {U : Addr → Prop} {ρ : Env} : ∀ {xs ys : List V} {as bs : List Arg}, RAs K fa H U σ ρ xs as → RAs K fa H U σ ρ ys bs → RAs K fa H U σ ρ (xs ++ ys) (as ++ bs)
  | _, _, _, _, .nil, b => b
  | _, _, _, _, .cons a r, b => .cons a (RAs.append r b)
theorem run_fnS {f : Addr} {fd : FuncData} {ps : List Str} {sp : Sp} {pins : List (Addr × Obj)} {σ : L2.St} {H : Hp} {s : Shared} {Q : VK} {us : List Value} {ws rest : List V} (F : FnG X.prog X.w X.K X.mg X.base n f fd ps sp) (hr : Room n X.A) (gd : X.A.guards = some [])
    (b : BndS fd ps) (tk : Takes X W) (I : Inv X pins σ H s) (r : Vals (ws ++ rest) us) (hz : rest.length ≤ sizeLine) (h : ∀ p, H p = none → sp (ws ++ [.ref p]) (upd H p (.tup rest)) Q (fun c d H' => W c d σ H')) :
    wpAny (model X.prog X.w) X.A (call (.ref f) us []) (EP X pins σ Q) X.xe s := by
  obtain ⟨u1, u2, rfl, r1, r2⟩ := StX.vals_split r
  have hn := I.hok.fresh (Nat.le_refl _)
  have new : ObjOk X.prog X.w (upd H s.heap.objs.size (.tup rest)) (s.heap.push ({ cls := .type "tuple", data := .seq u2.toArray } : Obj)) s.heap.objs.size (.tup rest) := ⟨hz, u2, r2, ⟨_, Heap.get?_push_size _ rfl, rfl, _, rfl⟩⟩
  have I1 := I.laid (t' := s.toks) (fun b u q => Heap.get?_push_of_some _ q) (Nat.le_refl _) new
  have hs := h _ hn
  have ra : RelV (V.ref s.heap.objs.size) (Value.ref s.heap.objs.size) := rfl
  have hl : ws.length + 1 = ps.length := by
    have := F.len _ _ _ _ hs
    rwa [List.length_append] at this
  have hz2 : u2.length ≤ sizeLine := by rw [← r2.length]; exact hz
  refine wpAny_call (codeAny_mono (F.run X.A X.stack s _ _ ⟨u1 ++ u2, []⟩ (u1 ++ [.ref s.heap.objs.size]) (ws ++ [.ref s.heap.objs.size]) Q _ hr gd I.kIn I1.env0 (fun M A E R h => b.pos s u1 u2 (by rw [← r1.length]; exact hl) hz2 M A E R h) (r1.append (.cons ra .nil)) hs) fun r s' hq => ?_)
  cases r with
  | error e => exact tk e s' (XE.of_call I1 (fun _ _ _ h => h) hq)
  | ok fl =>
    cases fl with
    | ret u => exact I1.after hq
    | next => exact False.elim hq
    | brk => exact False.elim hq
    | cont => exact False.elim hq
theorem evAs_star {tsr : List T} : ∀ (ts : List T) (ρ : Env), evAs cl (ts ++ [.tup tsr]) ρ = ((evAs cl ts ρ).bind fun p => (evDs cl tsr p.2).bind fun q => Res.ok ((p.1, q.1), q.2)).bind fun r => Res.ok (r.1.1 ++ [.vl (.dat (.tuple r.1.2))], r.2)
  | [], ρ => by
    show evAs cl [.tup tsr] ρ = _
    rw [evAs, evAs, argOf]
    show ((evE cl (.tup tsr) ρ).bind _).bind _ = (evDs cl tsr ρ |>.bind _).bind _
    rw [evE]
    cases evDs cl tsr ρ with
    | stuck => rfl
    | exc _ _ => rfl
    | ok p =>
      show (Res.bind (evAs cl [] p.2) (fun q => Res.ok (Arg.vl (.dat (.tuple p.1)) :: q.1, q.2))) = _
      rw [evAs]
      rfl
  | t :: ts, ρ => by
    show evAs cl (t :: (ts ++ [.tup tsr])) ρ = _
    rw [evAs, evAs]
    cases argOf t (evE cl t) ρ with
    | stuck => rfl
    | exc _ _ => rfl
    | ok p =>
      show (evAs cl (ts ++ [.tup tsr]) p.2).bind _ = (((evAs cl ts p.2).bind _).bind _).bind _
      rw [evAs_star ts p.2]
      cases evAs cl ts p.2 with
      | stuck => rfl
      | exc _ _ => rfl
      | ok q =>
        show ((evDs cl tsr q.2 |>.bind _).bind _).bind _ = (evDs cl tsr q.2 |>.bind _).bind _
        cases evDs cl tsr q.2 <;> rfl
theorem se_callS {e : Expr} {es : List Expr} {ts tsr tl : List T} {k : Nat} {x : Str} {p pos : Pos} (G : GC X W) (F : HasF X w cl n) {f : Addr} (hk : w.fs k = some f) (hg : Gl X x) (hm : X.mg x = some (.ref f)) (ha : SAS X w cl W (e :: es) ts tsr) (ht : tl = ts ++ [.tup tsr] := by rfl) (hn : decide (tsr.length ≤ 16777216) = true := by decide) (hdb : (x == ("__debug__" : Str)) = false := by decide)
    (he : starEach (e :: es) X.env = (false, eval e X.env) :: starEach es X.env := by rfl) (hpl : (backTo pos (starEach es X.env)).any (·.1) = false := by rfl) : SE X w cl W (.Call (.Name x p) (e :: es) [] pos) (.call k tl) := by
  subst ht
  obtain ⟨ea, pa, ka⟩ := ha
  refine ⟨fun σ H Q => ea σ H fun vs H1 => ∃ ws rest, vs = ws ++ rest ∧ rest.length ≤ sizeLine ∧ ∀ p, H1 p = none → spD X.K w cl k (ws ++ [.ref p]) (upd H1 p (.tup rest)) Q (fun c d H' => W c d σ H'), ⟨fun pins s σ H Q I h => ?_⟩, fun σ H U ρ Q er h => ka σ H U ρ _ er ?_⟩
  · refine wpAny_Call_Name_kw (ld_glob I hg hm ?_ hdb)
    refine PySem.W.callWith_K (h₀ := X.base) I.ok.mod.kin (F.keep k f (.inr hk)) (thn (pa.run pos pins s σ H _ I h) fun us s1 ⟨vs, H1, I1, r, ws, rest, e1, hz, q⟩ => ⟨I1.kIn, ?_⟩) he hpl
    subst e1
    exact run_fnS (F.fn k f (.inr hk)) F.room G.gd (F.bstar k f hk) G.tk I1 r hz q
  · unfold evE at h
    rw [evAs_star] at h
    have h := h.bind
    have h := (h : Aft (((evAs cl ts ρ).bind fun p => (evDs cl tsr p.2).bind fun q => Res.ok ((p.1, q.1), q.2)).bind fun r => Res.ok (r.1.1 ++ [.vl (.dat (.tuple r.1.2))], r.2)) _ _).bind
    refine (h.and (P := fun a => a.2.length = tsr.length) fun a ρ' e => ?_).mono (fun a ρ1 ⟨hl, h⟩ xs ys H1 U1 p1 r rr => ⟨xs, ys, rfl, ?_, fun p hp => ?_⟩) fun _ _ h => h
    · cases q : evAs cl ts ρ with
      | stuck => rw [q] at e; cases e
      | exc _ _ => rw [q] at e; cases e
      | ok z =>
        rw [q] at e
        have e : (evDs cl tsr z.2).bind _ = _ := e
        cases q2 : evDs cl tsr z.2 with
        | stuck => rw [q2] at e; cases e
        | exc _ _ => rw [q2] at e; cases e
        | ok y =>
          rw [q2] at e
          cases e
          exact len_ev tsr z.2 y.1 y.2 q2
    · rw [rr.len, hl]
      exact size_le hn
    · have pn := Pst.new (o := .tup ys) p1.er hp nt_tup
      have p2 := p1.trans er pn
      have h : Aft (doCall (cl k) (a.1 ++ [.vl (.dat (.tuple a.2))]) ρ1) _ _ := h
      exact call_go p2.er ((r.on pn p1.er).append (.cons (show RA X.K w.fa (upd H1 p (.tup ys)) U1 σ ρ1 (V.ref p) (.vl (.dat (.tuple a.2))) from ⟨.tup (.inl ⟨.inl upd_same, fun u => p1.er.dom.nn u hp⟩) (rr.sta (Sta.new' hp)), rfl⟩) .nil)) (Aft.mono h (fun _ _ h => OkE.on h er p2) fun _ _ h => h.on er p2)
/-- how one binds whose parameters are one or two and a star, from the two cases (nothing left over; something) -/
theorem bndS_of1 {K : PySem.W.Frag} {x qual : Str} {st : Stmt} {f : Addr} {fd : FuncData} {p1 pv : Str} (F : L2.Fun K x qual st f fd)
    (h0 : ∀ (kV doc pm : Value) (an : Option Addr) (cdv ct : Value) (a : Value), bindArgs (PySem.W.fnOf x qual (defArgs st) (defBody st) (defScope st) .none kV doc pm an cdv ct) ⟨[a], []⟩ = (newTuple [] >>= fun t => pure [(p1, a), (pv, t)]))
    (h1 : ∀ (kV doc pm : Value) (an : Option Addr) (cdv ct : Value) (a r : Value) (rs : List Value), bindArgs (PySem.W.fnOf x qual (defArgs st) (defBody st) (defScope st) .none kV doc pm an cdv ct) ⟨a :: r :: rs, []⟩ = (newTuple (r :: rs) >>= fun t => pure [(p1, a), (pv, t)])) : BndS fd [p1, pv] := by
  have ex := F.ex
  obtain ⟨oc, od, kV, doc, pm, an, cdv, ct, osl, rfl, lk, hcd⟩ := ex
  refine ⟨fun s us ur hl hz M A E R h => ?_⟩
  have hb := StX.bind_star1 (B := fun l => bindArgs (PySem.W.fnOf x qual (defArgs st) (defBody st) (defScope st) .none kV doc pm an cdv ct) ⟨l, []⟩) (h0 kV doc pm an cdv ct) (h1 kV doc pm an cdv ct) us ur (by simpa using hl)
  rw [hb]
  refine wpAny_bind (wpAny_newTuple (wpAny_pure ?_) hz)
  have e : [p1, pv].zip (us ++ [.ref s.heap.objs.size]) = [p1].zip us ++ [(pv, .ref s.heap.objs.size)] := match us, hl with | [_], _ => rfl
  rw [e] at h
  exact h
theorem bndS_of2 {K : PySem.W.Frag} {x qual : Str} {st : Stmt} {f : Addr} {fd : FuncData} {p1 p2 pv : Str} (F : L2.Fun K x qual st f fd)
    (h0 : ∀ (kV doc pm : Value) (an : Option Addr) (cdv ct : Value) (a b : Value), bindArgs (PySem.W.fnOf x qual (defArgs st) (defBody st) (defScope st) .none kV doc pm an cdv ct) ⟨[a, b], []⟩ = (newTuple [] >>= fun t => pure [(p1, a), (p2, b), (pv, t)]))
    (h1 : ∀ (kV doc pm : Value) (an : Option Addr) (cdv ct : Value) (a b r : Value) (rs : List Value), bindArgs (PySem.W.fnOf x qual (defArgs st) (defBody st) (defScope st) .none kV doc pm an cdv ct) ⟨a :: b :: r :: rs, []⟩ = (newTuple (r :: rs) >>= fun t => pure [(p1, a), (p2, b), (pv, t)])) : BndS fd [p1, p2, pv] := by
  have ex := F.ex
  obtain ⟨oc, od, kV, doc, pm, an, cdv, ct, osl, rfl, lk, hcd⟩ := ex
  refine ⟨fun s us ur hl hz M A E R h => ?_⟩
  have hb := StX.bind_star2 (B := fun l => bindArgs (PySem.W.fnOf x qual (defArgs st) (defBody st) (defScope st) .none kV doc pm an cdv ct) ⟨l, []⟩) (h0 kV doc pm an cdv ct) (h1 kV doc pm an cdv ct) us ur (by simpa using hl)
  rw [hb]
  refine wpAny_bind (wpAny_newTuple (wpAny_pure ?_) hz)
  have e : [p1, p2, pv].zip (us ++ [.ref s.heap.objs.size]) = [p1, p2].zip us ++ [(pv, .ref s.heap.objs.size)] := match us, hl with | [_, _], _ => rfl
  rw [e] at h
  exact h
/-- {} -/
theorem se_dct0 {pos : Pos} : SE X w cl W (.Dict [] [] pos) (.dct [] []) := by
  refine ⟨_, pe_dnewK, fun σ H U ρ Q er h p hp => ?_⟩
  unfold evE evDs at h
  have h' : OkE X.K w σ H U ρ Q (.dct []) ρ := h
  exact h'.newD er .nil hp
/-! ### k in d, k not in d -/
theorem dgi {K : PySem.W.Frag} {σ : L2.St} {H : Hp} {U : Addr → Prop} {ρ : Env} {i : Nat} {y : V} {v : Vl} {o : Option D} (er : ER K w.fa H U σ ρ) (e : lookD ρ i v = some o) (r : RV K w.fa H U y v) : ∃ a ov, σ[i]? = some (some (.ref a)) ∧ DGet H a y ov ∧ ov.isSome = o.isSome := by
  obtain ⟨ks, kvs, rfl, e4, rfl⟩ := lookD_some e
  cases r
  obtain ⟨y1, e5, a, ws, rfl, hw, rr⟩ := er.dict e4
  have g := rr.get (k := ks)
  refine ⟨a, valV ws (.inr ks), e5, DGet.k (k := .inr ks) hw, ?_⟩
  cases q : valD kvs ks with
  | none =>
    rw [q] at g
    have g : valV ws (.inr ks) = none := g
    rw [g]; rfl
  | some d =>
    rw [q] at g
    obtain ⟨v', g1, _⟩ := g
    rw [g1]; rfl
theorem st_din {i : Nat} {x : Str} {ke : Expr} {tk : T} {pos pos' : Pos} (G : GC X W) (hi : X.N[i]? = some x) (hv : Vis X.env.scope x) (hk : SE X w cl W ke tk)
    (hd : (x == ("__debug__" : Str)) = false := by decide) (hcd : (x == ("__classdict__" : Str)) = false := by decide) : ST X w cl W (.Compare ke [.In] [.Name x pos'] pos) (.ind false tk i) := by
  obtain ⟨te, p, k⟩ := hk
  refine ⟨_, pt_cmp (pc_din (by have := G.room; omega) p (pe_var hi hv hd hcd)), fun σ H U ρ Q er h => ?_⟩
  unfold evT at h
  refine k σ H U ρ _ er (h.bind.mono (fun v ρ1 h y H1 U1 p1 r f => ?_) fun _ _ h => h)
  obtain ⟨o, e2, h⟩ := h.get
  obtain ⟨a, ov, e5, g, es⟩ := dgi p1.er e2 r
  have h : ∀ H' U', Pst X.K w.fa σ H U ρ H' U' ρ1 → Q (false != o.isSome) H' := h
  refine ⟨_, e5, a, ov, rfl, g, _, rfl, ?_⟩
  rw [es]
  cases q : o.isSome <;> (rw [q] at h; exact h H1 U1 p1)
theorem st_dnin {i : Nat} {x : Str} {ke : Expr} {tk : T} {pos pos' : Pos} (G : GC X W) (hi : X.N[i]? = some x) (hv : Vis X.env.scope x) (hk : SE X w cl W ke tk)
    (hd : (x == ("__debug__" : Str)) = false := by decide) (hcd : (x == ("__classdict__" : Str)) = false := by decide) : ST X w cl W (.Compare ke [.NotIn] [.Name x pos'] pos) (.ind true tk i) := by
  obtain ⟨te, p, k⟩ := hk
  refine ⟨_, pt_cmp (pc_dnotin (by have := G.room; omega) p (pe_var hi hv hd hcd)), fun σ H U ρ Q er h => ?_⟩
  unfold evT at h
  refine k σ H U ρ _ er (h.bind.mono (fun v ρ1 h y H1 U1 p1 r f => ?_) fun _ _ h => h)
  obtain ⟨o, e2, h⟩ := h.get
  obtain ⟨a, ov, e5, g, es⟩ := dgi p1.er e2 r
  have h : ∀ H' U', Pst X.K w.fa σ H U ρ H' U' ρ1 → Q (true != o.isSome) H' := h
  refine ⟨_, e5, a, ov, rfl, g, _, rfl, ?_⟩
  rw [es]
  cases q : o.isSome <;> (rw [q] at h; exact h H1 U1 p1)
/-! ### sorted(d), d an own dict -/
theorem KvR.keyl {K : PySem.W.Frag} {H : Hp} {U : Addr → Prop} {ws : List (Key × V)} {kvs : List (Str × D)} (h : KvR K H U ws kvs) : ws.map (·.1) = (kvs.map (·.1)).map Sum.inr := by
  induction h with
  | nil => rfl
  | cons _ _ ih => rw [List.map_cons, List.map_cons, List.map_cons, ih]
theorem se_skeys {i : Nat} {x y : Str} {p pos pos' : Pos} (hc : X.calm = true) (hN : X.N[i]? = some x) (hv : Vis X.env.scope x) (hg : Gl X y) (hm : X.mg y = none) (hb : bootBuiltins y = some (.builtin "sorted"))
    (hn : y ≠ "__name__" := by decide) (hdb : (y == ("__debug__" : Str)) = false := by decide) (hd : (x == ("__debug__" : Str)) = false := by decide) (hcd : (x == ("__classdict__" : Str)) = false := by decide)
    (he : starEach [.Name x pos'] X.env = (false, eval (.Name x pos') X.env) :: starEach [] X.env := by rfl) (hpl : (backTo pos (starEach [] X.env)).any (·.1) = false := by rfl) : SE X w cl W (.Call (.Name y p) [.Name x pos'] [] pos) (.skeys i) := by
  refine ⟨_, pe_callB (call_sortedD hc) hg hm hb (pa_cons (pe_var hN hv hd hcd) pa_nil he) hn hdb he hpl, fun σ H U ρ Q er h => ?_⟩
  unfold evE at h
  split at h
  · rename_i kvs e
    split at h
    · rename_i c
      obtain ⟨y1, e5, a, ws, rfl, hw, rr⟩ := er.dict (.inl e)
      refine ⟨_, e5, a, ws, kvs.map (·.1), rfl, .inl hw, rr.keyl, by rw [List.length_map]; exact of_decide_eq_true c, fun ys q pm st hq => ?_⟩
      rw [sortS_eq pm st]
      have h : OkE X.K w σ H U ρ Q (.lst ((sortS (kvs.map (·.1))).map .str)) ρ := h
      exact h.newL er (rps_strs _) hq
    · exact h.elim
  · exact h.elim
end
end Pv
set_option Elab.async false
set_option linter.all false
set_option maxRecDepth 100000
set_option maxHeartbeats 3200000
/-! Sets of texts: made of a list, put in order. -/
namespace Pv
open PySem PySem.Spec PyProof.Rows L2
open PySem.Froz (sObj TxOk addTx tailTx is_str)
/-- the set of the texts l at a -/
structure StT (P : Program) (w : World) (h : Heap) (a : Addr) (l : List Str) : Prop where
  ex : ∃ D : PySem.Froz.SD, h.get? a = some (sObj "set" D) ∧ TxOk P w D l ∧ l.Nodup ∧ Ris D.2.2.place.toList ∧ (w.params.followText "set-order" = true ∨ D.2.2.led = true)
def so0 (w : World) : Obj := sObj "set" (#[], 0, .fresh 0 0 (!w.params.followText "set-order"))
section
variable {P : Program} {w : World} {A : Around} {E : Value → Shared → Prop} {s : Shared} {h h' : Heap} {a : Addr} {l : List Str}
theorem StT.at (x : StT P w h a l) (k : ∀ o, h.get? a = some o → h'.get? a = some o) : StT P w h' a l :=
  let ⟨D, e, r⟩ := x.ex
  ⟨D, k _ e, r⟩
theorem tail_ris {ep : Nat} {es : Array (Int × Value)} {t : SetTable} {b : Bool} (r : Ris t.place.toList) : Ris (tailTx ep es t b).2.2.place.toList := by
  unfold tailTx
  split
  · exact relayAll_ris _ _ _
  · exact r
theorem tail_led {ep : Nat} {es : Array (Int × Value)} {t : SetTable} {b : Bool} : (tailTx ep es t b).2.2.led = t.led := by
  unfold tailTx
  split
  · exact relayAll_led _ _ _
  · rfl
theorem add_ris {i : Int} {v : Value} {D : PySem.Froz.SD} (r : Ris D.2.2.place.toList) : Ris (addTx i v D).2.2.place.toList := by
  have z := layNew_ris D.2.2 D.1 i v r
  refine tail_ris ?_
  split <;> exact z
theorem add_led {i : Int} {v : Value} {D : PySem.Froz.SD} : (addTx i v D).2.2.led = D.2.2.led := by
  refine tail_led.trans (Eq.trans ?_ (layNew_led D.2.2 D.1 i v))
  split <;> rfl
theorem stt_put {k : Str} {u : Tok} {Q : Bool → Shared → Prop} (x : StT P w s.heap a l) (hb : l.length + 1 < scanBound)
    (q : ∀ h' l' c, StT P w h' a l' → (∀ t, t ∈ l' ↔ t = k ∨ t ∈ l) → l'.length ≤ l.length + 1 → (∀ b o, b ≠ a → s.heap.get? b = some o → h'.get? b = some o) → Q c { s with heap := h' }) : wpAny (model P w) A (setAddHashed a (.str k u) (hashStr w k)) Q E s := by
  obtain ⟨D, ho, F, nd, r, ld⟩ := x.ex
  by_cases hk : k ∈ l
  · obtain ⟨es, ep, t⟩ := D
    have hd : (sObj "set" (es, ep, t)).data = .set es ep t := rfl
    have hs : es.size < scanBound := by
      have e : es.size = l.length := F.sz
      omega
    obtain ⟨y, hy, ky⟩ := (F.mem k).mp hk
    unfold setAddHashed setAddHashedIn
    refine wpAny_holding (wpAny_bind (wpAny_setState_of ho hd F.fit ?_))
    dsimp only
    rw [byScan_of rfl hs F.el]
    simp only [↓reduceIte]
    unfold setAddByScan
    refine wpAny_bind (wpAny_bind (wpAny_rule (wpAny_bind (wpAny_setScan_of (knd := strKind P w) (k := k) (is_str k u) ho hd F.fit F.el ?_))))
    cases hr : List.findIdx? (fun e => (strKind P w).is k e.2) es.toList with
    | none =>
      rw [List.findIdx?_eq_none_iff] at hr
      have z := hr y hy
      rw [ky] at z
      cases z
    | some j =>
      dsimp only
      refine wpAny_pure (wpAny_pure ?_)
      exact q s.heap l false x (fun t => ⟨.inr, fun z => z.elim (fun e => e ▸ hk) id⟩) (Nat.le_succ _) fun _ _ _ e => e
  · refine Froz.add_x ho F hk hb (q _ (k :: l) true ⟨_, Heap.get?_update_self (fun _ => sObj "set" (addTx (hashStr w k) (.str k u) D)) ho rfl, Froz.add_ok u F, List.nodup_cons.mpr ⟨hk, nd⟩, add_ris r, ?_⟩ (fun t => List.mem_cons) (Nat.le_refl _) fun b o hb e => (Heap.get?_update_other _ _ (Ne.symm hb)).trans e)
    rw [add_led]
    exact ld
end
/-! ### set(xs), xs a list of texts -/
section
variable {P : Program} {w : World} {A : Around} {E : Value → Shared → Prop} {R : Result → Shared → Prop} {I : Addr} {fp wr : List Addr} {G : Array GenState → Array GenState → Prop} {n : Nat} {V' : Nat → Value → Prop} {St : Nat → Shared → Prop}
theorem grow_txt (W : WalksS P w A.in1 I fp wr G n V' St) (a : Addr) (out : a ∉ fp) (xs : List Str) (few : n < 64) (len : xs.length = n) (vals : ∀ i v, V' i v → ∃ t, v = .str (xs.getD i Str.empty) t) :
    ∀ (left i : Nat) (s : Shared), n - i = left → i ≤ n → St i s → (∃ l, StT P w s.heap a l ∧ (∀ t, t ∈ l ↔ t ∈ xs.take i) ∧ l.length ≤ i) →
      (∀ s' l, Moved (a :: wr) G s s' → StT P w s'.heap a l → (∀ t, t ∈ l ↔ t ∈ xs) → l.length ≤ n → R (.ok (.ret .none)) s') →
      codeAny (model P w) A (.builtin "set.update.loop" ⟨[.ref a, .ref I], []⟩) R s
  | 0, i, s, hk, hi, st, ⟨l, x, hl, ll⟩, q => by
    obtain rfl : i = n := by omega
    refine codeAny_builtin F.entry_set_update_loop ?_
    rw [Around.under_plainId F.plain_set_update_loop _]
    refine (show wpAny (model P w) A.in1 (pyNext (.ref I) >>= _) _ _ s from wpAny_bind (W.done s _ _ st fun s' m => ?_))
    refine (show wpAny (model P w) A.in1 (ret Value.none) _ _ s' from wpAny_pure (q s' l (m.mono fun b hb => List.mem_cons_of_mem _ hb) (x.at fun o e => m.heap a _ (fun z => out (W.sub _ z)) e) (fun t => ?_) ll))
    rw [hl, List.take_of_length_le (Nat.le_of_eq len)]
  | left + 1, i, s, hk, hi, st, ⟨l, x, hl, ll⟩, q => by
    have lt : i < n := by omega
    refine codeAny_builtin F.entry_set_update_loop ?_
    rw [Around.under_plainId F.plain_set_update_loop _]
    refine (show wpAny (model P w) A.in1 (pyNext (.ref I) >>= _) _ _ s from wpAny_bind (W.item i s _ _ lt st fun v s1 hv st1 m => ?_))
    obtain ⟨tk, rfl⟩ := vals i v hv
    have x1 : StT P w s1.heap a l := x.at fun o e => m.heap a _ (fun z => out (W.sub _ z)) e
    refine (show wpAny (model P w) A.in1 (holding [Value.str (xs.getD i Str.empty) tk] (setAdd a (.str (xs.getD i Str.empty) tk)) >>= _) _ _ s1 from wpAny_bind (wpAny_holding ?_))
    unfold setAdd
    refine wpAny_holding (wpAny_bind ((PySem.strKind P w).pyHash (k := xs.getD i Str.empty) (strKind_is _ _ _ _) ?_))
    refine stt_put (s := { s1 with toks := s1.toks + 1 }) (k := xs.getD i Str.empty) (u := tk) x1 (by unfold scanBound; omega) fun h2 l2 c x2 hl2 ll2 kp => ?_
    refine wpAny_pure ⟨plainId_quiet F.plain_set_update_loop _, grow_txt W a out xs few len vals left (i + 1) _ (by omega) lt (W.frame _ s1 _ _ st1 (Nat.le_succ _) fun b hb o e => kp b o (fun z => out (z ▸ hb)) e) ⟨l2, x2, fun t => ?_, by omega⟩ fun s3 l3 m3 x3 hl3 ll3 => ?_⟩
    · have hg : xs[i]? = some (xs.getD i Str.empty) := by
        rw [List.getD_eq_getElem?_getD, List.getElem?_eq_getElem (by omega)]; rfl
      rw [hl2, hl, List.take_add_one, hg, List.mem_append]
      exact ⟨fun z => z.elim (fun e => .inr (by rw [e]; exact List.mem_singleton.mpr rfl)) .inl, fun z => z.elim .inr fun e => .inl (List.mem_singleton.mp e)⟩
    · refine q s3 l3 (Moved.trans W.gtrans ((m.mono fun b hb => List.mem_cons_of_mem _ hb).then_heap (Nat.le_succ _) fun b o hb e => ?_) m3) x3 hl3 ll3
      exact kp b o (fun z => hb (by rw [z]; exact List.mem_cons_self)) e
end
section
variable {P : Program} {w : World} {A : Around} {E : Value → Shared → Prop} {s : Shared}
theorem strs_at0 : ∀ {us : List Value} {xs : List Str}, StrsAre us xs → ∀ (i : Nat) (v : Value), us[i]? = some v → ∃ t, v = .str (xs.getD i Str.empty) t
  | _, _, .nil, i, v, h => by simp at h
  | _, _, .cons x t r, 0, v, h => ⟨t, (Option.some.inj h).symm⟩
  | _, _, .cons x t r, i + 1, v, h => strs_at0 r i v (by simpa using h)
theorem stt_new {h : Heap} {a : Addr} (ho : h.get? a = some (so0 w)) : StT P w h a [] := by
  refine ⟨_, ho, TxOk.nil ?_, List.nodup_nil, ?_, ?_⟩
  · rfl
  · exact List.Pairwise.nil
  · show w.params.followText "set-order" = true ∨ (!w.params.followText "set-order") = true
    cases w.params.followText "set-order" <;> simp
theorem call_txt {l : Addr} {its : Array Value} {xs : List Str} {Q : Value → Shared → Prop} (hh : A.handled = none) (hl : s.heap.IsList l its) (hi : StrsAre its.toList xs) (few : xs.length < 64)
    (q : ∀ (h' : Heap) (tk : Nat) (ys : List Str), StT P w h' s.heap.objs.size ys → (∀ t, t ∈ ys ↔ t ∈ xs) → ys.length ≤ xs.length → (∀ b o, s.heap.get? b = some o → h'.get? b = some o) → Q (.ref s.heap.objs.size) { s with heap := h', toks := tk }) :
    wpAny (model P w) A (call (.type "set") [.ref l]) Q E s := by
  have len : xs.length = its.size := by rw [← StrsAre.len_eq hi, Array.length_toList]
  obtain ⟨_, _, mro⟩ := F.called_set.mro
  have md := F.called_set.made
  have sb := F.called_set.sub
  have nt := F.called_set.notType
  have cc := F.called_set.canCreate
  have ct := F.typeCall_set_1 (.ref l)
  refine wpAny_call (codeAny_of_tree (show wpAny _ _ (callAny (.type "set") _) _ _ _ from wpAny_pure ⟨Code.quiet_builtin _ (by decide +kernel), codeAny_builtin F.entry_type_call ?_⟩))
  rw [Around.under_plain (weight_type_call_type "set" [.ref l] []) rfl]
  repeat (any_goals (first | assumption | wp_step))
  refine codeAny_mono (code_set_led1 (.ref l) (E := E) (Q₁ := fun u z => u = .ref s.heap.objs.size ∧ z = { s with heap := s.heap.push (so0 w) }) ⟨rfl, rfl⟩) fun r z hr => ?_
  cases r with
  | error e => exact hr
  | ok fl =>
    cases fl with
    | ret u =>
      obtain ⟨rfl, rfl⟩ := hr
      have at_ : (s.heap.push (so0 w)).get? s.heap.objs.size = some (so0 w) := Heap.get?_push_size _ rfl
      have ty : Shared.TypeIs { s with heap := s.heap.push (so0 w) } (.ref s.heap.objs.size) "set" := ⟨_, at_, rfl⟩
      have il := F.called_set.init.lookup
      have ib := F.called_set.init.bind (.ref s.heap.objs.size)
      repeat (any_goals (first | assumption | wp_step))
      refine codeAny_mono (codeAny_call_builtin (R := wants (fun r z => r = .none ∧ ∃ h' tk ys, z = { s with heap := h', toks := tk } ∧ StT P w h' s.heap.objs.size ys ∧ (∀ t, t ∈ ys ↔ t ∈ xs) ∧ ys.length ≤ xs.length ∧ ∀ b o, s.heap.get? b = some o → h'.get? b = some o) E) F.called_set.init.plain F.entry_set_init (check_set_init_1 ty ?_)) fun r z hr => ?_
      · obtain ⟨⟨c1, d1, e1, f1⟩, ho, hc, m, hd⟩ := hl
        simp only at hc hd
        subst hc hd
        have ho1 : (s.heap.push (so0 w)).get? l = some { cls := .type "list", dict := d1, data := .seq its m, slots := f1 } := Heap.get?_push_of_some _ ho
        have g1 := F.sub_list_set
        have g2 := F.sub_list_frozenset
        have g3 : (Value.type "list" == Value.type "dict") = false := by decide
        have il1 : (s.heap.push (so0 w)).IsList l its := ⟨_, ho1, rfl, m, rfl⟩
        unfold Builtin.«set.__init__» noKeywords Builtin.Frozenset.updateFrom
        generalize hPI : pyIter = PI
        wp_walk
        subst hPI
        refine wpAny_pyIter_list il1 (wpAny_bind (wpAny_runValue ?_))
        have lt : l < s.heap.objs.size := Heap.lt_size ho
        have big : ∀ {x y : Nat}, x < y → x ≠ y + 1 := fun h => by omega
        have sz : (s.heap.push (so0 w)).objs.size = s.heap.objs.size + 1 := Heap.size_push ..
        have hh3 : A.in1.in1.in1.handled = none := by simp [hh]
        have ne : l ≠ (s.heap.push (so0 w)).objs.size := by rw [sz]; exact Nat.ne_of_lt (Nat.lt_succ_of_lt lt)
        have nf : s.heap.objs.size ∉ [(s.heap.push (so0 w)).objs.size, l] := by
          rw [sz]
          intro z
          rcases List.mem_cons.mp z with z | z
          · exact absurd z (Nat.ne_of_lt (Nat.lt_succ_self _))
          · exact absurd (List.mem_singleton.mp z) (Nat.ne_of_gt lt)
        refine grow_txt ((Walks.list hh3 _ l ne its).toS) s.heap.objs.size nf xs (by rw [← len]; exact few) len (fun i v hv => strs_at0 hi i v (by rw [Array.getElem?_toList]; exact hv)) (its.size - 0) 0 _ (by omega) (Nat.zero_le _) ⟨⟨_, Heap.get?_push_size _ rfl, rfl, rfl⟩, il1.push _⟩
          ⟨[], stt_new (Heap.get?_push_of_some _ at_), fun t => by rw [List.take_zero], Nat.le_refl _⟩ fun z ys m3 x3 h3 l3 => ?_
        obtain ⟨h', g', d', tk', os'⟩ := z
        obtain rfl : g' = s.gens := m3.gens
        obtain rfl : d' = s.drawn := m3.drawn
        obtain rfl : os' = s.os := m3.os
        refine (show wpAny _ _ _ _ _ _ from wpAny_pure (show wpAny _ _ (ret Value.none) _ _ _ from wpAny_pure ⟨rfl, h', tk', ys, rfl, x3, h3, by rw [len]; exact l3, fun b o e => ?_⟩))
        have lb := Heap.lt_size e
        refine m3.heap b o (fun z => ?_) (Heap.get?_push_of_some _ (Heap.get?_push_of_some _ e))
        rcases List.mem_cons.mp z with z | z
        · exact absurd z (Nat.ne_of_lt lb)
        · have e := List.mem_singleton.mp z
          rw [sz] at e
          exact absurd e (Nat.ne_of_lt (Nat.lt_succ_of_lt lb))
      · cases r with
        | error e => exact hr
        | ok fl =>
          cases fl with
          | ret u =>
            obtain ⟨rfl, h', tk, ys, rfl, x3, h3, l3, kp⟩ := hr
            repeat (any_goals (first | assumption | wp_step))
            exact q _ _ _ x3 h3 l3 kp
          | _ => exact hr.elim
    | _ => exact hr.elim
end
end Pv
set_option Elab.async false
set_option linter.all false
set_option maxRecDepth 100000
set_option maxHeartbeats 3200000
/-! sorted(set(xs)), xs texts. -/
namespace Pv
open PySem PySem.Spec PyProof.Rows L2
theorem oneS_mem : ∀ {ys : List Str} {t : Str}, t ∈ oneS ys ↔ t ∈ ys
  | [], t => Iff.rfl
  | x :: r, t => by
    unfold oneS
    split
    · rename_i h
      rw [oneS_mem, List.mem_cons]
      exact ⟨.inr, fun z => z.elim (fun e => e ▸ of_decide_eq_true h) id⟩
    · rw [List.mem_cons, List.mem_cons, oneS_mem]
theorem oneS_nd : ∀ (ys : List Str), (oneS ys).Nodup
  | [] => .nil
  | x :: r => by
    unfold oneS
    split
    · exact oneS_nd r
    · rename_i h
      exact List.nodup_cons.mpr ⟨fun z => h (decide_eq_true (oneS_mem.mp z)), oneS_nd r⟩
theorem oneS_len : ∀ (ys : List Str), (oneS ys).length ≤ ys.length
  | [] => Nat.le_refl _
  | x :: r => by
    have := oneS_len r
    unfold oneS
    split <;> simp only [List.length_cons] <;> omega
def keyS : Value → Str
  | .str s _ => s
  | _ => ⟨#[]⟩
theorem strs_keys : ∀ {vs : List Value}, (∀ v ∈ vs, ∃ k t, v = Value.str k t) → StrsAre vs (vs.map keyS)
  | [], _ => .nil
  | v :: vs, h => by
    obtain ⟨k, t, rfl⟩ := h v (.head _)
    exact .cons k t (strs_keys fun u hu => h u (.tail _ hu))
theorem perm_of_mem : ∀ {l ks : List Str}, l.Nodup → (∀ t ∈ l, t ∈ ks) → ks.length ≤ l.length → ks.Perm l
  | [], ks, _, _, hl => by rw [List.eq_nil_of_length_eq_zero (Nat.le_zero.mp hl)]
  | x :: r, ks, nd, sub, hl => by
    obtain ⟨n1, n2⟩ := List.nodup_cons.mp nd
    have hx := sub x (.head _)
    refine (List.perm_cons_erase hx).trans (List.Perm.cons x (perm_of_mem n2 (fun t ht => ?_) ?_))
    · exact (List.mem_erase_of_ne (fun e : t = x => n1 (by rw [← e]; exact ht))).mpr (sub t (.tail _ ht))
    · rw [List.length_erase_of_mem hx]
      rw [List.length_cons] at hl
      omega
theorem len_of_sub : ∀ {l ks : List Str}, l.Nodup → (∀ t ∈ l, t ∈ ks) → l.length ≤ ks.length
  | [], _, _, _ => Nat.zero_le _
  | x :: r, ks, nd, sub => by
    obtain ⟨n1, n2⟩ := List.nodup_cons.mp nd
    have hx := sub x (.head _)
    have h := len_of_sub n2 (ks := ks.erase x) fun t ht => (List.mem_erase_of_ne (fun e : t = x => n1 (by rw [← e]; exact ht))).mpr (sub t (.tail _ ht))
    rw [List.length_erase_of_mem hx] at h
    have : 0 < ks.length := List.length_pos_of_mem hx
    rw [List.length_cons]
    omega
def SetX (P : Program) (w : World) (a : Addr) (l : List Str) : HO := .ext fun h => StT P w h a l
section
variable {X : Cx}
theorem stt_out {P : Program} {w : World} {A : Around} {E : Value → Shared → Prop} {s : Shared} {a : Addr} {l : List Str} {Q : Value → Shared → Prop} (x : StT P w s.heap a l) (hh : A.handled = none) (few : l.length < 64)
    (q : ∀ s' p (out : Array Value) (c : Nat) (ys : List Str), (∀ b o, s.heap.get? b = some o → s'.heap.get? b = some o) → s'.gens = s.gens → s'.os = s.os → s.heap.objs.size ≤ p → s'.heap.get? p = some (seqObj "list" out c) → StrsAre out.toList ys → ys.Perm l → sortedS ys = true → Q (.ref p) s') :
    wpAny (model P w) A (call (.builtin "sorted") [.ref a]) Q E s := by
  obtain ⟨⟨es, ep, t⟩, ho, F, nd, r, ld⟩ := x.ex
  refine Calls.call_function_entry kind_sorted plain_sorted entry_sorted (args_sorted1 _) ?_
  unfold Builtin.«sorted»
  refine wpAny_bind (m := checkCount "sorted" 1 1 _) (wpAny_pure (wpAny_bind (collect_set (A := A.in1) hh ⟨_, ho, rfl, rfl⟩ F.fit ?_ r ld fun s1 vs k1 hz g1 o1 pm => ?_)))
  · have e : es.size = l.length := F.sz
    show es.size < scanBound
    unfold scanBound
    omega
  have isS : ∀ e ∈ es.toList, ∃ k t, e.2 = Value.str k t := fun e he => by
    obtain ⟨⟨k, hk, _⟩, _⟩ := F.el e he
    obtain ⟨t, ev⟩ := Value.isStrOf_shape (x := k) (v := e.2) hk
    exact ⟨k, t, ev⟩
  have isV : ∀ v ∈ vs, ∃ k t, v = Value.str k t := fun v hv => by
    obtain ⟨e, he, ev⟩ := List.mem_map.mp (pm.mem_iff.mp hv)
    exact ev ▸ isS e he
  have hS := strs_keys isV
  have hp0 : (vs.map keyS).Perm l := by
    refine (pm.map keyS).trans (perm_of_mem nd (fun t ht => ?_) ?_)
    · obtain ⟨e, he, ke⟩ := (F.mem t).mp ht
      obtain ⟨u, ev⟩ := Value.isStrOf_shape (x := t) (v := e.2) ke
      exact List.mem_map.mpr ⟨e.2, List.mem_map.mpr ⟨e, he, rfl⟩, by rw [ev]; rfl⟩
    · rw [List.length_map, List.length_map, Array.length_toList]
      exact Nat.le_of_eq F.sz
  have vl : vs.length = l.length := by rw [← hp0.length_eq, List.length_map]
  refine wpAny_bind (wpAny_newList ?_ (by rw [vl, sizeLine_eq]; omega))
  have at_ : (s1.heap.push (seqObj "list" vs.toArray 0)).get? s1.heap.objs.size = some (seqObj "list" vs.toArray 0) := Heap.get?_push_size _ rfl
  refine wpAny_bind (wpAny_holding (wpAny_call_entry slot_list_sort ⟨_, at_, rfl⟩ entry_list_sort (list_sort_treeK strKind_oneLt at_ hS.keysOf (fun v₁ v₂ rest e => keyKind_strs (by rw [← e]; exact hS)) (by rw [vl]; exact few) fun st' hp hs => ⟨_, rfl, ?_⟩) (args_list_sort _)))
  obtain ⟨ys, g3, g4, g5⟩ := sorted_out_str hS hp hs
  obtain ⟨c, hc⟩ := sortedHeap_at (vs := vs) (out := (arrOf st').map (·.2)) at_
  refine wpAny_pure ⟨_, rfl, q _ s1.heap.objs.size ((arrOf st').map (·.2)) c ys (fun b u e => ?_) g1 o1 hz hc g3 (g4.trans hp0) g5⟩
  have lt := Heap.lt_size (k1 b u e)
  show (sortedHeap (s1.heap.push (seqObj "list" vs.toArray 0)) s1.heap.objs.size vs _).get? b = some u
  rw [sortedHeap_old (Nat.ne_of_lt lt) (by rw [size_push']; exact Nat.lt_succ_of_lt lt)]
  exact Heap.get?_push_of_some _ (k1 b u e)
end
/-! ### as tracked things -/
section
variable {X : Cx}
theorem setX_new {P : Program} {w : World} {H : Hp} {h : Heap} {a : Addr} {l : List Str} (R : StT P w h a l) : ObjOk P w H h a (SetX P w a l) :=
  let ⟨_, ho, _⟩ := R.ex
  ⟨R, ⟨_, ho⟩, fun _ _ R k => R.at k⟩
def rSetX (K : PySem.W.Frag) (P : Program) (w : World) : List V → Hp → VK → Prop := fun xs H Q => ∃ (l : Addr) (ys : List Str), xs = [V.ref l] ∧ SqL K H l (ys.map V.str) ∧ ys.length < 64 ∧ ∀ a zs, H a = none → zs.Nodup → (∀ t, t ∈ zs ↔ t ∈ ys) → zs.length ≤ ys.length → Q (.ref a) (upd H a (SetX P w a zs))
theorem cr_setX (hc : X.calm = true) : CallR X (.type "set") (rSetX X.K X.prog X.w) := by
  intro pins s σ H xs us Q I r h
  obtain ⟨l, ys, rfl, hl, few, q⟩ := h
  rw [Vals.ref1 r]
  obtain ⟨its, rv, pl, _⟩ := I.list hl
  have hS := rv.strs
  refine call_txt (P := X.prog) (w := X.w) (I.ok.hd hc) pl.isList (by simpa using hS) few fun h' tk zs R hm hz k => ?_
  obtain ⟨_, _, _, nd, _⟩ := R.ex
  exact ⟨.ref s.heap.objs.size, upd H s.heap.objs.size (SetX X.prog X.w s.heap.objs.size zs), I.laid (t' := tk) k (Nat.le_refl _) (setX_new R), rfl, q _ zs (I.hok.fresh (Nat.le_refl _)) nd hm hz⟩
def rOrdX (P : Program) (w : World) : List V → Hp → VK → Prop := fun vs H Q => ∃ (a : Addr) (zs : List Str), vs = [V.ref a] ∧ H a = some (SetX P w a zs) ∧ zs.length < 64 ∧ ∀ (ns : List Str) (p : Addr), ns.Perm zs → sortedS ns = true → H p = none → Q (.ref p) (upd H p (.lst (ns.map V.str)))
theorem cr_ordX (hc : X.calm = true) : CallR X (.builtin "sorted") (rOrdX X.prog X.w) := by
  intro pins s σ H vs us Q I r h
  obtain ⟨a, zs, rfl, ha, few, q⟩ := h
  have R : StT X.prog X.w s.heap a zs := (I.hok a _ ha).1
  rw [Vals.ref1 r]
  refine stt_out R (I.ok.hd hc) few fun s' p out c ns k g o hp hg hi pm st => ?_
  have fit : (ns.map V.str).length ≤ sizeLine := by rw [List.length_map, pm.length_eq, sizeLine_eq]; omega
  have hn : H p = none := I.hok.fresh hp
  have J : Inv X pins σ (upd H p (.lst (ns.map V.str))) { s with heap := s'.heap, gens := s'.gens, drawn := s'.drawn, toks := s'.toks } :=
    I.call (ch := []) (Un.laid k hp hn) (I.hok.laid k hp ⟨fit, out.toList, c, vals_of_strs hi, hg⟩) (by rw [g]; exact I.bare) fun _ z => nomatch z
  have e : s' = { s with heap := s'.heap, gens := s'.gens, drawn := s'.drawn, toks := s'.toks } := by cases s'; cases s; cases o; rfl
  rw [e]
  exact ⟨.ref p, _, J, rfl, q ns p pm st hn⟩
end
/-! ### the word -/
section
variable {X : Cx} {w : Wd} {cl : Fun} {W : WX}
theorem nt_ext {f : Heap → Prop} : NT (.ext f) := fun _ h => by cases h
theorem se_sset {a : Expr} {ta : T} {x y : Str} {p p2 pos pos2 : Pos} (hc : X.calm = true) (ha : SO X w cl W a ta) (hg : Gl X x) (hm : X.mg x = none) (hv : bootBuiltins x = some (.builtin "sorted")) (hg2 : Gl X y) (hm2 : X.mg y = none) (hv2 : bootBuiltins y = some (.type "set"))
    (hn : x ≠ "__name__" := by decide) (hn2 : y ≠ "__name__" := by decide) (hdb : (x == ("__debug__" : Str)) = false := by decide) (hdb2 : (y == ("__debug__" : Str)) = false := by decide)
    (he : starEach [.Call (.Name y p2) [a] [] pos2] X.env = (false, eval (.Call (.Name y p2) [a] [] pos2) X.env) :: starEach [] X.env := by rfl) (he2 : starEach [a] X.env = (false, eval a X.env) :: starEach [] X.env := by rfl)
    (hpl : (backTo pos (starEach [] X.env)).any (·.1) = false := by rfl) (hpl2 : (backTo pos2 (starEach [] X.env)).any (·.1) = false := by rfl) :
    SE X w cl W (.Call (.Name x p) [.Call (.Name y p2) [a] [] pos2] [] pos) (.blt .sset ta) := by
  obtain ⟨ea, pa, ka⟩ := ha
  refine ⟨_, pe_callB (cr_ordX hc) hg hm hv (pa_cons (pe_callTy (cr_setX hc) hg2 hm2 hv2 (pa_cons pa pa_nil he2) hn2 hdb2 he2 hpl2) pa_nil he) hn hdb he hpl, fun σ H U ρ Q er h => ka σ H U ρ _ er ?_⟩
  unfold evE at h
  refine h.bind.mono (fun o1 ρ1 h x H1 U1 p1 r1 => ?_) fun _ _ h => h
  obtain ⟨d, e1, h⟩ := h.get
  obtain ⟨v, e2, h⟩ := h.get
  have hx := r1.vw p1.er e1
  unfold blt1 at e2
  split at e2 <;> try cases e2
  all_goals first | contradiction | skip
  split at e2 <;> try cases e2
  rename_i c
  obtain ⟨bs, e3, rfl⟩ := Option.map_eq_some_iff.mp e2
  obtain ⟨l, vs, rfl, s, r⟩ := hx
  have := strs_of e3 r
  subst this
  have hl : bs.length < 64 := by
    have := r.len
    rw [List.length_map] at this
    rw [this]
    exact of_decide_eq_true c
  refine ⟨l, bs, rfl, SqL.of s, hl, fun b zs hb nd hm hz => ⟨b, zs, rfl, upd_same, by omega, fun ns q pm st hq => ?_⟩⟩
  have pn := Pst.new (o := SetX X.prog X.w b zs) p1.er hb nt_ext
  have h' : OkE X.K w σ H1 U1 ρ1 Q (.lst ((sortS (oneS bs)).map .str)) ρ1 := OkE.on h er p1
  have e4 : ns = sortS (oneS bs) := sortS_eq (pm.trans (perm_of_mem (oneS_nd bs) (fun t ht => (hm t).mpr (oneS_mem.mp ht)) ?_)) st
  · rw [e4]
    exact (OkE.on h' p1.er pn).newL pn.er (rps_strs _) hq
  · exact len_of_sub nd fun t ht => oneS_mem.mpr ((hm t).mp ht)
end
end Pv
set_option Elab.async false
set_option linter.all false
set_option maxRecDepth 100000
set_option maxHeartbeats 3200000
/-! Sets of plain data: numbers, texts, None, tuples of such. What is asked of an element. -/
namespace Pv
open PySem PySem.Spec PyProof.Rows L2
/-- an element: its value, its key -/
abbrev El := Value × NestedKey
structure ElOk (h : Heap) (p : El) : Prop where
  is : NestedIs h p.2 p.1
  dp : p.2.depth ≤ 8
section
variable {P : Program} {w : World} {A : Around} {E : Value → Shared → Prop} {s : Shared}
theorem wp_both {α : Type} {c : Prop} [Decidable c] {a b : Sem α} {Q : α → Shared → Prop} (ha : wpAny (model P w) A a Q E s) (hb : wpAny (model P w) A b Q E s) : wpAny (model P w) A (if c then a else b) Q E s := by
  split
  · exact ha
  · exact hb
theorem dep_mem : ∀ {ks : List NestedKey} {n : Nat}, NestedKey.depthAll ks ≤ n → ∀ k ∈ ks, k.depth ≤ n
  | a :: r, n, h, k, hk => by
    unfold NestedKey.depthAll at h
    rcases List.mem_cons.mp hk with e | hk
    · rw [e]; omega
    · exact dep_mem (ks := r) (by omega) k hk
theorem all_of : ∀ {ks : List NestedKey} {vs : List Value} {h : Heap}, NestedAll h ks vs → ∀ v ∈ vs, ∃ k ∈ ks, NestedIs h k v
  | _, _, _, .nil, v, hv => by cases hv
  | k :: ks, u :: vs, h, .cons a b, v, hv => by
    rcases List.mem_cons.mp hv with e | hv
    · exact ⟨k, .head _, e ▸ a⟩
    · obtain ⟨k', hk, i⟩ := all_of b v hv
      exact ⟨k', .tail _ hk, i⟩
/-- whether the hash goes by value: told without a trace -/
theorem hashBy_key : ∀ (n : Nat) {k : NestedKey} {v : Value} {Q : Bool → Shared → Prop}, NestedIs s.heap k v → k.depth ≤ n → (∀ b, Q b s) → wpAny (model P w) A (hashByValue n v) Q E s
  | n, _, _, Q, .none, _, q => (show hashByValue n .none = pure true by cases n <;> rfl) ▸ wpAny_pure (q true)
  | n, _, _, Q, .bool (b := b) _, _, q => (show hashByValue n (.bool b) = pure true by cases n <;> rfl) ▸ wpAny_pure (q true)
  | n, _, _, Q, .int i t, _, q => (show hashByValue n (.int i t) = pure true by cases n <;> rfl) ▸ wpAny_pure (q true)
  | n, _, _, Q, .text x t, _, q => (show hashByValue n (.str x t) = pure false by cases n <;> rfl) ▸ wpAny_pure (q false)
  | 0, _, _, Q, .tup (ks := ks) h1 h2 h3 h4, hd, q => by
    unfold NestedKey.depth at hd
    omega
  | n + 1, _, _, Q, .tup (ks := ks) (vs := vs) (a := a) h1 h2 h3 h4, hd, q => by
    have hd : NestedKey.depthAll ks ≤ n := by unfold NestedKey.depth at hd; omega
    unfold hashByValue
    refine wpAny_bind (wpAny_specialOf ⟨_, h1, h2⟩ F.slot_tuple_hash.lookup ?_)
    refine (show wpAny _ _ (seqItems? (.ref a) >>= _) _ _ s from wpAny_bind (wpAny_seqItems h1 h3 (wpAny_bind ?_)))
    show wpAny _ _ (forIn vs _ _) _ _ s
    rw [← Array.forIn_toList]
    refine wpAny_forIn_list _ (fun rest r z => r.1 = none ∧ s = z ∧ ∀ v ∈ rest, ∃ k ∈ ks, NestedIs s.heap k v) _ ?_ ?_ _ _ ⟨rfl, rfl, all_of h4⟩
    · rintro v rest r z ⟨hr, rfl, hall⟩
      obtain ⟨k, hk, i⟩ := hall v (.head _)
      refine wpAny_bind (hashBy_key n i (dep_mem hd k hk) fun b => ?_)
      cases b with
      | true => exact wpAny_pure ⟨rfl, rfl, fun u hu => hall u (.tail _ hu)⟩
      | false => exact wpAny_pure (wpAny_pure (q false))
    · rintro ⟨r1, r2⟩ z ⟨hr, rfl, _⟩
      simp only at hr
      subst hr
      exact wpAny_pure (q true)
/-- no class stands in it -/
theorem noClass_key : ∀ (n : Nat) {k : NestedKey} {v : Value} {Q : Bool → Shared → Prop}, NestedIs s.heap k v → k.depth ≤ n → Q false s → wpAny (model P w) A (ofAClassStatement n v) Q E s
  | n, _, _, Q, .none, _, q => (show ofAClassStatement n .none = pure false by cases n <;> rfl) ▸ wpAny_pure q
  | n, _, _, Q, .bool (b := b) _, _, q => (show ofAClassStatement n (.bool b) = pure false by cases n <;> rfl) ▸ wpAny_pure q
  | n, _, _, Q, .int i t, _, q => (show ofAClassStatement n (.int i t) = pure false by cases n <;> rfl) ▸ wpAny_pure q
  | n, _, _, Q, .text x t, _, q => (show ofAClassStatement n (.str x t) = pure false by cases n <;> rfl) ▸ wpAny_pure q
  | 0, _, _, Q, .tup (ks := ks) h1 h2 h3 h4, hd, q => by
    unfold NestedKey.depth at hd
    omega
  | n + 1, _, _, Q, .tup (ks := ks) (vs := vs) (a := a) h1 h2 h3 h4, hd, q => by
    have hd : NestedKey.depthAll ks ≤ n := by unfold NestedKey.depth at hd; omega
    unfold ofAClassStatement
    refine wpAny_bind (wpAny_typeOf (T := "tuple") ⟨_, h1, h2⟩ ?_)
    dsimp only
    have e : (("tuple" : String) == "tuple") = true := by decide
    simp only [e, if_true, Bool.not_true, Bool.false_eq_true, if_false]
    try refine wpAny_bind (wpAny_pure ?_)
    try simp only [Bool.not_true, Bool.false_eq_true, if_false]
    refine (show wpAny _ _ (seqItems? (.ref a) >>= _) _ _ s from wpAny_bind (wpAny_seqItems h1 h3 ?_))
    dsimp only
    refine (show wpAny _ _ (forIn vs _ _ >>= _) _ _ s from wpAny_bind ?_)
    rw [← Array.forIn_toList]
    refine wpAny_forIn_list _ (fun rest r z => r.1 = none ∧ s = z ∧ ∀ v ∈ rest, ∃ k ∈ ks, NestedIs s.heap k v) _ ?_ ?_ _ _ ⟨rfl, rfl, all_of h4⟩
    · rintro v rest r z ⟨hr, rfl, hall⟩
      obtain ⟨k, hk, i⟩ := hall v (.head _)
      refine wpAny_bind (noClass_key n i (dep_mem hd k hk) ?_)
      simp only [Bool.false_eq_true, if_false]
      exact wpAny_pure ⟨rfl, rfl, fun u hu => hall u (.tail _ hu)⟩
    · rintro ⟨r1, r2⟩ z ⟨hr, rfl, _⟩
      simp only at hr
      subst hr
      exact wpAny_pure q
/-- a search among such elements shows nothing -/
theorem unseen_key {p : El} {Q : Bool → Shared → Prop} (hp : ElOk s.heap p) {ys : List Value} (hy : ∀ y ∈ ys, ∃ q : El, y = q.1 ∧ ElOk s.heap q) (h : Q false s) : wpAny (model P w) A (searchCouldBeSeen p.1 ys) Q E s := by
  unfold searchCouldBeSeen
  refine wpAny_bind (wpAny_forIn_list _ (fun rest r z => r.1 = none ∧ s = z ∧ ∀ y ∈ rest, ∃ q : El, y = q.1 ∧ ElOk s.heap q) _ ?_ ?_ _ _ ⟨rfl, rfl, hy⟩)
  · rintro v rest r z ⟨hr, rfl, hall⟩
    obtain ⟨q, rfl, hq⟩ := hall v (.head _)
    have more : ∀ y ∈ rest, ∃ q : El, y = q.1 ∧ ElOk s.heap q := fun u hu => hall u (.tail _ hu)
    dsimp only
    refine wp_both (wpAny_pure ⟨rfl, rfl, more⟩) ?_
    · refine wpAny_bind (quiet_key p.2 p.1 8 s hp.is hp.dp A E _ ?_)
      simp only [Bool.not_true, Bool.false_eq_true, if_false]
      refine wpAny_bind (quiet_key q.2 q.1 8 s hq.is hq.dp A E _ ?_)
      simp only [Bool.not_true, Bool.false_eq_true, if_false]
      refine wpAny_bind (noClass_key 8 hp.is hp.dp ?_)
      simp only [Bool.false_eq_true, if_false]
      refine wpAny_bind (noClass_key 8 hq.is hq.dp ?_)
      simp only [Bool.false_eq_true, if_false]
      exact wpAny_pure ⟨rfl, rfl, more⟩
  · rintro ⟨r1, r2⟩ z ⟨hr, rfl, _⟩
    simp only at hr
    subst hr
    exact wpAny_pure h
end
end Pv
set_option Elab.async false
set_option linter.all false
set_option maxRecDepth 100000
set_option maxHeartbeats 3200000
/-! Sets of tuples of numbers, texts, None and such tuples: the search. -/
namespace Pv
open PySem PySem.Spec PyProof.Rows L2
/-- a tuple: where it stands, its key -/
abbrev Tk := Addr × NestedKey
def Tk.el (p : Tk) : El := (.ref p.1, p.2)
def Tk.h (w : World) (p : Tk) : Int := p.2.hash w
def Tk.row (w : World) (p : Tk) : Int × Value := (p.2.hash w, .ref p.1)
/-- the set at a has these tuples -/
structure Sg (w : World) (h : Heap) (a : Addr) (L : List Tk) (es : Array (Int × Value)) (ep : Nat) (t : SetTable) : Prop where
  ob : ∃ o, h.get? a = some o ∧ o.ExactSet ∧ o.data = .set es ep t
  rows : es.toList = L.map (Tk.row w)
  tab : TabOk t (L.map (Tk.h w))
  nd : (L.map (·.2)).Nodup
  el : ∀ p ∈ L, ElOk h p.el
  led : w.params.followText "set-order" = true ∨ t.led = true
  room : L.length * 5 < t.mask * 3
  few : L.length < 64
section
variable {P : Program} {w : World} {A : Around} {E : Value → Shared → Prop} {s : Shared} {a : Addr} {L : List Tk} {es : Array (Int × Value)} {ep : Nat} {t : SetTable}
theorem Sg.size (R : Sg w s.heap a L es ep t) : es.size = L.length := by
  rw [← Array.length_toList, R.rows, List.length_map]
theorem Sg.fits (R : Sg w s.heap a L es ep t) : t.fits es.size = true := by
  have h1 := R.tab.sz
  rw [List.length_map] at h1
  have h2 := R.size
  have h3 := R.room
  unfold SetTable.fits SetTable.fill
  rw [R.tab.dm, Bool.and_eq_true, beq_iff_eq, decide_eq_true_eq]
  exact ⟨by omega, by show t.place.size + 0 ≤ t.mask; omega⟩
theorem Sg.entry (R : Sg w s.heap a L es ep t) {i : Nat} {p : Tk} (h : L[i]? = some p) : es[i]? = some (p.row w) := by
  rw [← Array.getElem?_toList, R.rows, List.getElem?_map, h]
  rfl
theorem Sg.gw (R : Sg w s.heap a L es ep t) : ¬ t.gaveWay = true := by
  unfold SetTable.gaveWay
  rw [mask_odd R.tab.mok]
  decide
theorem nth_dm (m : Nat) : ∀ (n : Nat) (p : SetTable.Probe), p.dummy = none → (nth m p n).dummy = none
  | 0, _, h => h
  | n + 1, p, h => nth_dm m n (adv m p) (by unfold adv; split <;> exact h)
abbrev go0 (t : SetTable) (H : Int) : SetTable.Probe := runAt t.mask (SetTable.bits H % (t.mask + 1)) (SetTable.bits H)
/-- from the c-th step of the way on -/
theorem find_from (R : Sg w s.heap a L es ep t) {p : Tk} (hp : ElOk s.heap p.el) (hu : A.units + 8 < cLine) {H : Int} (eH : p.2.hash w = H) {K : Nat} (lt : K < 10 * SetTable.turns t.mask) (out : way t.mask H K ∉ t.place.toList) (ins : ∀ c, c < K → way t.mask H c ∈ t.place.toList)
    {Q : SetFound → Shared → Prop} (yes : p.2 ∈ L.map (·.2) → Q (.there none) s) (no : p.2 ∉ L.map (·.2) → Q (.free (way t.mask H K) false) s) :
    ∀ (f c : Nat) (stand : Option SetTable.Probe), stand.getD (t.probeStart H) = nth t.mask (go0 t H) c → c ≤ K → K - c < f →
      (∀ (i : Nat) (q : Tk), L[i]? = some q → q.2 = p.2 → ∃ c', c ≤ c' ∧ c' < K ∧ t.place.toList[i]? = some (way t.mask H c')) → wpAny (model P w) A (setSearchFrom a (.ref p.1) H true f stand) Q E s
  | 0, _, _, _, _, hf, _ => absurd hf (Nat.not_lt_zero _)
  | f + 1, c, stand, hst, hc, hf, ahead => by
    obtain ⟨o, ho, _, hd⟩ := R.ob
    rw [setSearchFrom_succ]
    refine wpAny_bind (wpAny_setState_of ho hd R.fits ?_)
    dsimp only
    refine wp_if_neg R.gw ?_
    try refine wpAny_bind (wpAny_pure ?_)
    have sh : ∀ q, nth t.mask (nth t.mask (go0 t H) c) q = nth t.mask (go0 t H) (c + q) := fun q => (nth_add t.mask c _ q).symm
    have e1 : ∀ q, (nth t.mask (nth t.mask (go0 t H) c) q).j = way t.mask H (c + q) := fun q => congrArg SetTable.Probe.j (sh q)
    have eK : c + (K - c) = K := by omega
    have at_ : ∀ (i : Nat) (q : Tk), L[i]? = some q → (fun i => (es[i]?.map (·.1)).getD 0) i = q.2.hash w := fun i q hq => by
      show (es[i]?.map (·.1)).getD 0 = _
      rw [R.entry hq]
      rfl
    rcases go_spec t R.tab.ris R.tab.dm (fun i => (es[i]?.map (·.1)).getD 0) H (10 * SetTable.turns t.mask) (K - c) _ (nth_dm t.mask c (go0 t H) rfl) (by omega) (fun q hq => by rw [e1]; exact ins (c + q) (by omega)) (by rw [e1, eK]; exact out) with ⟨q, i, hq, hi, hh, un, pr⟩ | ⟨un, pr⟩
    · have pr2 : t.probe (fun i => (es[i]?.map (·.1)).getD 0) H (stand.getD (t.probeStart H)) = some (.candidate (way t.mask H (c + q)) i (nth t.mask (go0 t H) (c + (q + 1)))) := by
        rw [hst, ← e1, ← sh]
        exact pr
      rw [pr2]
      dsimp only
      rw [e1] at hi
      have il : i < L.length := by
        have h1 := (List.getElem?_eq_some_iff.mp hi).1
        have h2 := R.tab.sz
        rw [List.length_map] at h2
        rw [Array.length_toList] at h1
        omega
      obtain ⟨y, hy⟩ : ∃ y, L[i]? = some y := ⟨_, List.getElem?_eq_getElem il⟩
      have my : y ∈ L := List.mem_of_getElem? hy
      have oy := R.el y my
      have after : wpAny (model P w) A (searchRest a (.ref p.1) H true f es t (way t.mask H (c + q)) i (nth t.mask (go0 t H) (c + (q + 1)))) Q E s := by
        unfold searchRest
        rw [R.entry hy]
        dsimp only [Tk.row]
        refine wpAny_bind (wpAny_holding (eqAt_key y.2 p.2 A s _ _ oy.is hp.is (by have := oy.dp; show _ + min y.2.depth _ < _; have : y.2.depth ≤ 8 := oy.dp; omega) P w E _ (wpAny_bind (wpAny_setState_of ho hd R.fits ?_))))
        dsimp only
        rw [← NestedKey.decide_eq]
        by_cases k : y.2 = p.2
        · exact wp_if_pos (by simp [k]) (wpAny_pure (yes (List.mem_map.mpr ⟨y, my, k⟩)))
        · refine wp_if_neg (by simp [k]) ?_
          try refine wpAny_bind (wpAny_pure ?_)
          rw [sameMem]
          dsimp only
          have live : t.slot (way t.mask H (c + q)) = .live i := slot_live R.tab.ris hi
          simp only [if_true, live, R.entry hy, Tk.row]
          refine wpAny_bind (wpAny_isSame_ref_self (wpAny_bind (wpAny_pure ?_)))
          simp only [if_true]
          refine wp_if_neg (by simp [k]) (find_from R hp hu eH lt out ins yes no f (c + (q + 1)) _ rfl (by omega) (by omega) fun i0 q0 h0 k0 => ?_)
          obtain ⟨c', a1, a2, a3⟩ := ahead i0 q0 h0 k0
          refine ⟨c', ?_, a2, a3⟩
          rcases Nat.lt_trichotomy c' (c + q) with z | z | z
          · exact (un (c' - c) i0 (by omega) (by rw [e1, show c + (c' - c) = c' by omega]; exact a3) ((at_ i0 q0 h0).trans (by rw [k0]; exact eH))).elim
          · rw [z] at a3
            have s0 := slot_live R.tab.ris a3
            rw [live] at s0
            injection s0 with s0
            rw [← s0, hy] at h0
            exact (k ((congrArg Prod.snd (Option.some.inj h0)).trans k0)).elim
          · omega
      by_cases hl : t.led = true
      · refine wp_if_neg (by simp [hl]) ?_
        try refine wpAny_bind (wpAny_pure ?_)
        exact after
      · refine wp_if_pos (by simp [hl]) (wpAny_bind (unseen_key (p := p.el) hp (fun y hy => ?_) ?_))
        · obtain ⟨e, he, rfl⟩ := List.mem_map.mp hy
          have he1 : e ∈ es ∧ e.1 = H := by simpa using he
          have he2 : e ∈ es.toList := by simpa using he1.1
          rw [R.rows] at he2
          obtain ⟨q2, hq2, rfl⟩ := List.mem_map.mp he2
          exact ⟨q2.el, rfl, R.el q2 hq2⟩
        · refine wp_if_neg (by decide) ?_
          try refine wpAny_bind (wpAny_pure ?_)
          exact after
    · have pr2 : t.probe (fun i => (es[i]?.map (·.1)).getD 0) H (stand.getD (t.probeStart H)) = some (.empty (way t.mask H K) none) := by
        have e2 : way t.mask H K = (nth t.mask (nth t.mask (go0 t H) c) (K - c)).j := by rw [e1, eK]
        rw [hst, e2]
        exact pr
      rw [pr2]
      dsimp only
      refine wpAny_pure (no fun hm => ?_)
      obtain ⟨q0, h0, k0⟩ := List.mem_map.mp hm
      obtain ⟨i0, hi0, e0⟩ := List.getElem_of_mem h0
      have h00 : L[i0]? = some q0 := by rw [List.getElem?_eq_getElem hi0, e0]
      obtain ⟨c', a1, a2, a3⟩ := ahead i0 q0 h00 k0
      exact un (c' - c) i0 (by omega) (by rw [e1, show c + (c' - c) = c' by omega]; exact a3) ((at_ i0 q0 h00).trans (by rw [k0]; exact eH))
theorem find_at (R : Sg w s.heap a L es ep t) {p : Tk} (hp : ElOk s.heap p.el) (hu : A.units + 8 < cLine) {Q : SetFound → Shared → Prop} (yes : p.2 ∈ L.map (·.2) → Q (.there none) s)
    (no : ∀ K, p.2 ∉ L.map (·.2) → way t.mask (p.2.hash w) K ∉ t.place.toList → (∀ c, c < K → way t.mask (p.2.hash w) c ∈ t.place.toList) → Q (.free (way t.mask (p.2.hash w) K) false) s) :
    wpAny (model P w) A (setSearch a (.ref p.1) (p.2.hash w) true) Q E s := by
  have hr := R.room
  obtain ⟨K, lt, out, ins⟩ := R.tab.first (by rw [List.length_map]; omega) (p.2.hash w)
  have big : K < 100000 := by
    have : 10 * SetTable.turns t.mask ≤ 1420 := by
      unfold SetTable.turns
      rcases R.tab.mok with e | e | e <;> omega
    omega
  unfold setSearch
  refine find_from R hp hu rfl lt out ins yes (fun n => no K n out ins) 100000 0 none rfl (Nat.zero_le _) (by omega) fun i q hq hk => ?_
  have hi : (L.map (Tk.h w))[i]? = some (p.2.hash w) := by
    rw [List.getElem?_map, hq, ← hk]
    rfl
  have il : i < t.place.toList.length := by
    have h1 := (List.getElem?_eq_some_iff.mp hq).1
    have h2 := R.tab.sz
    rw [List.length_map] at h2
    rw [Array.length_toList]
    omega
  obtain ⟨c, hc, e⟩ := R.tab.before out hi (List.getElem?_eq_getElem il)
  exact ⟨c, Nat.zero_le _, hc, by rw [List.getElem?_eq_getElem il, e]⟩
end
end Pv
set_option Elab.async false
set_option linter.all false
set_option maxRecDepth 100000
set_option maxHeartbeats 3200000
/-! Sets of tuples: an element more. -/
namespace Pv
open PySem PySem.Spec PyProof.Rows L2
theorem range_pick {α : Type} : ∀ L : List α, (List.range L.length).filterMap (fun i => L[i]?) = L
  | [] => rfl
  | x :: r => by
    rw [List.length_cons, List.range_succ_eq_map, List.filterMap_cons_some (f := fun i => (x :: r)[i]?) (a := 0) (b := x) rfl, List.filterMap_map]
    exact congrArg _ (range_pick r)
section
variable {P : Program} {w : World} {A : Around} {E : Value → Shared → Prop} {s : Shared} {a : Addr} {L : List Tk} {es : Array (Int × Value)} {ep : Nat} {t : SetTable}
theorem rows_at (hr : es.toList = L.map (Tk.row w)) (i : Nat) : es[i]? = (L[i]?).map (Tk.row w) := by
  rw [← Array.getElem?_toList, hr, List.getElem?_map]
theorem order_sg (order : Array Nat) (hr : es.toList = L.map (Tk.row w)) (hp : order.toList.Perm (List.range L.length)) :
    ∃ L2 : List Tk, (order.filterMap (es[·]?)).toList = L2.map (Tk.row w) ∧ L2.Perm L ∧ L2.map (Tk.h w) = order.toList.map fun i => (es.map (·.1)).getD i 0 := by
  refine ⟨order.toList.filterMap fun i => L[i]?, ?_, ?_, ?_⟩
  · rw [List.map_filterMap, Array.toList_filterMap]
    exact congrArg (fun g => List.filterMap g order.toList) (funext fun i => rows_at hr i)
  · have h := hp.filterMap fun i => L[i]?
    rw [range_pick] at h
    exact h
  · have all : ∀ i ∈ order.toList, i < L.length := fun i hi => List.mem_range.mp (hp.mem_iff.mp hi)
    generalize order.toList = l at all
    induction l with
    | nil => rfl
    | cons i l ih =>
      have hi := all i (.head _)
      rw [List.filterMap_cons_some (List.getElem?_eq_getElem hi), List.map_cons, List.map_cons, ih fun j hj => all j (.tail _ hj)]
      refine congrArg (· :: _) ?_
      have e : (es.map (·.1))[i]? = some (Tk.h w L[i]) := by
        rw [Array.getElem?_map, rows_at hr, List.getElem?_eq_getElem hi]
        rfl
      rw [Array.getD_eq_getD_getElem?, e]
      rfl
theorem elOk_but {h h' : Heap} {p : Tk} {o : Obj} (x : ElOk h p.el) (ho : h.get? a = some o) (hd : o.data = .set es ep t) (sb : Heap.SameBut a h h') : ElOk h' p.el :=
  ⟨NestedIs.at (fun b ob vs n hb hc => by
    refine (sb.2 b fun e => ?_).trans hb
    subst e
    rw [ho] at hb
    cases hb
    rw [hd] at hc
    cases hc) _ _ x.is, x.dp⟩
/-- laid anew -/
theorem relay_sg {o : Obj} (ho : s.heap.get? a = some o) (hx : o.ExactSet) (hd : o.data = .set es ep t) (hr : es.toList = L.map (Tk.row w)) (sz : t.place.size = es.size) (dm : t.dummies = #[]) (fl : es.size ≤ t.mask) (nd : (L.map (·.2)).Nodup) (el : ∀ p ∈ L, ElOk s.heap p.el)
    (ld : w.params.followText "set-order" = true ∨ t.led = true) (few : L.length < 64) {wanted M : Nat} (hw : SetTable.sizeAbove wanted - 1 = M) (hM : MaskOk M) (h128 : SetTable.sizeAbove wanted ≤ 128) (hn : L.length * 5 < M * 3) {Q : Unit → Shared → Prop}
    (q : ∀ h' L' es' ep' t', Heap.SameBut a s.heap h' → Sg w h' a L' es' ep' t' → L'.Perm L → Q () { s with heap := h' }) : wpAny (model P w) A (setRelay a wanted) Q E s := by
  have sl : es.size = L.length := by rw [← Array.length_toList, hr, List.length_map]
  have fits : t.fits es.size = true := by
    unfold SetTable.fits SetTable.fill
    rw [dm, Bool.and_eq_true, beq_iff_eq, decide_eq_true_eq]
    exact ⟨sz, by show t.place.size + 0 ≤ t.mask; omega⟩
  obtain ⟨t', order, e, hp, T, em, el', ep', ed⟩ := relaid_ok t (hs := es.map (·.1)) (wanted := wanted) hw hM (by rw [Array.size_map, sl]; omega)
  rw [Array.size_map, sl] at hp
  obtain ⟨L2, r1, r2, r3⟩ := order_sg order hr hp
  rw [← r3] at T
  have s2 : (order.filterMap (es[·]?)).size = es.size := by rw [← Array.length_toList, r1, List.length_map, r2.length_eq, sl]
  rw [setRelay_eq]
  refine wpAny_bind (wpAny_setState_of ho hd fits ?_)
  dsimp only
  refine wp_if_neg (by rw [sizeLine_eq]; omega) ?_
  try refine wpAny_bind (wpAny_pure ?_)
  rw [e]
  dsimp only
  refine wpAny_bind (wp_if_neg (by rw [s2]; simp) ?_)
  try refine wpAny_bind (wpAny_pure ?_)
  refine wpAny_pure ?_
  dsimp only
  have sb : Heap.SameBut a s.heap (s.heap.update a (Obj.putSet (order.filterMap (es[·]?)) t')) := Heap.SameBut.update ..
  exact wpAny_storeSet_of ho hd (q _ L2 (order.filterMap (es[·]?)) (ep + 1) t' sb ⟨⟨_, store_at ho hd, ⟨hx.1, hx.2.1, hx.2.2⟩, rfl⟩, r1, T, (r2.map (·.2)).nodup_iff.mpr nd, fun p hp => elOk_but (el p (r2.mem_iff.mp hp)) ho hd sb, by rw [el']; exact ld, by rw [r2.length_eq, em]; exact hn, by rw [r2.length_eq]; exact few⟩ r2) (by rw [s2, sl, sizeLine_eq]; omega)
theorem put_sg (L : List Tk) (n : Nat) (x : Tk) : (L.take n ++ x :: L.drop n).Perm (x :: L) := by
  have h : (L.take n ++ x :: L.drop n).Perm (x :: (L.take n ++ L.drop n)) := List.perm_middle
  rwa [List.take_append_drop] at h
theorem tab_plain {t : SetTable} {hs : List Int} {b : Bool} (T : TabOk t hs) : TabOk { t with plain := b } hs := ⟨T.ris, T.dm, T.sz, T.mok, T.bd, T.reach⟩
/-- an element more -/
theorem add_sg (R : Sg w s.heap a L es ep t) {p : Tk} (hp : ElOk s.heap p.el) (hu : A.units + 8 < cLine) (few : L.length + 1 < 64) {Q : Bool → Shared → Prop}
    (q : ∀ b h' L' es' ep' t', Heap.SameBut a s.heap h' → Sg w h' a L' es' ep' t' → (p.2 ∈ L.map (·.2) → L' = L) → (p.2 ∉ L.map (·.2) → L'.Perm (p :: L)) → Q b { s with heap := h' }) :
    wpAny (model P w) A (setAddHashed a (.ref p.1) (p.2.hash w)) Q E s := by
  obtain ⟨o, ho, hx, hd⟩ := R.ob
  have sl := R.size
  have room := R.room
  unfold setAddHashed
  refine wpAny_holding ?_
  rw [show (100000 : Nat) = 99999 + 1 from rfl, setAddHashedIn_succ]
  refine wpAny_bind (wpAny_setState_of ho hd R.fits ?_)
  dsimp only
  refine wp_if_neg (by simp [byScan, Value.scannable]) ?_
  try refine wpAny_bind (wpAny_pure ?_)
  refine wpAny_bind (find_at R hp hu (fun hm => ?_) fun K hm out ins => ?_)
  · dsimp only
    exact wpAny_pure (q false s.heap L es ep t (Heap.SameBut.refl a s.heap) R (fun _ => rfl) fun z => absurd hm z)
  dsimp only
  refine wpAny_bind (wpAny_setState_of ho hd R.fits ?_)
  dsimp only
  obtain ⟨q1, q2, q3, q4, q5, q6, q7, q8, q9⟩ := R.tab.put out ins
  generalize hpt : t.put (way t.mask (p.2.hash w) K) = pt at q1 q3 q4 q5 q6 q7 q8 q9 ⊢
  obtain ⟨t0, n⟩ := pt
  dsimp only at q1 q3 q4 q5 q6 q7 q8 q9 ⊢
  subst q1
  -- behind: with whatever is known of the hashes
  have rest : ∀ t1 : SetTable, t1.mask = t0.mask → t1.led = t0.led → t1.place = t0.place → t1.dummies = t0.dummies → TabOk t1 ((L.map (Tk.h w)).take (SetTable.below t.place (way t.mask (p.2.hash w) K)) ++ p.2.hash w :: (L.map (Tk.h w)).drop (SetTable.below t.place (way t.mask (p.2.hash w) K))) →
      wpAny (model P w) A (do
        storeSet a (SetTable.insertAt es (SetTable.below t.place (way t.mask (p.2.hash w) K)) (p.2.hash w, .ref p.1)) t1
        if !false && t1.tooFull then setRelay a (SetTable.grown (es.size + 1))
        return true) Q E s := fun t1 m1 l1 p1 d1 T1 => by
    have hin : (SetTable.insertAt es (SetTable.below t.place (way t.mask (p.2.hash w) K)) (p.2.hash w, Value.ref p.1)).toList = (L.take (SetTable.below t.place (way t.mask (p.2.hash w) K)) ++ p :: L.drop (SetTable.below t.place (way t.mask (p.2.hash w) K))).map (Tk.row w) := by
      rw [SetTable.toList_insertAt, R.rows, List.map_append, List.map_cons, List.map_take, List.map_drop]
      rfl
    have pm := put_sg L (SetTable.below t.place (way t.mask (p.2.hash w) K)) p
    have hh : (L.take (SetTable.below t.place (way t.mask (p.2.hash w) K)) ++ p :: L.drop (SetTable.below t.place (way t.mask (p.2.hash w) K))).map (Tk.h w) = (L.map (Tk.h w)).take (SetTable.below t.place (way t.mask (p.2.hash w) K)) ++ p.2.hash w :: (L.map (Tk.h w)).drop (SetTable.below t.place (way t.mask (p.2.hash w) K)) := by
      rw [List.map_append, List.map_cons, List.map_take, List.map_drop]
      rfl
    rw [← hh] at T1
    generalize SetTable.insertAt es (SetTable.below t.place (way t.mask (p.2.hash w) K)) (p.2.hash w, Value.ref p.1) = es1 at hin ⊢
    generalize L.take (SetTable.below t.place (way t.mask (p.2.hash w) K)) ++ p :: L.drop (SetTable.below t.place (way t.mask (p.2.hash w) K)) = L1 at pm T1 hin
    have len : L1.length = L.length + 1 := pm.length_eq
    have z1 : es1.size = L.length + 1 := by rw [← Array.length_toList, hin, List.length_map, len]
    have nd1 : (L1.map (·.2)).Nodup := (pm.map (·.2)).nodup_iff.mpr (List.nodup_cons.mpr ⟨hm, R.nd⟩)
    have f1 : t1.fill = L.length + 1 := by
      have : t0.fill = (L.map (Tk.h w)).length + 1 := q9
      rw [List.length_map] at this
      unfold SetTable.fill at this ⊢
      rw [p1, d1]
      exact this
    refine wpAny_bind (wpAny_storeSet_of ho hd ?_ (by rw [z1, sizeLine_eq]; omega))
    have sb : Heap.SameBut a s.heap (s.heap.update a (Obj.putSet es1 t1)) := Heap.SameBut.update ..
    have ho1 := store_at (es' := es1) (t' := t1) ho hd
    generalize s.heap.update a (Obj.putSet es1 t1) = h1 at sb ho1 ⊢
    have el1 : ∀ y ∈ L1, ElOk h1 y.el := fun y hy => by
      rcases List.mem_cons.mp (pm.mem_iff.mp hy) with e | hy
      · rw [e]; exact elOk_but hp ho hd sb
      · exact elOk_but (R.el y hy) ho hd sb
    have ld1 : w.params.followText "set-order" = true ∨ t1.led = true := by rw [l1, q5]; exact R.led
    by_cases hf : t1.tooFull = true
    · have full : (L.length + 1) * 5 ≥ t1.mask * 3 := by
        have h := hf
        unfold SetTable.tooFull at h
        rw [decide_eq_true_eq, f1] at h
        exact h
      rw [sl]
      rw [m1, q4] at full
      have two : (t.mask = 7 ∧ L.length = 4) ∨ (t.mask = 31 ∧ L.length = 18) := by
        rcases R.tab.mok with e | e | e <;> rw [e] at full room <;> first | exact .inl ⟨e, by omega⟩ | exact .inr ⟨e, by omega⟩ | (exfalso; omega)
      have go : ∀ M, SetTable.sizeAbove (SetTable.grown (L.length + 1)) - 1 = M → MaskOk M → SetTable.sizeAbove (SetTable.grown (L.length + 1)) ≤ 128 → (L.length + 1) * 5 < M * 3 →
          wpAny (model P w) A (setRelay a (SetTable.grown (L.length + 1))) (fun _ z => wpAny (model P w) A (pure true) Q E z) E { s with heap := h1 } := fun M g1 g2 g3 g4 =>
        relay_sg (s := { s with heap := h1 }) ho1 ⟨hx.1, hx.2.1, hx.2.2⟩ rfl hin (by have h := T1.sz; rw [List.length_map, len] at h; rw [h, z1]) T1.dm (by rw [z1, m1, q4]; rcases two with ⟨e, e2⟩ | ⟨e, e2⟩ <;> omega) nd1 el1 ld1 (by rw [len]; exact few) g1 g2 g3 (by rw [len]; exact g4)
          fun h2 L2 es2 ep2 t2 sb2 R2 pm2 => wpAny_pure (q true h2 L2 es2 ep2 t2 (sb.trans sb2) R2 (fun z => absurd z hm) fun _ => pm2.trans pm)
      have run : wpAny (model P w) A (setRelay a (SetTable.grown (L.length + 1))) (fun _ z => wpAny (model P w) A (pure true) Q E z) E { s with heap := h1 } := by
        rcases two with ⟨_, e2⟩ | ⟨_, e2⟩
        · exact go 31 (by rw [e2, size_20]) (.inr (.inl rfl)) (by rw [e2, size_20]; decide) (by omega)
        · exact go 127 (by rw [e2, size_76]) (.inr (.inr rfl)) (by rw [e2, size_76]; decide) (by omega)
      first
        | exact wpAny_bind (wp_if_pos (by simp [hf]) run)
        | exact wp_if_pos (by simp [hf]) (wpAny_bind run)
    · have fin : wpAny (model P w) A (pure true) Q E { s with heap := h1 } := wpAny_pure (q true h1 L1 es1 (ep + 1) t1 sb ⟨⟨_, ho1, ⟨hx.1, hx.2.1, hx.2.2⟩, rfl⟩, hin, T1, nd1, el1, ld1, by
        have h := hf
        unfold SetTable.tooFull at h
        rw [decide_eq_true_eq, f1] at h
        rw [len]
        omega, by rw [len]; exact few⟩ (fun z => absurd z hm) fun _ => pm)
      first
        | exact wp_if_neg (by simp [hf]) fin
        | exact wpAny_bind (wp_if_neg (by simp [hf]) (wpAny_pure fin))
  split
  · refine wpAny_bind (hashBy_key 8 hp.is hp.dp fun b => ?_)
    cases b with
    | true => exact rest t0 rfl rfl rfl rfl q3
    | false => exact rest { t0 with plain := false } rfl rfl rfl rfl (tab_plain q3)
  · exact wpAny_bind (wpAny_pure (rest t0 rfl rfl rfl rfl q3))
end
end Pv
set_option Elab.async false
set_option linter.all false
set_option maxRecDepth 100000
set_option maxHeartbeats 3200000
/-! set(xs), xs a list or a tuple of tuples. -/
namespace Pv
open PySem PySem.Spec PyProof.Rows L2
structure StG (w : World) (h : Heap) (a : Addr) (L : List Tk) : Prop where
  ex : ∃ es ep t, Sg w h a L es ep t
theorem elOk_keep {h h' : Heap} {p : Tk} (x : ElOk h p.el) (k : ∀ b o, h.get? b = some o → h'.get? b = some o) : ElOk h' p.el := ⟨NestedIs.at (fun b o _ _ e _ => k b o e) _ _ x.is, x.dp⟩
/-- what the set has got of the first i -/
structure Tkn (ks : List Tk) (i : Nat) (L : List Tk) : Prop where
  sub : ∀ p ∈ L, p ∈ ks.take i
  all : ∀ p ∈ ks.take i, p.2 ∈ L.map (·.2)
  len : L.length ≤ i
theorem take_more {α : Type} {l : List α} {i : Nat} {x : α} (h : l[i]? = some x) : l.take (i + 1) = l.take i ++ [x] := by rw [List.take_add_one, h]; rfl
theorem Tkn.old {ks L : List Tk} {i : Nat} {x : Tk} (g : Tkn ks i L) (h : ks[i]? = some x) (m : x.2 ∈ L.map (·.2)) : Tkn ks (i + 1) L := by
  refine ⟨fun p hp => by rw [take_more h]; exact List.mem_append_left _ (g.sub p hp), fun p hp => ?_, Nat.le_succ_of_le g.len⟩
  rw [take_more h] at hp
  rcases List.mem_append.mp hp with z | z
  · exact g.all p z
  · rw [List.mem_singleton.mp z]; exact m
theorem Tkn.new {ks L L' : List Tk} {i : Nat} {x : Tk} (g : Tkn ks i L) (h : ks[i]? = some x) (pm : L'.Perm (x :: L)) : Tkn ks (i + 1) L' := by
  refine ⟨fun p hp => ?_, fun p hp => ?_, by rw [pm.length_eq, List.length_cons]; exact Nat.succ_le_succ g.len⟩
  · rw [take_more h]
    exact (List.mem_cons.mp (pm.mem_iff.mp hp)).elim (fun e => List.mem_append_right _ (by rw [e]; exact List.mem_singleton.mpr rfl)) fun z => List.mem_append_left _ (g.sub p z)
  · rw [(pm.map (·.2)).mem_iff, List.map_cons]
    rw [take_more h] at hp
    rcases List.mem_append.mp hp with z | z
    · exact .tail _ (g.all p z)
    · rw [List.mem_singleton.mp z]; exact .head _
section
variable {P : Program} {w : World} {A : Around} {E : Value → Shared → Prop} {R : Result → Shared → Prop} {I : Addr} {fp wr : List Addr} {G : Array GenState → Array GenState → Prop} {n : Nat} {V' : Nat → Value → Prop} {St : Nat → Shared → Prop}
theorem stg_keep {h h' : Heap} {a : Addr} {L : List Tk} (x : StG w h a L) (ka : ∀ o, h.get? a = some o → h'.get? a = some o) (ke : ∀ p ∈ L, ElOk h' p.el) : StG w h' a L :=
  let ⟨es, ep, t, S⟩ := x.ex
  let ⟨o, ho, r⟩ := S.ob
  ⟨es, ep, t, ⟨o, ka o ho, r⟩, S.rows, S.tab, S.nd, ke, S.led, S.room, S.few⟩
theorem grow_sg (W : WalksS P w A.in1 I fp wr G n V' St) (a : Addr) (out : a ∉ fp) (ks : List Tk) (few : n < 64) (len : ks.length = n) (vals : ∀ i v, V' i v → ∃ p, ks[i]? = some p ∧ v = .ref p.1) (h0 : Heap) (ok : ∀ p ∈ ks, ElOk h0 p.el) (na : h0.get? a = none) (nw : ∀ b ∈ wr, h0.get? b = none) (hu : A.in1.units + 8 < cLine) :
    ∀ (left i : Nat) (s : Shared), n - i = left → i ≤ n → St i s → (∀ b o, h0.get? b = some o → s.heap.get? b = some o) → (∃ L, StG w s.heap a L ∧ Tkn ks i L) →
      (∀ s' L, Moved (a :: wr) G s s' → StG w s'.heap a L → Tkn ks n L → (∀ b o, h0.get? b = some o → s'.heap.get? b = some o) → R (.ok (.ret .none)) s') →
      codeAny (model P w) A (.builtin "set.update.loop" ⟨[.ref a, .ref I], []⟩) R s
  | 0, i, s, hk, hi, st, kp, ⟨L, x, g⟩, q => by
    obtain rfl : i = n := by omega
    have keep : ∀ {z z' : Shared}, Moved wr G z z' → (∀ b o, h0.get? b = some o → z.heap.get? b = some o) → ∀ b o, h0.get? b = some o → z'.heap.get? b = some o := fun m k b o e => m.heap b o (fun hb => by rw [nw b hb] at e; cases e) (k b o e)
    refine codeAny_builtin F.entry_set_update_loop ?_
    rw [Around.under_plainId F.plain_set_update_loop _]
    refine (show wpAny (model P w) A.in1 (pyNext (.ref I) >>= _) _ _ s from wpAny_bind (W.done s _ _ st fun s' m => ?_))
    have kp' := keep m kp
    exact (show wpAny (model P w) A.in1 (ret Value.none) _ _ s' from wpAny_pure (q s' L (m.mono fun b hb => List.mem_cons_of_mem _ hb) (stg_keep x (fun o e => m.heap a _ (fun z => out (W.sub _ z)) e) fun p hp => elOk_keep (ok p (List.mem_of_mem_take (g.sub p hp))) kp') g kp'))
  | left + 1, i, s, hk, hi, st, kp, ⟨L, x, g⟩, q => by
    have lt : i < n := by omega
    have keep : ∀ {z z' : Shared}, Moved wr G z z' → (∀ b o, h0.get? b = some o → z.heap.get? b = some o) → ∀ b o, h0.get? b = some o → z'.heap.get? b = some o := fun m k b o e => m.heap b o (fun hb => by rw [nw b hb] at e; cases e) (k b o e)
    refine codeAny_builtin F.entry_set_update_loop ?_
    rw [Around.under_plainId F.plain_set_update_loop _]
    refine (show wpAny (model P w) A.in1 (pyNext (.ref I) >>= _) _ _ s from wpAny_bind (W.item i s _ _ lt st fun v s1 hv st1 m => ?_))
    obtain ⟨p, hp, rfl⟩ := vals i v hv
    have kp1 := keep m kp
    have okp : ElOk s1.heap p.el := elOk_keep (ok p (List.mem_of_getElem? hp)) kp1
    obtain ⟨es, ep, t, S1⟩ := (stg_keep x (fun o e => m.heap a _ (fun z => out (W.sub _ z)) e) fun p hp => elOk_keep (ok p (List.mem_of_mem_take (g.sub p hp))) kp1 : StG w s1.heap a L).ex
    refine (show wpAny (model P w) A.in1 (holding [Value.ref p.1] (setAdd a (.ref p.1)) >>= _) _ _ s1 from wpAny_bind (wpAny_holding ?_))
    unfold setAdd
    refine wpAny_holding (wpAny_bind (pyHash_key p.2 _ A.in1 s1 _ okp.is (by have := okp.dp; have : p.2.depth ≤ 8 := this; omega) ?_))
    refine add_sg (s := { s1 with toks := s1.toks + p.2.draws }) S1 okp hu (by have := g.len; omega) fun b h2 L2 es2 ep2 t2 sb S2 c1 c2 => ?_
    have g2 : Tkn ks (i + 1) L2 := by
      rcases Classical.em (p.2 ∈ L.map (·.2)) with c | c
      · rw [c1 c]; exact g.old hp c
      · exact g.new hp (c2 c)
    have kp2 : ∀ b o, h0.get? b = some o → h2.get? b = some o := fun b o e => (sb.2 b fun z => by rw [z, na] at e; cases e).trans (kp1 b o e)
    refine wpAny_pure ⟨plainId_quiet F.plain_set_update_loop _, grow_sg W a out ks few len vals h0 ok na nw hu left (i + 1) _ (by omega) lt (W.frame _ s1 _ _ st1 (Nat.le_add_right _ _) fun b hb o e => ?_) kp2 ⟨L2, ⟨es2, ep2, t2, S2⟩, g2⟩ fun s3 L3 m3 x3 g3 k3 => ?_⟩
    · exact (sb.2 b fun z => out (z ▸ hb)).trans e
    · refine q s3 L3 (Moved.trans W.gtrans ((m.mono fun b hb => List.mem_cons_of_mem _ hb).then_heap (Nat.le_add_right _ _) fun b o hb e => ?_) m3) x3 g3 k3
      exact (sb.2 b fun z => hb (by rw [z]; exact List.mem_cons_self)).trans e
end
section
variable {P : Program} {w : World} {A : Around} {E : Value → Shared → Prop} {s : Shared}
theorem stg_new {h : Heap} {a : Addr} (ho : h.get? a = some (so0 w)) : StG w h a [] := by
  refine ⟨#[], 0, _, ⟨_, ho, ⟨rfl, rfl, rfl⟩, rfl⟩, rfl, ⟨List.Pairwise.nil, rfl, rfl, .inl rfl, fun x hx => (by cases hx), fun i h j hi => (by simp at hi)⟩, List.nodup_nil, fun p hp => (by cases hp), ?_, ?_, ?_⟩
  · show w.params.followText "set-order" = true ∨ (!w.params.followText "set-order") = true
    cases w.params.followText "set-order" <;> simp
  · show 0 * 5 < 7 * 3
    decide
  · show 0 < 64
    decide
theorem call_sgL {l : Addr} {its : Array Value} {ks : List Tk} {Q : Value → Shared → Prop} (hh : A.handled = none) (hl : s.heap.IsList l its) (hi : its.toList = ks.map fun p => Value.ref p.1) (ok : ∀ p ∈ ks, ElOk s.heap p.el) (few : ks.length < 64) (hu : A.units + 11 < cLine)
    (q : ∀ (h' : Heap) (tk : Nat) (L : List Tk), StG w h' s.heap.objs.size L → Tkn ks ks.length L → (∀ b o, s.heap.get? b = some o → h'.get? b = some o) → Q (.ref s.heap.objs.size) { s with heap := h', toks := tk }) :
    wpAny (model P w) A (call (.type "set") [.ref l]) Q E s := by
  have len : ks.length = its.size := by rw [← Array.length_toList, hi, List.length_map]
  obtain ⟨_, _, mro⟩ := F.called_set.mro
  have md := F.called_set.made
  have sb := F.called_set.sub
  have nt := F.called_set.notType
  have cc := F.called_set.canCreate
  have ct := F.typeCall_set_1 (.ref l)
  refine wpAny_call (codeAny_of_tree (show wpAny _ _ (callAny (.type "set") _) _ _ _ from wpAny_pure ⟨Code.quiet_builtin _ (by decide +kernel), codeAny_builtin F.entry_type_call ?_⟩))
  rw [Around.under_plain (weight_type_call_type "set" [.ref l] []) rfl]
  repeat (any_goals (first | assumption | wp_step))
  refine codeAny_mono (code_set_led1 (.ref l) (E := E) (Q₁ := fun u z => u = .ref s.heap.objs.size ∧ z = { s with heap := s.heap.push (so0 w) }) ⟨rfl, rfl⟩) fun r z hr => ?_
  cases r with
  | error e => exact hr
  | ok fl =>
    cases fl with
    | ret u =>
      obtain ⟨rfl, rfl⟩ := hr
      have at_ : (s.heap.push (so0 w)).get? s.heap.objs.size = some (so0 w) := Heap.get?_push_size _ rfl
      have ty : Shared.TypeIs { s with heap := s.heap.push (so0 w) } (.ref s.heap.objs.size) "set" := ⟨_, at_, rfl⟩
      have il := F.called_set.init.lookup
      have ib := F.called_set.init.bind (.ref s.heap.objs.size)
      repeat (any_goals (first | assumption | wp_step))
      refine codeAny_mono (codeAny_call_builtin (R := wants (fun r z => r = .none ∧ ∃ h' tk L, z = { s with heap := h', toks := tk } ∧ StG w h' s.heap.objs.size L ∧ Tkn ks ks.length L ∧ ∀ b o, s.heap.get? b = some o → h'.get? b = some o) E) F.called_set.init.plain F.entry_set_init (check_set_init_1 ty ?_)) fun r z hr => ?_
      · obtain ⟨⟨c1, d1, e1, f1⟩, ho, hc, m, hd⟩ := hl
        simp only at hc hd
        subst hc hd
        have ho1 : (s.heap.push (so0 w)).get? l = some { cls := .type "list", dict := d1, data := .seq its m, slots := f1 } := Heap.get?_push_of_some _ ho
        have g1 := F.sub_list_set
        have g2 := F.sub_list_frozenset
        have g3 : (Value.type "list" == Value.type "dict") = false := by decide
        have il1 : (s.heap.push (so0 w)).IsList l its := ⟨_, ho1, rfl, m, rfl⟩
        unfold Builtin.«set.__init__» noKeywords Builtin.Frozenset.updateFrom
        generalize hPI : pyIter = PI
        wp_walk
        subst hPI
        refine wpAny_pyIter_list il1 (wpAny_bind (wpAny_runValue ?_))
        have lt : l < s.heap.objs.size := Heap.lt_size ho
        have sz : (s.heap.push (so0 w)).objs.size = s.heap.objs.size + 1 := Heap.size_push ..
        have hh3 : A.in1.in1.in1.handled = none := by simp [hh]
        have ne : l ≠ (s.heap.push (so0 w)).objs.size := by rw [sz]; exact Nat.ne_of_lt (Nat.lt_succ_of_lt lt)
        have nf : s.heap.objs.size ∉ [(s.heap.push (so0 w)).objs.size, l] := by
          rw [sz]
          intro z
          rcases List.mem_cons.mp z with z | z
          · exact absurd z (Nat.ne_of_lt (Nat.lt_succ_self _))
          · exact absurd (List.mem_singleton.mp z) (Nat.ne_of_gt lt)
        have none_at : ∀ b, s.heap.objs.size ≤ b → s.heap.get? b = none := fun b hb => by
          cases e : s.heap.get? b with
          | none => rfl
          | some o => exact absurd (Nat.lt_of_lt_of_le (Heap.lt_size e) hb) (Nat.lt_irrefl _)
        have va : ∀ (i : Nat) (v : Value), its[i]? = some v → ∃ p, ks[i]? = some p ∧ v = .ref p.1 := fun i v hv => by
          have z : its.toList[i]? = some v := by rw [Array.getElem?_toList]; exact hv
          rw [hi, List.getElem?_map] at z
          cases y : ks[i]? with
          | none => rw [y] at z; cases z
          | some p => rw [y] at z; exact ⟨p, rfl, (Option.some.inj z).symm⟩
        refine grow_sg ((Walks.list hh3 _ l ne its).toS) s.heap.objs.size nf ks (by rw [← len]; exact few) len va s.heap ok (none_at _ (Nat.le_refl _)) (fun b hb => none_at b (by rw [List.mem_singleton.mp hb, sz]; exact Nat.le_succ _)) (by simp only [Around.in1_units]; omega) (its.size - 0) 0 _ (by omega) (Nat.zero_le _) ⟨⟨_, Heap.get?_push_size _ rfl, rfl, rfl⟩, il1.push _⟩
          (fun b o e => Heap.get?_push_of_some _ (Heap.get?_push_of_some _ e)) ⟨[], stg_new (Heap.get?_push_of_some _ at_), ⟨fun p hp => (by cases hp), fun p hp => (by rw [List.take_zero] at hp; cases hp), Nat.le_refl _⟩⟩ fun z L m3 x3 g3 k3 => ?_
        obtain ⟨h', g', d', tk', os'⟩ := z
        obtain rfl : g' = s.gens := m3.gens
        obtain rfl : d' = s.drawn := m3.drawn
        obtain rfl : os' = s.os := m3.os
        exact (show wpAny _ _ _ _ _ _ from wpAny_pure (show wpAny _ _ (ret Value.none) _ _ _ from wpAny_pure ⟨rfl, h', tk', L, rfl, x3, by rw [len]; exact g3, k3⟩))
      · cases r with
        | error e => exact hr
        | ok fl =>
          cases fl with
          | ret u =>
            obtain ⟨rfl, h', tk, L, rfl, x3, g3, k3⟩ := hr
            repeat (any_goals (first | assumption | wp_step))
            exact q _ _ _ x3 g3 k3
          | _ => exact hr.elim
    | _ => exact hr.elim
theorem call_sgT {l : Addr} {its : Array Value} {ks : List Tk} {Q : Value → Shared → Prop} (hh : A.handled = none) (hl : s.heap.IsTuple l its) (hi : its.toList = ks.map fun p => Value.ref p.1) (ok : ∀ p ∈ ks, ElOk s.heap p.el) (few : ks.length < 64) (hu : A.units + 11 < cLine)
    (q : ∀ (h' : Heap) (tk : Nat) (L : List Tk), StG w h' s.heap.objs.size L → Tkn ks ks.length L → (∀ b o, s.heap.get? b = some o → h'.get? b = some o) → Q (.ref s.heap.objs.size) { s with heap := h', toks := tk }) :
    wpAny (model P w) A (call (.type "set") [.ref l]) Q E s := by
  have len : ks.length = its.size := by rw [← Array.length_toList, hi, List.length_map]
  obtain ⟨_, _, mro⟩ := F.called_set.mro
  have md := F.called_set.made
  have sb := F.called_set.sub
  have nt := F.called_set.notType
  have cc := F.called_set.canCreate
  have ct := F.typeCall_set_1 (.ref l)
  refine wpAny_call (codeAny_of_tree (show wpAny _ _ (callAny (.type "set") _) _ _ _ from wpAny_pure ⟨Code.quiet_builtin _ (by decide +kernel), codeAny_builtin F.entry_type_call ?_⟩))
  rw [Around.under_plain (weight_type_call_type "set" [.ref l] []) rfl]
  repeat (any_goals (first | assumption | wp_step))
  refine codeAny_mono (code_set_led1 (.ref l) (E := E) (Q₁ := fun u z => u = .ref s.heap.objs.size ∧ z = { s with heap := s.heap.push (so0 w) }) ⟨rfl, rfl⟩) fun r z hr => ?_
  cases r with
  | error e => exact hr
  | ok fl =>
    cases fl with
    | ret u =>
      obtain ⟨rfl, rfl⟩ := hr
      have at_ : (s.heap.push (so0 w)).get? s.heap.objs.size = some (so0 w) := Heap.get?_push_size _ rfl
      have ty : Shared.TypeIs { s with heap := s.heap.push (so0 w) } (.ref s.heap.objs.size) "set" := ⟨_, at_, rfl⟩
      have il := F.called_set.init.lookup
      have ib := F.called_set.init.bind (.ref s.heap.objs.size)
      repeat (any_goals (first | assumption | wp_step))
      refine codeAny_mono (codeAny_call_builtin (R := wants (fun r z => r = .none ∧ ∃ h' tk L, z = { s with heap := h', toks := tk } ∧ StG w h' s.heap.objs.size L ∧ Tkn ks ks.length L ∧ ∀ b o, s.heap.get? b = some o → h'.get? b = some o) E) F.called_set.init.plain F.entry_set_init (check_set_init_1 ty ?_)) fun r z hr => ?_
      · obtain ⟨⟨c1, d1, e1, f1⟩, ho, hc, m, hd⟩ := hl
        simp only at hc hd
        subst hc hd
        have ho1 : (s.heap.push (so0 w)).get? l = some { cls := .type "tuple", dict := d1, data := .seq its m, slots := f1 } := Heap.get?_push_of_some _ ho
        have g1 := F.sub_tuple_set
        have g2 := F.sub_tuple_frozenset
        have g3 : (Value.type "tuple" == Value.type "dict") = false := by decide
        have il1 : (s.heap.push (so0 w)).IsTuple l its := ⟨_, ho1, rfl, m, rfl⟩
        unfold Builtin.«set.__init__» noKeywords Builtin.Frozenset.updateFrom
        generalize hPI : pyIter = PI
        wp_walk
        subst hPI
        refine wpAny_pyIter_tuple il1 (wpAny_bind (wpAny_runValue ?_))
        have lt : l < s.heap.objs.size := Heap.lt_size ho
        have sz : (s.heap.push (so0 w)).objs.size = s.heap.objs.size + 1 := Heap.size_push ..
        have hh3 : A.in1.in1.in1.handled = none := by simp [hh]
        have ne : l ≠ (s.heap.push (so0 w)).objs.size := by rw [sz]; exact Nat.ne_of_lt (Nat.lt_succ_of_lt lt)
        have nf : s.heap.objs.size ∉ [(s.heap.push (so0 w)).objs.size, l] := by
          rw [sz]
          intro z
          rcases List.mem_cons.mp z with z | z
          · exact absurd z (Nat.ne_of_lt (Nat.lt_succ_self _))
          · exact absurd (List.mem_singleton.mp z) (Nat.ne_of_gt lt)
        have none_at : ∀ b, s.heap.objs.size ≤ b → s.heap.get? b = none := fun b hb => by
          cases e : s.heap.get? b with
          | none => rfl
          | some o => exact absurd (Nat.lt_of_lt_of_le (Heap.lt_size e) hb) (Nat.lt_irrefl _)
        have va : ∀ (i : Nat) (v : Value), its[i]? = some v → ∃ p, ks[i]? = some p ∧ v = .ref p.1 := fun i v hv => by
          have z : its.toList[i]? = some v := by rw [Array.getElem?_toList]; exact hv
          rw [hi, List.getElem?_map] at z
          cases y : ks[i]? with
          | none => rw [y] at z; cases z
          | some p => rw [y] at z; exact ⟨p, rfl, (Option.some.inj z).symm⟩
        refine grow_sg ((Walks.tuple hh3 _ l ne its).toS) s.heap.objs.size nf ks (by rw [← len]; exact few) len va s.heap ok (none_at _ (Nat.le_refl _)) (fun b hb => none_at b (by rw [List.mem_singleton.mp hb, sz]; exact Nat.le_succ _)) (by simp only [Around.in1_units]; omega) (its.size - 0) 0 _ (by omega) (Nat.zero_le _) ⟨⟨_, Heap.get?_push_size _ rfl, rfl, rfl⟩, il1.push _⟩
          (fun b o e => Heap.get?_push_of_some _ (Heap.get?_push_of_some _ e)) ⟨[], stg_new (Heap.get?_push_of_some _ at_), ⟨fun p hp => (by cases hp), fun p hp => (by rw [List.take_zero] at hp; cases hp), Nat.le_refl _⟩⟩ fun z L m3 x3 g3 k3 => ?_
        obtain ⟨h', g', d', tk', os'⟩ := z
        obtain rfl : g' = s.gens := m3.gens
        obtain rfl : d' = s.drawn := m3.drawn
        obtain rfl : os' = s.os := m3.os
        exact (show wpAny _ _ _ _ _ _ from wpAny_pure (show wpAny _ _ (ret Value.none) _ _ _ from wpAny_pure ⟨rfl, h', tk', L, rfl, x3, by rw [len]; exact g3, k3⟩))
      · cases r with
        | error e => exact hr
        | ok fl =>
          cases fl with
          | ret u =>
            obtain ⟨rfl, h', tk, L, rfl, x3, g3, k3⟩ := hr
            repeat (any_goals (first | assumption | wp_step))
            exact q _ _ _ x3 g3 k3
          | _ => exact hr.elim
    | _ => exact hr.elim
end
end Pv
set_option Elab.async false
set_option linter.all false
set_option maxRecDepth 100000
set_option maxHeartbeats 3200000
/-! sorted(set(xs)), xs pairs of a text and a number. -/
namespace Pv
open PySem PySem.Spec PyProof.Rows L2 SrtO Srt
/-- the pair of a key -/
def kp : NestedKey → Str × Int
  | .tup [.text x, .num i] => (x, i)
  | _ => ("", 0)
def pk (p : Str × Int) : NestedKey := .tup [.text p.1, .num p.2]
/-- a set without what is known of its elements -/
structure StG0 (w : World) (h : Heap) (a : Addr) (L : List Tk) : Prop where
  ex : ∃ (es : Array (Int × Value)) (ep : Nat) (t : SetTable), (∃ o, h.get? a = some o ∧ o.ExactSet ∧ o.data = .set es ep t) ∧ es.toList = L.map (Tk.row w) ∧ TabOk t (L.map (Tk.h w)) ∧ (L.map (·.2)).Nodup ∧ (w.params.followText "set-order" = true ∨ t.led = true) ∧ L.length * 5 < t.mask * 3 ∧ L.length < 64
theorem StG.bare {w : World} {h : Heap} {a : Addr} {L : List Tk} (x : StG w h a L) : StG0 w h a L :=
  let ⟨es, ep, t, S⟩ := x.ex
  ⟨es, ep, t, S.ob, S.rows, S.tab, S.nd, S.led, S.room, S.few⟩
theorem StG0.full {w : World} {h : Heap} {a : Addr} {L : List Tk} (x : StG0 w h a L) (k : ∀ p ∈ L, ElOk h p.el) : StG w h a L :=
  let ⟨es, ep, t, h1, h2, h3, h4, h5, h6, h7⟩ := x.ex
  ⟨es, ep, t, h1, h2, h3, h4, k, h5, h6, h7⟩
def SetG (w : World) (a : Addr) (L : List Tk) : HO := .ext fun h => StG0 w h a L
theorem setG_new {P : Program} {w : World} {H : Hp} {h : Heap} {a : Addr} {L : List Tk} (R : StG0 w h a L) : ObjOk P w H h a (SetG w a L) :=
  let ⟨_, _, _, ⟨o, ho, _⟩, _⟩ := R.ex
  ⟨R, ⟨o, ho⟩, fun _ _ R k => let ⟨es, ep, t, ⟨o, ho, r⟩, z⟩ := StG0.ex R; ⟨es, ep, t, ⟨o, k o ho, r⟩, z⟩⟩
section
variable {P : Program} {w : World} {A : Around} {E : Value → Shared → Prop} {s : Shared} {a : Addr} {L : List Tk}
theorem sg_out {Q : Value → Shared → Prop} (x : StG w s.heap a L) (hh : A.handled = none) (kind : ∀ p ∈ L, TupSI s.heap (.ref p.1) (kp p.2).1 (kp p.2).2)
    (q : ∀ s' p (out : Array Value) (c : Nat) (L' : List Tk), (∀ b o, s.heap.get? b = some o → s'.heap.get? b = some o) → s'.gens = s.gens → s'.os = s.os → s.heap.objs.size ≤ p → s'.heap.get? p = some (seqObj "list" out c) → out.toList = L'.map (fun r => Value.ref r.1) → L'.Perm L → L'.Pairwise (fun q r => ltSI (kp r.2) (kp q.2) = false) → Q (.ref p) s') :
    wpAny (model P w) A (call (.builtin "sorted") [.ref a]) Q E s := by
  obtain ⟨es, ep, t, R⟩ := x.ex
  obtain ⟨o, ho, hx, hd⟩ := R.ob
  have few := R.few
  have sz := R.size
  refine Calls.call_function_entry kind_sorted plain_sorted entry_sorted (args_sorted1 _) ?_
  unfold Builtin.«sorted»
  refine wpAny_bind (m := checkCount "sorted" 1 1 _) (wpAny_pure (wpAny_bind (collect_set (A := A.in1) hh ⟨o, ho, hx.1, hd⟩ R.fits (by unfold scanBound; omega) R.tab.ris R.led fun s1 vs k1 hz g1 o1 pm => ?_)))
  have e1 : es.toList.map (·.2) = L.map fun r => Value.ref r.1 := by
    rw [R.rows, List.map_map]
    rfl
  rw [e1] at pm
  have back : ∀ vs : List Value, (∀ v ∈ vs, ∃ r ∈ L, v = Value.ref r.1) → ∃ L1 : List Tk, vs = L1.map (fun r => Value.ref r.1) ∧ ∀ r ∈ L1, r ∈ L := fun vs => by
    induction vs with
    | nil => exact fun _ => ⟨[], rfl, fun r hr => (by cases hr)⟩
    | cons v vs ih =>
      intro hv
      obtain ⟨r, hr, e⟩ := hv v (.head _)
      obtain ⟨L1, e1, hs⟩ := ih fun u hu => hv u (.tail _ hu)
      exact ⟨r :: L1, by rw [List.map_cons, e, e1], fun y hy => (List.mem_cons.mp hy).elim (fun z => z ▸ hr) (hs y)⟩
  have one : ∀ q ∈ L, ∀ r ∈ L, q.1 = r.1 → q = r := fun q hq r hr e => by
    have z1 : NestedIs s.heap q.2 (.ref q.1) := (R.el q hq).is
    have z2 : NestedIs s.heap r.2 (.ref r.1) := (R.el r hr).is
    rw [e] at z1
    exact Prod.ext e (NestedIs.inj _ _ _ z1 z2)
  have ndL : L.Nodup := List.Pairwise.of_map (·.2) (fun _ _ ne e => ne (congrArg _ e)) R.nd
  have pmL : ∀ L1 : List Tk, (∀ r ∈ L1, r ∈ L) → (L1.map (fun r => Value.ref r.1)).Perm (L.map fun r => Value.ref r.1) → L1.Perm L := fun L1 hs pm1 => by
    have nr : (L.map fun r => Value.ref r.1).Nodup := List.pairwise_map.mpr (ndL.imp_of_mem fun {q r} hq hr ne e => by
      injection e with e
      exact ne (one q hq r hr e))
    have n1 : L1.Nodup := List.Pairwise.of_map (fun r => Value.ref r.1) (fun _ _ ne e => ne (congrArg (fun r : Tk => Value.ref r.1) e)) (pm1.nodup_iff.mpr nr)
    refine (List.perm_ext_iff_of_nodup n1 ndL).mpr fun r => ⟨hs r, fun hr => ?_⟩
    obtain ⟨y, hy, e⟩ := List.mem_map.mp (pm1.mem_iff.mpr (List.mem_map.mpr ⟨r, hr, rfl⟩))
    injection e with e
    exact one y (hs y hy) r hr e ▸ hy
  have vl : vs.length < 64 := by rw [pm.length_eq, List.length_map]; exact few
  -- a value's pair
  have ex : ∃ k : Value → Str × Int, ∀ r ∈ L, k (.ref r.1) = kp r.2 := by
    classical
    refine ⟨fun v => if h : ∃ r ∈ L, v = Value.ref r.1 then kp h.choose.2 else ("", 0), fun r hr => ?_⟩
    have h : ∃ q ∈ L, Value.ref r.1 = Value.ref q.1 := ⟨r, hr, rfl⟩
    show (if h : ∃ q ∈ L, Value.ref r.1 = Value.ref q.1 then kp h.choose.2 else ("", 0)) = _
    rw [dif_pos h]
    obtain ⟨c1, c2⟩ := h.choose_spec
    injection c2 with c2
    rw [one _ c1 r hr c2.symm]
  obtain ⟨k, hk⟩ := ex
  have pair : ∀ v ∈ vs, TupSI s1.heap v (k v).1 (k v).2 := fun v hv => by
    obtain ⟨r, hr, e⟩ := List.mem_map.mp (pm.mem_iff.mp hv)
    rw [← e, hk r hr]
    exact (kind r hr).on fun b o e _ => k1 b o e
  refine wpAny_bind (wpAny_newList ?_ (by rw [sizeLine_eq]; omega))
  have at_ : (s1.heap.push (seqObj "list" vs.toArray 0)).get? s1.heap.objs.size = some (seqObj "list" vs.toArray 0) := Heap.get?_push_size _ rfl
  refine wpAny_bind (wpAny_holding (wpAny_call_entry slot_list_sort ⟨_, at_, rfl⟩ entry_list_sort (list_sort_ord (swoSI k) at_ (by rw [sizeLine_eq]; omega) (fun h2 => ablSI (by omega) (fun v hv => (pair v hv).on fun b o e _ => Heap.get?_push_of_some _ e) fun o e c => ?_) fun out hs hb => ⟨_, rfl, ?_⟩) (args_list_sort _)))
  · rw [at_] at e
    cases e
    exact absurd (Value.type.inj c) (by decide)
  · obtain ⟨c, hc⟩ := sortedHeap_at (vs := vs) (out := out.toArray) at_
    obtain ⟨L', e', hs'⟩ := back out fun v hv => by
      obtain ⟨r, hr, e⟩ := List.mem_map.mp (pm.mem_iff.mp (hb.perm.mem_iff.mp hv))
      exact ⟨r, hr, e.symm⟩
    have pL : L'.Perm L := pmL L' hs' (by rw [← e']; exact hb.perm.trans pm)
    have pw : L'.Pairwise (fun q r => ltSI (kp r.2) (kp q.2) = false) := by
      have h1 : out.Pairwise (fun x y => ltSI (k y) (k x) = false) := hs
      rw [e'] at h1
      exact (List.pairwise_map.mp h1).imp_of_mem fun {q r} hq hr z => by rw [← hk q (hs' q hq), ← hk r (hs' r hr)]; exact z
    refine wpAny_pure ⟨_, rfl, q _ s1.heap.objs.size out.toArray c L' (fun b u e => ?_) g1 o1 hz hc (by simpa using e') pL pw⟩
    have lt := Heap.lt_size (k1 b u e)
    show (sortedHeap (s1.heap.push (seqObj "list" vs.toArray 0)) s1.heap.objs.size vs _).get? b = some u
    rw [sortedHeap_old (Nat.ne_of_lt lt) (by rw [size_push']; exact Nat.lt_succ_of_lt lt)]
    exact Heap.get?_push_of_some _ (k1 b u e)
end
/-! ### as tracked things -/
/-- the tuple of a pair -/
def PkV (K : PySem.W.Frag) (H : Hp) (p : Tk) : Prop := ∃ x i, p.2 = pk (x, i) ∧ SqT K H p.1 [.str x, .int i]
section
variable {X : Cx}
theorem refs_vals : ∀ {ks : List Tk} {us : List Value}, Vals (ks.map fun p => V.ref p.1) us → us = ks.map fun p => Value.ref p.1
  | [], _, .nil => rfl
  | p :: ks, _, .cons r t => by
    cases r
    rw [refs_vals t]
    rfl
theorem vals_refs : ∀ ks : List Tk, Vals (ks.map fun p => V.ref p.1) (ks.map fun p => Value.ref p.1)
  | [] => .nil
  | p :: ks => .cons rfl (vals_refs ks)
theorem inv_pk {pins : List (Addr × Obj)} {σ : L2.St} {H : Hp} {s : Shared} (I : Inv X pins σ H s) {p : Tk} (h : PkV X.K H p) : ElOk s.heap p.el ∧ TupSI s.heap (.ref p.1) (kp p.2).1 (kp p.2).2 := by
  obtain ⟨x, i, e, h⟩ := h
  obtain ⟨its, r, ⟨o, ho, hc, n, hd⟩, _⟩ := I.tuple h
  obtain ⟨u1, u2, rfl, ri, rj⟩ := vals2 r
  obtain ⟨t1, rfl⟩ := ri
  obtain ⟨t2, rfl⟩ := rj
  obtain ⟨b, k⟩ := p
  have e : k = pk (x, i) := e
  subst e
  refine ⟨⟨.tup ho hc hd (.cons (.text x t1) (.cons (.int i t2) .nil)), ?_⟩, b, o, t1, t2, n, rfl, ho, hc, hd⟩
  show NestedKey.depth (.tup [.text x, .num i]) ≤ 8
  simp [NestedKey.depth, NestedKey.depthAll]
def rSetG (K : PySem.W.Frag) (w : World) : List V → Hp → VK → Prop := fun xs H Q => ∃ (l : Addr) (ks : List Tk), xs = [V.ref l] ∧ (SqL K H l (ks.map fun p => V.ref p.1) ∨ SqT K H l (ks.map fun p => V.ref p.1)) ∧ (∀ p ∈ ks, PkV K H p) ∧ ks.length < 64 ∧
  ∀ a L, H a = none → (∀ p ∈ L, p ∈ ks) → (∀ p ∈ ks, p.2 ∈ L.map (·.2)) → (L.map (·.2)).Nodup → L.length ≤ ks.length → Q (.ref a) (upd H a (SetG w a L))
theorem cr_setG (hc : X.calm = true) (hu : X.A.units + 64 < cLine) : CallR X (.type "set") (rSetG X.K X.w) := by
  intro pins s σ H xs us Q I r h
  obtain ⟨l, ks, rfl, hl, hk, few, q⟩ := h
  rw [Vals.ref1 r]
  have fin : ∀ (h' : Heap) (tk : Nat) (L : List Tk), StG X.w h' s.heap.objs.size L → Tkn ks ks.length L → (∀ b o, s.heap.get? b = some o → h'.get? b = some o) → EP X pins σ Q (.ref s.heap.objs.size) { s with heap := h', toks := tk } := fun h' tk L R g k => by
    obtain ⟨_, _, _, S⟩ := R.ex
    exact ⟨.ref s.heap.objs.size, upd H s.heap.objs.size (SetG X.w s.heap.objs.size L), I.laid (t' := tk) k (Nat.le_refl _) (setG_new R.bare), rfl, q _ L (I.hok.fresh (Nat.le_refl _)) (fun p hp => List.mem_of_mem_take (g.sub p hp)) (fun p hp => g.all p (by rw [List.take_length]; exact hp)) S.nd g.len⟩
  rcases hl with hl | hl
  · obtain ⟨its, rv, pl, _⟩ := I.list hl
    exact call_sgL (I.ok.hd hc) pl.isList (by simpa using refs_vals rv) (fun p hp => (inv_pk I (hk p hp)).1) few (by omega) fin
  · obtain ⟨its, rv, pl, _⟩ := I.tuple hl
    exact call_sgT (I.ok.hd hc) pl (by simpa using refs_vals rv) (fun p hp => (inv_pk I (hk p hp)).1) few (by omega) fin
def rOrdG (K : PySem.W.Frag) (w : World) : List V → Hp → VK → Prop := fun vs H Q => ∃ (a : Addr) (L : List Tk), vs = [V.ref a] ∧ H a = some (SetG w a L) ∧ (∀ p ∈ L, PkV K H p) ∧
  ∀ (L' : List Tk) (p : Addr), L'.Perm L → L'.Pairwise (fun q r => ltSI (kp r.2) (kp q.2) = false) → H p = none → Q (.ref p) (upd H p (.lst (L'.map fun q => V.ref q.1)))
theorem cr_ordG (hc : X.calm = true) : CallR X (.builtin "sorted") (rOrdG X.K X.w) := by
  intro pins s σ H vs us Q I r h
  obtain ⟨a, L, rfl, ha, hk, q⟩ := h
  have R0 : StG0 X.w s.heap a L := (I.hok a _ ha).1
  have R : StG X.w s.heap a L := R0.full fun p hp => (inv_pk I (hk p hp)).1
  obtain ⟨_, _, _, S⟩ := R.ex
  have few := S.few
  rw [Vals.ref1 r]
  refine sg_out R (I.ok.hd hc) (fun p hp => (inv_pk I (hk p hp)).2) fun s' p out c L' k g o hp hg hout pm pw => ?_
  have fit : (L'.map fun q => V.ref q.1).length ≤ sizeLine := by rw [List.length_map, pm.length_eq, sizeLine_eq]; omega
  have hn : H p = none := I.hok.fresh hp
  have hv : Vals (L'.map fun q => V.ref q.1) out.toList := by rw [hout]; exact vals_refs L'
  have J : Inv X pins σ (upd H p (.lst (L'.map fun q => V.ref q.1))) { s with heap := s'.heap, gens := s'.gens, drawn := s'.drawn, toks := s'.toks } :=
    I.call (ch := []) (Un.laid k hp hn) (I.hok.laid k hp ⟨fit, out.toList, c, hv, hg⟩) (by rw [g]; exact I.bare) fun _ z => nomatch z
  have e : s' = { s with heap := s'.heap, gens := s'.gens, drawn := s'.drawn, toks := s'.toks } := by cases s'; cases s; cases o; rfl
  rw [e]
  exact ⟨.ref p, _, J, rfl, q L' p pm pw hn⟩
end
end Pv
set_option Elab.async false
set_option linter.all false
set_option maxRecDepth 100000
set_option maxHeartbeats 3200000
/-! The word: sorted(set(xs)), xs pairs. -/
namespace Pv
open PySem PySem.Spec PyProof.Rows L2 SrtO Srt
theorem oneP_mem : ∀ {ys : List (Str × Int)} {t : Str × Int}, t ∈ oneP ys ↔ t ∈ ys
  | [], t => Iff.rfl
  | x :: r, t => by
    unfold oneP
    split
    · rename_i h
      rw [oneP_mem, List.mem_cons]
      exact ⟨.inr, fun z => z.elim (fun e => e ▸ of_decide_eq_true h) id⟩
    · rw [List.mem_cons, List.mem_cons, oneP_mem]
theorem oneP_nd : ∀ (ys : List (Str × Int)), (oneP ys).Nodup
  | [] => .nil
  | x :: r => by
    unfold oneP
    split
    · exact oneP_nd r
    · rename_i h
      exact List.nodup_cons.mpr ⟨fun z => h (decide_eq_true (oneP_mem.mp z)), oneP_nd r⟩
theorem kp_pk (p : Str × Int) : kp (pk p) = p := rfl
section
variable {K : PySem.W.Frag} {H : Hp} {U : Addr → Prop}
theorem tks_of : ∀ {vs : List V} {ps : List (Str × Int)}, Rps K H U vs (ps.map pairD) → ∃ ks : List Tk, vs = ks.map (fun p => V.ref p.1) ∧ ks.map (·.2) = ps.map pk ∧ (∀ p ∈ ks, PkV K H p) ∧ ∀ p ∈ ks, Rp K H U (V.ref p.1) (pairD (kp p.2))
  | _, [], r => by cases r; exact ⟨[], rfl, rfl, fun _ h => (by cases h), fun _ h => (by cases h)⟩
  | _, p :: ps, r => by
    cases r with
    | cons r1 r2 =>
      obtain ⟨ks, e1, e2, e3, e4⟩ := tks_of r2
      obtain ⟨t, rfl, h⟩ := pair_v r1
      refine ⟨(t, pk p) :: ks, by rw [e1]; rfl, by rw [List.map_cons, List.map_cons, e2], fun q hq => ?_, fun q hq => ?_⟩
      · rcases List.mem_cons.mp hq with e | hq
        · rw [e]; exact ⟨p.1, p.2, rfl, h⟩
        · exact e3 q hq
      · rcases List.mem_cons.mp hq with e | hq
        · rw [e]; exact r1
        · exact e4 q hq
theorem rps_tks {f : Tk → D} : ∀ {L : List Tk}, (∀ p ∈ L, Rp K H U (V.ref p.1) (f p)) → Rps K H U (L.map fun p => V.ref p.1) (L.map f)
  | [], _ => .nil
  | p :: L, h => .cons (h p (.head _)) (rps_tks fun q hq => h q (.tail _ hq))
end
theorem sqT_new {K : PySem.W.Frag} {H : Hp} {a b : Addr} {xs : List V} {o : HO} (h : SqT K H a xs) (hb : H b = none) : SqT K (upd H b o) a xs := by
  have ne : ∀ u, H a = some u → a ≠ b := fun u e z => by rw [z, hb] at e; cases e
  rcases h with (h | ⟨u, h⟩) | h
  · exact .inl (.inl (by rw [upd_ne (ne _ h)]; exact h))
  · exact .inl (.inr ⟨u, by rw [upd_ne (ne _ h)]; exact h⟩)
  · exact .inr h
theorem sortP_uniq {qs ps : List (Str × Int)} (pw : qs.Pairwise (fun a b => leP a b = true)) (pm : qs.Perm ps) : qs = sortP ps :=
  List.Perm.eq_of_pairwise (le := fun a b => leP a b = true) (fun a b _ _ h1 h2 => leP_anti a b h1 h2) pw (List.pairwise_mergeSort leP_trans leP_total ps) (pm.trans (List.mergeSort_perm ps leP).symm)
/-- what the set's tuples are in order -/
theorem sorted_tks {ks L L' : List Tk} {ps : List (Str × Int)} (hk : ks.map (·.2) = ps.map pk) (sub : ∀ p ∈ L, p ∈ ks) (all : ∀ p ∈ ks, p.2 ∈ L.map (·.2)) (nd : (L.map (·.2)).Nodup) (pm : L'.Perm L) (pw : L'.Pairwise (fun q r => ltSI (kp r.2) (kp q.2) = false)) :
    L'.map (fun q => kp q.2) = sortP (oneP ps) := by
  have key : ∀ p ∈ ks, ∃ x ∈ ps, p.2 = pk x := fun p hp => by
    have : p.2 ∈ ps.map pk := by rw [← hk]; exact List.mem_map.mpr ⟨p, hp, rfl⟩
    obtain ⟨x, hx, e⟩ := List.mem_map.mp this
    exact ⟨x, hx, e.symm⟩
  refine sortP_uniq (List.pairwise_map.mpr (pw.imp fun h => by unfold leP; rw [h]; rfl)) ?_
  have n1 : (L.map fun q => kp q.2).Nodup := by
    rw [show (L.map fun q => kp q.2) = (L.map (·.2)).map kp by rw [List.map_map]; rfl]
    refine List.pairwise_map.mpr (nd.imp_of_mem fun {a b} ha hb ne e => ne ?_)
    obtain ⟨p, hp, rfl⟩ := List.mem_map.mp ha
    obtain ⟨q, hq, rfl⟩ := List.mem_map.mp hb
    obtain ⟨x, _, e1⟩ := key p (sub p hp)
    obtain ⟨y, _, e2⟩ := key q (sub q hq)
    rw [e1, e2, kp_pk, kp_pk] at e
    rw [e1, e2, e]
  refine (pm.map fun q => kp q.2).trans ((List.perm_ext_iff_of_nodup n1 (oneP_nd ps)).mpr fun x => ⟨fun h => ?_, fun h => ?_⟩)
  · obtain ⟨p, hp, rfl⟩ := List.mem_map.mp h
    obtain ⟨x, hx, e⟩ := key p (sub p hp)
    rw [e]
    exact oneP_mem.mpr hx
  · have h := oneP_mem.mp h
    have : pk x ∈ ks.map (·.2) := by rw [hk]; exact List.mem_map.mpr ⟨x, h, rfl⟩
    obtain ⟨p, hp, e⟩ := List.mem_map.mp this
    obtain ⟨q, hq, e2⟩ := List.mem_map.mp (all p hp)
    refine List.mem_map.mpr ⟨q, hq, ?_⟩
    have e : p.2 = pk x := e
    have e2 : q.2 = p.2 := e2
    show kp q.2 = x
    rw [e2, e]
    rfl
section
variable {X : Cx} {w : Wd} {cl : Fun} {W : WX}
theorem se_ssetp {a : Expr} {ta : T} {x y : Str} {p p2 pos pos2 : Pos} (hc : X.calm = true) (hu : X.A.units + 64 < cLine) (ha : SO X w cl W a ta) (hg : Gl X x) (hm : X.mg x = none) (hv : bootBuiltins x = some (.builtin "sorted")) (hg2 : Gl X y) (hm2 : X.mg y = none) (hv2 : bootBuiltins y = some (.type "set"))
    (hn : x ≠ "__name__" := by decide) (hn2 : y ≠ "__name__" := by decide) (hdb : (x == ("__debug__" : Str)) = false := by decide) (hdb2 : (y == ("__debug__" : Str)) = false := by decide)
    (he : starEach [.Call (.Name y p2) [a] [] pos2] X.env = (false, eval (.Call (.Name y p2) [a] [] pos2) X.env) :: starEach [] X.env := by rfl) (he2 : starEach [a] X.env = (false, eval a X.env) :: starEach [] X.env := by rfl)
    (hpl : (backTo pos (starEach [] X.env)).any (·.1) = false := by rfl) (hpl2 : (backTo pos2 (starEach [] X.env)).any (·.1) = false := by rfl) :
    SE X w cl W (.Call (.Name x p) [.Call (.Name y p2) [a] [] pos2] [] pos) (.blt .ssetp ta) := by
  obtain ⟨ea, pa, ka⟩ := ha
  refine ⟨_, pe_callB (cr_ordG hc) hg hm hv (pa_cons (pe_callTy (cr_setG hc hu) hg2 hm2 hv2 (pa_cons pa pa_nil he2) hn2 hdb2 he2 hpl2) pa_nil he) hn hdb he hpl, fun σ H U ρ Q er h => ka σ H U ρ _ er ?_⟩
  unfold evE at h
  refine h.bind.mono (fun o1 ρ1 h x H1 U1 p1 r1 => ?_) fun _ _ h => h
  obtain ⟨d, e1, h⟩ := h.get
  obtain ⟨v, e2, h⟩ := h.get
  have hx := r1.vw p1.er e1
  -- told alike of a list and of a tuple
  have go : ∀ (l : Addr) (vs : List V) (ds : List D), x = V.ref l → (SqL X.K H1 l vs ∨ SqT X.K H1 l vs) → Rps X.K H1 U1 vs ds → (if decide (ds.length < 64) then (pairsOf ds).map fun ps => Vl.lst ((sortP (oneP ps)).map pairD) else none) = some v → rSetG X.K X.w [x] H1 (fun x H => rOrdG X.K X.w [x] H Q) := fun l vs ds ex hs r ev => by
    subst ex
    split at ev
    · rename_i c
      obtain ⟨ps, e3, rfl⟩ := Option.map_eq_some_iff.mp ev
      have e4 := pairs_map e3
      subst e4
      obtain ⟨ks, rfl, hk, pkv, rp⟩ := tks_of r
      have hl : ks.length < 64 := by
        have := congrArg List.length hk
        rw [List.length_map, List.length_map] at this
        have c := of_decide_eq_true c
        rw [List.length_map] at c
        omega
      refine ⟨l, ks, rfl, hs, pkv, hl, fun b L hb sub all nd len => ⟨b, L, rfl, upd_same, fun q hq => ?_, fun L' q pm pw hn => ?_⟩⟩
      · obtain ⟨x, i, e, s⟩ := pkv q (sub q hq)
        exact ⟨x, i, e, sqT_new s hb⟩
      · have pn := Pst.new (o := SetG X.w b L) p1.er hb nt_ext
        have h' : OkE X.K w σ H1 U1 ρ1 Q (.lst ((sortP (oneP ps)).map pairD)) ρ1 := OkE.on h er p1
        have e5 := sorted_tks hk sub all nd pm pw
        rw [← e5, List.map_map] at h'
        exact (OkE.on h' p1.er pn).newL pn.er (Rps.sta (pn.sta p1.er) (rps_tks fun q hq => rp q (sub q (pm.mem_iff.mp hq)))) hn
    · cases ev
  unfold blt1 at e2
  split at e2 <;> try cases e2
  all_goals first | contradiction | skip
  · obtain ⟨l, vs, ex, s, r⟩ := hx
    exact go l vs _ ex (.inl (SqL.of s)) r e2
  · obtain ⟨l, vs, ex, s, r⟩ := rp_tup hx
    exact go l vs _ ex (.inr s.sq) r e2
end
end Pv
set_option Elab.async false
set_option linter.all false
set_option maxRecDepth 100000
set_option maxHeartbeats 2100000
/-! isinstance of a caught error that has fields. -/
namespace Pv
open PySem PySem.Spec PySem.Calls PyProof.Rows PySem.W
section
variable {prog : Program} {wd : World} {A : Around} {E : Value → Shared → Prop} {K : Frag} {x D : Addr} {ox : Obj} {od : Option Obj}
theorem find_cls (c : L2.ExcC K D) : findObj K D od "__class__" = some (.bind (.builtin "getset_descriptor.__get__") (.builtin "object.__class__")) :=
  match od with
  | none | some _ => by
    have hc : (clsIn K D).isSome = true := by
      obtain ⟨cd, hc, _⟩ := any_some c.hd
      rw [hc]
      rfl
    obtain ⟨cd, e⟩ := Option.isSome_iff_exists.mp hc
    unfold findObj
    simp only [e, c.ha, c.hn, c.ht, Option.bind_some]
theorem ask_cls (c : L2.ExcC K D) {hp : Heap} {g : Array GenState} {d : Drawn} {t : Nat} {os : OsState} {Q : Option Value → Shared → Prop} (X : K.In hp) (I : InstAt hp x ox D od) (q : Q (some (.ref D)) ⟨hp, g, d, t + 1, os⟩) :
    wpAny (model prog wd) A (getAttr? (.ref x) "__class__") Q E ⟨hp, g, d, t, os⟩ := by
  have l0 : Looks (model prog wd) hp (typeOf (.ref x)) (.ref D) := I.type
  have l1 := looks_findIn (M := model prog wd) X c.hg
  have l2 := looks_findIn (M := model prog wd) X c.hk
  have l3 := looks_find (M := model prog wd) X I (find_cls c)
  have l4 : Looks (model prog wd) hp (isInstance (.ref x) (.type "BaseException")) true := Looks.andThen l0 (looks_subIn X c.hs)
  have get : ∀ {B : Around} {E' R : Value → Shared → Prop}, R (.ref D) ⟨hp, g, d, t + 1, os⟩ → wpAny (model prog wd) B (call (.builtin "getset_descriptor.__get__") [.builtin "object.__class__", .ref x, .ref D]) R E' ⟨hp, g, d, t + 1, os⟩ :=
    fun r => wpAny_call (class_get (s := ⟨hp, g, d, t + 1, os⟩) (ox := ox) (od := od) X I c.hm r)
  unfold getAttr? getAttrBy? getAttrBy
  refine wpAny_bind (wpAny_mkText (wpAny_bind (wpAny_attempt (wpAny_holding (wpAny_bind (l0.at (wpAny_bind (l1.at ?_))))))))
  have nb : (onTheHeap (Value.ref D) && (Value.builtin "BaseException.__getattribute__" == Value.builtin "object.__getattribute__")) = false := by
    have e : (Value.builtin "BaseException.__getattribute__" == Value.builtin "object.__getattribute__") = false := by decide +kernel
    rw [e, Bool.and_false]
  have nh : ((false : Bool) && onTheHeap (Value.builtin "BaseException.__getattribute__")) = false := by decide +kernel
  have pass : ∀ {α : Type} {b : Bool} {u v : Sem α} {R : α → Shared → Prop} {E' : Value → Shared → Prop} {s : Shared}, b = false → wpAny (model prog wd) A v R E' s → wpAny (model prog wd) A (if b = true then u else v) R E' s :=
    fun h k => by
      subst h
      exact k
  refine pass nb ?_
  unfold getAttrByItsOwn hookBefore
  have take : ∀ {α : Type} {b : Bool} {u v : Sem α} {R : α → Shared → Prop} {E' : Value → Shared → Prop} {s : Shared}, b = true → wpAny (model prog wd) A u R E' s → wpAny (model prog wd) A (if b = true then u else v) R E' s :=
    fun h k => by
      subst h
      exact k
  refine wpAny_bind (take rfl (l2.at (wpAny_bind (wpAny_attempt (wpAny_holding ?_)))))
  unfold callGetattribute
  refine pass nh ?_
  unfold boundAndCalled
  rw [PySem.F.excAttr_ValueError.ga.bind (.ref x)]
  refine wpAny_bind (wpAny_pure (wpAny_call (codeAny_call_builtin PySem.F.excAttr_ValueError.ga.plain PySem.F.entry_bexc_ga ?_)))
  refine @check_slot (model prog wd) _ _ ⟨hp, g, d, t + 1, os⟩ "BaseException.__getattribute__" "BaseException" "__getattribute__" (.ref x) [.str "__class__" t] [] _ (by decide +kernel) (by decide +kernel) l4 (PySem.F.args_bexc_ga (.ref x) (.str "__class__" t)) ?_
  unfold Builtin.«object.__getattribute__»
  refine wpAny_bind (wpAny_of_eq (a := ((Value.ref x : Value), [Value.str "__class__" t])) (by first | rfl | (simp only [slotArgs]; rfl)) (wpAny_bind (wpAny_pure (wpAny_bind (l0.at (wpAny_bind (l3.at ?_)))))))
  refine wpAny_bind (wpAny_holding (get (wpAny_pure ?_)))
  refine (show wpAny (model prog wd) A (handedOut (.ref D)) _ _ _ from ?_)
  have ho : handedOut (.ref D) = pure (.ref D) := handedOut_of (v := .ref D) rfl
  rw [ho]
  exact wpAny_pure (wpAny_pure q)
/-- isinstance may be asked of it -/
theorem kit_err (c : L2.ExcC K D) : KitX K (.ref x) (.ref D) (fun h => InstAt h x ox D od) := by
  obtain ⟨c0, d0, cd, sl, e⟩ : ∃ c0 d0 cd sl, K.lookup D = some ⟨c0, d0, .cls cd, sl⟩ := by
    obtain ⟨cd, hc, _⟩ := any_some c.hd
    unfold clsIn at hc
    split at hc
    · rename_i q
      exact ⟨_, _, _, _, q⟩
    · cases hc
  refine ⟨fun _ _ _ I => I.type, fun M h X _ A Q E s k q => ?_, fun h tp dd its n sl X z => ?_, fun X I q => ask_cls c X I q⟩
  · exact wpAny_bind (wpAny_loadPart (k _ _ (X _ _ e)) (wpAny_pure q))
  · refine Bool.eq_false_iff.mpr fun w => ?_
    cases Value.ref.inj (beq_iff_eq.mp w)
    have z2 := (X _ _ e).symm.trans z
    cases z2
end
end Pv
set_option Elab.async false
set_option linter.all false
set_option maxRecDepth 100000
set_option maxHeartbeats 2100000
/-! A suite that holds a caught error. -/
namespace Pv
open PySem L2 PyProof.Rows
section
variable {X : Cx} {w : Wd} {cl : Fun} {W : WX} {a D dx : Addr} {oe : Obj} {pn : List (Addr × Obj)} {k i : Nat}
theorem call_err (c : ExcC X.K D) (hz : Zc (.ref D) (some dx) oe) (hf : ∃ vs, oe.data = .fields vs) : CallR (X.suite a ((a, oe) :: pn)) (.builtin "isinstance")
    (fun xs H Q => ∃ (C : Addr) (fs : List (Str × V)) (b : Bool), xs = [.ref a, .ref C] ∧ H dx = some (.xd fs) ∧ PySem.W.kitOne X.K (.ref D) (.ref C) = some b ∧ Q (.bl b) H) := by
  intro pins s σ H xs us Q I r ⟨C, fs, b, e1, e2, e3, q⟩
  subst e1
  obtain ⟨vs, hv⟩ := hf
  cases r with
  | cons r1 r =>
    cases r with
    | cons r2 r =>
      cases r
      cases r1
      cases r2
      have st := (I.pin (a, oe) (List.mem_append_left _ (List.mem_cons_self ..))).1
      have hx : ObjOk X.prog X.w H s.heap dx (.xd fs) := I.hok dx _ e2
      obtain ⟨mA, hns, _⟩ := hx
      obtain ⟨od, ho, _⟩ := lookIn_ns hns
      have J : PySem.W.InstAt s.heap a oe D (some od) := ⟨st, hz.1, (by unfold PySem.W.notCls; rw [hv] <;> rfl), by rw [hz.2]; exact ho⟩
      exact PySem.W.kia_one (kit_err c) I.kIn J e3 (fun z => nomatch z) fun tk => ⟨.bl b, H, I.kept (t' := tk) fun _ _ z => z, rfl, q⟩
/-- the classes that an error's class is below -/
structure SuiC (K : PySem.W.Frag) (w : Wd) (a : Addr) (k : Nat) (dx : Addr) : Prop where
  er : w.fa.er = some (a, k, dx)
  c : ExcC K (w.ca k)
  x : XfC K (w.ca k)
theorem err_at {K : PySem.W.Frag} {H : Hp} {U : Addr → Prop} {σ : L2.St} {ρ : Env} {c : Nat} {fs : List (Str × PyData)} (S : SuiC K w a k dx) (er : ER K w.fa H U σ ρ) (e : ρ[i]? = some (some (.err c fs))) :
    c = k ∧ σ[i]? = some (some (.ref a)) ∧ ∃ xs, ¬ U dx ∧ H dx = some (.xd xs) ∧ xs.map (·.1) = fs.map (·.1) ∧ Rps K H U (xs.map (·.2)) (fs.map (·.2)) := by
  obtain ⟨x, e1, a', dx', xs, he, ex, n, eh, em, r⟩ := er.val i _ e
  rw [S.er] at he
  cases he
  subst ex
  exact ⟨rfl, e1, xs, n, eh, em, r⟩
theorem se_isx {n y : Str} {C : Addr} {cs : List Nat} {p p1 p2 pos : Pos} (S : SuiC X.K w a k dx) (hz : Zc (.ref (w.ca k)) (some dx) oe) (hf : ∃ vs, oe.data = .fields vs)
    (hN : X.N[i]? = some n) (hv : Vis X.env.scope n) (hg : Gl X "isinstance") (hm : X.mg "isinstance" = none) (hg2 : Gl X y) (hm2 : X.mg y = some (.ref C)) (hk : PySem.W.kitOne X.K (.ref (w.ca k)) (.ref C) = some (cs.contains k))
    (hd : (n == ("__debug__" : Str)) = false := by decide) (hcd : (n == ("__classdict__" : Str)) = false := by decide) (hd2 : (y == ("__debug__" : Str)) = false := by decide)
    (he : starEach [.Name n p1, .Name y p2] (X.suite a ((a, oe) :: pn)).env = (false, eval (.Name n p1) (X.suite a ((a, oe) :: pn)).env) :: starEach [.Name y p2] (X.suite a ((a, oe) :: pn)).env := by rfl) :
    SE (X.suite a ((a, oe) :: pn)) w cl W (.Call (.Name "isinstance" p) [.Name n p1, .Name y p2] [] pos) (.isx i cs) := by
  refine ⟨_, pe_callB (call_err S.c hz hf) hg hm (by decide +kernel) (pa_cons (pe_var (X := X.suite a ((a, oe) :: pn)) (i := i) hN hv hd hcd) (pa_cons (pe_glob (X := X.suite a ((a, oe) :: pn)) (v := .ref C) hg2 hm2 rfl hd2) pa_nil) he) (by decide) (by decide) he, fun σ H U ρ Q er h => ?_⟩
  unfold evE at h
  split at h
  · rename_i c fs e
    obtain ⟨ec, e1, xs, _, eh, _⟩ := err_at S er e
    subst ec
    exact ⟨_, e1, C, xs, _, rfl, eh, hk, OkE.one h er (.bl _)⟩
  · exact h.elim
theorem ev_isx (cs : List Nat) (ρ : Env) : evT cl (.isx i cs) ρ = (evE cl (.isx i cs) ρ).bind fun q => (get (truth q.1)).bind fun b => .ok (b, q.2) := by
  unfold evT evE
  split <;> rfl
theorem xlook : ∀ {xs : List (Str × V)} {fs : List (Str × PyData)} {H : Hp} {K : PySem.W.Frag} {U : Addr → Prop} {f : Str} {d : PyData}, xs.map (·.1) = fs.map (·.1) → Rps K H U (xs.map (·.2)) (fs.map (·.2)) → fs.lookup f = some d → ∃ v, xs.lookup f = some v ∧ Rp K H U v d
  | _, [], _, _, _, _, _, _, _, h => by cases h
  | [], _ :: _, _, _, _, _, _, e, _, _ => by cases e
  | (g, v) :: xs, (g', d') :: fs, H, K, U, f, d, e, r, h => by
    simp only [List.map_cons, List.cons.injEq] at e
    obtain ⟨e1, e2⟩ := e
    simp only [List.map_cons] at r
    cases r with
    | cons r1 r2 =>
      have e1 : g = g' := e1
      subst e1
      rw [List.lookup_cons] at h ⊢
      cases q : f == g with
      | true =>
        rw [q] at h
        cases h
        exact ⟨v, rfl, r1⟩
      | false =>
        rw [q] at h
        exact xlook e2 r2 h
theorem se_xfl {n f : Str} {p1 pos : Pos} (S : SuiC X.K w a k dx) (hz : Zc (.ref (w.ca k)) (some dx) oe) (hf : ∃ vs, oe.data = .fields vs) (hno : PySem.W.findIn X.K (.ref (w.ca k)) f = some none)
    (hN : X.N[i]? = some n) (hv : Vis X.env.scope n) (hb : attributeBase (.Name n p1) f X.env (eval (.Name n p1) X.env) = eval (.Name n p1) X.env := by rfl)
    (hd : (n == ("__debug__" : Str)) = false := by decide) (hcd : (n == ("__classdict__" : Str)) = false := by decide) : SE (X.suite a ((a, oe) :: pn)) w cl W (.Attribute (.Name n p1) f pos) (.xfl i f) := by
  refine ⟨_, pe_xf (cls := .ref (w.ca k)) (d := some dx) S.x hno hz hf (pe_var (X := X.suite a ((a, oe) :: pn)) (i := i) hN hv hd hcd) hb, fun σ H U ρ Q er h => ?_⟩
  unfold evE at h
  split at h
  · rename_i c fs e
    obtain ⟨ec, e1, xs, _, eh, em, r⟩ := err_at S er e
    subst ec
    obtain ⟨d, e2, h⟩ := h.get
    obtain ⟨v, l, rv⟩ := xlook em r e2
    exact ⟨_, e1, rfl, rfl, dx, xs, v, rfl, eh, l, OkE.one h er rv⟩
  · exact h.elim
end
/-! ### a heap that only grew, or whose tables grew -/
section
variable {K : PySem.W.Frag} {fa : Fa} {σ : L2.St} {H H' : Hp} {U U' : Addr → Prop} {ρ : Env}
theorem er_go (er : ER K fa H U σ ρ) (g : Go (fun _ => False) H U H' U') (d : Dm fa.T U' H') : ER K fa H' U' σ ρ :=
  ⟨er.len, fun i v h => let ⟨x, e, r⟩ := er.val i v h; ⟨x, e, r.sta (g.sta fun _ h => h.elim) fun _ a _ u => ⟨fun o z nt => g.keep a o z (fun h => h) nt, g.u1 a u fun h => h⟩⟩, er.dj, d⟩
theorem pst_go (er : ER K fa H U σ ρ) (g : Go (fun _ => False) H U H' U') (d : Dm fa.T U' H') : Pst K fa σ H U ρ H' U' ρ :=
  ⟨er_go er g d, g.mono fun _ h => h.elim, fun _ h => h, fun _ v h o => ⟨v, h, o⟩, fun i v h => ⟨v, h, id⟩⟩
theorem go_ext {H H1 : Hp} (e : LamX.ExtN H H1) : Go (fun _ => False) H U H1 U :=
  ⟨fun a o h _ nt => e a o h nt, fun _ h _ => h, fun _ h => .inl h, fun a n o h => by
    by_cases q : ∃ ps, o = .tbl ps
    · exact q
    · exact n o (e a o h fun ps z => q ⟨ps, z⟩)⟩
theorem dm_ext {T : List (Addr × Str)} {H H1 : Hp} (d : Dm T U H) (e : LamX.ExtN H H1) (t : LamX.Tabs T H1) : Dm T U H1 := ⟨fun a u => let ⟨o, e1, ho⟩ := d.own a u; ⟨o, e a o e1 ho.nt, ho⟩, t⟩
/-- .. the error's slot -/
theorem er_err {a : Addr} {k i : Nat} {dx : Addr} {x : Ex} {n : Nat} {ca : Nat → Addr} {c : Value} (d : Dm fa.T U H) (r : ExR K ca H U x c (some dx)) (hk : x.cls = k) (he : fa.er = some (a, k, dx)) (hl : σ.length = n) (hi : σ[i]? = some (some (.ref a))) :
    ER K fa H U σ ((List.replicate n none).set i (some (.err k x.fields))) := by
  obtain ⟨_, dx', fs, e1, e2, e3, e4⟩ := r
  cases e1
  have nu : ¬ U dx := fun u => by
    obtain ⟨o, z, ho⟩ := d.own dx u
    rw [e2] at z
    cases z
    rcases ho with ⟨_, q⟩ | ⟨_, q⟩ <;> cases q
  have only : ∀ (j : Nat) (v : Vl), ((List.replicate n (none : Option Vl)).set i (some (.err k x.fields)))[j]? = some (some v) → j = i ∧ v = .err k x.fields := fun j v h => by
    rcases get_set_some h with ⟨q, z⟩ | ⟨_, z⟩
    · exact ⟨q, (Option.some.inj z).symm⟩
    · rw [List.getElem?_replicate] at z
      split at z <;> cases z
  refine ⟨by rw [List.length_set, List.length_replicate]; exact hl, fun j v h => ?_, fun j m v u b _ h1 _ o1 _ _ _ => ?_, d⟩
  · obtain ⟨rfl, rfl⟩ := only j v h
    exact ⟨_, hi, a, dx, fs, he, rfl, nu, e2, e3, e4⟩
  · obtain ⟨_, rfl⟩ := only j v h1
    cases o1
end
end Pv
set_option Elab.async false
set_option linter.all false
set_option maxRecDepth 100000
set_option maxHeartbeats 2100000
/-! heard(lambda: e): what is told, and what an error's suite tells. -/
namespace Pv
open PySem L2 PyProof.Rows
/-- over whatever was made since -/
def Kp (K : PySem.W.Frag) (T : List (Addr × Str)) (H : Hp) (U : Addr → Prop) (Q : VK) (d : PyData) : Prop := ∀ x H1 U1, Go (fun _ => False) H U H1 U1 → Dm T U1 H1 → Rp K H1 U1 x d → Q x H1
def TTh (K : PySem.W.Frag) (w : Wd) (tag : Str) (tb : List (Nat × Str × List Str)) : (XK → Hp → VK → Prop) → Hp → VK → Prop := fun tl H Q =>
  tl (fun c d H1 => ∃ (U : Addr → Prop) (x : Ex) (dat : PyData), heardX tb x = some dat ∧ ExR K w.ca H1 U x c d ∧ Dm w.fa.T U H1 ∧ Kp K w.fa.T H1 U Q dat) H
    fun v H1 => [V.str tag, v].length ≤ sizeLine ∧ ∀ p, H1 p = none → Q (.ref p) (upd H1 p (.tup [.str tag, v]))
/-- the world of a suite -/
def Wd.sui (w : Wd) (a : Addr) (k : Nat) (dx : Addr) : Wd := { w with fa := { w.fa with er := some (a, k, dx) } }
/-- the def that hears, in its context -/
abbrev hearX (X : Cx) (Ng : List Str) (x : Str) (sg : Scope) (g : Addr) (cdg : Value) (s : Shared) (H : Hp) : Cx := (cxOf C8.CX0 X.prog X.w X.K X.mg X.base Ng x sg g cdg X.A X.stack s H C8.E0).nox
theorem gives_heard {X : Cx} {w : Wd} {cl : Fun} {Ng : List Str} {x a n e q tag : Str} {sg : Scope} {g CS : Addr} {cdg : Value} {i j k0 : Nat} {tb : List (Nat × Str × List Str)} {su : List S} {b₀ : Stmt} {bs : List Stmt} {p0 p1 p2 p3 p4 p5 p7 p8 : Pos}
    (nd : Ng.Nodup) (hi : Ng[i]? = some n) (hln : sg.names.lookup n = some .local) (hge : sg.names.lookup e = some .globalImplicit) (hme : X.mg e = some (.ref CS)) (hde : (e == ("__debug__" : Str)) = false) (h0 : ∀ f : Addr, (L2.start Ng [V.ref f])[0]? = some (some (V.ref f)))
    (hks : ∀ k, (tb.lookup k).isSome = true → PySem.W.exmOne X.K (.ref (w.ca k)) (.ref CS) = some true ∧ ExcC X.K (w.ca k) ∧ XfC X.K (w.ca k))
    (hsu : ∀ (s : Shared) (H : Hp) (a' : Addr) (k : Nat) (dx : Addr) (oe : Obj) (pn : List (Addr × Obj)), (tb.lookup k).isSome = true → Zc (.ref (w.ca k)) (some dx) oe → (∃ vs, oe.data = .fields vs) → SuiC X.K (w.sui a' k dx) a' k dx →
      SSs ((hearX X Ng x sg g cdg s H).suite a' ((a', oe) :: pn)) (w.sui a' k dx) cl (fun _ _ _ _ => False) [] (b₀ :: bs) su)
    (hev : ∀ x dat, heardX tb x = some dat → ∃ ρ1, evSs cl [] su ((List.replicate Ng.length none).set i (some (.err x.cls x.fields))) = .ok (.ret (.dat dat), ρ1)) :
    LamX.GivesTo X Ng x sg g cdg [.Try [.Return (some (.Tuple [.Constant (.str tag) j p5, .Call (.Name a p1) [] [] p2] k0 p0)) p3] [.ExceptHandler (some (.Name e p4)) (some n) (b₀ :: bs) p7] [] [] p8] a q (TTh X.K w tag tb) := by
  intro f c' s H Q tl act hc h
  have hlt : i < Ng.length := (List.getElem?_eq_some_iff.mp hi).1
  refine ⟨_, pss_one (ps_try_as (X := hearX X Ng x sg g cdg s H) (c := .ref CS) (i := i)
    (tb := fun W D σ H => ∃ Ech : XK, (∀ cls d σ' H', Ech cls d H' → W cls d σ' H') ∧ σ[0]? = some (some (.ref f)) ∧ H c' = some (LamX.CodeO c' q) ∧
      tl Ech H fun v H1 => [V.str tag, v].length ≤ sizeLine ∧ ∀ p, H1 p = none → D.rt (.ref p) (upd H1 p (.tup [.str tag, v])))
    (ts := fun a' cls d D σ H1 => ∀ (oe : Obj) (pn : List (Addr × Obj)), Zc cls d oe → (∃ vs, oe.data = .fields vs) → σ.length = Ng.length → ∃ t, PSs ((hearX X Ng x sg g cdg s H).suite a' ((a', oe) :: pn)) (b₀ :: bs) t ∧ t D σ H1)
    rfl rfl nd hi hln ⟨hge, hde, .inl hme⟩ LamX.takes0 (fun W pn xe tk _ => ?_) (fun a' oe cls d pn hz hf => ?_)), ?_⟩
  · refine ⟨fun pins s1 σ H1 D I h1 => ?_⟩
    obtain ⟨Ech, hW, k1, k2, k3⟩ := h1
    have hp := act W pn xe Ech p1 p2 tk hW
    exact (pss_one (ps_ret (pos := p3) (pe_tup (pa_cons (pe_str (x := tag) (j := j) (pos := p5)) (pa_cons hp pa_nil))))).run pins s1 σ H1 D I ⟨k1, k2, k3⟩
  · refine ⟨fun pins s1 σ H1 D I h1 => ?_⟩
    obtain ⟨t, ht, q⟩ := h1 oe pn hz hf I.len
    exact ht.run pins s1 σ H1 D I q
  · refine ⟨_, fun cls d σ1 H1 h1 => ?_, h0 f, hc, h⟩
    obtain ⟨U, ex, dat, hx, rx, dm, kp⟩ := h1
    have hk : (tb.lookup ex.cls).isSome = true := by
      unfold heardX at hx
      obtain ⟨v, e1, _⟩ := Option.bind_eq_some_iff.mp hx
      rw [e1]
      rfl
    obtain ⟨ec, dx, fs, ed, r⟩ := id rx
    subst ec
    subst ed
    obtain ⟨k1, k2, k3⟩ := hks _ hk
    refine ⟨true, k1, fun _ a' na oe pn hz hf hl => ?_, fun z => nomatch z⟩
    obtain ⟨ts, pt, k⟩ := hsu s H a' ex.cls dx oe pn hk hz hf ⟨rfl, k2, k3⟩
    refine ⟨ts, pt, ?_⟩
    have hs : (σ1.set i (some (V.ref a')))[i]? = some (some (V.ref a')) := List.getElem?_set_self (by rw [List.length_set] at hl; omega)
    have er : ER X.K (w.sui a' ex.cls dx).fa H1 U (σ1.set i (some (V.ref a'))) ((List.replicate Ng.length none).set i (some (.err ex.cls ex.fields))) :=
      er_err (fa := (w.sui a' ex.cls dx).fa) (ca := w.ca) (c := .ref (w.ca ex.cls)) dm rx rfl rfl hl hs
    refine k _ _ _ U _ er ?_
    obtain ⟨ρ1, e1⟩ := hev ex dat hx
    rw [e1]
    intro σ2 H2 U2 p x r _
    refine kp x H2 U2 (p.go.mono fun b ⟨m, v, z1, z2, _⟩ => ?_) p.er.dom r
    rcases get_set_some z1 with ⟨_, z⟩ | ⟨_, z⟩
    · cases z
      cases z2
    · rw [List.getElem?_replicate] at z
      split at z <;> cases z
end Pv
set_option Elab.async false
set_option linter.all false
set_option maxRecDepth 100000
set_option maxHeartbeats 2100000
/-! A lambda without parameters handed to a def that calls it. -/
namespace Pv
open PySem L2 PyProof.Rows PySem.Spec
/-- the lambda: what is written of it, where it was made -/
structure Lm where
  params : Arguments
  body : Expr
  scope : Scope
def Lm.obj (m : Lm) (X : Cx) (c : Addr) (pm ct : Value) : Obj := PySem.W.kla_obj "<lambda>" (X.env.qual ++ "<lambda>") m.params m.body m.scope (cloFrom X.env.cells m.scope.names []) pm c ct
abbrev lamQ (X : Cx) : Str := X.env.qual ++ "<lambda>"
/-- where the lambda may be called: it stands in the heap, nobody tracks it -/
structure LmAt (X : Cx) (m : Lm) (H : Hp) (s : Shared) (f c : Addr) : Prop where
  ob : ∃ pm ct, s.heap.get? f = some (m.obj X c pm ct)
  no : H f = none
  fr : f ∉ frs X.stack
section
variable {X : Cx} {pins : List (Addr × Obj)} {σ : L2.St} {H : Hp} {s : Shared} {m : Lm}
/-- the def that hears calls it; what the body reads as holds where no repr is under way -/
theorem pe_ask {Ng : List Str} {x a : Str} {sg : Scope} {g f c : Addr} {cdg : Value} {k i : Nat} {pn : List (Addr × Obj)} {xe : Value → Shared → Prop} {W : WX} {E : XK} {t : TE} {p1 p2 : Pos}
    (I : Inv X pins σ H s) (L : LamX.LamS X.env.scope m.scope) (at_ : LmAt X m H s f c) (bd : ∀ (q : Str) (cl : List (Str × Addr)) (pm cv ct : Value), bindArgs (PySem.W.kla_fn "<lambda>" q m.params m.body m.scope cl pm cv ct) ⟨[], []⟩ = pure [])
    (tk : Takes ((cxOf C8.CX0 X.prog X.w X.K X.mg X.base Ng x sg g cdg X.A X.stack s H C8.E0).tr pn xe) W) (hW : ∀ cls d σ' H', E cls d H' → W cls d σ' H') (hr : Room (k + 1) (X.A.deeper (envOfC x sg s.heap.objs.size g cdg))) (gd : X.A.guards = some [])
    (hb : ∀ (A : Around) (outer : List PySem.Env) (s : Shared) (H : Hp), Room k (A.deeper (LamX.lamEnv X m.scope s.heap.objs.size f c)) → A.guards = some [] → PE (LamX.lamCx X A outer s H E m.scope f c) m.body t)
    (hN : Ng[i]? = some a) (hv : Vis sg a) (hd : (a == ("__debug__" : Str)) = false) (hcd : (a == ("__classdict__" : Str)) = false) :
    PE ((cxOf C8.CX0 X.prog X.w X.K X.mg X.base Ng x sg g cdg X.A X.stack s H C8.E0).tr pn xe) (.Call (.Name a p1) [] [] p2) (fun σ1 H1 Q => σ1[i]? = some (some (.ref f)) ∧ H1 c = some (LamX.CodeO c (lamQ X)) ∧ t σ H1 Q) := by
  constructor
  rintro pinsZ sZ σZ HZ Q IZ ⟨h1, h2, h3⟩
  have name := (pe_var (pos := p1) (i := i) hN hv hd hcd).run pinsZ sZ σZ HZ (fun v H1 => v = .ref f ∧ H1 = HZ) IZ ⟨.ref f, h1, rfl, rfl⟩
  refine wpAny_Call_Name_kw (thn name ?_)
  rintro u s1 ⟨v, H1, I1, r1, ev, eH⟩
  subst ev eH
  obtain rfl : u = Value.ref f := r1
  obtain ⟨pm, ct, ob⟩ := at_.ob
  have still : s1.heap.get? f = some (m.obj X c pm ct) := I1.base.keep f _ ob at_.no at_.fr (fun z => by cases z)
  have rec_ := (I1.hok c _ h2).1
  obtain ⟨oc, vs, tt, z1, z2, z3⟩ := rec_
  have run : codeAny (model X.prog X.w) (X.A.deeper (envOfC x sg s.heap.objs.size g cdg)) (.call (.ref f) ⟨[], []⟩) (CR (L2.CX X.prog X.w) (envOfC x sg s.heap.objs.size g cdg :: X.stack) X.prog X.w H1 s1 Q E) s1 := by
    refine PySem.W.kla_callFunE hr.depth still rfl L.co L.gen rfl ⟨c, oc, vs, tt, rfl, z1, z2, z3⟩ ?_
    rw [bd]
    refine wpAny_pure (wpAny_newFunctionEnv (fun y hy => (L.own y hy).2) (fun y hy => (by cases hy)) (fun h₁ hns hsb => ?_) L.kind)
    have kp : ∀ b o, s1.heap.get? b = some o → h₁.get? b = some o := fun b o e => hsb.extBut b o (Nat.ne_of_lt (Heap.lt_size e)) (Heap.get?_push_of_some _ e)
    refine ⟨I1.nolimit.fresh _ hsb, ?_⟩
    have J := LamX.lam_start2 (A := X.A.deeper (envOfC x sg s.heap.objs.size g cdg)) (outer := envOfC x sg s.heap.objs.size g cdg :: X.stack) (E := E) (scope := m.scope) (f := f) (c' := c) (h₁ := h₁) (tk := s1.toks + ([] : List (Str × Value)).length) I L I1.env0 hr.hd I1.base hns kp
    have go := (hb (X.A.deeper (envOfC x sg s.heap.objs.size g cdg)) _ s1 H1 (hr.deeper _) gd).run [] _ σ H1 Q J h3
    exact PySem.W.kla_codeExpr (wpAny_mono go (fun v s2 ⟨y, H2, J2, rv, q⟩ => ⟨y, H2, J2.os, J2.bare, J2.base, J2.hok, rv, q⟩) fun e s2 hq => hq)
  refine PySem.W.callWith_F0 ⟨_, _, _, _, still⟩ (wpAny_call (codeAny_mono run fun r s2 hq => ?_))
  match r, hq with
  | .error e, hq => exact L2.passes_call tk hW pinsZ σZ H1 s1 e s2 I1 hq
  | .ok (.ret u), hq => exact I1.after hq
  | .ok .next, hq => exact False.elim hq
  | .ok .brk, hq => exact False.elim hq
  | .ok .cont, hq => exact False.elim hq
variable {w : Wd} {cl : Fun} {W : WX}
/-- the tables that the world knows, and the one of this def's code object -/
structure LmB (X : Cx) (w : Wd) (c P : Addr) : Prop where
  tb : LamX.TabB X.base X.mg c P
  code : X.env.code = .ref c
  mem : (P, lamQ X) ∈ w.fa.T
  one : ∀ p ∈ w.fa.T, p.1 = P → p.2 = lamQ X
/-- the def that hears -/
structure HrD (X : Cx) (w : Wd) (x a : Str) (Ng : List Str) (sg : Scope) (g : Addr) (tag : Str) (tb : List (Nat × Str × List Str)) : Prop where
  gl : ∃ (pg : Arguments) (bg : List Stmt) (dV kV doc pm cdv ct oc : Value) (an od : Option Addr) (osl : Array (Option Value)), X.K.lookup g = some ⟨oc, od, .func (PySem.W.fnOf x x pg bg sg dV kV doc pm an cdv ct), osl⟩ ∧ PySem.W.codeIn X.K cdv x = true ∧
    L2.Binds X.K (PySem.W.fnOf x x pg bg sg dV kV doc pm an cdv ct) [a] [] ∧ LamX.GivesTo X Ng x sg g cdv bg a (lamQ X) (TTh X.K w tag tb)
  mg : X.mg x = some (.ref g)
  keep : PySem.W.keepIn X.K (.ref g) = true
  sc : FnScope Ng [a] sg
  n0 : Ng[0]? = some a
  vis : Vis sg a
  hd : (a == ("__debug__" : Str)) = false
  hcd : (a == ("__classdict__" : Str)) = false
/-- x(lambda: body) -/
theorem se_heard {x a tag : Str} {Ng : List Str} {sg : Scope} {g c P : Addr} {tb : List (Nat × Str × List Str)} {t : T} {n k : Nat} {params : Arguments} {body : Expr} {scope : Scope} {p lpos pos : Pos} (G : GC X W) (F : HasF X w cl n) (hn : k + 2 ≤ n)
    (hg : Gl X x) (hD : HrD X w x a Ng sg g tag tb) (B : LmB X w c P) (L : LamX.LamS X.env.scope scope) (hdef : defaultsOf params X.env = ([], [])) (bd : ∀ (q : Str) (cl : List (Str × Addr)) (pm cv ct : Value), bindArgs (PySem.W.kla_fn "<lambda>" q params body scope cl pm cv ct) ⟨[], []⟩ = pure [])
    (hb : ∀ (A : Around) (outer : List PySem.Env) (s : Shared) (H : Hp) (E : XK) (f c' : Addr), Room k (A.deeper (LamX.lamEnv X scope s.heap.objs.size f c')) → A.guards = some [] → SE (LamX.lamCx X A outer s H E scope f c') w (sh cl) (fun c d _ H' => E c d H') body t)
    (hdb : (x == ("__debug__" : Str)) = false := by decide) : SE X w cl W (.Call (.Name x p) [.Lambda params body scope lpos] [] pos) (.heard tag tb t) := by
  refine ⟨fun σ H Q => LamX.Tabs w.fa.T H ∧ ∀ H1, LamX.ExtN H H1 → LamX.Tabs w.fa.T H1 → TTh X.K w tag tb (fun E H2 Q2 => tE X.K w (sh cl) (fun c d _ H' => E c d H') t σ H2 Q2) H1 Q, ⟨fun pins s σ H Q I h => ?_⟩, fun σ H U ρ Q er h => ⟨er.dom.tb, fun H1 e T1 => ?_⟩⟩
  · obtain ⟨hT, h⟩ := h
    obtain ⟨pg, bg, dV, kV, doc, pm, cdv, ct, oc, an, od, osl, lk, hcg, hbi, gv⟩ := hD.gl
    have rm : Room (k + 2) X.A := F.room.mono hn
    refine wpAny_Call_Name_kw (ld_glob I hg hD.mg ?_ hdb)
    refine PySem.W.callWith_K (h₀ := X.base) I.ok.mod.kin hD.keep (show wpAny _ _ (spliced ((false, eval (.Lambda params body scope lpos) X.env) :: backTo pos (starEach [] X.env))) _ _ s from ?_) (by rfl) (by rfl)
    refine Calls.spliced_cons (LamX.lam_make2 I B.tb B.code B.mem B.one hT hdef (L.has I.ok) fun f c' pm' ct' H1 s1 I1 eN T1 hf hfn hfr hco => Calls.spliced_nil ⟨I1.kIn, ?_⟩)
    have at_ : LmAt X ⟨params, body, scope⟩ H1 s1 f c' := ⟨⟨pm', ct', hf⟩, hfn, hfr⟩
    have run : codeAny (model X.prog X.w) X.A (.call (.ref g) ⟨[.ref f], []⟩) (CR C8.CX0 X.stack X.prog X.w H1 s1 Q C8.E0) s1 := by
      refine LamX.run_ofS (N := Ng) (ps := [a]) (us := [.ref f]) (vs := [.ref f]) lk hcg hD.sc rm I1.env0 (hbi s1 [.ref f] I1.kIn rfl) (.cons rfl .nil) rfl fun hr => ?_
      obtain ⟨t1, ht1, q1⟩ := gv f c' s1 H1 Q (fun E H2 Q2 => tE X.K w (sh cl) (fun c d _ H' => E c d H') t σ H2 Q2)
        (fun W1 pn xe E p1 p2 tk hW => pe_ask (m := ⟨params, body, scope⟩) (i := 0) I1 L at_ bd tk hW hr G.gd (fun A outer s H hr2 gd => (hb A outer s H E f c' hr2 gd).can) hD.n0 hD.vis hD.hd hD.hcd) hco (h H1 eN T1)
      exact ⟨t1, ht1.nox, q1⟩
    refine wpAny_call (codeAny_mono run fun r s2 hq => ?_)
    match r, hq with
    | .error e, hq => exact (show False from hq).elim
    | .ok (.ret u), hq => exact I1.after hq
    | .ok .next, hq => exact False.elim hq
    | .ok .brk, hq => exact False.elim hq
    | .ok .cont, hq => exact False.elim hq
  · have er1 : ER X.K w.fa H1 U σ ρ := er_go er (go_ext e) (dm_ext er.dom e T1)
    have p0 : Pst X.K w.fa σ H U ρ H1 U ρ := pst_go er (go_ext e) (dm_ext er.dom e T1)
    refine ⟨U, ρ, er1, ?_⟩
    unfold evE at h
    cases z : evE (sh cl) t ρ with
    | stuck => rw [z] at h; exact h
    | ok q =>
      obtain ⟨v, ρ1⟩ := q
      rw [z] at h
      obtain ⟨d, e1, h⟩ := Aft.get h
      intro y H2 U2 p2 r f
      have r' : RV X.K w.fa H2 U2 y v := r
      obtain ⟨U3, p3, rd⟩ := give er1 p2 r' f e1
      refine ⟨by rw [sizeLine_eq]; show 2 ≤ 16777216; decide, fun pt hp => ?_⟩
      exact (OkE.on h er (p0.trans er p3)).newT p3.er (.cons (.str tag) (.cons rd .nil)) hp
    | exc ex ρ1 =>
      rw [z] at h
      obtain ⟨d, e1, h⟩ := Aft.get h
      intro c1 d1 H2 U2 p2 rx
      refine ⟨U2, ex, d, e1, rx, p2.er.dom, fun y H3 U3 g3 dm r => ?_⟩
      have p3 : Pst X.K w.fa σ H U ρ H3 U3 ρ1 := p0.trans er (p2.trans er1 (pst_go p2.er g3 dm))
      exact h y H3 U3 p3 r fun o => nomatch o
theorem GC.lam {m : Nat} {A : Around} {outer : List PySem.Env} {s : Shared} {H : Hp} {E : XK} {scope : Scope} {f c : Addr} (G : GC X W) (hr : Room m (A.deeper (LamX.lamEnv X scope s.heap.objs.size f c))) (gd : A.guards = some []) : GC (LamX.lamCx X A outer s H E scope f c) (fun c d _ H' => E c d H') := by
  refine ⟨rfl, G.nd, gd, ?_, takes_of rfl rfl rfl rfl⟩
  have h := hr.un
  show (A.deeper (LamX.lamEnv X scope s.heap.objs.size f c)).units + 190 < cLine
  omega
theorem HasF.lam {n m : Nat} {A : Around} {outer : List PySem.Env} {s : Shared} {H : Hp} {E : XK} {scope : Scope} {f c : Addr} (F : HasF X w cl n) (FL : HasL X w cl m) (hr : Room m (A.deeper (LamX.lamEnv X scope s.heap.objs.size f c))) : HasF (LamX.lamCx X A outer s H E scope f c) w (sh cl) m :=
  ⟨FL, F.keep, F.binds, F.bstar, hr⟩
end
/-- a name is set where an error is held -/
theorem ss_asgN {X : Cx} {w : Wd} {cl : Fun} {W : WX} {lk : List Nat} {i : Nat} {x : Str} {e : Expr} {t : T} {pos pos' : Pos} (nd : X.N.Nodup) (hi : X.N[i]? = some x) (hx : Loc X.env.scope x) (he : SE X w cl W e t) (hf : X.fn x = true ∨ X.env.scope.names.lookup x = some .local := by first | exact Or.inl rfl | exact Or.inr rfl) (hs : swapsWith e (some (.Name x pos')) pos.line X.env = pure false := by rfl) : SS X w cl W lk (.Assign [.Name x pos'] e pos) (.asg i t) := by
  obtain ⟨te, p, k⟩ := he
  exact ⟨_, ps_set nd hi hx p hs hf, fun D σ H U ρ er h => asg_go er (fun Q => k σ H U ρ Q er) h⟩
/-- the def that hears, from its reading -/
theorem hrd_of {X : Cx} {w : Wd} {cl : Fun} {Ng : List Str} {x a n e tag : Str} {g CS : Addr} {st : Stmt} {fd : FuncData} {i j k0 : Nat} {tb : List (Nat × Str × List Str)} {su : List S} {b₀ : Stmt} {bs : List Stmt} {p0 p1 p2 p3 p4 p5 p7 p8 : Pos}
    (Fh : L2.Fun X.K x x st g fd) (hmg : X.mg x = some (.ref g)) (hkp : PySem.W.keepIn X.K (.ref g) = true)
    (hb : defBody st = [.Try [.Return (some (.Tuple [.Constant (.str tag) j p5, .Call (.Name a p1) [] [] p2] k0 p0)) p3] [.ExceptHandler (some (.Name e p4)) (some n) (b₀ :: bs) p7] [] [] p8])
    (bd : ∀ (kV doc pm : Value) (an : Option Addr) (cdv ct : Value) (us : List Value), us.length = 1 → bindArgs (PySem.W.fnOf x x (defArgs st) (defBody st) (defScope st) .none kV doc pm an cdv ct) ⟨us, []⟩ = pure ([a].zip us))
    (S : FnScope Ng [a] (defScope st)) (n0 : Ng[0]? = some a) (va : Vis (defScope st) a) (hi : Ng[i]? = some n) (hln : (defScope st).names.lookup n = some .local) (hge : (defScope st).names.lookup e = some .globalImplicit) (hme : X.mg e = some (.ref CS))
    (h0 : ∀ f : Addr, (L2.start Ng [V.ref f])[0]? = some (some (V.ref f)))
    (hks : ∀ k, (tb.lookup k).isSome = true → PySem.W.exmOne X.K (.ref (w.ca k)) (.ref CS) = some true ∧ ExcC X.K (w.ca k) ∧ XfC X.K (w.ca k))
    (hsu : ∀ (cdg : Value) (s : Shared) (H : Hp) (a' : Addr) (k : Nat) (dx : Addr) (oe : Obj) (pn : List (Addr × Obj)), (tb.lookup k).isSome = true → Zc (.ref (w.ca k)) (some dx) oe → (∃ vs, oe.data = .fields vs) → SuiC X.K (w.sui a' k dx) a' k dx →
      SSs ((hearX X Ng x (defScope st) g cdg s H).suite a' ((a', oe) :: pn)) (w.sui a' k dx) cl (fun _ _ _ _ => False) [] (b₀ :: bs) su)
    (hev : ∀ x dat, heardX tb x = some dat → ∃ ρ1, evSs cl [] su ((List.replicate Ng.length none).set i (some (.err x.cls x.fields))) = .ok (.ret (.dat dat), ρ1))
    (hde : (e == ("__debug__" : Str)) = false := by decide) (hd : (a == ("__debug__" : Str)) = false := by decide) (hcd : (a == ("__classdict__" : Str)) = false := by decide) : HrD X w x a Ng (defScope st) g tag tb := by
  refine ⟨?_, hmg, hkp, S, n0, va, hd, hcd⟩
  have ex := Fh.ex
  obtain ⟨oc, od, kV, doc, pm, an, cdv, ct, osl, rfl, lk, hcg⟩ := ex
  refine ⟨_, _, _, _, _, _, _, _, _, _, _, _, lk, hcg, L2.Binds.all (bd kV doc pm an cdv ct), ?_⟩
  rw [hb]
  exact gives_heard S.nd hi hln hge hme hde h0 hks (hsu cdv) hev
end Pv
set_option Elab.async false
set_option linter.all false
set_option maxRecDepth 100000
set_option maxHeartbeats 200000
namespace Pv
open PySem L2 PyProof.Rows PySem.Spec
section
variable {P : Program} {wd : World} {K : PySem.W.Frag} {mg : Str → Option Value} {base : Heap} {w : Wd} {N : List Str} {qual : Str} {scope : Scope} {f : Addr} {cdv : Value} {A : Around} {outer : List PySem.Env} {s : Shared} {H : Hp} {E : XK} {c PP : Addr}
theorem qual_body : (bodyX P wd K mg base N qual scope f cdv A outer s H E).env.qual = qual ++ ".<locals>." := rfl
theorem lamQ_body : lamQ (bodyX P wd K mg base N qual scope f cdv A outer s H E) = (qual ++ ".<locals>.") ++ "<lambda>" := congrArg (fun z : Str => z ++ ("<lambda>" : Str)) (qual_body (P := P) (wd := wd) (K := K) (mg := mg) (base := base) (N := N) (scope := scope) (f := f) (cdv := cdv) (A := A) (outer := outer) (s := s) (H := H) (E := E))
theorem code_body (hc : cdv = .ref c) : (bodyX P wd K mg base N qual scope f cdv A outer s H E).env.code = .ref c := hc
theorem tb_body (tb : LamX.TabB base mg c PP) : LamX.TabB (bodyX P wd K mg base N qual scope f cdv A outer s H E).base (bodyX P wd K mg base N qual scope f cdv A outer s H E).mg c PP := tb
theorem lmB_of (hc : cdv = .ref c) (tb : LamX.TabB base mg c PP)
    (hm : (PP, (qual ++ ".<locals>.") ++ "<lambda>") ∈ w.fa.T) (h1 : ∀ p ∈ w.fa.T, p.1 = PP → p.2 = (qual ++ ".<locals>.") ++ "<lambda>") : LmB (bodyX P wd K mg base N qual scope f cdv A outer s H E) w c PP := by
  refine ⟨tb_body tb, code_body hc, ?_, ?_⟩
  · rw [lamQ_body]; exact hm
  · rw [lamQ_body]; exact h1
end
end Pv
set_option Elab.async false
set_option linter.all false
set_option maxRecDepth 100000
set_option maxHeartbeats 2100000
/-! An error of an own class with fields is raised. -/
namespace Pv
open PySem L2 PyProof.Rows
/-- what __init__ does: self.f = f, one behind the other -/
def spI (C : Addr) (K : PySem.W.Frag) : List Str → Sp
  | [f] => fun vs H Q E => ∃ a x, vs = [.ref a, x] ∧ H a = some (exo a C none) ∧ ∀ dx, H dx = none → dx ≠ a → Q .non (upd (upd H dx (exd dx [(f, x)])) a (exo a C (some dx)))
  | [f, g] => fun vs H Q E => ∃ a x y, vs = [.ref a, x, y] ∧ H a = some (exo a C none) ∧ ∀ dx, H dx = none → dx ≠ a → Q .non (upd (upd (upd H dx (exd dx [(f, x)])) a (exo a C (some dx))) dx (exd dx [(g, y), (f, x)]))
  | _ => fun _ _ _ _ => False
section
variable {P : Program} {wd : World} {K : PySem.W.Frag} {mg : Str → Option Value} {base : Heap} {k : Nat} {f : Addr} {name qual : Str} {params : Arguments} {scope : Scope} {dV kV doc pm cdv ct oc : Value} {an od : Option Addr} {osl : Array (Option Value)} {C : Addr} {sf f1 f2 : Str} {n0 n1 n2 n3 p1 p2 p3 p4 : Pos}
theorem init2 (lk : K.lookup f = some ⟨oc, od, .func (PySem.W.fnOf name qual params [.Assign [.Attribute (.Name sf n0) f1 p3] (.Name f1 n1) p1, .Assign [.Attribute (.Name sf n2) f2 p4] (.Name f2 n3) p2] scope dV kV doc pm an cdv ct), osl⟩) (hcd : PySem.W.codeIn K cdv qual = true) (S : FnScope [sf, f1, f2] [sf, f1, f2] scope)
    (T : OexC K C) (h1 : PySem.W.findIn K (.ref C) f1 = some none) (h2 : PySem.W.findIn K (.ref C) f2 = some none) (v0 : Vis scope sf) (v1 : Vis scope f1) (v2 : Vis scope f2)
    (d0 : (sf == ("__debug__" : Str)) = false := by decide) (c0 : (sf == ("__classdict__" : Str)) = false := by decide) (d1 : (f1 == ("__debug__" : Str)) = false := by decide) (c1 : (f1 == ("__classdict__" : Str)) = false := by decide) (d2 : (f2 == ("__debug__" : Str)) = false := by decide) (c2 : (f2 == ("__classdict__" : Str)) = false := by decide) :
    FnOk P wd K mg base C8.CX0 (k + 1) f (PySem.W.fnOf name qual params [.Assign [.Attribute (.Name sf n0) f1 p3] (.Name f1 n1) p1, .Assign [.Attribute (.Name sf n2) f2 p4] (.Name f2 n3) p2] scope dV kV doc pm an cdv ct) [sf, f1, f2] (spI C K [f1, f2]) := by
  refine fn_of (N := [sf, f1, f2]) lk hcd S (fun vs H Q E ⟨_, _, _, e, _⟩ => by rw [e]; rfl) fun A outer s H vs Q E hr ⟨a, x, y, e, ha, h⟩ => ?_
  subst e
  refine ⟨_, pss_cons (ps_ost (pe_var (i := 0) rfl v0 d0 c0) (pe_var (i := 1) rfl v1 d1 c1) (by rfl)) (pss_one (ps_ost (pe_var (i := 0) rfl v0 d0 c0) (pe_var (i := 2) rfl v2 d2 c2) (by rfl))), ?_⟩
  refine ⟨x, rfl, .ref a, rfl, a, C, rfl, T, h1, .inl ⟨ha, fun dx hd ne => ?_⟩⟩
  refine ⟨y, rfl, .ref a, rfl, a, C, rfl, T, h2, .inr ⟨dx, [(f1, x)], upd_same, ?_, (show 1 ≤ 900 by decide), h dx hd ne⟩⟩
  rw [upd_ne ne, upd_same]
theorem init1 (lk : K.lookup f = some ⟨oc, od, .func (PySem.W.fnOf name qual params [.Assign [.Attribute (.Name sf n0) f1 p3] (.Name f1 n1) p1] scope dV kV doc pm an cdv ct), osl⟩) (hcd : PySem.W.codeIn K cdv qual = true) (S : FnScope [sf, f1] [sf, f1] scope)
    (T : OexC K C) (h1 : PySem.W.findIn K (.ref C) f1 = some none) (v0 : Vis scope sf) (v1 : Vis scope f1)
    (d0 : (sf == ("__debug__" : Str)) = false := by decide) (c0 : (sf == ("__classdict__" : Str)) = false := by decide) (d1 : (f1 == ("__debug__" : Str)) = false := by decide) (c1 : (f1 == ("__classdict__" : Str)) = false := by decide) :
    FnOk P wd K mg base C8.CX0 (k + 1) f (PySem.W.fnOf name qual params [.Assign [.Attribute (.Name sf n0) f1 p3] (.Name f1 n1) p1] scope dV kV doc pm an cdv ct) [sf, f1] (spI C K [f1]) := by
  refine fn_of (N := [sf, f1]) lk hcd S (fun vs H Q E ⟨_, _, e, _⟩ => by rw [e]; rfl) fun A outer s H vs Q E hr ⟨a, x, e, ha, h⟩ => ?_
  subst e
  refine ⟨_, pss_one (ps_ost (pe_var (i := 0) rfl v0 d0 c0) (pe_var (i := 1) rfl v1 d1 c1) (by rfl)), ?_⟩
  exact ⟨x, rfl, .ref a, rfl, a, C, rfl, T, h1, .inl ⟨ha, fun dx hd ne => h dx hd ne⟩⟩
end
/-- a class of errors whose __init__ keeps its arguments as fields -/
structure ErrF (P : Program) (wd : World) (K : PySem.W.Frag) (mg : Str → Option Value) (base : Heap) (w : Wd) (x : Str) (k : Nat) (fs : List Str) : Prop where
  oex : OexC K (w.ca k)
  ini : ∃ fI fd, PySem.W.findIn K (.ref (w.ca k)) "__init__" = some (some (.ref fI)) ∧ PySem.W.typeIn K (.ref fI) = some (.type "function") ∧ (∃ sf, FnOk P wd K mg base C8.CX0 1 fI fd (sf :: fs) (spI (w.ca k) K fs) ∧ L2.Binds K fd (sf :: fs) [])
  mg : mg x = some (.ref (w.ca k))
section
variable {P : Program} {wd : World} {K : PySem.W.Frag} {mg : Str → Option Value} {base : Heap} {w : Wd} {x q : Str} {k : Nat} {fI : Addr} {fd : FuncData} {st : Stmt} {sf f1 f2 : Str} {n0 n1 n2 n3 p1 p2 p3 p4 : Pos}
theorem errF2 (F : L2.Fun K "__init__" q st fI fd) (hb : defBody st = [.Assign [.Attribute (.Name sf n0) f1 p3] (.Name f1 n1) p1, .Assign [.Attribute (.Name sf n2) f2 p4] (.Name f2 n3) p2]) (S : FnScope [sf, f1, f2] [sf, f1, f2] (defScope st))
    (T : OexC K (w.ca k)) (hi : PySem.W.findIn K (.ref (w.ca k)) "__init__" = some (some (.ref fI))) (ht : PySem.W.typeIn K (.ref fI) = some (.type "function")) (hm : mg x = some (.ref (w.ca k)))
    (h1 : PySem.W.findIn K (.ref (w.ca k)) f1 = some none) (h2 : PySem.W.findIn K (.ref (w.ca k)) f2 = some none) (v0 : Vis (defScope st) sf) (v1 : Vis (defScope st) f1) (v2 : Vis (defScope st) f2)
    (bd : ∀ (kV doc pm : Value) (an : Option Addr) (cdv ct : Value) (us : List Value), us.length = 3 → bindArgs (PySem.W.fnOf "__init__" q (defArgs st) (defBody st) (defScope st) .none kV doc pm an cdv ct) ⟨us, []⟩ = pure ([sf, f1, f2].zip us))
    (d0 : (sf == ("__debug__" : Str)) = false := by decide) (c0 : (sf == ("__classdict__" : Str)) = false := by decide) (d1 : (f1 == ("__debug__" : Str)) = false := by decide) (c1 : (f1 == ("__classdict__" : Str)) = false := by decide) (d2 : (f2 == ("__debug__" : Str)) = false := by decide) (c2 : (f2 == ("__classdict__" : Str)) = false := by decide) :
    ErrF P wd K mg base w x k [f1, f2] := by
  have ex := F.ex
  obtain ⟨oc, od, kV, doc, pm, an, cdv, ct, osl, rfl, lk, hcg⟩ := ex
  have bd' := L2.Binds.all (K := K) (ps := [sf, f1, f2]) (bd kV doc pm an cdv ct)
  rw [hb] at lk bd'
  refine ⟨T, ⟨fI, _, hi, ht, sf, init2 (k := 0) lk hcg S T h1 h2 v0 v1 v2 d0 c0 d1 c1 d2 c2, bd'⟩, hm⟩
theorem errF1 (F : L2.Fun K "__init__" q st fI fd) (hb : defBody st = [.Assign [.Attribute (.Name sf n0) f1 p3] (.Name f1 n1) p1]) (S : FnScope [sf, f1] [sf, f1] (defScope st))
    (T : OexC K (w.ca k)) (hi : PySem.W.findIn K (.ref (w.ca k)) "__init__" = some (some (.ref fI))) (ht : PySem.W.typeIn K (.ref fI) = some (.type "function")) (hm : mg x = some (.ref (w.ca k)))
    (h1 : PySem.W.findIn K (.ref (w.ca k)) f1 = some none) (v0 : Vis (defScope st) sf) (v1 : Vis (defScope st) f1)
    (bd : ∀ (kV doc pm : Value) (an : Option Addr) (cdv ct : Value) (us : List Value), us.length = 2 → bindArgs (PySem.W.fnOf "__init__" q (defArgs st) (defBody st) (defScope st) .none kV doc pm an cdv ct) ⟨us, []⟩ = pure ([sf, f1].zip us))
    (d0 : (sf == ("__debug__" : Str)) = false := by decide) (c0 : (sf == ("__classdict__" : Str)) = false := by decide) (d1 : (f1 == ("__debug__" : Str)) = false := by decide) (c1 : (f1 == ("__classdict__" : Str)) = false := by decide) :
    ErrF P wd K mg base w x k [f1] := by
  have ex := F.ex
  obtain ⟨oc, od, kV, doc, pm, an, cdv, ct, osl, rfl, lk, hcg⟩ := ex
  have bd' := L2.Binds.all (K := K) (ps := [sf, f1]) (bd kV doc pm an cdv ct)
  rw [hb] at lk bd'
  refine ⟨T, ⟨fI, _, hi, ht, sf, init1 (k := 0) lk hcg S T h1 v0 v1 d0 c0 d1 c1, bd'⟩, hm⟩
end
/-- where the code object and its table stand -/
theorem tab_cd {K : PySem.W.Frag} {x : Str} {a c P : Addr} {oc : Value} {od : Option Addr} {fd : FuncData} {sl : Array (Option Value)} (n : PySem.W.nsIn K mainGlobals x = some (some (.ref a))) (l : K.lookup a = some ⟨oc, od, .func fd, sl⟩) (t : PySem.W.tabIn K x = some (c, P)) : fd.code = .ref c := by
  unfold PySem.W.tabIn at t
  rw [n] at t
  simp only [l] at t
  split at t
  · rename_i c2 e
    split at t
    · split at t
      · cases t
        exact e
      · cases t
    · cases t
  · cases t
theorem xf_nil {fs : List (Str × PyData)} {ds : List PyData} (h : xfields fs [] = some ds) : ds = [] := by cases h; rfl
theorem xf_cons {fs : List (Str × PyData)} {f : Str} {r : List Str} {ds : List PyData} (h : xfields fs (f :: r) = some ds) : ∃ d ds', ds = d :: ds' ∧ xfield fs f = some d ∧ xfields fs r = some ds' := by
  obtain ⟨d, h1, h2⟩ := Option.bind_eq_some_iff.mp (show (xfield fs f).bind _ = some ds from h)
  obtain ⟨r', h3, h4⟩ := Option.map_eq_some_iff.mp h2
  exact ⟨d, r', h4.symm, h1, h3⟩
theorem heardX_some {tb : List (Nat × Str × List Str)} {x : Ex} {dat : PyData} (h : heardX tb x = some dat) : ∃ q ds, tb.lookup x.cls = some q ∧ xfields x.fields q.2 = some ds ∧ dat = .tuple (.str q.1 :: ds) := by
  unfold heardX at h
  obtain ⟨q, e, h⟩ := Option.bind_eq_some_iff.mp h
  obtain ⟨ds, e1, e2⟩ := Option.map_eq_some_iff.mp h
  exact ⟨q, ds, e, e1, e2.symm⟩
theorem lookup_in {tb : List (Nat × Str × List Str)} {k : Nat} (h : (tb.lookup k).isSome = true) : k ∈ tb.map (·.1) := by
  induction tb with
  | nil => cases h
  | cons p r ih =>
    obtain ⟨j, q⟩ := p
    rw [List.lookup_cons] at h
    cases e : k == j with
    | true =>
      have := eq_of_beq e
      rw [this]
      exact List.mem_cons_self ..
    | false =>
      rw [e] at h
      exact List.mem_cons_of_mem _ (ih h)
section
variable {X : Cx} {w : Wd} {cl : Fun} {W : WX} {lk : List Nat}
theorem xd_eq {H : Hp} {a dx : Addr} {o1 o2 o3 o4 u : HO} (ha : H a = none) : upd (del (upd (upd (upd (upd H a o1) dx o2) a o3) dx o4) a) dx u = upd H dx u := by
  funext b
  by_cases h1 : b = dx
  · subst h1; rw [upd_same, upd_same]
  · rw [upd_ne h1, upd_ne h1]
    by_cases h2 : b = a
    · subst h2; rw [del_same, ha]
    · rw [del_ne h2, upd_ne h1, upd_ne h2, upd_ne h1, upd_ne h2]
theorem xd_eq1 {H : Hp} {a dx : Addr} {o1 o2 o3 u : HO} (ha : H a = none) : upd (del (upd (upd (upd H a o1) dx o2) a o3) a) dx u = upd H dx u := by
  funext b
  by_cases h1 : b = dx
  · subst h1; rw [upd_same, upd_same]
  · rw [upd_ne h1, upd_ne h1]
    by_cases h2 : b = a
    · subst h2; rw [del_same, ha]
    · rw [del_ne h2, upd_ne h2, upd_ne h1, upd_ne h2]
theorem ss_raise {k n : Nat} {fs : List Str} {x : Str} {e : Expr} {es : List Expr} {ts : List T} {p pos pos' : Pos} (G : GC X W) (F : HasF X w cl n) (hn : 2 ≤ n) (C : ErrF X.prog X.w X.K X.mg X.base w x k fs) (hg : Gl X x) (hs : SD X w cl W (e :: es) ts) (h12 : fs.length = 1 ∨ fs.length = 2) (hl : ts.length = fs.length)
    (hdb : (x == ("__debug__" : Str)) = false := by decide) (he : starEach (e :: es) X.env = (false, eval e X.env) :: starEach es X.env := by rfl) (hpl : (backTo pos (starEach es X.env)).any (·.1) = false := by rfl) :
    SS X w cl W lk (.Raise (some (.Call (.Name x p) (e :: es) [] pos)) none pos') (.raise k fs ts) := by
  obtain ⟨fI, fd, iC, tI, sf, F1, bI⟩ := C.ini
  obtain ⟨ta, pa, ka⟩ := hs
  refine ⟨_, ps_raise G.calm G.tk (pmk_oex (ds := []) (dvs := []) C.oex iC tI F1 (F.room.mono hn) bI .nil C8.pass0 hg C.mg pa hdb he hpl), fun D σ H U ρ er h => ka σ H U ρ _ er ?_⟩
  unfold evS at h
  refine (h.bind.and (P := fun ds => ds.length = ts.length) fun ds ρ' e => len_ev ts ρ ds ρ' e).mono (fun ds ρ1 ⟨hd, h⟩ xs H1 U1 p1 r => ?_) fun _ _ h => h.e er
  have hx : xs.length = fs.length := by rw [r.len, hd, hl]
  have last : ∀ (ys : List (Str × V)) (dx : Addr), H1 dx = none → ys.map (·.1) = ((fs.zip ds).reverse).map (·.1) → Rps X.K H1 U1 (ys.map (·.2)) (((fs.zip ds).reverse).map (·.2)) → W (.ref (w.ca k)) (some dx) σ (upd H1 dx (.xd ys)) := by
    intro ys dx h0 h1 h2
    have pn : Pst X.K w.fa σ H1 U1 ρ1 (upd H1 dx (.xd ys)) U1 ρ1 := Pst.new p1.er h0 nt_xd
    exact h (.ref (w.ca k)) (some dx) σ _ U1 ((p1.trans er pn).pss er) ⟨rfl, dx, ys, rfl, upd_same, h1, h2.sta (Sta.new' h0)⟩
  clear h hd hl C iC bI
  match fs, h12, hx, F1, last with
  | [f], _, hx, F1, last =>
    match xs, hx, r with
    | [x1], _, r =>
      cases r with
      | cons r1 rr =>
        cases rr
        refine ⟨(show 1 ≤ 1000 by decide), fun a ha => ⟨a, x1, rfl, upd_same, fun dx hdx ne => ⟨rfl, dx, [(f, x1)], upd_same, ?_, ?_, ?_⟩⟩⟩
        · rw [upd_ne ne, upd_same]
        · rw [upd_ne ne] at hdx; exact hdx
        · rw [upd_ne ne] at hdx
          rw [xd_eq1 ha]
          exact last _ dx hdx rfl (.cons r1 .nil)
  | [f, g], _, hx, F1, last =>
    match xs, hx, r with
    | [x1, x2], _, r =>
      cases r with
      | cons r1 rr =>
        cases rr with
        | cons r2 rr =>
          cases rr
          refine ⟨(show 2 ≤ 1000 by decide), fun a ha => ⟨a, x1, x2, rfl, upd_same, fun dx hdx ne => ⟨rfl, dx, [(g, x2), (f, x1)], ?_, upd_same, ?_, ?_⟩⟩⟩
          · rw [upd_ne (Ne.symm ne), upd_same]
          · rw [upd_ne ne] at hdx; exact hdx
          · rw [upd_ne ne] at hdx
            rw [xd_eq ha]
            exact last _ dx hdx rfl (.cons r2 (.cons r1 .nil))
end
end Pv
set_option Elab.async false
set_option linter.all false
set_option maxRecDepth 100000
set_option maxHeartbeats 2100000
/-! What the written part says of an error's class, of a def that makes lambdas: by one look each. -/
namespace Pv
open PySem L2 PyProof.Rows
/-- an own class of errors, as the written part shows it -/
def errB (K : PySem.W.Frag) (C : Addr) : Bool := match K.lookup C with
  | some ⟨.type "type", _, .cls ⟨_, _, .ref C' :: bm, _, _, true, _, _, _, _, false⟩, ⟨[_, _, _, _, some (.builtin n), _]⟩⟩ => C' == C && (n == "ValueError.__new__" && PySem.HandSPX.refsVE bm)
  | _ => false
theorem err_of {K : PySem.W.Frag} {C : Addr} (q : errB K C = true) : ∃ nm q N bs bm sn sub ab col dd k0 k1 k2 k3 k5, K.lookup C = some (excClassObj nm q C N bs bm true sn sub ab col dd k0 k1 k2 k3 k5 "ValueError.__new__") ∧ PySem.HandSPX.refsVE bm = true := by
  unfold errB at q
  split at q
  · rename_i C' bm N qn sn sub ab col k0 k1 k2 k3 n k5 ho
    rw [Bool.and_eq_true, Bool.and_eq_true, beq_iff_eq, beq_iff_eq] at q
    obtain ⟨rfl, rfl, h⟩ := q
    exact ⟨_, _, _, _, _, _, _, _, _, _, _, _, _, _, _, ho, h⟩
  · cases q
theorem tab_mk {K : PySem.W.Frag} {x : Str} {f c P : Addr} {oc oc' : Value} {od od' : Option Addr} {osl osl' : Array (Option Value)} {fd : FuncData} {vs : Array Value} (h1 : PySem.W.nsIn K mainGlobals x = some (some (.ref f)))
    (h2 : K.lookup f = some ⟨oc, od, .func fd, osl⟩) (h3 : fd.code = .ref c) (h4 : K.lookup c = some ⟨oc', od', .fields vs, osl'⟩) (h5 : (vs[11]? : Option Value) = some (.ref P)) : PySem.W.tabIn K x = some (c, P) := by
  unfold PySem.W.tabIn
  rw [h1]
  dsimp only
  rw [h2]
  dsimp only
  rw [h3]
  dsimp only
  rw [h4]
  dsimp only
  rw [h5]
end Pv
set_option Elab.async false
set_option linter.all false
set_option maxRecDepth 100000
set_option maxHeartbeats 2100000
/-! What a run gives: told from its end. -/
namespace Pv
open PySem
def Res.sat {α : Type} (r : Res α) (P : α → Prop) : Prop := match r with
  | .ok a => P a
  | _ => False
section
variable {α β : Type} {P Q : α → Prop} {R : β → Prop}
theorem Res.sat_ok {a : α} : (Res.ok a).sat P ↔ P a := Iff.rfl
theorem Res.sat_bind {r : Res α} {k : α → Res β} : (r.bind k).sat R ↔ r.sat fun a => (k a).sat R := by
  cases r <;> rfl
theorem Res.sat_get {o : Option α} : (get o).sat P ↔ ∃ a, o = some a ∧ P a := by
  cases o with
  | none => exact ⟨fun h => h.elim, fun ⟨_, h, _⟩ => by cases h⟩
  | some a => exact ⟨fun h => ⟨a, rfl, h⟩, fun ⟨b, e, h⟩ => by cases e; exact h⟩
theorem Res.sat_noX {r : Res α} : r.noX.sat P ↔ r.sat P := by
  cases r <;> rfl
theorem Res.sat.mono {r : Res α} (h : r.sat P) (k : ∀ a, P a → Q a) : r.sat Q := by
  cases r with
  | ok a => exact k a h
  | exc _ _ => exact h
  | stuck => exact h
theorem Res.sat_iff {r : Res α} : r.sat P ↔ ∃ a, r = .ok a ∧ P a := by
  cases r with
  | ok a => exact ⟨fun h => ⟨a, rfl, h⟩, fun ⟨b, e, h⟩ => by cases e; exact h⟩
  | exc _ _ => exact ⟨fun h => h.elim, fun ⟨_, e, _⟩ => by cases e⟩
  | stuck => exact ⟨fun h => h.elim, fun ⟨_, e, _⟩ => by cases e⟩
end
/-- a for by an invariant over what is left -/
theorem forTurns_sat {tg : Tg} {f : Env → Res (Flow × Env)} {Q : Flow × Env → Prop} (I : List D → Env → Prop) (done : ∀ ρ, I [] ρ → Q (.nx, ρ))
    (turn : ∀ d ds ρ, I (d :: ds) ρ → ∃ ρ1, store tg d ρ = some ρ1 ∧ (f ρ1).sat fun p => match p.1 with
      | .nx => I ds p.2
      | .cnt => I ds p.2
      | .brk => Q (.nx, p.2)
      | .ret v => Q (.ret v, p.2)) : ∀ ds ρ, I ds ρ → (forTurns tg f ds ρ).sat Q
  | [], ρ, h => done ρ h
  | d :: ds, ρ, h => by
    obtain ⟨ρ1, e1, h1⟩ := turn d ds ρ h
    unfold forTurns
    rw [e1, get_some, Res.bind_ok, Res.sat_bind]
    refine h1.mono fun p hp => ?_
    obtain ⟨fl, ρ2⟩ := p
    cases fl with
    | nx => exact forTurns_sat I done turn ds ρ2 hp
    | cnt => exact forTurns_sat I done turn ds ρ2 hp
    | brk => exact hp
    | ret v => exact hp
theorem compTurns_sat {own : List Nat} {tg : Tg} {c : Env → Res (Bool × Env)} {f : Env → Res (Vl × Env)} {Q : List D × Env → Prop} (I : List D → List D → Env → Prop) (done : ∀ acc ρ, I [] acc ρ → Q (acc, ρ))
    (turn : ∀ d ds acc ρ, I (d :: ds) acc ρ → ∃ ρ1, store tg d (ρ.wipe own) = some ρ1 ∧ (c ρ1).sat fun p => match p.1 with
      | true => (f p.2).sat fun q => ∃ y, q.1.frz = some y ∧ I ds (acc ++ [y]) q.2
      | false => I ds acc p.2) : ∀ ds acc ρ, I ds acc ρ → (compTurns own tg c f ds acc ρ).sat Q
  | [], acc, ρ, h => done acc ρ h
  | d :: ds, acc, ρ, h => by
    obtain ⟨ρ1, e1, h1⟩ := turn d ds acc ρ h
    unfold compTurns
    rw [e1, get_some, Res.bind_ok, Res.sat_bind]
    refine h1.mono fun p hp => ?_
    obtain ⟨b, ρ2⟩ := p
    cases b with
    | true =>
      show (((f ρ2).bind _).sat Q)
      rw [Res.sat_bind]
      refine hp.mono fun q hq => ?_
      obtain ⟨y, e2, h2⟩ := hq
      rw [e2, get_some, Res.bind_ok]
      exact compTurns_sat I done turn ds _ _ h2
    | false => exact compTurns_sat I done turn ds acc ρ2 hp
theorem runF_sat {cl : Fun} {d : Df} {vs : List Vl} {P : Vl × List (Option Vl) → Prop} (hl : vs.length = d.ps)
    (h : (evSs cl (lentOf vs 0) d.body (startE d.n vs)).sat fun p => match p.1 with
      | .ret v => P (v, p.2.take d.ps)
      | .nx => P (.dat .none, p.2.take d.ps)
      | _ => False) : (runF cl d vs).sat P := by
  unfold runF
  rw [if_pos hl]
  cases q : evSs cl (lentOf vs 0) d.body (startE d.n vs) with
  | ok p =>
    obtain ⟨f, ρ⟩ := p
    rw [q] at h
    cases f with
    | nx => exact h
    | ret v => exact h
    | brk => exact h.elim
    | cnt => exact h.elim
  | exc _ _ => rw [q] at h; exact h
  | stuck => rw [q] at h; exact h
end Pv
set_option Elab.async false
set_option linter.all false
set_option maxRecDepth 100000
set_option maxHeartbeats 2100000
/-! Runs that leave the slots as they are: what an expression gives, what a test tells. -/
namespace Pv
open PySem
section
variable {cl : Fun} {ρ : Env}
def EV (cl : Fun) (e : T) (ρ : Env) (v : Vl) : Prop := evE cl e ρ = .ok (v, ρ)
def EB (cl : Fun) (e : T) (ρ : Env) (b : Bool) : Prop := evE cl e ρ = .ok (.dat (.bool b), ρ)
def TB (cl : Fun) (e : T) (ρ : Env) (b : Bool) : Prop := evT cl e ρ = .ok (b, ρ)
/-- an operand -/
def OP (cl : Fun) (e : T) (ρ : Env) (x : D) : Prop := ∃ o, opnd e (evE cl e) ρ = .ok (o, ρ) ∧ look ρ o = some x
/-- .. that is no own list -/
def OPL (cl : Fun) (e : T) (ρ : Env) (x : D) : Prop := ∃ o, opnd e (evE cl e) ρ = .ok (o, ρ) ∧ look ρ o = some x ∧ lockO o ρ = ρ ∧ ∀ ρ', unlockO ρ o ρ' = ρ'
def AR (cl : Fun) (e : T) (ρ : Env) (v : Vl) : Prop := argOf e (evE cl e) ρ = .ok (.vl v, ρ)
def AV (cl : Fun) (es : List T) (ρ : Env) (vs : List Vl) : Prop := evAs cl es ρ = .ok (vs.map .vl, ρ)
def DV (cl : Fun) (es : List T) (ρ : Env) (ds : List D) : Prop := evDs cl es ρ = .ok (ds, ρ)
theorem jv_var {i : Nat} {d : D} (h : ρ[i]? = some (some (.dat d))) : EV cl (.var i) ρ (.dat d) := by
  unfold EV evE; rw [h]
theorem jv_cst (d : D) : EV cl (.cst d) ρ (.dat d) := by unfold EV evE; rfl
theorem opl_var {i : Nat} {d : D} (h : ρ[i]? = some (some (.dat d))) : OPL cl (.var i) ρ d := by
  refine ⟨.pk i, ?_, ?_, ?_, fun ρ' => ?_⟩
  · unfold opnd T.isVar; simp only [h]
  · unfold look; simp only [h]; rfl
  · unfold lockO; simp only [h]
  · unfold unlockO; simp only [h]
theorem opl_ev {e : T} {v : Vl} {x : D} (h : EV cl e ρ v) (hv : e.isVar = none) (hx : v.view = some x) : OPL cl e ρ x := by
  refine ⟨.vl v, ?_, hx, rfl, fun ρ' => rfl⟩
  unfold opnd; rw [hv]
  show (evE cl e ρ).bind _ = _
  rw [show evE cl e ρ = .ok (v, ρ) from h, Res.bind_ok]
theorem OPL.op {e : T} {x : D} (h : OPL cl e ρ x) : OP cl e ρ x := h.elim fun o h => ⟨o, h.1, h.2.1⟩
theorem op_var {i : Nat} {d : D} (h : ρ[i]? = some (some (.dat d))) : OP cl (.var i) ρ d := (opl_var h).op
theorem op_lst {i : Nat} {ds : List D} (h : ρ[i]? = some (some (.lst ds))) : OP cl (.var i) ρ (.list ds) := by
  refine ⟨.pk i, ?_, ?_⟩
  · unfold opnd T.isVar; simp only [h]
  · unfold look; simp only [h]; rfl
theorem op_ev {e : T} {v : Vl} {x : D} (h : EV cl e ρ v) (hv : e.isVar = none) (hx : v.view = some x) : OP cl e ρ x := (opl_ev h hv hx).op
theorem op_cst (d : D) : OP cl (.cst d) ρ d := op_ev (jv_cst d) rfl rfl
theorem ar_var {i : Nat} {d : D} (h : ρ[i]? = some (some (.dat d))) : AR cl (.var i) ρ (.dat d) := by
  unfold AR argOf T.isVar
  simp only [h]
  rw [show evE cl (.var i) ρ = .ok (.dat d, ρ) from jv_var h, Res.bind_ok]; rfl
theorem ar_ev {e : T} {v v' : Vl} (h : EV cl e ρ v) (hv : e.isVar = none) (hx : argVal v = some v') : AR cl e ρ v' := by
  unfold AR argOf; rw [hv]
  show (evE cl e ρ).bind _ = _
  rw [show evE cl e ρ = .ok (v, ρ) from h, Res.bind_ok]
  show (get (argVal v)).bind _ = _
  rw [hx]; rfl
theorem av_nil : AV cl [] ρ [] := by unfold AV evAs; rfl
theorem av_cons {e : T} {es : List T} {v : Vl} {vs : List Vl} (h : AR cl e ρ v) (t : AV cl es ρ vs) : AV cl (e :: es) ρ (v :: vs) := by
  unfold AV evAs
  rw [show argOf e (evE cl e) ρ = .ok (.vl v, ρ) from h, Res.bind_ok]
  show (evAs cl es ρ).bind _ = _
  rw [show evAs cl es ρ = .ok (vs.map .vl, ρ) from t]; rfl
theorem dv_nil : DV cl [] ρ [] := by unfold DV evDs; rfl
theorem dv_cons {e : T} {es : List T} {v : Vl} {d : D} {ds : List D} (h : EV cl e ρ v) (f : v.frz = some d) (t : DV cl es ρ ds) : DV cl (e :: es) ρ (d :: ds) := by
  unfold DV evDs
  rw [show evE cl e ρ = .ok (v, ρ) from h, Res.bind_ok]
  show (get v.frz).bind _ = _
  rw [f, get_some, Res.bind_ok, show evDs cl es ρ = .ok (ds, ρ) from t]; rfl
theorem jv_tup {es : List T} {ds : List D} (h : DV cl es ρ ds) : EV cl (.tup es) ρ (.dat (.tuple ds)) := by
  unfold EV evE; rw [show evDs cl es ρ = .ok (ds, ρ) from h]; rfl
theorem jv_lst {es : List T} {ds : List D} (h : DV cl es ρ ds) : EV cl (.lst es) ρ (.lst ds) := by
  unfold EV evE; rw [show evDs cl es ρ = .ok (ds, ρ) from h]; rfl
theorem jv_blt {b : Blt} {e : T} {x : D} {v : Vl} (h : OP cl e ρ x) (hv : blt1 b x = some v) : EV cl (.blt b e) ρ v := by
  obtain ⟨o, h1, h2⟩ := h
  unfold EV evE; rw [h1, Res.bind_ok]
  show (get (look ρ o)).bind _ = _
  rw [h2, get_some, Res.bind_ok, hv]; rfl
theorem tb_blt {b : Blt} {e : T} {x : D} {c : Bool} (h : OP cl e ρ x) (hv : blt1 b x = some (.dat (.bool c))) : TB cl (.blt b e) ρ c := by
  obtain ⟨o, h1, h2⟩ := h
  unfold TB evT; rw [h1, Res.bind_ok]
  show (get (look ρ o)).bind _ = _
  rw [h2, get_some, Res.bind_ok, hv]; rfl
theorem eb_isi {t : Ty} {e : T} {x : D} (h : OP cl e ρ x) : EB cl (.blt (.isi t) e) ρ (isiD t x) := jv_blt h rfl
theorem tb_isi {t : Ty} {e : T} {x : D} (h : OP cl e ρ x) : TB cl (.blt (.isi t) e) ρ (isiD t x) := tb_blt h rfl
theorem jv_bin {o : Bin} {a b : T} {x y : D} {v : Vl} (h : OP cl a ρ x) (k : OP cl b ρ y) (hv : bin2 o x y = some v) : EV cl (.bin o a b) ρ v := by
  obtain ⟨p, h1, h2⟩ := h
  obtain ⟨q, k1, k2⟩ := k
  unfold EV evE; rw [h1, Res.bind_ok]
  show (opnd b (evE cl b) ρ).bind _ = _
  rw [k1, Res.bind_ok]
  show (get (look ρ p)).bind _ = _
  rw [h2, get_some, Res.bind_ok]
  show (get (look ρ q)).bind _ = _
  rw [k2, get_some, Res.bind_ok, hv]; rfl
theorem eb_cmp {o : Cmp} {a b : T} {x y : D} {v : Bool} (h : OP cl a ρ x) (k : OP cl b ρ y) (hv : cmp2 o x y = some v) : EB cl (.cmp o a b) ρ v := by
  obtain ⟨p, h1, h2⟩ := h
  obtain ⟨q, k1, k2⟩ := k
  unfold EB evE; rw [h1, Res.bind_ok]
  show (opnd b (evE cl b) ρ).bind _ = _
  rw [k1, Res.bind_ok]
  show (get (look ρ p)).bind _ = _
  rw [h2, get_some, Res.bind_ok]
  show (get (look ρ q)).bind _ = _
  rw [k2, get_some, Res.bind_ok, hv]; rfl
theorem tb_cmp {o : Cmp} {a b : T} {x y : D} {v : Bool} (h : OP cl a ρ x) (k : OP cl b ρ y) (hv : cmp2 o x y = some v) : TB cl (.cmp o a b) ρ v := by
  obtain ⟨p, h1, h2⟩ := h
  obtain ⟨q, k1, k2⟩ := k
  unfold TB evT; rw [h1, Res.bind_ok]
  show (opnd b (evE cl b) ρ).bind _ = _
  rw [k1, Res.bind_ok]
  show (get (look ρ p)).bind _ = _
  rw [h2, get_some, Res.bind_ok]
  show (get (look ρ q)).bind _ = _
  rw [k2, get_some, Res.bind_ok, hv]; rfl
theorem jv_ix {a b : T} {x y d : D} (h : OP cl a ρ x) (k : OP cl b ρ y) (hv : ix2 x y = some d) : EV cl (.ix a b) ρ (.dat d) := by
  obtain ⟨p, h1, h2⟩ := h
  obtain ⟨q, k1, k2⟩ := k
  unfold EV evE; rw [h1, Res.bind_ok]
  show (opnd b (evE cl b) ρ).bind _ = _
  rw [k1, Res.bind_ok]
  show (get (look ρ p)).bind _ = _
  rw [h2, get_some, Res.bind_ok]
  show (get (look ρ q)).bind _ = _
  rw [k2, get_some, Res.bind_ok, hv]; rfl
theorem op_ix {a b : T} {x y d : D} (h : OP cl a ρ x) (k : OP cl b ρ y) (hv : ix2 x y = some d) : OP cl (.ix a b) ρ d := op_ev (jv_ix h k hv) rfl rfl
theorem opl_ix {a b : T} {x y d : D} (h : OP cl a ρ x) (k : OP cl b ρ y) (hv : ix2 x y = some d) : OPL cl (.ix a b) ρ d := opl_ev (jv_ix h k hv) rfl rfl
theorem ar_ix {a b : T} {x y d : D} (h : OP cl a ρ x) (k : OP cl b ρ y) (hv : ix2 x y = some d) : AR cl (.ix a b) ρ (.dat d) := ar_ev (jv_ix h k hv) rfl rfl
theorem tb_chn {o o' : Cmp} {a b c : T} {x y z : D} {v v' : Bool} (h : OP cl a ρ x) (k : OP cl b ρ y) (m : OP cl c ρ z) (hv : cmp2 o x y = some v) (hv' : v = true → cmp2 o' y z = some v') : TB cl (.chn o o' a b c) ρ (v && v') := by
  obtain ⟨p, h1, h2⟩ := h
  obtain ⟨q, k1, k2⟩ := k
  obtain ⟨r, m1, m2⟩ := m
  unfold TB evT; rw [h1, Res.bind_ok]
  show (opnd b (evE cl b) ρ).bind _ = _
  rw [k1, Res.bind_ok]
  show (get (look ρ p)).bind _ = _
  rw [h2, get_some, Res.bind_ok]
  show (get (look ρ q)).bind _ = _
  rw [k2, get_some, Res.bind_ok, hv, get_some, Res.bind_ok]
  cases v with
  | false => rfl
  | true =>
    show (opnd c (evE cl c) ρ).bind _ = _
    rw [m1, Res.bind_ok]
    show (get (look ρ q)).bind _ = _
    rw [k2, get_some, Res.bind_ok]
    show (get (look ρ r)).bind _ = _
    rw [m2, get_some, Res.bind_ok, hv' rfl]; rfl
theorem eb_and {a b : T} {x y : Bool} (h : EB cl a ρ x) (k : x = true → EB cl b ρ y) : EB cl (.and a b) ρ (x && y) := by
  unfold EB evE; rw [show evE cl a ρ = .ok (.dat (.bool x), ρ) from h, Res.bind_ok]
  cases x with
  | false => rfl
  | true => exact k rfl
theorem eb_or {a b : T} {x y : Bool} (h : EB cl a ρ x) (k : x = false → EB cl b ρ y) : EB cl (.or a b) ρ (x || y) := by
  unfold EB evE; rw [show evE cl a ρ = .ok (.dat (.bool x), ρ) from h, Res.bind_ok]
  cases x with
  | true => rfl
  | false => exact k rfl
theorem eb_not {a : T} {x : Bool} (h : EB cl a ρ x) : EB cl (.not a) ρ (!x) := by
  unfold EB evE; rw [show evE cl a ρ = .ok (.dat (.bool x), ρ) from h]; rfl
theorem tb_and {a b : T} {x y : Bool} (h : TB cl a ρ x) (k : x = true → TB cl b ρ y) : TB cl (.and a b) ρ (x && y) := by
  unfold TB evT; rw [show evT cl a ρ = .ok (x, ρ) from h, Res.bind_ok]
  cases x with
  | false => rfl
  | true => exact k rfl
theorem tb_or {a b : T} {x y : Bool} (h : TB cl a ρ x) (k : x = false → TB cl b ρ y) : TB cl (.or a b) ρ (x || y) := by
  unfold TB evT; rw [show evT cl a ρ = .ok (x, ρ) from h, Res.bind_ok]
  cases x with
  | true => rfl
  | false => exact k rfl
theorem tb_not {a : T} {x : Bool} (h : TB cl a ρ x) : TB cl (.not a) ρ (!x) := by
  unfold TB evT; rw [show evT cl a ρ = .ok (x, ρ) from h]; rfl
theorem TB.of {a : T} {x y : Bool} (h : TB cl a ρ x) (e : x = y) : TB cl a ρ y := e ▸ h
theorem EB.of {a : T} {x y : Bool} (h : EB cl a ρ x) (e : x = y) : EB cl a ρ y := e ▸ h
theorem tb_ort {a b : T} (h : TB cl a ρ true) : TB cl (.or a b) ρ true := tb_or (y := false) h fun e => Bool.noConfusion e
theorem tb_orf {a b : T} {y : Bool} (h : TB cl a ρ false) (k : TB cl b ρ y) : TB cl (.or a b) ρ y := tb_or h fun _ => k
theorem tb_andt {a b : T} {y : Bool} (h : TB cl a ρ true) (k : TB cl b ρ y) : TB cl (.and a b) ρ y := tb_and h fun _ => k
theorem tb_andf {a b : T} (h : TB cl a ρ false) : TB cl (.and a b) ρ false := tb_and (y := false) h fun e => Bool.noConfusion e
theorem eb_ort {a b : T} (h : EB cl a ρ true) : EB cl (.or a b) ρ true := eb_or (y := false) h fun e => Bool.noConfusion e
theorem eb_orf {a b : T} {y : Bool} (h : EB cl a ρ false) (k : EB cl b ρ y) : EB cl (.or a b) ρ y := eb_or h fun _ => k
theorem eb_andt {a b : T} {y : Bool} (h : EB cl a ρ true) (k : EB cl b ρ y) : EB cl (.and a b) ρ y := eb_and h fun _ => k
theorem eb_andf {a b : T} (h : EB cl a ρ false) : EB cl (.and a b) ρ false := eb_and (y := false) h fun e => Bool.noConfusion e
theorem lends_vl : ∀ vs : List Vl, lends (vs.map .vl) = []
  | [] => rfl
  | v :: vs => by show lends (vs.map .vl) = []; exact lends_vl vs
theorem argVs_vl : ∀ vs : List Vl, argVs ρ (vs.map .vl) = some vs
  | [] => rfl
  | v :: vs => by
    show (argV ρ (.vl v)).bind _ = _
    show (argVs ρ (vs.map .vl)).map _ = _
    rw [argVs_vl vs]; rfl
theorem giveBack_vl : ∀ (vs : List Vl) (fin : List (Option Vl)), fin.length = vs.length → giveBack ρ (vs.map .vl) fin = some ρ
  | [], [], _ => rfl
  | v :: vs, f :: fs, h => by
    show giveBack ρ (vs.map .vl) fs = _
    exact giveBack_vl vs fs (Nat.succ.inj h)
theorem doCall_vl {f : List Vl → Res (Vl × List (Option Vl))} {vs : List Vl} {v : Vl} {fin : List (Option Vl)} (h : f vs = .ok (v, fin)) (hl : fin.length = vs.length) : doCall f (vs.map .vl) ρ = .ok (v, ρ) := by
  unfold doCall
  rw [lends_vl, if_pos (show nodupB [] = true from rfl), argVs_vl, get_some, Res.bind_ok, h]
  show (get (giveBack ρ (vs.map .vl) fin)).bind _ = _
  rw [giveBack_vl vs fin hl]; rfl
theorem jv_call {k : Nat} {es : List T} {vs : List Vl} {v : Vl} {fin : List (Option Vl)} (h : AV cl es ρ vs) (c : cl k vs = .ok (v, fin)) (hl : fin.length = vs.length) : EV cl (.call k es) ρ v := by
  unfold EV evE; rw [show evAs cl es ρ = .ok (vs.map .vl, ρ) from h, Res.bind_ok]
  exact doCall_vl c hl
theorem tb_call {k : Nat} {es : List T} {vs : List Vl} {b : Bool} {fin : List (Option Vl)} (h : AV cl es ρ vs) (c : cl k vs = .ok (.dat (.bool b), fin)) (hl : fin.length = vs.length) : TB cl (.call k es) ρ b := by
  unfold TB evT; rw [show evAs cl es ρ = .ok (vs.map .vl, ρ) from h, Res.bind_ok]
  show (doCall (cl k) (vs.map .vl) ρ).bind _ = _
  rw [doCall_vl c hl]; rfl
theorem jv_callv {i k : Nat} {es : List T} {vs : List Vl} {v : Vl} {fin : List (Option Vl)} (hi : ρ[i]? = some (some (.fn k))) (h : AV cl es ρ vs) (c : cl k vs = .ok (v, fin)) (hl : fin.length = vs.length) : EV cl (.callv i es) ρ v := by
  unfold EV evE; simp only [hi]
  rw [show evAs cl es ρ = .ok (vs.map .vl, ρ) from h, Res.bind_ok]
  exact doCall_vl c hl
/-- a def of one parameter that tells a truth value -/
def Told (cl : Fun) (k : Nat) (d : D) (b : Bool) : Prop := cl k [.dat d] = .ok (.dat (.bool b), [some (.dat d)])
theorem eb_told {k : Nat} {e : T} {d : D} {b : Bool} (h : AR cl e ρ (.dat d)) (c : Told cl k d b) : EB cl (.call k [e]) ρ b := jv_call (av_cons h av_nil) c rfl
theorem tb_told {k : Nat} {e : T} {d : D} {b : Bool} (h : AR cl e ρ (.dat d)) (c : Told cl k d b) : TB cl (.call k [e]) ρ b := tb_call (av_cons h av_nil) c rfl
theorem eb_toldv {i k : Nat} {e : T} {d : D} {b : Bool} (hi : ρ[i]? = some (some (.fn k))) (h : AR cl e ρ (.dat d)) (c : Told cl k d b) : EB cl (.callv i [e]) ρ b := jv_callv hi (av_cons h av_nil) c rfl
/-! ### comprehensions over one own name -/
theorem put_lt {i : Nat} {v : Vl} (h : i < ρ.length) : Env.put ρ i v = some (ρ.set i (some v)) := by
  unfold Env.put; rw [decide_eq_true h]; rfl
theorem set_get {j : Nat} {o : Option Vl} (h : ρ[j]? = some o) : ρ.set j o = ρ := by
  have hj : j < ρ.length := by
    cases Nat.lt_or_ge j ρ.length with
    | inl h => exact h
    | inr g => rw [List.getElem?_eq_none g] at h; cases h
  rw [List.getElem?_eq_getElem hj] at h
  have e := Option.some.inj h
  rw [← e]
  exact List.set_getElem_self hj
theorem compTurns_map {j : Nat} {c : Env → Res (Bool × Env)} {f : Env → Res (Vl × Env)} {p : D → Bool} {g : D → D} (hj : ρ[j]? = some none) : ∀ (ds acc : List D) (o : Option Vl),
    (∀ d ∈ ds, c (ρ.set j (some (.dat d))) = .ok (p d, ρ.set j (some (.dat d))) ∧ (p d = true → ∃ v, f (ρ.set j (some (.dat d))) = .ok (v, ρ.set j (some (.dat d))) ∧ v.frz = some (g d))) →
    ∃ o', compTurns [j] (.nm j) c f ds acc (ρ.set j o) = .ok (acc ++ (ds.filter p).map g, ρ.set j o')
  | [], acc, o, _ => ⟨o, by unfold compTurns; rw [List.filter_nil, List.map_nil, List.append_nil]⟩
  | d :: ds, acc, o, h => by
    have hlt : j < ρ.length := by
      cases Nat.lt_or_ge j ρ.length with
      | inl h => exact h
      | inr g => rw [List.getElem?_eq_none g] at hj; cases hj
    obtain ⟨h1, h2⟩ := h d (List.mem_cons_self ..)
    have ht : ∀ d' ∈ ds, _ := fun d' hd' => h d' (List.mem_cons_of_mem _ hd')
    have e1 : store (.nm j) d (Env.wipe (ρ.set j o) [j]) = some (ρ.set j (some (.dat d))) := by
      show Env.put ((ρ.set j o).set j none) j (.dat d) = _
      rw [put_lt (by rw [List.length_set, List.length_set]; exact hlt), List.set_set, List.set_set]
    unfold compTurns
    rw [e1, get_some, Res.bind_ok, h1, Res.bind_ok]
    cases hp : p d with
    | false =>
      obtain ⟨o', e⟩ := compTurns_map (p := p) (g := g) hj ds acc (some (.dat d)) ht
      refine ⟨o', ?_⟩
      rw [List.filter_cons_of_neg (by rw [hp]; exact Bool.false_ne_true)]
      exact e
    | true =>
      obtain ⟨v, e2, e3⟩ := h2 hp
      obtain ⟨o', e⟩ := compTurns_map (p := p) (g := g) hj ds (acc ++ [g d]) (some (.dat d)) ht
      refine ⟨o', ?_⟩
      rw [List.filter_cons_of_pos hp, List.map_cons]
      show (f _).bind _ = _
      rw [e2, Res.bind_ok]
      show (get v.frz).bind _ = _
      rw [e3, get_some, Res.bind_ok]
      rw [List.append_assoc] at e
      exact e
theorem jv_comp {j : Nat} {elt it : T} {wk : Wkd} {c : Option T} {x : D} {ds : List D} {p : D → Bool} {g : D → D} (hj : ρ[j]? = some none) (h : OPL cl it ρ x) (hi : itemsOf wk x = some ds)
    (hc : ∀ d ∈ ds, evC cl c (ρ.set j (some (.dat d))) = .ok (p d, ρ.set j (some (.dat d)))) (hf : ∀ d ∈ ds, p d = true → ∃ v, EV cl elt (ρ.set j (some (.dat d))) v ∧ v.frz = some (g d)) :
    EV cl (.comp elt [j] (.nm j) wk it c) ρ (.lst ((ds.filter p).map g)) := by
  obtain ⟨o, h1, h2, h3, h4⟩ := h
  obtain ⟨o', e⟩ := compTurns_map (c := evC cl c) (f := evE cl elt) (p := p) (g := g) hj ds [] none (fun d hd => ⟨hc d hd, fun hp => hf d hd hp⟩)
  rw [set_get hj] at e
  have hown : ownOk ρ [j] = true := by
    unfold ownOk
    show ((match ρ[j]? with | some (some v) => !v.own | _ => true) && true) = true
    rw [hj]; rfl
  unfold EV evE
  rw [h1, Res.bind_ok]
  show (get (look ρ o)).bind _ = _
  rw [h2, get_some, Res.bind_ok, hi, get_some, Res.bind_ok]
  show (get (need (ownOk ρ [j]))).bind _ = _
  rw [hown]
  show ((compTurns [j] (.nm j) (evC cl c) (evE cl elt) ds [] (lockO o ρ)).noX).bind _ = _
  rw [h3, e, Res.noX_ok, Res.bind_ok]
  show Res.ok (Vl.lst ([] ++ _), unlockO ρ o ((ρ.set j o').set j (keepV ρ[j]?))) = _
  rw [h4, hj, List.set_set, show keepV (some none) = none from rfl, set_get hj, List.nil_append]
/-- without a condition -/
theorem jv_compm {j : Nat} {elt it : T} {wk : Wkd} {x : D} {ds : List D} {g : D → D} (hj : ρ[j]? = some none) (h : OPL cl it ρ x) (hi : itemsOf wk x = some ds)
    (hf : ∀ d ∈ ds, ∃ v, EV cl elt (ρ.set j (some (.dat d))) v ∧ v.frz = some (g d)) :
    EV cl (.comp elt [j] (.nm j) wk it none) ρ (.lst (ds.map g)) := by
  have e := jv_comp (cl := cl) (c := none) (p := fun _ => true) hj h hi (fun d _ => by unfold evC; rfl) (fun d hd _ => hf d hd)
  rw [List.filter_eq_self.mpr (fun _ _ => rfl)] at e
  exact e
theorem set_at {j : Nat} {v : Option Vl} (hj : ρ[j]? = some none) : (ρ.set j v)[j]? = some v := by
  have hlt : j < ρ.length := by
    cases Nat.lt_or_ge j ρ.length with
    | inl h => exact h
    | inr g => rw [List.getElem?_eq_none g] at hj; cases hj
  rw [List.getElem?_set_self hlt]
theorem boolsOf_map (p : D → Bool) : ∀ ds : List D, boolsOf (ds.map fun d => .bool (p d)) = some (ds.map p)
  | [] => rfl
  | d :: ds => by
    show (boolsOf (ds.map fun d => .bool (p d))).map _ = _
    rw [boolsOf_map p ds]; rfl
/-- all([.. for x in xs]) -/
theorem all_told {j : Nat} {elt it : T} {x : D} {ds : List D} {p : D → Bool} (hj : ρ[j]? = some none) (h : OPL cl it ρ x) (hi : itemsOf .seq x = some ds)
    (hf : ∀ d ∈ ds, EB cl elt (ρ.set j (some (.dat d))) (p d)) : blt1 .all (.list (ds.map fun d => .bool (p d))) = some (.dat (.bool (ds.all p))) ∧ OP cl (.comp elt [j] (.nm j) .seq it none) ρ (.list (ds.map fun d => .bool (p d))) := by
  refine ⟨?_, op_ev (jv_compm (g := fun d => .bool (p d)) hj h hi fun d hd => ⟨_, hf d hd, rfl⟩) rfl rfl⟩
  show (boolsOf _).map _ = _
  rw [boolsOf_map]
  show some (Vl.dat (.bool ((ds.map p).all id))) = _
  rw [List.all_map]; rfl
theorem eb_all {j : Nat} {elt it : T} {x : D} {ds : List D} {p : D → Bool} (hj : ρ[j]? = some none) (h : OPL cl it ρ x) (hi : itemsOf .seq x = some ds)
    (hf : ∀ d ∈ ds, EB cl elt (ρ.set j (some (.dat d))) (p d)) : EB cl (.blt .all (.comp elt [j] (.nm j) .seq it none)) ρ (ds.all p) :=
  jv_blt (all_told hj h hi hf).2 (all_told hj h hi hf).1
theorem tb_all {j : Nat} {elt it : T} {x : D} {ds : List D} {p : D → Bool} (hj : ρ[j]? = some none) (h : OPL cl it ρ x) (hi : itemsOf .seq x = some ds)
    (hf : ∀ d ∈ ds, EB cl elt (ρ.set j (some (.dat d))) (p d)) : TB cl (.blt .all (.comp elt [j] (.nm j) .seq it none)) ρ (ds.all p) :=
  tb_blt (all_told hj h hi hf).2 (all_told hj h hi hf).1
/-- [x for x in xs if not ..]: those that are odd -/
def odd (p : D → Bool) (ds : List D) : List D := ds.filter fun d => !p d
theorem jv_odd {j : Nat} {it c : T} {x : D} {ds : List D} {p : D → Bool} (hj : ρ[j]? = some none) (h : OPL cl it ρ x) (hi : itemsOf .seq x = some ds)
    (hf : ∀ d ∈ ds, TB cl c (ρ.set j (some (.dat d))) (p d)) : EV cl (.comp (.var j) [j] (.nm j) .seq it (some (.not c))) ρ (.lst (odd p ds)) := by
  have e := jv_comp (cl := cl) (elt := .var j) (c := some (.not c)) (p := fun d => !p d) (g := fun d => d) hj h hi (fun d hd => by unfold evC; exact tb_not (hf d hd)) (fun d _ _ => ⟨_, jv_var (set_at hj), rfl⟩)
  rw [List.map_id'] at e
  exact e
theorem op_odd {j : Nat} {it c : T} {x : D} {ds : List D} {p : D → Bool} (hj : ρ[j]? = some none) (h : OPL cl it ρ x) (hi : itemsOf .seq x = some ds)
    (hf : ∀ d ∈ ds, TB cl c (ρ.set j (some (.dat d))) (p d)) : OP cl (.comp (.var j) [j] (.nm j) .seq it (some (.not c))) ρ (.list (odd p ds)) := op_ev (jv_odd hj h hi hf) rfl rfl
theorem odd_nil {p : D → Bool} {ds : List D} : (odd p ds).isEmpty = ds.all p := by
  unfold odd
  induction ds with
  | nil => rfl
  | cons d ds ih =>
    cases h : p d with
    | true => rw [List.filter_cons_of_neg (by rw [h]; decide), List.all_cons, h, Bool.true_and]; exact ih
    | false => rw [List.filter_cons_of_pos (by rw [h]; rfl), List.all_cons, h]; rfl
/-! ### statements -/
def JS (cl : Fun) (lk : List Nat) (ss : List S) (ρ : Env) (v : Vl) (ρ' : Env) : Prop := evSs cl lk ss ρ = .ok (.ret v, ρ')
variable {lk : List Nat}
theorem js_unp {is : List Nat} {e : T} {v : Vl} {d : D} {ρ1 ρ' : Env} {w : Vl} {r : List S} (h : EV cl e ρ v) (ht : tgOk lk (.tp is) = true) (hf : v.frz = some d) (hs : store (.tp is) d ρ = some ρ1) (k : JS cl lk r ρ1 w ρ') : JS cl lk (.unp is e :: r) ρ w ρ' := by
  unfold JS evSs
  have e : evS cl lk (.unp is e) ρ = .ok (.nx, ρ1) := by
    unfold evS; rw [show evE cl e ρ = .ok (v, ρ) from h, Res.bind_ok]
    show (get (if tgOk lk (.tp is) then v.frz else none)).bind _ = _
    rw [if_pos ht, hf, get_some, Res.bind_ok]
    show (get (store (.tp is) d ρ)).bind _ = _
    rw [hs]; rfl
  rw [e]; exact k
theorem js_augi {i : Nat} {e : T} {a b : Int} {w : Vl} {r : List S} {ρ' : Env} (ha : ρ[i]? = some (some (.dat (.int a)))) (h : OP cl e ρ (.int b)) (hl : lk.contains i = false) (hi : i < ρ.length) (k : JS cl lk r (ρ.set i (some (.dat (.int (a + b))))) w ρ') : JS cl lk (.aug i .add e :: r) ρ w ρ' := by
  unfold JS evSs
  obtain ⟨o, h1, h2⟩ := h
  have e : evS cl lk (.aug i .add e) ρ = .ok (.nx, ρ.set i (some (.dat (.int (a + b))))) := by
    unfold evS
    rw [show look ρ (.pk i) = some (.int a) by unfold look; simp only [ha]; rfl, get_some, Res.bind_ok, h1, Res.bind_ok]
    show (get (look ρ o)).bind _ = _
    rw [h2, get_some, Res.bind_ok]
    show (get (putS lk ρ i _)).bind _ = _
    rw [show putS lk ρ i (.dat (.int (a + b))) = some (ρ.set i (some (.dat (.int (a + b))))) by unfold putS; rw [hl]; exact put_lt hi]; rfl
  rw [e]; exact k
theorem js_ext {i : Nat} {e : T} {ds ys : List D} {w : Vl} {r : List S} {ρ' : Env} (ha : ρ[i]? = some (some (.lst ds))) (h : OP cl e ρ (.list ys)) (hz : ds.length + ys.length ≤ 16777216) (k : JS cl lk r (ρ.set i (some (.lst (ds ++ ys)))) w ρ') : JS cl lk (.ext i e :: r) ρ w ρ' := by
  unfold JS evSs
  obtain ⟨o, h1, h2⟩ := h
  have e : evS cl lk (.ext i e) ρ = .ok (.nx, ρ.set i (some (.lst (ds ++ ys)))) := by
    unfold evS
    simp only [ha, h1, Res.bind_ok, h2, get_some]
    rw [if_pos (show sizeOk (ds.length + ys.length) = true from decide_eq_true hz)]
  rw [e]; exact k
theorem js_app {i : Nat} {e : T} {ds : List D} {v w : Vl} {d : D} {r : List S} {ρ' : Env} (ha : ρ[i]? = some (some (.lst ds))) (h : EV cl e ρ v) (hf : v.frz = some d) (hz : ds.length < 16777216) (k : JS cl lk r (ρ.set i (some (.lst (ds ++ [d])))) w ρ') : JS cl lk (.app i e :: r) ρ w ρ' := by
  unfold JS evSs
  have e : evS cl lk (.app i e) ρ = .ok (.nx, ρ.set i (some (.lst (ds ++ [d])))) := by
    unfold evS
    simp only [ha, show evE cl e ρ = .ok (v, ρ) from h, Res.bind_ok, hf, get_some]
    rw [if_pos (decide_eq_true hz)]
  rw [e]; exact k
theorem js_ret {e : T} {v : Vl} {r : List S} (hv : e.isVar = none) (h : EV cl e ρ v) : JS cl lk (.ret e :: r) ρ v ρ := by
  unfold JS evSs
  have : evS cl lk (.ret e) ρ = .ok (.ret v, ρ) := by
    unfold evS
    cases e <;> first | (cases hv; done) | (show (evE cl _ ρ).bind _ = _; rw [show evE cl _ ρ = .ok (v, ρ) from h]; rfl)
  rw [this]; rfl
theorem js_if {c : T} {a r : List S} {x : Bool} {v : Vl} {ρ' : Env} (h : TB cl c ρ x) (ht : x = true → JS cl lk a ρ v ρ') (hf : x = false → JS cl lk r ρ v ρ') : JS cl lk (.iff c a [] :: r) ρ v ρ' := by
  unfold JS evSs evS
  rw [show evT cl c ρ = .ok (x, ρ) from h, Res.bind_ok]
  cases x with
  | true =>
    show (evSs cl lk a ρ).bind _ = _
    rw [show evSs cl lk a ρ = .ok (.ret v, ρ') from ht rfl]; rfl
  | false =>
    show (evSs cl lk [] ρ).bind _ = _
    rw [show evSs cl lk [] ρ = .ok (.nx, ρ) by unfold evSs; rfl]
    exact hf rfl
theorem js_asg {i : Nat} {e : T} {w v : Vl} {r : List S} {ρ' : Env} (h : EV cl e ρ w) (hl : lk.contains i = false) (hi : i < ρ.length) (k : JS cl lk r (ρ.set i (some w)) v ρ') : JS cl lk (.asg i e :: r) ρ v ρ' := by
  unfold JS evSs
  have e : evS cl lk (.asg i e) ρ = .ok (.nx, ρ.set i (some w)) := by
    unfold evS; rw [show evE cl e ρ = .ok (w, ρ) from h, Res.bind_ok]
    show (get (putS lk ρ i w)).bind _ = _
    rw [show putS lk ρ i w = some (ρ.set i (some w)) by unfold putS; rw [hl]; exact put_lt hi]; rfl
  rw [e]; exact k
theorem run_js {d : Df} {vs : List Vl} {v : Vl} {ρ' : Env} (hl : vs.length = d.ps) (h : JS cl (lentOf vs 0) d.body (startE d.n vs) v ρ') : runF cl d vs = .ok (v, ρ'.take d.ps) := by
  unfold runF
  rw [if_pos hl, show evSs cl (lentOf vs 0) d.body (startE d.n vs) = .ok (.ret v, ρ') from h]
end
end Pv
set_option Elab.async false
set_option linter.all false
set_option maxRecDepth 100000
set_option maxHeartbeats 2100000
/-! The text that repr gives has plain signs alone; where it fits. -/
namespace Pv
open PySem
def Pl (x : Str) : Prop := ∀ c ∈ x.cps.toList, c < 0x110000
theorem Pl.ok {x : Str} (h : Pl x) : PyData.strOk x = true := by
  unfold PyData.strOk
  rw [← Array.all_toList]
  exact List.all_eq_true.mpr fun c hc => decide_eq_true (h c hc)
theorem pl_of {x : Str} (h : PyData.strOk x = true) : Pl x := fun c hc => by
  unfold PyData.strOk at h
  rw [← Array.all_toList] at h
  exact of_decide_eq_true (List.all_eq_true.mp h c hc)
theorem Pl.app {x y : Str} (h : Pl x) (k : Pl y) : Pl (x ++ y) := fun c hc => by
  have e : (x ++ y).cps.toList = x.cps.toList ++ y.cps.toList := Array.toList_append
  rw [e] at hc
  exact (List.mem_append.mp hc).elim (h c) (k c)
theorem pl_lit (s : String) : Pl (Str.ofString s) := fun c hc => by
  rw [PyProof.Rows.signs_ofString] at hc
  obtain ⟨x, _, e⟩ := List.mem_map.mp hc
  subst e
  have h := x.valid
  simp only [UInt32.isValidChar, Nat.isValidChar] at h
  show x.val.toNat < 0x110000
  omega
theorem pl_digits (c : Nat) : ∀ d ∈ (Nat.toDigits 16 c).map Char.toNat, d < 0x110000 := fun d hd => by
  obtain ⟨x, _, e⟩ := List.mem_map.mp hd
  subst e
  have h := x.valid
  simp only [UInt32.isValidChar, Nat.isValidChar] at h
  show x.val.toNat < 0x110000
  omega
theorem pl_char {q c : Nat} (hc : c < 0x110000) : ∀ d ∈ Builtin.Str.reprChar q c, d < 0x110000 := fun d hd => by
  unfold Builtin.Str.reprChar at hd
  dsimp only at hd
  have hx : ∀ w : Nat, d ∈ List.replicate (w - ((Nat.toDigits 16 c).map Char.toNat).length) 48 ++ (Nat.toDigits 16 c).map Char.toNat → d < 0x110000 := fun w h => by
    rcases List.mem_append.mp h with h | h
    · rw [(List.mem_replicate.mp h).2]; decide
    · exact pl_digits c d h
  repeat' split at hd
  all_goals first
    | (rcases List.mem_append.mp hd with h | h; (simp only [List.mem_cons, List.not_mem_nil, or_false] at h; omega); exact hx _ h)
    | (simp only [List.mem_cons, List.not_mem_nil, or_false] at hd; omega)
theorem pl_fold {q : Nat} : ∀ (l : List Nat) (acc : Array Nat), (∀ c ∈ l, c < 0x110000) → (∀ c ∈ acc.toList, c < 0x110000) → ∀ c ∈ (l.foldl (fun out c => out ++ (Builtin.Str.reprChar q c).toArray) acc).toList, c < 0x110000
  | [], acc, _, ha => ha
  | x :: r, acc, h, ha => by
    rw [List.foldl_cons]
    refine pl_fold r _ (fun c hc => h c (List.mem_cons_of_mem _ hc)) fun c hc => ?_
    rw [Array.toList_append] at hc
    rcases List.mem_append.mp hc with hc | hc
    · exact ha c hc
    · exact pl_char (h x (List.mem_cons_self ..)) c hc
theorem pl_repr {x : Str} (h : Pl x) : Pl (reprText x) := by
  have hq : reprQuote x < 0x110000 := by unfold reprQuote; split <;> decide
  intro c hc
  unfold reprText at hc
  rw [show ∀ (a : Array Nat) (b : Nat), (Str.mk (a.push b)).cps.toList = a.toList ++ [b] from fun a b => Array.toList_push] at hc
  rcases List.mem_append.mp hc with hc | hc
  · rw [← Array.foldl_toList] at hc
    exact pl_fold _ _ h (fun c hc => by rw [List.mem_singleton.mp hc]; exact hq) c hc
  · rw [List.mem_singleton.mp hc]; exact hq
theorem pl_from : ∀ (ts : List Str) (k : Nat) (acc : Str), (∀ t ∈ ts, Pl t) → Pl acc → Pl (textFrom k acc ts)
  | [], _, _, _, ha => ha
  | t :: ts, k, acc, h, ha => by
    unfold textFrom
    refine pl_from ts _ _ (fun u hu => h u (List.mem_cons_of_mem _ hu)) ((ha.app ?_).app (h t (List.mem_cons_self ..)))
    exact pl_lit _
theorem pl_list {ts : List Str} (h : ∀ t ∈ ts, Pl t) : Pl (listText ts) := (pl_from ts 0 _ h (pl_lit _)).app (pl_lit _)
theorem pl_join {a : Str} (ha : Pl a) : ∀ ts : List Str, (∀ t ∈ ts, Pl t) → Pl (Str.join a ts)
  | [], _ => fun c hc => by cases hc
  | [x], h => h x (List.mem_cons_self ..)
  | x :: y :: r, h => ((h x (List.mem_cons_self ..)).app ha).app (pl_join ha (y :: r) fun u hu => h u (List.mem_cons_of_mem _ hu))
theorem pl_tuple {ts : List Str} (h : ∀ t ∈ ts, Pl t) : Pl (tupleText ts) := ((pl_lit _).app (pl_join (pl_lit _) ts h)).app (pl_lit _)
mutual
theorem pl_shown : ∀ d : D, d.canLay0 = true → Pl d.shown
  | .none, _ => by unfold PyData.shown; exact pl_lit _
  | .bool b, _ => by unfold PyData.shown; cases b <;> exact pl_lit _
  | .int i, _ => by unfold PyData.shown; exact pl_lit _
  | .str x, h => by
    unfold PyData.shown
    unfold PyData.canLay0 at h
    exact pl_repr (pl_of h)
  | .list xs, h => by
    unfold PyData.shown
    unfold PyData.canLay0 at h
    exact pl_list (pl_shownAll xs h)
  | .tuple xs, h => by
    unfold PyData.shown
    unfold PyData.canLay0 at h
    exact pl_tuple (pl_shownAll xs h)
  | .dict _, h => by unfold PyData.canLay0 at h; cases h
theorem pl_shownAll : ∀ xs : List D, PyData.canLayAll0 xs = true → ∀ t ∈ PyData.shownAll xs, Pl t
  | [], _ => fun t ht => by unfold PyData.shownAll at ht; cases ht
  | x :: xs, h => fun t ht => by
    unfold PyData.canLayAll0 at h
    rw [Bool.and_eq_true] at h
    unfold PyData.shownAll at ht
    rcases List.mem_cons.mp ht with e | e
    · rw [e]; exact pl_shown x h.1
    · exact pl_shownAll xs h.2 t e
end
theorem shp_shown {d : D} (h : d.canLay0 = true) : shp (.str d.shown) = true := by
  unfold shp SeqAt.shaped PyData.canLay0
  rw [(pl_shown d h).ok, Bool.true_and]
  exact decide_eq_true (by unfold PyData.depth; decide)
/-- what repr may be asked of -/
structure Rpr (d : D) : Prop where
  lay : d.canLay0 = true
  lvs : d.leavesShort 64 = true
  shw : d.showable = true
  dep : d.depth ≤ 60
  wgt : d.weight ≤ 250000
theorem Rpr.run {d : D} (h : Rpr d) : blt1 .repr d = some (.dat (.str d.shown)) := by
  have h1 := PyData.shown_le 64 (by decide) d h.lvs
  have h2 := h.wgt
  refine if_pos ?_
  rw [h.lay, h.shw, decide_eq_true h.dep]
  show (true && sizeOk d.shown.length && true) = true
  rw [show sizeOk d.shown.length = true from decide_eq_true (by omega)]; rfl
end Pv
set_option Elab.async false
set_option linter.all false
set_option maxRecDepth 100000
set_option maxHeartbeats 2100000
/-! Runs that change slots, told from their end. -/
namespace Pv
open PySem
section
variable {cl : Fun} {ρ : Env} {lk : List Nat}
structure XE (cl : Fun) (e : T) (ρ : Env) (Q : Vl × Env → Prop) : Prop where
  sat : (evE cl e ρ).sat Q
structure XT (cl : Fun) (e : T) (ρ : Env) (Q : Bool × Env → Prop) : Prop where
  sat : (evT cl e ρ).sat Q
structure XD (cl : Fun) (es : List T) (ρ : Env) (Q : List D × Env → Prop) : Prop where
  sat : (evDs cl es ρ).sat Q
structure XS (cl : Fun) (lk : List Nat) (ss : List S) (ρ : Env) (Q : Flow × Env → Prop) : Prop where
  sat : (evSs cl lk ss ρ).sat Q
theorem xe_ev {e : T} {v : Vl} {Q : Vl × Env → Prop} (h : EV cl e ρ v) (q : Q (v, ρ)) : XE cl e ρ Q := by
  refine ⟨?_⟩; rw [show evE cl e ρ = .ok (v, ρ) from h]; exact q
theorem xt_tb {e : T} {b : Bool} {Q : Bool × Env → Prop} (h : TB cl e ρ b) (q : Q (b, ρ)) : XT cl e ρ Q := by
  refine ⟨?_⟩; rw [show evT cl e ρ = .ok (b, ρ) from h]; exact q
theorem xt_and {a b : T} {Q : Bool × Env → Prop} (h : XT cl a ρ fun p => match p.1 with
    | true => XT cl b p.2 Q
    | false => Q (false, p.2)) : XT cl (.and a b) ρ Q := by
  refine ⟨?_⟩; unfold evT
  rw [Res.sat_bind]
  refine Res.sat.mono h.sat fun p hp => ?_
  obtain ⟨x, ρ'⟩ := p
  cases x with
  | true => exact XT.sat hp
  | false => exact hp
theorem opnd_nv {a : T} (h : a.isVar = none) : opnd a (evE cl a) ρ = (evE cl a ρ).bind fun p => .ok (.vl p.1, p.2) := by
  unfold opnd; rw [h]
theorem opnd_var {i : Nat} {v : Vl} (h : ρ[i]? = some (some v)) : opnd (.var i) (evE cl (.var i)) ρ = .ok (.pk i, ρ) := by
  unfold opnd T.isVar; simp only [h]
theorem opnd_ev {a : T} {v : Vl} (hv : a.isVar = none) (h : EV cl a ρ v) : opnd a (evE cl a) ρ = .ok (.vl v, ρ) := by
  rw [opnd_nv hv, show evE cl a ρ = .ok (v, ρ) from h]; rfl
/-- an operand that is no name, then one that leaves the slots -/
theorem xt_cmpl {o : Cmp} {a b : T} {Q : Bool × Env → Prop} (hv : a.isVar = none) (h : XE cl a ρ fun p => ∃ x y v, p.1.view = some x ∧ OP cl b p.2 y ∧ cmp2 o x y = some v ∧ Q (v, p.2)) : XT cl (.cmp o a b) ρ Q := by
  refine ⟨?_⟩; unfold evT
  rw [opnd_nv hv, Res.sat_bind, Res.sat_bind]
  refine Res.sat.mono h.sat fun p hp => ?_
  obtain ⟨w, ρ'⟩ := p
  obtain ⟨x, y, v, e1, ⟨o', h1, h2⟩, e2, q⟩ := hp
  show ((opnd b (evE cl b) ρ').bind _).sat Q
  rw [h1, Res.bind_ok]
  show ((get w.view).bind _).sat Q
  rw [e1, get_some, Res.bind_ok]
  show ((get (look ρ' o')).bind _).sat Q
  rw [h2, get_some, Res.bind_ok, e2]
  exact q
theorem xe_binr {o : Bin} {a b : T} {p : Opn} {Q : Vl × Env → Prop} (ha : opnd a (evE cl a) ρ = .ok (p, ρ)) (hv : b.isVar = none) (h : XE cl b ρ fun q => ∃ x y v, look q.2 p = some x ∧ q.1.view = some y ∧ bin2 o x y = some v ∧ Q (v, q.2)) : XE cl (.bin o a b) ρ Q := by
  refine ⟨?_⟩; unfold evE
  rw [ha, Res.bind_ok]
  show ((opnd b (evE cl b) ρ).bind _).sat Q
  rw [opnd_nv hv, Res.sat_bind, Res.sat_bind]
  refine Res.sat.mono h.sat fun q hq => ?_
  obtain ⟨w, ρ'⟩ := q
  obtain ⟨x, y, v, e1, e2, e3, q⟩ := hq
  show ((get (look ρ' p)).bind _).sat Q
  rw [show look ρ' p = some x from e1, get_some, Res.bind_ok]
  show ((get w.view).bind _).sat Q
  rw [e2, get_some, Res.bind_ok, e3]
  exact q
theorem xe_binl {o : Bin} {a b : T} {Q : Vl × Env → Prop} (hv : a.isVar = none) (h : XE cl a ρ fun p => ∃ x y v, p.1.view = some x ∧ OP cl b p.2 y ∧ bin2 o x y = some v ∧ Q (v, p.2)) : XE cl (.bin o a b) ρ Q := by
  refine ⟨?_⟩; unfold evE
  rw [opnd_nv hv, Res.sat_bind, Res.sat_bind]
  refine Res.sat.mono h.sat fun p hp => ?_
  obtain ⟨w, ρ'⟩ := p
  obtain ⟨x, y, v, e1, ⟨o', h1, h2⟩, e2, q⟩ := hp
  show ((opnd b (evE cl b) ρ').bind _).sat Q
  rw [h1, Res.bind_ok]
  show ((get w.view).bind _).sat Q
  rw [e1, get_some, Res.bind_ok]
  show ((get (look ρ' o')).bind _).sat Q
  rw [h2, get_some, Res.bind_ok, e2]
  exact q
theorem xe_ixr {a b : T} {p : Opn} {Q : Vl × Env → Prop} (ha : opnd a (evE cl a) ρ = .ok (p, ρ)) (hv : b.isVar = none) (h : XE cl b ρ fun q => ∃ x y d, look q.2 p = some x ∧ q.1.view = some y ∧ ix2 x y = some d ∧ Q (.dat d, q.2)) : XE cl (.ix a b) ρ Q := by
  refine ⟨?_⟩; unfold evE
  rw [ha, Res.bind_ok]
  show ((opnd b (evE cl b) ρ).bind _).sat Q
  rw [opnd_nv hv, Res.sat_bind, Res.sat_bind]
  refine Res.sat.mono h.sat fun q hq => ?_
  obtain ⟨w, ρ'⟩ := q
  obtain ⟨x, y, v, e1, e2, e3, q⟩ := hq
  show ((get (look ρ' p)).bind _).sat Q
  rw [show look ρ' p = some x from e1, get_some, Res.bind_ok]
  show ((get w.view).bind _).sat Q
  rw [e2, get_some, Res.bind_ok, e3]
  exact q
theorem xe_blt {b : Blt} {e : T} {Q : Vl × Env → Prop} (hv : e.isVar = none) (h : XE cl e ρ fun p => ∃ x v, p.1.view = some x ∧ blt1 b x = some v ∧ Q (v, p.2)) : XE cl (.blt b e) ρ Q := by
  refine ⟨?_⟩; unfold evE
  rw [opnd_nv hv, Res.sat_bind, Res.sat_bind]
  refine Res.sat.mono h.sat fun p hp => ?_
  obtain ⟨w, ρ'⟩ := p
  obtain ⟨x, v, e1, e2, q⟩ := hp
  show ((get w.view).bind _).sat Q
  rw [e1, get_some, Res.bind_ok, e2]
  exact q
theorem xd_nil {Q : List D × Env → Prop} (q : Q ([], ρ)) : XD cl [] ρ Q := by refine ⟨?_⟩; unfold evDs; exact q
theorem xd_cons {e : T} {es : List T} {Q : List D × Env → Prop} (h : XE cl e ρ fun p => ∃ d, p.1.frz = some d ∧ XD cl es p.2 fun q => Q (d :: q.1, q.2)) : XD cl (e :: es) ρ Q := by
  refine ⟨?_⟩; unfold evDs
  rw [Res.sat_bind]
  refine Res.sat.mono h.sat fun p hp => ?_
  obtain ⟨w, ρ'⟩ := p
  obtain ⟨d, e1, h2⟩ := hp
  show ((get w.frz).bind _).sat Q
  rw [e1, get_some, Res.bind_ok, Res.sat_bind]
  exact h2.sat
theorem xd_dv {es : List T} {ds : List D} {Q : List D × Env → Prop} (h : DV cl es ρ ds) (q : Q (ds, ρ)) : XD cl es ρ Q := by
  refine ⟨?_⟩; rw [show evDs cl es ρ = .ok (ds, ρ) from h]; exact q
theorem xe_tup {es : List T} {Q : Vl × Env → Prop} (h : XD cl es ρ fun p => Q (.dat (.tuple p.1), p.2)) : XE cl (.tup es) ρ Q := by
  refine ⟨?_⟩; unfold evE; rw [Res.sat_bind]; exact h.sat
theorem xe_lst {es : List T} {Q : Vl × Env → Prop} (h : XD cl es ρ fun p => Q (.lst p.1, p.2)) : XE cl (.lst es) ρ Q := by
  refine ⟨?_⟩; unfold evE; rw [Res.sat_bind]; exact h.sat
/-- a call that is lent the dict in slot 0 -/
theorem xe_lend {k : Nat} {es : List T} {kvs : List (Str × D)} {vs : List Vl} {Q : Vl × Env → Prop} (h0 : ρ[0]? = some (some (.dct kvs))) (hv : AV cl es ρ vs)
    (h : (cl k (.dct kvs :: vs)).sat fun p => ∃ kvs' fin, p.2 = some (.dct kvs') :: fin ∧ fin.length = vs.length ∧ Q (p.1, ρ.set 0 (some (.dct kvs')))) : XE cl (.call k (.var 0 :: es)) ρ Q := by
  refine ⟨?_⟩; unfold evE evAs
  have e1 : argOf (.var 0) (evE cl (.var 0)) ρ = .ok (.lend 0, ρ) := by
    unfold argOf T.isVar; simp only [h0]
  rw [e1, Res.bind_ok]
  show (((evAs cl es ρ).bind _).bind _).sat Q
  rw [show evAs cl es ρ = .ok (vs.map .vl, ρ) from hv, Res.bind_ok, Res.bind_ok]
  show (doCall (cl k) (.lend 0 :: vs.map .vl) ρ).sat Q
  unfold doCall
  have hn : nodupB (lends (.lend 0 :: vs.map .vl)) = true := by
    show nodupB (0 :: lends (vs.map .vl)) = true
    rw [lends_vl]; rfl
  have ha : argVs ρ (.lend 0 :: vs.map .vl) = some (.dct kvs :: vs) := by
    show (argV ρ (.lend 0)).bind _ = _
    have : argV ρ (.lend 0) = some (.dct kvs) := by unfold argV; simp only [h0]
    rw [this]
    show (argVs ρ (vs.map .vl)).map _ = _
    rw [argVs_vl]; rfl
  rw [if_pos hn, ha, get_some, Res.bind_ok]
  obtain ⟨p, e, kvs', fin, e2, hl, q⟩ := Res.sat_iff.mp h
  obtain ⟨v, fs⟩ := p
  rw [e]
  show ((get (giveBack ρ (.lend 0 :: vs.map .vl) fs)).bind _).sat Q
  rw [show fs = some (.dct kvs') :: fin from e2]
  show ((get (giveBack (ρ.set 0 (some (.dct kvs'))) (vs.map .vl) fin)).bind _).sat Q
  rw [giveBack_vl vs fin hl]
  exact q
/-! ### statements -/
theorem xs_nil {Q : Flow × Env → Prop} (q : Q (.nx, ρ)) : XS cl lk [] ρ Q := by refine ⟨?_⟩; unfold evSs; exact q
theorem putS_ok {i : Nat} {v : Vl} (hl : lk.contains i = false) (hi : i < ρ.length) : putS lk ρ i v = some (ρ.set i (some v)) := by
  unfold putS; rw [hl]; exact put_lt hi
theorem xs_asg {i : Nat} {e : T} {r : List S} {Q : Flow × Env → Prop} (hl : lk.contains i = false) (h : XE cl e ρ fun p => i < p.2.length ∧ XS cl lk r (p.2.set i (some p.1)) Q) : XS cl lk (.asg i e :: r) ρ Q := by
  refine ⟨?_⟩; unfold evSs evS
  rw [Res.sat_bind, Res.sat_bind]
  refine Res.sat.mono h.sat fun p hp => ?_
  obtain ⟨v, ρ'⟩ := p
  obtain ⟨hi, h2⟩ := hp
  show ((get (putS lk ρ' i v)).bind _).sat _
  rw [putS_ok hl hi, get_some, Res.bind_ok]
  exact h2.sat
theorem xs_if {c : T} {a b r : List S} {Q : Flow × Env → Prop} (h : XT cl c ρ fun p => match p.1 with
    | true => XS cl lk a p.2 fun q => match q.1 with
      | .nx => XS cl lk r q.2 Q
      | f => Q (f, q.2)
    | false => XS cl lk b p.2 fun q => match q.1 with
      | .nx => XS cl lk r q.2 Q
      | f => Q (f, q.2)) : XS cl lk (.iff c a b :: r) ρ Q := by
  have go : ∀ (s : Res (Flow × Env)), (s.sat fun q => match q.1 with
      | .nx => XS cl lk r q.2 Q
      | f => Q (f, q.2)) → (s.bind fun p => match p.1 with
      | .nx => evSs cl lk r p.2
      | .brk => .ok (.brk, p.2)
      | .cnt => .ok (.cnt, p.2)
      | .ret v => .ok (.ret v, p.2)).sat Q := by
    intro s hs
    rw [Res.sat_bind]
    refine Res.sat.mono hs fun q hq => ?_
    obtain ⟨f, ρ'⟩ := q
    cases f <;> first | exact hq | exact XS.sat hq
  refine ⟨?_⟩; unfold evSs evS
  obtain ⟨p, e, hp⟩ := Res.sat_iff.mp h.sat
  rw [show evT cl c ρ = .ok p from e, Res.bind_ok]
  obtain ⟨x, ρ'⟩ := p
  cases x with
  | true => exact go _ (XS.sat hp)
  | false => exact go _ (XS.sat hp)
theorem xs_ret {e : T} {r : List S} {Q : Flow × Env → Prop} (hv : e.isVar = none) (h : XE cl e ρ fun p => Q (.ret p.1, p.2)) : XS cl lk (.ret e :: r) ρ Q := by
  have e1 : evS cl lk (.ret e) ρ = (evE cl e ρ).bind fun p => .ok (.ret p.1, p.2) := by
    unfold evS
    cases e <;> first | rfl | (cases hv; done)
  refine ⟨?_⟩; unfold evSs
  rw [e1, Res.sat_bind, Res.sat_bind]
  exact Res.sat.mono h.sat fun p hp => hp
theorem xs_app {i : Nat} {e : T} {ds : List D} {r : List S} {Q : Flow × Env → Prop} (ha : ρ[i]? = some (some (.lst ds))) (h : XE cl e ρ fun p => ∃ d ds', p.1.frz = some d ∧ p.2[i]? = some (some (.lst ds')) ∧ ds'.length < 16777216 ∧ XS cl lk r (p.2.set i (some (.lst (ds' ++ [d])))) Q) : XS cl lk (.app i e :: r) ρ Q := by
  refine ⟨?_⟩; unfold evSs evS
  simp only [ha]
  rw [Res.sat_bind, Res.sat_bind]
  refine Res.sat.mono h.sat fun p hp => ?_
  obtain ⟨v, ρ'⟩ := p
  obtain ⟨d, ds', e1, e2, hz, h2⟩ := hp
  show ((get v.frz).bind _).sat _
  rw [e1, get_some, Res.bind_ok]
  simp only [show ρ'[i]? = some (some (.lst ds')) from e2]
  rw [if_pos (decide_eq_true hz)]
  exact h2.sat
theorem xs_ext {i : Nat} {e : T} {ds : List D} {r : List S} {Q : Flow × Env → Prop} (ha : ρ[i]? = some (some (.lst ds))) (hv : e.isVar = none) (h : XE cl e ρ fun p => ∃ ys ds', p.1.view = some (.list ys) ∧ p.2[i]? = some (some (.lst ds')) ∧ ds'.length + ys.length ≤ 16777216 ∧ XS cl lk r (p.2.set i (some (.lst (ds' ++ ys)))) Q) : XS cl lk (.ext i e :: r) ρ Q := by
  refine ⟨?_⟩; unfold evSs evS
  simp only [ha]
  rw [opnd_nv hv, Res.sat_bind, Res.sat_bind, Res.sat_bind]
  refine Res.sat.mono h.sat fun p hp => ?_
  obtain ⟨v, ρ'⟩ := p
  obtain ⟨ys, ds', e1, e2, hz, h2⟩ := hp
  show ((get v.view).bind _).sat _
  rw [e1, get_some, Res.bind_ok]
  simp only [show ρ'[i]? = some (some (.lst ds')) from e2]
  rw [if_pos (show sizeOk (ds'.length + ys.length) = true from decide_eq_true hz)]
  exact h2.sat
/-- a for over what is no name, by an invariant of what is left -/
theorem xs_for {tg : Tg} {k : Wkd} {it : T} {body r : List S} {Q : Flow × Env → Prop} (hv : it.isVar = none) (ht : tgOk lk tg = true)
    (h : XE cl it ρ fun p => ∃ x ds, p.1.view = some x ∧ itemsOf k x = some ds ∧ (forTurns tg (evSs cl lk body) ds p.2).sat fun q => match q.1 with
      | .nx => XS cl lk r q.2 Q
      | f => Q (f, q.2)) : XS cl lk (.forl tg k it body :: r) ρ Q := by
  refine ⟨?_⟩; unfold evSs evS
  rw [opnd_nv hv, Res.sat_bind, Res.sat_bind, Res.sat_bind]
  refine Res.sat.mono h.sat fun p hp => ?_
  obtain ⟨v, ρ'⟩ := p
  obtain ⟨x, ds, e1, e2, h2⟩ := hp
  show ((get v.view).bind _).sat _
  rw [e1, get_some, Res.bind_ok, e2, get_some, Res.bind_ok, if_pos ht, Res.sat_bind]
  refine Res.sat.mono h2 fun q hq => ?_
  obtain ⟨f, ρ2⟩ := q
  cases f <;> first | exact hq | exact XS.sat hq
/-- .. over plain data in a slot -/
theorem xs_forv {tg : Tg} {k : Wkd} {i : Nat} {x : D} {ds : List D} {body r : List S} {Q : Flow × Env → Prop} (hx : ρ[i]? = some (some (.dat x))) (ht : tgOk lk tg = true) (e2 : itemsOf k x = some ds)
    (h : (forTurns tg (evSs cl lk body) ds ρ).sat fun q => match q.1 with
      | .nx => XS cl lk r q.2 Q
      | f => Q (f, q.2)) : XS cl lk (.forl tg k (.var i) body :: r) ρ Q := by
  obtain ⟨o, h1, h2, h3, h4⟩ := opl_var (cl := cl) hx
  refine ⟨?_⟩; unfold evSs evS
  rw [h1, Res.bind_ok]
  show (((get (look ρ o)).bind _).bind _).sat Q
  rw [h2, get_some, Res.bind_ok, e2, get_some, Res.bind_ok, if_pos ht]
  show (((forTurns tg (evSs cl lk body) ds (lockO o ρ)).bind _).bind _).sat Q
  rw [h3, Res.sat_bind, Res.sat_bind]
  refine Res.sat.mono h fun q hq => ?_
  obtain ⟨f, ρ2⟩ := q
  show (Res.ok (f, unlockO ρ o ρ2)).sat _
  rw [h4]
  cases f <;> first | exact hq | exact XS.sat hq
/-- a comprehension over what is no name -/
theorem xe_comp {elt it : T} {own : List Nat} {tg : Tg} {k : Wkd} {c : Option T} {Q : Vl × Env → Prop} (hv : it.isVar = none)
    (h : XE cl it ρ fun p => ∃ x ds, p.1.view = some x ∧ itemsOf k x = some ds ∧ ownOk p.2 own = true ∧ (compTurns own tg (evC cl c) (evE cl elt) ds [] p.2).sat fun q => Q (.lst q.1, Env.back p.2 q.2 own)) : XE cl (.comp elt own tg k it c) ρ Q := by
  refine ⟨?_⟩; unfold evE
  rw [opnd_nv hv, Res.sat_bind, Res.sat_bind]
  refine Res.sat.mono h.sat fun p hp => ?_
  obtain ⟨v, ρ'⟩ := p
  obtain ⟨x, ds, e1, e2, e3, h2⟩ := hp
  show ((get v.view).bind _).sat _
  rw [e1, get_some, Res.bind_ok, e2, get_some, Res.bind_ok]
  show ((get (need (ownOk ρ' own))).bind _).sat Q
  rw [show ownOk ρ' own = true from e3]
  show ((compTurns own tg (evC cl c) (evE cl elt) ds [] ρ').noX.bind _).sat Q
  rw [Res.sat_bind, Res.sat_noX]
  exact Res.sat.mono h2 fun q hq => hq
/-- .. over plain data in a slot -/
theorem xe_compv {elt : T} {own : List Nat} {tg : Tg} {k : Wkd} {c : Option T} {i : Nat} {x : D} {ds : List D} {Q : Vl × Env → Prop} (hx : ρ[i]? = some (some (.dat x))) (e2 : itemsOf k x = some ds) (e3 : ownOk ρ own = true)
    (h : (compTurns own tg (evC cl c) (evE cl elt) ds [] ρ).sat fun q => Q (.lst q.1, Env.back ρ q.2 own)) : XE cl (.comp elt own tg k (.var i) c) ρ Q := by
  obtain ⟨o, h1, h2, h3, h4⟩ := opl_var (cl := cl) hx
  refine ⟨?_⟩; unfold evE
  rw [h1, Res.bind_ok]
  show ((get (look ρ o)).bind _).sat Q
  rw [h2, get_some, Res.bind_ok, e2, get_some, Res.bind_ok]
  show ((get (need (ownOk ρ own))).bind _).sat Q
  rw [e3]
  show ((compTurns own tg (evC cl c) (evE cl elt) ds [] (lockO o ρ)).noX.bind _).sat Q
  rw [h3, Res.sat_bind, Res.sat_noX]
  refine Res.sat.mono h fun q hq => ?_
  obtain ⟨ys, ρ2⟩ := q
  show Q (.lst ys, unlockO ρ o (Env.back ρ ρ2 own))
  rw [h4]; exact hq
theorem XS.of {ss : List S} {Q : Flow × Env → Prop} (h : (evSs cl lk ss ρ).sat Q) : XS cl lk ss ρ Q := ⟨h⟩
theorem XE.of {e : T} {Q : Vl × Env → Prop} (h : (evE cl e ρ).sat Q) : XE cl e ρ Q := ⟨h⟩
theorem XT.of {e : T} {Q : Bool × Env → Prop} (h : (evT cl e ρ).sat Q) : XT cl e ρ Q := ⟨h⟩
end
end Pv
set_option Elab.async false
set_option linter.all false
set_option maxRecDepth 100000
set_option maxHeartbeats 2100000
namespace Pv
open PySem
section
variable {cl : Fun} {ρ : Env} {lk : List Nat}
theorem lt_of_at {j : Nat} {o : Option Vl} (h : ρ[j]? = some o) : j < ρ.length := by
  cases Nat.lt_or_ge j ρ.length with
  | inl h => exact h
  | inr g => rw [List.getElem?_eq_none g] at h; cases h
theorem turns_map {j : Nat} {f : Env → Res (Vl × Env)} {g : D → D} (hlt : j < ρ.length) : ∀ (ds acc : List D) (o : Option Vl),
    (∀ d ∈ ds, ∃ v, f (ρ.set j (some (.dat d))) = .ok (v, ρ.set j (some (.dat d))) ∧ v.frz = some (g d)) →
    ∃ o', compTurns [j] (.nm j) (evC cl none) f ds acc (ρ.set j o) = .ok (acc ++ ds.map g, ρ.set j o')
  | [], acc, o, _ => ⟨o, by unfold compTurns; rw [List.map_nil, List.append_nil]⟩
  | d :: ds, acc, o, h => by
    obtain ⟨v, e2, e3⟩ := h d (List.mem_cons_self ..)
    have ht : ∀ d' ∈ ds, _ := fun d' hd' => h d' (List.mem_cons_of_mem _ hd')
    have e1 : store (.nm j) d (Env.wipe (ρ.set j o) [j]) = some (ρ.set j (some (.dat d))) := by
      show Env.put ((ρ.set j o).set j none) j (.dat d) = _
      rw [put_lt (by rw [List.length_set, List.length_set]; exact hlt), List.set_set, List.set_set]
    obtain ⟨o', e⟩ := turns_map (g := g) hlt ds (acc ++ [g d]) (some (.dat d)) ht
    refine ⟨o', ?_⟩
    unfold compTurns
    rw [e1, get_some, Res.bind_ok, show evC cl none (ρ.set j (some (.dat d))) = .ok (true, ρ.set j (some (.dat d))) by unfold evC; rfl, Res.bind_ok, List.map_cons]
    show (f _).bind _ = _
    rw [e2, Res.bind_ok]
    show (get v.frz).bind _ = _
    rw [e3, get_some, Res.bind_ok]
    rw [List.append_assoc] at e
    exact e
/-- a comprehension over an own list -/
theorem jv_compl {i j : Nat} {o : Option Vl} {elt : T} {ds : List D} {g : D → D} (hi : ρ[i]? = some (some (.lst ds))) (hj : ρ[j]? = some o) (ho : ∀ v, o = some v → v.own = false) (hij : i ≠ j)
    (hf : ∀ d ∈ ds, ∃ v, EV cl elt ((ρ.set i (some (.lck ds))).set j (some (.dat d))) v ∧ v.frz = some (g d)) : EV cl (.comp elt [j] (.nm j) .seq (.var i) none) ρ (.lst (ds.map g)) := by
  have hlt : j < (ρ.set i (some (.lck ds))).length := by rw [List.length_set]; exact lt_of_at hj
  have hj' : (ρ.set i (some (.lck ds)))[j]? = some o := by rw [List.getElem?_set_ne hij]; exact hj
  obtain ⟨o', e⟩ := turns_map (cl := cl) (f := evE cl elt) (g := g) hlt ds [] o hf
  rw [set_get hj'] at e
  have hown : ownOk ρ [j] = true := by
    unfold ownOk
    show ((match ρ[j]? with | some (some v) => !v.own | _ => true) && true) = true
    rw [hj]
    cases o with
    | none => rfl
    | some v => show ((!v.own) && true) = true; rw [ho v rfl]; rfl
  have hlk : lockO (.pk i) ρ = ρ.set i (some (.lck ds)) := by unfold lockO; simp only [hi]
  have hlook : look ρ (.pk i) = some (.list ds) := by unfold look; simp only [hi]; rfl
  unfold EV evE
  rw [opnd_var hi, Res.bind_ok]
  show (get (look ρ (.pk i))).bind _ = _
  rw [hlook, get_some, Res.bind_ok]
  show (get (some ds)).bind _ = _
  rw [get_some, Res.bind_ok]
  show (get (need (ownOk ρ [j]))).bind _ = _
  rw [hown]
  show ((compTurns [j] (.nm j) (evC cl none) (evE cl elt) ds [] (lockO (.pk i) ρ)).noX).bind _ = _
  rw [hlk, e, Res.noX_ok, Res.bind_ok]
  show Res.ok (Vl.lst ([] ++ ds.map g), unlockO ρ (.pk i) (((ρ.set i (some (.lck ds))).set j o').set j (keepV ρ[j]?))) = _
  have hk : keepV ρ[j]? = o := by rw [hj]; cases o <;> rfl
  rw [hk, List.set_set, set_get hj', List.nil_append]
  have hu : unlockO ρ (.pk i) (ρ.set i (some (.lck ds))) = ρ := by
    unfold unlockO
    simp only [hi, List.getElem?_set_self (lt_of_at hi)]
    rw [List.set_set]
    exact set_get hi
  rw [hu]
theorem xs_asgs2 {i j : Nat} {a b : T} {v w : Vl} {r : List S} {Q : Flow × Env → Prop} (h : EV cl a ρ v) (k : EV cl b ρ w) (hi : lk.contains i = false) (hj : lk.contains j = false) (li : i < ρ.length) (lj : j < ρ.length)
    (q : XS cl lk r ((ρ.set i (some v)).set j (some w)) Q) : XS cl lk (.asgs [i, j] [a, b] :: r) ρ Q := by
  refine XS.of ?_
  have e : evS cl lk (.asgs [i, j] [a, b]) ρ = .ok (.nx, (ρ.set i (some v)).set j (some w)) := by
    unfold evS evVs evVs evVs
    rw [show evE cl a ρ = .ok (v, ρ) from h, Res.bind_ok]
    show (((evE cl b ρ).bind _).bind _).bind _ = _
    rw [show evE cl b ρ = .ok (w, ρ) from k, Res.bind_ok]
    show (get (putsS lk ρ [i, j] [v, w])).bind _ = _
    have : putsS lk ρ [i, j] [v, w] = some ((ρ.set i (some v)).set j (some w)) := by
      unfold putsS
      rw [putS_ok hi li, Option.bind_some]
      unfold putsS
      rw [putS_ok hj (by rw [List.length_set]; exact lj), Option.bind_some]
      unfold putsS; rfl
    rw [this]; rfl
  unfold evSs
  rw [e]
  exact q.sat
/-- what a call gives -/
structure CS (r : Res (Vl × List (Option Vl))) (P : Vl × List (Option Vl) → Prop) : Prop where
  sat : r.sat P
theorem CS.of {r : Res (Vl × List (Option Vl))} {P : Vl × List (Option Vl) → Prop} (h : r.sat P) : CS r P := ⟨h⟩
theorem CS.mono {r : Res (Vl × List (Option Vl))} {P R : Vl × List (Option Vl) → Prop} (h : CS r P) (k : ∀ p, P p → R p) : CS r R := ⟨Res.sat.mono h.sat k⟩
theorem cs_run {Ps : List Df} {n k : Nat} {d : Df} {vs : List Vl} {P : Vl × List (Option Vl) → Prop} (hd : Ps[k]? = some d) (hl : vs.length = d.ps)
    (h : XS (evF Ps n) (lentOf vs 0) d.body (startE d.n vs) fun p => match p.1 with
      | .ret v => P (v, p.2.take d.ps)
      | _ => False) : CS (evF Ps (n + 1) k vs) P := by
  have e : evF Ps (n + 1) k vs = runF (evF Ps n) d vs := by
    show (match Ps[k]? with | some d => runF (evF Ps n) d vs | none => if 1000 ≤ k then evF Ps n (k - 1000) vs else .stuck) = _
    rw [hd]
  refine CS.of ?_
  rw [e]
  refine runF_sat hl (Res.sat.mono h.sat fun p hp => ?_)
  obtain ⟨f, ρ'⟩ := p
  cases f with
  | ret v => exact hp
  | nx => exact hp.elim
  | brk => exact hp.elim
  | cnt => exact hp.elim
theorem xe_lendc {k : Nat} {es : List T} {kvs : List (Str × D)} {vs : List Vl} {Q : Vl × Env → Prop} (h0 : ρ[0]? = some (some (.dct kvs))) (hv : AV cl es ρ vs)
    (h : CS (cl k (.dct kvs :: vs)) fun p => ∃ kvs' fin, p.2 = some (.dct kvs') :: fin ∧ fin.length = vs.length ∧ Q (p.1, ρ.set 0 (some (.dct kvs')))) : XE cl (.call k (.var 0 :: es)) ρ Q := xe_lend h0 hv h.sat
end
end Pv
set_option Elab.async false
set_option linter.all false
set_option maxRecDepth 100000
set_option maxHeartbeats 2100000
namespace Pv
open PySem
section
variable {cl : Fun} {ρ : Env} {lk : List Nat}
/-- a call that is lent the dict in any slot -/
theorem xe_lendi {i k : Nat} {es : List T} {kvs : List (Str × D)} {vs : List Vl} {Q : Vl × Env → Prop} (h0 : ρ[i]? = some (some (.dct kvs))) (hv : AV cl es ρ vs)
    (h : CS (cl k (.dct kvs :: vs)) fun p => ∃ kvs' fin, p.2 = some (.dct kvs') :: fin ∧ fin.length = vs.length ∧ Q (p.1, ρ.set i (some (.dct kvs')))) : XE cl (.call k (.var i :: es)) ρ Q := by
  refine XE.of ?_
  obtain ⟨p, e, kvs', fin, e2, hl, q⟩ := Res.sat_iff.mp h.sat
  obtain ⟨v, fs⟩ := p
  unfold evE evAs
  have e1 : argOf (.var i) (evE cl (.var i)) ρ = .ok (.lend i, ρ) := by
    unfold argOf T.isVar; simp only [h0]
  rw [e1, Res.bind_ok]
  show (((evAs cl es ρ).bind _).bind _).sat Q
  rw [show evAs cl es ρ = .ok (vs.map .vl, ρ) from hv, Res.bind_ok, Res.bind_ok]
  show (doCall (cl k) (.lend i :: vs.map .vl) ρ).sat Q
  unfold doCall
  have hn : nodupB (lends (.lend i :: vs.map .vl)) = true := by
    show nodupB (i :: lends (vs.map .vl)) = true
    rw [lends_vl]; rfl
  have ha : argVs ρ (.lend i :: vs.map .vl) = some (.dct kvs :: vs) := by
    show (argV ρ (.lend i)).bind _ = _
    have : argV ρ (.lend i) = some (.dct kvs) := by unfold argV; simp only [h0]
    rw [this]
    show (argVs ρ (vs.map .vl)).map _ = _
    rw [argVs_vl]; rfl
  rw [if_pos hn, ha, get_some, Res.bind_ok, e]
  show ((get (giveBack ρ (.lend i :: vs.map .vl) fs)).bind _).sat Q
  rw [show fs = some (.dct kvs') :: fin from e2]
  show ((get (giveBack (ρ.set i (some (.dct kvs'))) (vs.map .vl) fin)).bind _).sat Q
  rw [giveBack_vl vs fin hl]
  exact q
theorem jv_scr {i : Nat} {ns : List Int} (h : ρ[i]? = some (some (.scr ns))) : EV cl (.var i) ρ (.scr ns) := by
  unfold EV evE; rw [h]
theorem ar_scr {i : Nat} {ns : List Int} (h : ρ[i]? = some (some (.scr ns))) : AR cl (.var i) ρ (.scr ns) := by
  unfold AR argOf T.isVar
  simp only [h]
  rw [show evE cl (.var i) ρ = .ok (.scr ns, ρ) from jv_scr h, Res.bind_ok]; rfl
theorem jv_cut {i n : Nat} {ns : List Int} (h : ρ[i]? = some (some (.scr ns))) : EV cl (.cut i n) ρ (.lst ((ns.take n).map .int)) := by
  unfold EV evE; rw [h]
theorem jv_dct {ks : List Str} {es : List T} {ds : List D} (h : DV cl es ρ ds) : EV cl (.dct ks es) ρ (.dct (ks.zip ds)) := by
  unfold EV evE; rw [show evDs cl es ρ = .ok (ds, ρ) from h]; rfl
theorem jv_sls {a b : T} {k : Nat} {x y : D} {v : Vl} (h : OP cl a ρ x) (m : OP cl b ρ y) (hv : steps2 k x y = some v) : EV cl (.sls a b k) ρ v := by
  obtain ⟨p, h1, h2⟩ := h
  obtain ⟨q, k1, k2⟩ := m
  unfold EV evE; rw [h1, Res.bind_ok]
  show (opnd b (evE cl b) ρ).bind _ = _
  rw [k1, Res.bind_ok]
  show (get (look ρ p)).bind _ = _
  rw [h2, get_some, Res.bind_ok]
  show (get (look ρ q)).bind _ = _
  rw [k2, get_some, Res.bind_ok, hv]; rfl
theorem turns_none {j : Nat} {c : Env → Res (Bool × Env)} {f : Env → Res (Vl × Env)} (hlt : j < ρ.length) : ∀ (ds acc : List D) (o : Option Vl),
    (∀ d ∈ ds, c (ρ.set j (some (.dat d))) = .ok (false, ρ.set j (some (.dat d)))) →
    ∃ o', compTurns [j] (.nm j) c f ds acc (ρ.set j o) = .ok (acc, ρ.set j o')
  | [], acc, o, _ => ⟨o, by unfold compTurns; rfl⟩
  | d :: ds, acc, o, h => by
    have e2 := h d (List.mem_cons_self ..)
    have ht : ∀ d' ∈ ds, _ := fun d' hd' => h d' (List.mem_cons_of_mem _ hd')
    have e1 : store (.nm j) d (Env.wipe (ρ.set j o) [j]) = some (ρ.set j (some (.dat d))) := by
      show Env.put ((ρ.set j o).set j none) j (.dat d) = _
      rw [put_lt (by rw [List.length_set, List.length_set]; exact hlt), List.set_set, List.set_set]
    obtain ⟨o', e⟩ := turns_none (c := c) (f := f) hlt ds acc (some (.dat d)) ht
    refine ⟨o', ?_⟩
    unfold compTurns
    rw [e1, get_some, Res.bind_ok, e2, Res.bind_ok]
    exact e
/-- [x for x in own if not ..], where all are as they should be -/
theorem jv_allr {i j : Nat} {o : Option Vl} {elt c : T} {ds : List D} (hi : ρ[i]? = some (some (.lst ds))) (hj : ρ[j]? = some o) (ho : ∀ v, o = some v → v.own = false) (hij : i ≠ j)
    (hf : ∀ d ∈ ds, TB cl c ((ρ.set i (some (.lck ds))).set j (some (.dat d))) true) : EV cl (.comp elt [j] (.nm j) .seq (.var i) (some (.not c))) ρ (.lst []) := by
  have hlt : j < (ρ.set i (some (.lck ds))).length := by rw [List.length_set]; exact lt_of_at hj
  have hj' : (ρ.set i (some (.lck ds)))[j]? = some o := by rw [List.getElem?_set_ne hij]; exact hj
  obtain ⟨o', e⟩ := turns_none (c := evC cl (some (.not c))) (f := evE cl elt) hlt ds [] o (fun d hd => by unfold evC; exact tb_not (hf d hd))
  rw [set_get hj'] at e
  have hown : ownOk ρ [j] = true := by
    unfold ownOk
    show ((match ρ[j]? with | some (some v) => !v.own | _ => true) && true) = true
    rw [hj]
    cases o with
    | none => rfl
    | some v => show ((!v.own) && true) = true; rw [ho v rfl]; rfl
  have hlk : lockO (.pk i) ρ = ρ.set i (some (.lck ds)) := by unfold lockO; simp only [hi]
  have hlook : look ρ (.pk i) = some (.list ds) := by unfold look; simp only [hi]; rfl
  unfold EV evE
  rw [opnd_var hi, Res.bind_ok]
  show (get (look ρ (.pk i))).bind _ = _
  rw [hlook, get_some, Res.bind_ok]
  show (get (some ds)).bind _ = _
  rw [get_some, Res.bind_ok]
  show (get (need (ownOk ρ [j]))).bind _ = _
  rw [hown]
  show ((compTurns [j] (.nm j) (evC cl (some (.not c))) (evE cl elt) ds [] (lockO (.pk i) ρ)).noX).bind _ = _
  rw [hlk, e, Res.noX_ok, Res.bind_ok]
  show Res.ok (Vl.lst [], unlockO ρ (.pk i) (((ρ.set i (some (.lck ds))).set j o').set j (keepV ρ[j]?))) = _
  have hk : keepV ρ[j]? = o := by rw [hj]; cases o <;> rfl
  rw [hk, List.set_set, set_get hj']
  have hu : unlockO ρ (.pk i) (ρ.set i (some (.lck ds))) = ρ := by
    unfold unlockO
    simp only [hi, List.getElem?_set_self (lt_of_at hi)]
    rw [List.set_set]
    exact set_get hi
  rw [hu]
end
end Pv
set_option Elab.async false
set_option linter.all false
set_option maxRecDepth 100000
set_option maxHeartbeats 2100000
namespace Pv
open PySem
section
variable {cl : Fun} {ρ : Env} {lk : List Nat}
def FV (cl : Fun) (es : List T) (acc : Str) (ρ : Env) (z : Str) : Prop := evFs cl es acc ρ = .ok (z, ρ)
theorem fv_nil {acc : Str} : FV cl [] acc ρ acc := by unfold FV evFs; rfl
theorem fv_cons {e : T} {es : List T} {acc y z : Str} {v : Vl} (h : EV cl e ρ v) (hy : txtOf v = some y) (hz : (acc ++ y).length ≤ 16777216) (k : FV cl es (acc ++ y) ρ z) : FV cl (e :: es) acc ρ z := by
  unfold FV evFs
  rw [show evE cl e ρ = .ok (v, ρ) from h, Res.bind_ok]
  show (get (txtOf v)).bind _ = _
  rw [hy, get_some, Res.bind_ok, if_pos (show sizeOk (acc ++ y).length = true from decide_eq_true hz)]
  exact k
theorem jv_fstr {es : List T} {z : Str} (h : FV cl es Str.empty ρ z) : EV cl (.fstr es) ρ (.dat (.str z)) := by
  unfold EV evE; rw [show evFs cl es Str.empty ρ = .ok (z, ρ) from h]; rfl
theorem jv_join {a e : T} {s z : Str} {x : D} (h : EV cl a ρ (.dat (.str s))) (k : OP cl e ρ x) (hz : join2 s x = some z) : EV cl (.join a e) ρ (.dat (.str z)) := by
  obtain ⟨o, h1, h2⟩ := k
  unfold EV evE; rw [show evE cl a ρ = .ok (.dat (.str s), ρ) from h, Res.bind_ok]
  show (get (some s)).bind _ = _
  rw [get_some, Res.bind_ok]
  show (opnd e (evE cl e) ρ).bind _ = _
  rw [h1, Res.bind_ok]
  show (get (look ρ o)).bind _ = _
  rw [h2, get_some, Res.bind_ok, hz]; rfl
theorem jv_ite {c a b : T} {x : Bool} {v : Vl} (h : TB cl c ρ x) (ht : x = true → EV cl a ρ v) (hf : x = false → EV cl b ρ v) : EV cl (.ite c a b) ρ v := by
  unfold EV evE; rw [show evT cl c ρ = .ok (x, ρ) from h, Res.bind_ok]
  cases x with
  | true => exact ht rfl
  | false => exact hf rfl
theorem xe_ite {c a b : T} {x : Bool} {Q : Vl × Env → Prop} (h : TB cl c ρ x) (ht : x = true → XE cl a ρ Q) (hf : x = false → XE cl b ρ Q) : XE cl (.ite c a b) ρ Q := by
  refine ⟨?_⟩
  unfold evE; rw [show evT cl c ρ = .ok (x, ρ) from h, Res.bind_ok]
  cases x with
  | true => exact (ht rfl).sat
  | false => exact (hf rfl).sat
/-- the two slots of a pair -/
def two (ρ : Env) (a b : Nat) (o o' : Option Vl) : Env := (ρ.set a o).set b o'
theorem two_wipe {a b : Nat} {o o' : Option Vl} (ha : ρ[a]? = some none) (hb : ρ[b]? = some none) (hab : a ≠ b) : Env.wipe (two ρ a b o o') [a, b] = ρ := by
  show ((((ρ.set a o).set b o').set b none).set a none) = ρ
  rw [List.set_set, List.set_comm _ _ (Ne.symm hab), List.set_set, set_get ha, set_get hb]
theorem turns_two {a b : Nat} {f : Env → Res (Vl × Env)} {g : D → D} (ha : ρ[a]? = some none) (hb : ρ[b]? = some none) (hab : a ≠ b) : ∀ (ds acc : List D) (o o' : Option Vl),
    (∀ d ∈ ds, ∃ x y v, d = .tuple [x, y] ∧ f (two ρ a b (some (.dat x)) (some (.dat y))) = .ok (v, two ρ a b (some (.dat x)) (some (.dat y))) ∧ v.frz = some (g d)) →
    ∃ p p', compTurns [a, b] (.tp [a, b]) (evC cl none) f ds acc (two ρ a b o o') = .ok (acc ++ ds.map g, two ρ a b p p')
  | [], acc, o, o', _ => ⟨o, o', by unfold compTurns; rw [List.map_nil, List.append_nil]⟩
  | d :: ds, acc, o, o', h => by
    obtain ⟨x, y, v, ed, e2, e3⟩ := h d (List.mem_cons_self ..)
    have ht : ∀ d' ∈ ds, _ := fun d' hd' => h d' (List.mem_cons_of_mem _ hd')
    have e1 : store (.tp [a, b]) d (Env.wipe (two ρ a b o o') [a, b]) = some (two ρ a b (some (.dat x)) (some (.dat y))) := by
      rw [two_wipe ha hb hab, ed]
      show (Env.put ρ a (.dat x)).bind _ = _
      rw [put_lt (lt_of_at ha), Option.bind_some]
      show (Env.put (ρ.set a (some (.dat x))) b (.dat y)).bind _ = _
      rw [put_lt (by rw [List.length_set]; exact lt_of_at hb)]; rfl
    obtain ⟨p, p', e⟩ := turns_two (g := g) ha hb hab ds (acc ++ [g d]) (some (.dat x)) (some (.dat y)) ht
    refine ⟨p, p', ?_⟩
    unfold compTurns
    rw [e1, get_some, Res.bind_ok, show evC cl none (two ρ a b (some (.dat x)) (some (.dat y))) = .ok (true, two ρ a b (some (.dat x)) (some (.dat y))) by unfold evC; rfl, Res.bind_ok, List.map_cons]
    show (f _).bind _ = _
    rw [e2, Res.bind_ok]
    show (get v.frz).bind _ = _
    rw [e3, get_some, Res.bind_ok]
    rw [List.append_assoc] at e
    exact e
theorem jv_comp2 {a b : Nat} {elt it : T} {x : D} {ds : List D} {g : D → D} (ha : ρ[a]? = some none) (hb : ρ[b]? = some none) (hab : a ≠ b) (h : OPL cl it ρ x) (hi : itemsOf .seq x = some ds)
    (hf : ∀ d ∈ ds, ∃ x y v, d = .tuple [x, y] ∧ EV cl elt (two ρ a b (some (.dat x)) (some (.dat y))) v ∧ v.frz = some (g d)) :
    EV cl (.comp elt [a, b] (.tp [a, b]) .seq it none) ρ (.lst (ds.map g)) := by
  obtain ⟨o, h1, h2, h3, h4⟩ := h
  obtain ⟨p, p', e⟩ := turns_two (cl := cl) (f := evE cl elt) (g := g) ha hb hab ds [] none none hf
  have e0 : two ρ a b none none = ρ := by unfold two; rw [set_get ha, set_get hb]
  rw [e0] at e
  have hown : ownOk ρ [a, b] = true := by
    unfold ownOk
    show ((match ρ[a]? with | some (some v) => !v.own | _ => true) && ((match ρ[b]? with | some (some v) => !v.own | _ => true) && true)) = true
    rw [ha, hb]; rfl
  unfold EV evE
  rw [h1, Res.bind_ok]
  show (get (look ρ o)).bind _ = _
  rw [h2, get_some, Res.bind_ok, hi, get_some, Res.bind_ok]
  show (get (need (ownOk ρ [a, b]))).bind _ = _
  rw [hown]
  show ((compTurns [a, b] (.tp [a, b]) (evC cl none) (evE cl elt) ds [] (lockO o ρ)).noX).bind _ = _
  rw [h3, e, Res.noX_ok, Res.bind_ok]
  have hback : Env.back ρ (two ρ a b p p') [a, b] = ρ := by
    show (((two ρ a b p p').set b (keepV ρ[b]?)).set a (keepV ρ[a]?)) = ρ
    rw [ha, hb]
    exact two_wipe ha hb hab
  show Res.ok (Vl.lst ([] ++ ds.map g), unlockO ρ o (Env.back ρ (two ρ a b p p') [a, b])) = _
  rw [h4, hback, List.nil_append]
theorem strsOf_mapS : ∀ ts : List Str, strsOf (ts.map .str) = some ts
  | [] => rfl
  | t :: ts => by
    show (strsOf (ts.map .str)).map _ = _
    rw [strsOf_mapS ts]; rfl
/-- what join gives of a list of texts, each of at most n signs -/
theorem join_run {s : Str} {ts : List Str} {n m : Nat} (h : ∀ t ∈ ts, t.length ≤ n) (hl : ts.length ≤ m) (hz : m * (n + s.length) ≤ 16777216) : join2 s (.list (ts.map .str)) = some (Txt.join s ts) := by
  have hs : ∀ us : List Str, (∀ t ∈ us, t.length ≤ n) → (us.map (·.length)).sum + us.length * s.length ≤ us.length * (n + s.length) := by
    intro us
    induction us with
    | nil => intro _; simp
    | cons u us ih =>
      intro hu
      have h1 := hu u (List.mem_cons_self ..)
      have h2 := ih fun t ht => hu t (List.mem_cons_of_mem _ ht)
      rw [List.map_cons, List.sum_cons, List.length_cons, Nat.add_mul, Nat.add_mul]
      omega
  have hb := hs ts h
  have hb2 : ts.length * (n + s.length) ≤ m * (n + s.length) := Nat.mul_le_mul_right _ hl
  show ((strsOf (ts.map .str)).bind _) = _
  rw [strsOf_mapS, Option.bind_some, if_pos (decide_eq_true (by omega))]
theorem join_runT {s : Str} {ts : List Str} {n m : Nat} (h : ∀ t ∈ ts, t.length ≤ n) (hl : ts.length ≤ m) (hz : m * (n + s.length) ≤ 16777216) : join2 s (.tuple (ts.map .str)) = some (Txt.join s ts) := join_run h hl hz
/-- repr of a text -/
theorem repr_str {x : Str} (h : Pl x) (hl : x.length ≤ 1000000) : blt1 .repr (.str x) = some (.dat (.str (PyData.str x).shown)) := by
  have h1 : (PyData.str x).shown.length ≤ 10 * x.length + 2 := by
    unfold PyData.shown
    exact StrLaws.reprText_len x fun c hc => by have := h c hc; omega
  refine if_pos ?_
  have h2 : (PyData.str x).canLay0 = true := by unfold PyData.canLay0; exact h.ok
  have h3 : (PyData.str x).showable = true := by unfold PyData.showable; rfl
  have h4 : (PyData.str x).depth = 0 := by unfold PyData.depth; rfl
  rw [h2, h3, h4]
  show (true && sizeOk (PyData.str x).shown.length && true) = true
  rw [show sizeOk (PyData.str x).shown.length = true from decide_eq_true (by omega)]; rfl
end
end Pv
set_option Elab.async false
set_option linter.all false
set_option maxRecDepth 100000
/-! Runs of a suite that holds an error. -/
namespace Pv
open PySem
section
variable {cl : Fun} {ρ : Env} {i c : Nat} {fs : List (Str × D)} {cs : List Nat}
theorem jv_isx (h : ρ[i]? = some (some (.err c fs))) : EV cl (.isx i cs) ρ (.dat (.bool (cs.contains c))) := by
  unfold EV evE
  rw [h]
theorem tb_isx (h : ρ[i]? = some (some (.err c fs))) : TB cl (.isx i cs) ρ (cs.contains c) := by
  unfold TB evT
  rw [h]
theorem jv_xfl {f : Str} {d : D} (h : ρ[i]? = some (some (.err c fs))) (e : xfield fs f = some d) : EV cl (.xfl i f) ρ (.dat d) := by
  unfold EV evE
  rw [h]
  show (get (xfield fs f)).bind _ = _
  rw [e]
  rfl
end
end Pv
set_option Elab.async false
set_option linter.all false
set_option maxRecDepth 100000
set_option maxHeartbeats 4100000
/-! Small data: leaves, depth, weight. -/
namespace Pv
open PySem
mutual
/-- numbers up to a thousand, plain signs -/
def sl : D → Bool
  | .none => true
  | .bool _ => true
  | .int i => decide (i.natAbs ≤ 1000)
  | .str x => x.cps.toList.all (· < 128)
  | .list xs => slAll xs
  | .tuple xs => slAll xs
  | .dict _ => false
def slAll : List D → Bool
  | [] => true
  | x :: xs => sl x && slAll xs
end
theorem slAll_iff : ∀ {xs : List D}, slAll xs = true ↔ ∀ x ∈ xs, sl x = true
  | [] => by unfold slAll; exact ⟨fun _ _ h => (nomatch h), fun _ => rfl⟩
  | x :: xs => by
    unfold slAll
    rw [Bool.and_eq_true, slAll_iff (xs := xs)]
    exact ⟨fun h y hy => (List.mem_cons.mp hy).elim (fun e => e ▸ h.1) (h.2 y), fun h => ⟨h x (List.mem_cons_self ..), fun y hy => h y (List.mem_cons_of_mem _ hy)⟩⟩
theorem pl_asc {x : Str} (h : ∀ c ∈ x.cps.toList, c < 128) : Pl x := fun c hc => by have := h c hc; omega
theorem len_nums : ∀ j : _root_.Fin 2001, decide ((Str.ofString (toString ((j.val : Int) - 1000))).length ≤ 64) = true := by decide +kernel
theorem sig_nums : ∀ j : _root_.Fin 2001, ((Str.ofString (toString ((j.val : Int) - 1000))).cps.toList.all (· < 128)) = true := by decide +kernel
theorem len_num {i : Int} (h : i.natAbs ≤ 1000) : (Str.ofString (toString i)).length ≤ 64 := by
  have e := len_nums ⟨(i + 1000).toNat, by omega⟩
  have e2 : (((i + 1000).toNat : Nat) : Int) - 1000 = i := by omega
  rw [show ((⟨(i + 1000).toNat, by omega⟩ : _root_.Fin 2001).val : Int) - 1000 = i from e2] at e
  exact of_decide_eq_true e
theorem sig_num {i : Int} (h : i.natAbs ≤ 1000) : ∀ c ∈ (Str.ofString (toString i)).cps.toList, c < 128 := by
  have e := sig_nums ⟨(i + 1000).toNat, by omega⟩
  have e2 : (((i + 1000).toNat : Nat) : Int) - 1000 = i := by omega
  rw [show ((⟨(i + 1000).toNat, by omega⟩ : _root_.Fin 2001).val : Int) - 1000 = i from e2] at e
  exact fun c hc => of_decide_eq_true (List.all_eq_true.mp e c hc)
theorem log_num {i : Int} (h : i.natAbs ≤ 1000) : i.natAbs.log2 < 10 := by
  by_cases h0 : i.natAbs = 0
  · rw [h0]; decide
  · exact (Nat.log2_lt h0).mpr (show i.natAbs < 2 ^ 10 by omega)
mutual
theorem sl_good : ∀ d : D, sl d = true → d.canLay0 = true ∧ d.leavesShort 64 = true ∧ d.showable = true
  | .none, _ => ⟨by unfold PyData.canLay0; rfl, by unfold PyData.leavesShort; rfl, by unfold PyData.showable; rfl⟩
  | .bool _, _ => ⟨by unfold PyData.canLay0; rfl, by unfold PyData.leavesShort; rfl, by unfold PyData.showable; rfl⟩
  | .int i, h => by
    unfold sl at h
    have h' := of_decide_eq_true h
    refine ⟨by unfold PyData.canLay0; rfl, ?_, ?_⟩
    · unfold PyData.leavesShort
      refine decide_eq_true ?_
      unfold PyData.shown
      exact len_num h'
    · unfold PyData.showable
      exact decide_eq_true (by have := log_num h'; omega)
  | .str x, h => by
    unfold sl at h
    have hx : ∀ c ∈ x.cps.toList, c < 128 := fun c hc => of_decide_eq_true (List.all_eq_true.mp h c hc)
    refine ⟨by unfold PyData.canLay0; exact (pl_asc hx).ok, ?_, by unfold PyData.showable; rfl⟩
    unfold PyData.leavesShort
    exact List.all_eq_true.mpr fun c hc => decide_eq_true (by have := hx c hc; omega)
  | .list xs, h => by
    unfold sl at h
    unfold PyData.canLay0 PyData.leavesShort PyData.showable
    exact sl_goods xs h
  | .tuple xs, h => by
    unfold sl at h
    unfold PyData.canLay0 PyData.leavesShort PyData.showable
    exact sl_goods xs h
  | .dict _, h => by unfold sl at h; cases h
theorem sl_goods : ∀ xs : List D, slAll xs = true → PyData.canLayAll0 xs = true ∧ PyData.leavesShortAll 64 xs = true ∧ PyData.showableAll xs = true
  | [], _ => ⟨by unfold PyData.canLayAll0; rfl, by unfold PyData.leavesShortAll; rfl, by unfold PyData.showableAll; rfl⟩
  | x :: xs, h => by
    unfold slAll at h
    rw [Bool.and_eq_true] at h
    obtain ⟨h1, h2, h3⟩ := sl_good x h.1
    obtain ⟨k1, k2, k3⟩ := sl_goods xs h.2
    unfold PyData.canLayAll0 PyData.leavesShortAll PyData.showableAll
    rw [h1, h2, h3, k1, k2, k3]
    exact ⟨rfl, rfl, rfl⟩
end
/-- small: of depth k, of weight w at most -/
structure Sz (k w : Nat) (d : D) : Prop where
  lv : sl d = true
  dp : d.depth ≤ k
  wt : d.weight ≤ w
def szB (k w : Nat) (d : D) : Bool := sl d && (decide (d.depth ≤ k) && decide (d.weight ≤ w))
theorem sz_of {k w : Nat} {d : D} (h : szB k w d = true) : Sz k w d := by
  unfold szB at h
  rw [Bool.and_eq_true, Bool.and_eq_true] at h
  exact ⟨h.1, of_decide_eq_true h.2.1, of_decide_eq_true h.2.2⟩
theorem Sz.mono {k w k' w' : Nat} {d : D} (h : Sz k w d) (hk : k ≤ k') (hw : w ≤ w') : Sz k' w' d := ⟨h.lv, Nat.le_trans h.dp hk, Nat.le_trans h.wt hw⟩
theorem Sz.rpr {k w : Nat} {d : D} (h : Sz k w d) (hk : k ≤ 60) (hw : w ≤ 250000) : Rpr d :=
  ⟨(sl_good d h.lv).1, (sl_good d h.lv).2.1, (sl_good d h.lv).2.2, Nat.le_trans h.dp hk, Nat.le_trans h.wt hw⟩
theorem Sz.shp {k w : Nat} {d : D} (h : Sz k w d) (hk : k ≤ 60) : shp d = true := by
  unfold Pv.shp SeqAt.shaped
  rw [(sl_good d h.lv).1, Bool.true_and]
  exact decide_eq_true (by have := h.dp; show _ ≤ 64; omega)
theorem z_wgt_nil : PyData.weightAll [] = 0 := by unfold PyData.weightAll; rfl
theorem z_wgt_cons (x : D) (xs : List D) : PyData.weightAll (x :: xs) = x.weight + 1 + PyData.weightAll xs := by conv => lhs; unfold PyData.weightAll
theorem z_wgt_app : ∀ xs ys : List D, PyData.weightAll (xs ++ ys) = PyData.weightAll xs + PyData.weightAll ys
  | [], ys => by rw [List.nil_append, z_wgt_nil, Nat.zero_add]
  | x :: xs, ys => by rw [List.cons_append, z_wgt_cons, z_wgt_cons, z_wgt_app xs ys]; omega
theorem z_wgt_le {w : Nat} : ∀ {xs : List D}, (∀ x ∈ xs, x.weight ≤ w) → PyData.weightAll xs ≤ xs.length * (w + 1)
  | [], _ => by unfold PyData.weightAll; omega
  | x :: xs, h => by
    unfold PyData.weightAll
    have h1 := h x (List.mem_cons_self ..)
    have h2 := z_wgt_le (xs := xs) fun y hy => h y (List.mem_cons_of_mem _ hy)
    rw [List.length_cons, Nat.add_mul]
    omega
theorem z_dep_all {k : Nat} : ∀ {xs : List D}, (∀ x ∈ xs, x.depth ≤ k) → PyData.depthAll xs ≤ k
  | [], _ => by unfold PyData.depthAll; omega
  | x :: xs, h => by
    unfold PyData.depthAll
    have h1 := h x (List.mem_cons_self ..)
    have h2 := z_dep_all (xs := xs) fun y hy => h y (List.mem_cons_of_mem _ hy)
    omega
theorem z_all_dep : ∀ {xs : List D} {x : D}, x ∈ xs → x.depth ≤ PyData.depthAll xs
  | y :: ys, x, h => by
    unfold PyData.depthAll
    rcases List.mem_cons.mp h with e | h
    · rw [e]; omega
    · have := z_all_dep h; omega
theorem z_all_wgt : ∀ {xs : List D} {x : D}, x ∈ xs → x.weight + 1 ≤ PyData.weightAll xs
  | y :: ys, x, h => by
    rw [z_wgt_cons]
    rcases List.mem_cons.mp h with e | h
    · rw [e]; omega
    · have := z_all_wgt h; omega
theorem z_w_tup (xs : List D) : (PyData.tuple xs).weight = PyData.weightAll xs := by unfold PyData.weight; rfl
theorem z_w_lst (xs : List D) : (PyData.list xs).weight = PyData.weightAll xs := by unfold PyData.weight; rfl
theorem z_d_tup (xs : List D) : (PyData.tuple xs).depth = PyData.depthAll xs + 1 := by unfold PyData.depth; rfl
theorem z_d_lst (xs : List D) : (PyData.list xs).depth = PyData.depthAll xs + 1 := by unfold PyData.depth; rfl
theorem sz_tuple {k w : Nat} {xs : List D} (h : ∀ x ∈ xs, sl x = true ∧ x.depth ≤ k) (hw : PyData.weightAll xs ≤ w) : Sz (k + 1) w (.tuple xs) :=
  ⟨by unfold sl; exact slAll_iff.mpr fun x hx => (h x hx).1, by rw [z_d_tup]; exact Nat.succ_le_succ (z_dep_all fun x hx => (h x hx).2), by rw [z_w_tup]; exact hw⟩
theorem sz_list {k w : Nat} {xs : List D} (h : ∀ x ∈ xs, sl x = true ∧ x.depth ≤ k) (hw : PyData.weightAll xs ≤ w) : Sz (k + 1) w (.list xs) :=
  ⟨by unfold sl; exact slAll_iff.mpr fun x hx => (h x hx).1, by rw [z_d_lst]; exact Nat.succ_le_succ (z_dep_all fun x hx => (h x hx).2), by rw [z_w_lst]; exact hw⟩
/-- so many small ones -/
theorem sz_tupn {k w m : Nat} {xs : List D} (h : ∀ x ∈ xs, Sz k w x) (hm : xs.length ≤ m) : Sz (k + 1) (m * (w + 1)) (.tuple xs) :=
  sz_tuple (fun x hx => ⟨(h x hx).lv, (h x hx).dp⟩) (Nat.le_trans (z_wgt_le fun x hx => (h x hx).wt) (Nat.mul_le_mul_right _ hm))
theorem sz_lstn {k w m : Nat} {xs : List D} (h : ∀ x ∈ xs, Sz k w x) (hm : xs.length ≤ m) : Sz (k + 1) (m * (w + 1)) (.list xs) :=
  sz_list (fun x hx => ⟨(h x hx).lv, (h x hx).dp⟩) (Nat.le_trans (z_wgt_le fun x hx => (h x hx).wt) (Nat.mul_le_mul_right _ hm))
theorem am_nil {P : D → Prop} : ∀ x ∈ ([] : List D), P x := fun _ h => nomatch h
theorem am_cons {P : D → Prop} {a : D} {as : List D} (h : P a) (t : ∀ x ∈ as, P x) : ∀ x ∈ a :: as, P x := fun x hx => (List.mem_cons.mp hx).elim (fun e => e ▸ h) (t x)
section
variable {k k' k'' w w' w'' : Nat} {a b c : D}
theorem sz_one (h : Sz k w a) : Sz (k + 1) (w + 1) (.tuple [a]) := sz_tuple (am_cons ⟨h.lv, h.dp⟩ am_nil) (by rw [z_wgt_cons, z_wgt_nil]; have := h.wt; omega)
theorem sz_two (h : Sz k w a) (h' : Sz k' w' b) : Sz (max k k' + 1) (w + w' + 2) (.tuple [a, b]) :=
  sz_tuple (am_cons ⟨h.lv, Nat.le_trans h.dp (Nat.le_max_left ..)⟩ <| am_cons ⟨h'.lv, Nat.le_trans h'.dp (Nat.le_max_right ..)⟩ am_nil) (by rw [z_wgt_cons, z_wgt_cons, z_wgt_nil]; have := h.wt; have := h'.wt; omega)
theorem sz_three (h : Sz k w a) (h' : Sz k' w' b) (h'' : Sz k'' w'' c) : Sz (max k (max k' k'') + 1) (w + w' + w'' + 3) (.tuple [a, b, c]) :=
  sz_tuple (am_cons ⟨h.lv, Nat.le_trans h.dp (Nat.le_max_left ..)⟩ <| am_cons ⟨h'.lv, Nat.le_trans h'.dp (by omega)⟩ <| am_cons ⟨h''.lv, Nat.le_trans h''.dp (by omega)⟩ am_nil) (by rw [z_wgt_cons, z_wgt_cons, z_wgt_cons, z_wgt_nil]; have := h.wt; have := h'.wt; have := h''.wt; omega)
theorem sz_threeL (h : Sz k w a) (h' : Sz k' w' b) (h'' : Sz k'' w'' c) : Sz (max k (max k' k'') + 1) (w + w' + w'' + 3) (.list [a, b, c]) :=
  sz_list (am_cons ⟨h.lv, Nat.le_trans h.dp (Nat.le_max_left ..)⟩ <| am_cons ⟨h'.lv, Nat.le_trans h'.dp (by omega)⟩ <| am_cons ⟨h''.lv, Nat.le_trans h''.dp (by omega)⟩ am_nil) (by rw [z_wgt_cons, z_wgt_cons, z_wgt_cons, z_wgt_nil]; have := h.wt; have := h'.wt; have := h''.wt; omega)
end
theorem sz_none : Sz 0 0 .none := sz_of (by decide +kernel)
theorem sz_bool (b : Bool) : Sz 0 0 (.bool b) := by cases b <;> exact sz_of (by decide +kernel)
theorem sz_int {i : Int} (h : i.natAbs ≤ 1000) : Sz 0 10 (.int i) := by
  refine ⟨by unfold sl; exact decide_eq_true h, by unfold PyData.depth; exact Nat.le_refl 0, ?_⟩
  unfold PyData.weight
  by_cases h0 : i.natAbs = 0
  · have : i = 0 := by omega
    subst this; decide
  · have hne : (i == 0) = false := beq_eq_false_iff_ne.mpr (by omega)
    rw [hne]
    have := log_num h
    show i.natAbs.log2 + 1 ≤ 10
    omega
theorem sz_str {x : Str} {w : Nat} (h : ∀ c ∈ x.cps.toList, c < 128) (hw : x.length ≤ w) : Sz 0 w (.str x) :=
  ⟨by unfold sl; exact List.all_eq_true.mpr fun c hc => decide_eq_true (h c hc), by unfold PyData.depth; exact Nat.zero_le _, by unfold PyData.weight; exact hw⟩
theorem Sz.asc {k w : Nat} {x : Str} (h : Sz k w (.str x)) : ∀ c ∈ x.cps.toList, c < 128 := fun c hc => by
  have := h.lv
  unfold sl at this
  exact of_decide_eq_true (List.all_eq_true.mp this c hc)
theorem Sz.memT {k w : Nat} {xs : List D} {x : D} (h : Sz k w (.tuple xs)) (hx : x ∈ xs) : Sz (k - 1) (w - 1) x := by
  have h1 := h.lv
  have h2 := h.dp
  have h3 := h.wt
  unfold sl at h1
  rw [z_d_tup] at h2
  rw [z_w_tup] at h3
  have e2 := z_all_dep hx
  have e3 := z_all_wgt hx
  exact ⟨slAll_iff.mp h1 x hx, by omega, by omega⟩
theorem Sz.memL {k w : Nat} {xs : List D} {x : D} (h : Sz k w (.list xs)) (hx : x ∈ xs) : Sz (k - 1) (w - 1) x := by
  have h1 := h.lv
  have h2 := h.dp
  have h3 := h.wt
  unfold sl at h1
  rw [z_d_lst] at h2
  rw [z_w_lst] at h3
  have e2 := z_all_dep hx
  have e3 := z_all_wgt hx
  exact ⟨slAll_iff.mp h1 x hx, by omega, by omega⟩
end Pv
set_option Elab.async false
set_option linter.all false
set_option maxRecDepth 100000
set_option maxHeartbeats 2100000
namespace Pv
open PySem
section
variable {cl : Fun} {ρ : Env} {lk : List Nat}
theorem xt_or {a b : T} {Q : Bool × Env → Prop} (h : XT cl a ρ fun p => match p.1 with
    | true => Q (true, p.2)
    | false => XT cl b p.2 Q) : XT cl (.or a b) ρ Q := by
  refine ⟨?_⟩; unfold evT
  rw [Res.sat_bind]
  refine Res.sat.mono h.sat fun p hp => ?_
  obtain ⟨x, ρ'⟩ := p
  cases x with
  | true => exact hp
  | false => exact XT.sat hp
theorem xt_not {a : T} {Q : Bool × Env → Prop} (h : XT cl a ρ fun p => Q (!p.1, p.2)) : XT cl (.not a) ρ Q := by
  refine ⟨?_⟩; unfold evT
  rw [Res.sat_bind]
  exact Res.sat.mono h.sat fun p hp => hp
theorem xt_calle {k : Nat} {es : List T} {Q : Bool × Env → Prop} (h : XE cl (.call k es) ρ fun p => ∃ b, p.1 = .dat (.bool b) ∧ Q (b, p.2)) : XT cl (.call k es) ρ Q := by
  refine ⟨?_⟩
  rw [ev_call, Res.sat_bind]
  refine Res.sat.mono h.sat fun p hp => ?_
  obtain ⟨v, ρ'⟩ := p
  obtain ⟨b, e, q⟩ := hp
  have e : v = .dat (.bool b) := e
  subst e
  exact q
end
end Pv
set_option Elab.async false
set_option linter.all false
set_option maxRecDepth 100000
set_option maxHeartbeats 2100000
namespace Pv
open PySem
section
variable {cl : Fun} {ρ : Env} {lk : List Nat}
/-- a for over an own list -/
theorem xs_forl {tg : Tg} {k : Wkd} {i : Nat} {ds items : List D} {body r : List S} {Q : Flow × Env → Prop} (hi : ρ[i]? = some (some (.lst ds))) (ht : tgOk lk tg = true) (e2 : itemsOf k (.list ds) = some items)
    (h : (forTurns tg (evSs cl lk body) items (ρ.set i (some (.lck ds)))).sat fun q => match q.1 with
      | .nx => XS cl lk r (unlockO ρ (.pk i) q.2) Q
      | f => Q (f, unlockO ρ (.pk i) q.2)) : XS cl lk (.forl tg k (.var i) body :: r) ρ Q := by
  refine ⟨?_⟩; unfold evSs evS
  rw [opnd_var hi, Res.bind_ok]
  have hlook : look ρ (.pk i) = some (.list ds) := by unfold look; simp only [hi]; rfl
  have hlk : lockO (.pk i) ρ = ρ.set i (some (.lck ds)) := by unfold lockO; simp only [hi]
  show (((get (look ρ (.pk i))).bind _).bind _).sat Q
  rw [hlook, get_some, Res.bind_ok, e2, get_some, Res.bind_ok, if_pos ht]
  show (((forTurns tg (evSs cl lk body) items (lockO (.pk i) ρ)).bind _).bind _).sat Q
  rw [hlk, Res.sat_bind, Res.sat_bind]
  refine Res.sat.mono h fun q hq => ?_
  obtain ⟨f, ρ2⟩ := q
  cases f <;> first | exact hq | exact XS.sat hq
theorem XS.mono {ss : List S} {Q R : Flow × Env → Prop} (h : XS cl lk ss ρ Q) (k : ∀ q, Q q → R q) : XS cl lk ss ρ R := ⟨Res.sat.mono h.sat k⟩
theorem XE.mono {e : T} {Q R : Vl × Env → Prop} (h : XE cl e ρ Q) (k : ∀ q, Q q → R q) : XE cl e ρ R := ⟨Res.sat.mono h.sat k⟩
theorem xs_asgs2x {i j : Nat} {a b : T} {r : List S} {Q : Flow × Env → Prop} (hi : lk.contains i = false) (hj : lk.contains j = false)
    (h : XE cl a ρ fun p => XE cl b p.2 fun q => i < q.2.length ∧ j < q.2.length ∧ XS cl lk r ((q.2.set i (some p.1)).set j (some q.1)) Q) : XS cl lk (.asgs [i, j] [a, b] :: r) ρ Q := by
  refine XS.of ?_
  obtain ⟨p, e, h2⟩ := Res.sat_iff.mp h.sat
  obtain ⟨v, ρ'⟩ := p
  obtain ⟨q, e2, li, lj, k⟩ := Res.sat_iff.mp (XE.sat h2)
  obtain ⟨w, ρ2⟩ := q
  have e : evS cl lk (.asgs [i, j] [a, b]) ρ = .ok (.nx, (ρ2.set i (some v)).set j (some w)) := by
    unfold evS evVs evVs evVs
    rw [e, Res.bind_ok]
    show (((evE cl b ρ').bind _).bind _).bind _ = _
    rw [show evE cl b ρ' = .ok (w, ρ2) from e2, Res.bind_ok]
    show (get (putsS lk ρ2 [i, j] [v, w])).bind _ = _
    have : putsS lk ρ2 [i, j] [v, w] = some ((ρ2.set i (some v)).set j (some w)) := by
      unfold putsS
      rw [putS_ok hi li, Option.bind_some]
      unfold putsS
      rw [putS_ok hj (by rw [List.length_set]; exact lj), Option.bind_some]
      unfold putsS; rfl
    rw [this]; rfl
  unfold evSs
  rw [e]
  exact k.sat
theorem xe_and {a b : T} {Q : Vl × Env → Prop} (h : XE cl a ρ fun p => ∃ x, p.1 = .dat (.bool x) ∧ match x with
    | true => XE cl b p.2 Q
    | false => Q (.dat (.bool false), p.2)) : XE cl (.and a b) ρ Q := by
  refine ⟨?_⟩; unfold evE
  rw [Res.sat_bind]
  refine Res.sat.mono h.sat fun p hp => ?_
  obtain ⟨v, ρ'⟩ := p
  obtain ⟨x, e, hp⟩ := hp
  have e : v = .dat (.bool x) := e
  subst e
  cases x with
  | true => exact XE.sat hp
  | false => exact hp
/-- a dict that is given up -/
theorem jv_fd {i : Nat} {kvs : List (Str × D)} (h : ρ[i]? = some (some (.fdct kvs))) : EV cl (.var i) ρ (.fdct kvs) := by unfold EV evE; rw [h]
theorem ar_fd {i : Nat} {kvs : List (Str × D)} (h : ρ[i]? = some (some (.fdct kvs))) : AR cl (.var i) ρ (.fdct kvs) := by
  unfold AR argOf T.isVar
  simp only [h]
  rw [show evE cl (.var i) ρ = .ok (.fdct kvs, ρ) from jv_fd h, Res.bind_ok]; rfl
theorem jv_ixdf {i : Nat} {k : T} {kvs : List (Str × D)} {s : Str} {d : D} (h : ρ[i]? = some (some (.fdct kvs))) (hk : EV cl k ρ (.dat (.str s))) (hv : valD kvs s = some d) : EV cl (.ixd i k) ρ (.dat d) := by
  unfold EV evE
  simp only [h]
  rw [show evE cl k ρ = .ok (.dat (.str s), ρ) from hk, Res.bind_ok]
  have e : lookD ρ i (.dat (.str s)) = some (valD kvs s) := by
    unfold lookD keyOf
    simp only [h]
  show (get (lookD ρ i (.dat (.str s)))).bind _ = _
  rw [e, get_some, Res.bind_ok, hv]; rfl
end
/-- a for's turns, by an invariant of what is left; a turn is told as a run of statements -/
theorem xs_turns {cl : Fun} {lk : List Nat} {tg : Tg} {body : List S} {Q : Flow × Env → Prop} (I : List D → Env → Prop) (done : ∀ ρ, I [] ρ → Q (.nx, ρ))
    (turn : ∀ d ds ρ, I (d :: ds) ρ → ∃ ρ1, store tg d ρ = some ρ1 ∧ XS cl lk body ρ1 fun q => match q.1 with
      | .nx => I ds q.2
      | .cnt => I ds q.2
      | .brk => Q (.nx, q.2)
      | .ret v => Q (.ret v, q.2)) : ∀ ds ρ, I ds ρ → (forTurns tg (evSs cl lk body) ds ρ).sat Q :=
  forTurns_sat I done fun d ds ρ h => (turn d ds ρ h).elim fun ρ1 h => ⟨ρ1, h.1, h.2.sat⟩
theorem cs_ex {r : Res (Vl × List (Option Vl))} {P : Vl × List (Option Vl) → Prop} (h : CS r P) : ∃ p, r = .ok p ∧ P p := Res.sat_iff.mp h.sat
theorem cs_get {r : Res (Vl × List (Option Vl))} {v : Vl} {m : Nat} (h : CS r fun q => q.1 = v ∧ q.2.length = m) : ∃ fin, r = .ok (v, fin) ∧ fin.length = m := by
  obtain ⟨⟨u, fin⟩, e, e1, e2⟩ := cs_ex h
  have e1 : u = v := e1
  subst e1
  exact ⟨fin, e, e2⟩
/-- a call ends so -/
structure RT (r : Res (Vl × List (Option Vl))) (v : Vl) (m : Nat) : Prop where
  ex : ∃ fin, r = .ok (v, fin) ∧ fin.length = m
theorem RT.of {r : Res (Vl × List (Option Vl))} {v : Vl} {m : Nat} (h : CS r fun q => q.1 = v ∧ q.2.length = m) : RT r v m := ⟨cs_get h⟩
theorem jv_callt {cl : Fun} {ρ : Env} {k : Nat} {es : List T} {vs : List Vl} {v : Vl} (h : AV cl es ρ vs) (c : RT (cl k vs) v vs.length) : EV cl (.call k es) ρ v := by
  obtain ⟨fin, e1, e2⟩ := c.ex
  exact jv_call h e1 e2
/-- a def of two parameters that tells a truth value -/
def Told2 (cl : Fun) (k : Nat) (d e : D) (b : Bool) : Prop := ∃ fin, cl k [.dat d, .dat e] = .ok (.dat (.bool b), fin) ∧ fin.length = 2
theorem eb_told2 {cl : Fun} {ρ : Env} {k : Nat} {x y : T} {d e : D} {b : Bool} (h : AR cl x ρ (.dat d)) (h' : AR cl y ρ (.dat e)) (c : Told2 cl k d e b) : EB cl (.call k [x, y]) ρ b := by
  obtain ⟨fin, e1, e2⟩ := c
  exact jv_call (av_cons h (av_cons h' av_nil)) e1 e2
theorem tb_told2 {cl : Fun} {ρ : Env} {k : Nat} {x y : T} {d e : D} {b : Bool} (h : AR cl x ρ (.dat d)) (h' : AR cl y ρ (.dat e)) (c : Told2 cl k d e b) : TB cl (.call k [x, y]) ρ b := by
  obtain ⟨fin, e1, e2⟩ := c
  exact tb_call (av_cons h (av_cons h' av_nil)) e1 e2
theorem enumD_cons (n : Int) (d : D) (ds : List D) : enumD n (d :: ds) = .tuple [.int n, d] :: enumD (n + 1) ds := rfl
theorem cut_dropt (xs : List D) (k : Nat) : cutL xs (some (k : Nat)) none = xs.drop k := by
  unfold cutL
  rw [HT.sIx_none, HT.sIx_nat]
  rcases Nat.le_total k xs.length with h | h
  · rw [Nat.min_eq_left h]
    exact List.take_of_length_le (by rw [List.length_drop]; exact Nat.le_refl _)
  · rw [Nat.min_eq_right h, List.drop_of_length_le (Nat.le_refl _), List.drop_of_length_le h, List.take_nil]
end Pv
set_option Elab.async false
set_option linter.all false
set_option maxRecDepth 100000
set_option maxHeartbeats 2100000
/-! Runs that raise, and what hears them. -/
namespace Pv
open PySem
section
variable {cl : Fun} {ρ : Env} {x : Ex} {lk : List Nat}
def EX (cl : Fun) (e : T) (ρ : Env) (x : Ex) : Prop := evE cl e ρ = .exc x ρ
def SX (cl : Fun) (lk : List Nat) (ss : List S) (ρ : Env) (x : Ex) : Prop := ∃ ρ', evSs cl lk ss ρ = .exc x ρ' ∧ ρ'.length = ρ.length
def RX (r : Res (Vl × List (Option Vl))) (x : Ex) (n : Nat) : Prop := ∃ fin, r = .exc x fin ∧ fin.length = n
theorem ex_call {k : Nat} {es : List T} {vs : List Vl} (h : AV cl es ρ vs) (c : RX (cl k vs) x vs.length) : EX cl (.call k es) ρ x := by
  obtain ⟨fin, c, hl⟩ := c
  unfold EX evE
  rw [h]
  show doCall (cl k) (vs.map .vl) ρ = _
  unfold doCall
  rw [lends_vl, argVs_vl]
  simp only [nodupB, if_true, get_some, Res.bind_ok, c]
  rw [giveBack_vl vs fin hl]
theorem ex_arg {k : Nat} {e : T} {es : List T} (h : EX cl e ρ x) (hv : e.isVar = none) : EX cl (.call k (e :: es)) ρ x := by
  unfold EX evE evAs argOf
  rw [hv]
  show (((((evE cl e ρ).bind _).bind _).bind _) : Res (Vl × Env)) = _
  rw [show evE cl e ρ = .exc x ρ from h]
  rfl
theorem ex_ix {a i : T} (h : EX cl a ρ x) (hv : a.isVar = none) : EX cl (.ix a i) ρ x := by
  unfold EX evE opnd
  rw [hv]
  show (((evE cl a ρ).bind _).bind _ : Res (Vl × Env)) = _
  rw [show evE cl a ρ = .exc x ρ from h]
  rfl
theorem sx_asg {i : Nat} {e : T} {r : List S} (h : EX cl e ρ x) : SX cl lk (.asg i e :: r) ρ x := ⟨ρ, by
  unfold evSs evS
  rw [show evE cl e ρ = .exc x ρ from h]
  rfl, rfl⟩
theorem sx_expr {e : T} {r : List S} (h : EX cl e ρ x) : SX cl lk (.expr e :: r) ρ x := ⟨ρ, by
  unfold evSs evS
  rw [show evE cl e ρ = .exc x ρ from h]
  rfl, rfl⟩
theorem sx_ret {e : T} {r : List S} (hv : e.isVar = none) (h : EX cl e ρ x) : SX cl lk (.ret e :: r) ρ x := ⟨ρ, by
  unfold evSs
  rw [ret_eq hv]
  rw [show evE cl e ρ = .exc x ρ from h]
  rfl, rfl⟩
theorem sx_raise {k : Nat} {fs : List Str} {es : List T} {ds : List D} {r : List S} (h : DV cl es ρ ds) : SX cl lk (.raise k fs es :: r) ρ ⟨k, (fs.zip ds).reverse⟩ := ⟨ρ, by
  unfold evSs evS
  rw [show evDs cl es ρ = .ok (ds, ρ) from h]
  rfl, rfl⟩
theorem sx_go {i : Nat} {e : T} {v : Vl} {r : List S} (h : EV cl e ρ v) (hl : lk.contains i = false) (hi : i < ρ.length) (k : SX cl lk r (ρ.set i (some v)) x) : SX cl lk (.asg i e :: r) ρ x := by
  obtain ⟨ρ', e1, e2⟩ := k
  refine ⟨ρ', ?_, by rw [e2, List.length_set]⟩
  unfold evSs evS
  rw [show evE cl e ρ = .ok (v, ρ) from h]
  simp only [Res.bind_ok]
  unfold putS
  rw [hl, put_lt hi]
  exact e1
theorem sx_if {c : T} {a b r : List S} (h : TB cl c ρ true) (k : SX cl lk a ρ x) : SX cl lk (.iff c a b :: r) ρ x := by
  obtain ⟨ρ', e1, e2⟩ := k
  refine ⟨ρ', ?_, e2⟩
  unfold evSs evS
  rw [show evT cl c ρ = .ok (true, ρ) from h]
  simp only [Res.bind_ok]
  rw [e1]
  rfl
theorem rx_run {d : Df} {vs : List Vl} (hl : vs.length = d.ps) (hn : d.ps ≤ d.n) (h : SX cl (lentOf vs 0) d.body (startE d.n vs) x) : RX (runF cl d vs) x d.ps := by
  obtain ⟨ρ', e1, e2⟩ := h
  refine ⟨ρ'.take d.ps, ?_, ?_⟩
  · unfold runF
    rw [if_pos hl, e1]
  · rw [List.length_take, e2]
    unfold startE
    simp
    omega
theorem jv_heard {tag : Str} {tb : List (Nat × Str × List Str)} {e : T} {v : Vl} {d : D} (h : EV (sh cl) e ρ v) (f : v.frz = some d) : EV cl (.heard tag tb e) ρ (.dat (.tuple [.str tag, d])) := by
  unfold EV evE
  rw [show evE (sh cl) e ρ = .ok (v, ρ) from h]
  show ((get v.frz).bind _ : Res (Vl × Env)) = _
  rw [f]
  rfl
theorem jv_heardx {tag : Str} {tb : List (Nat × Str × List Str)} {e : T} {d : D} (h : EX (sh cl) e ρ x) (f : heardX tb x = some d) : EV cl (.heard tag tb e) ρ (.dat d) := by
  unfold EV evE
  rw [show evE (sh cl) e ρ = .exc x ρ from h]
  show ((get (heardX tb x)).bind _ : Res (Vl × Env)) = _
  rw [f]
  rfl
end
end Pv
set_option Elab.async false
set_option linter.all false
set_option maxRecDepth 100000
set_option maxHeartbeats 2100000
namespace Pv
open PySem
section
variable {cl : Fun} {ρ : Env} {lk : List Nat}
/-- a comprehension over an own list, told from its end -/
theorem xe_compl {elt : T} {own : List Nat} {tg : Tg} {k : Wkd} {c : Option T} {i : Nat} {ds items : List D} {Q : Vl × Env → Prop} (hi : ρ[i]? = some (some (.lst ds))) (e2 : itemsOf k (.list ds) = some items) (e3 : ownOk ρ own = true)
    (h : (compTurns own tg (evC cl c) (evE cl elt) items [] (ρ.set i (some (.lck ds)))).sat fun q => Q (.lst q.1, unlockO ρ (.pk i) (Env.back ρ q.2 own))) : XE cl (.comp elt own tg k (.var i) c) ρ Q := by
  have hlook : look ρ (.pk i) = some (.list ds) := by unfold look; simp only [hi]; rfl
  have hlk : lockO (.pk i) ρ = ρ.set i (some (.lck ds)) := by unfold lockO; simp only [hi]
  refine ⟨?_⟩; unfold evE
  rw [opnd_var hi, Res.bind_ok]
  show ((get (look ρ (.pk i))).bind _).sat Q
  rw [hlook, get_some, Res.bind_ok, e2, get_some, Res.bind_ok]
  show ((get (need (ownOk ρ own))).bind _).sat Q
  rw [e3]
  show ((compTurns own tg (evC cl c) (evE cl elt) items [] (lockO (.pk i) ρ)).noX.bind _).sat Q
  rw [hlk, Res.sat_bind, Res.sat_noX]
  exact Res.sat.mono h fun q hq => hq
/-- turns of a comprehension without a condition, the element told as a run -/
theorem xc_turns {own : List Nat} {tg : Tg} {elt : T} {Q : List D × Env → Prop} (I : List D → List D → Env → Prop) (done : ∀ acc ρ, I [] acc ρ → Q (acc, ρ))
    (turn : ∀ d ds acc ρ, I (d :: ds) acc ρ → ∃ ρ1, store tg d (ρ.wipe own) = some ρ1 ∧ XE cl elt ρ1 fun q => ∃ y, q.1.frz = some y ∧ I ds (acc ++ [y]) q.2) : ∀ ds acc ρ, I ds acc ρ → (compTurns own tg (evC cl none) (evE cl elt) ds acc ρ).sat Q :=
  compTurns_sat I done fun d ds acc ρ h => by
    obtain ⟨ρ1, e1, h1⟩ := turn d ds acc ρ h
    refine ⟨ρ1, e1, ?_⟩
    rw [show evC cl none ρ1 = .ok (true, ρ1) by unfold evC; rfl]
    exact h1.sat
end
end Pv
set_option Elab.async false
set_option linter.all false
set_option maxRecDepth 100000
set_option maxHeartbeats 4100000
/-! Small data with far numbers: leaves, depth, weight. -/
namespace Pv
open PySem
theorem asc_ok2 {x : Str} (h : x.cps.toList.all (· < 128) = true) : PyData.strOk x = true := (pl_asc fun c hc => of_decide_eq_true (List.all_eq_true.mp h c hc)).ok
mutual
def zlg : D → Bool
  | .none => true
  | .bool _ => true
  | .int i => decide (i.natAbs < 10 ^ 60)
  | .str x => x.cps.toList.all (· < 128)
  | .list xs => zlgAll xs
  | .tuple xs => zlgAll xs
  | .dict _ => false
def zlgAll : List D → Bool
  | [] => true
  | x :: xs => zlg x && zlgAll xs
end
theorem zlen_far {i : Int} (h : i.natAbs < 10 ^ 60) : (Str.ofString (toString i)).length ≤ 64 := by
  by_cases h0 : 0 ≤ i
  · have := PyProof.Rows.toString_length_le h0 (k := 60) (by decide) (by omega)
    omega
  · have e := PyProof.Rows.len_text_neg (n := i) (by omega)
    have := PyProof.Rows.toString_length_le (v := 0 - i) (by omega) (k := 60) (by decide) (by omega)
    omega
mutual
theorem zlg_good : ∀ d : D, zlg d = true → d.canLay0 = true ∧ d.leavesShort 64 = true ∧ d.showable = true
  | .none, _ => ⟨by unfold PyData.canLay0; rfl, by unfold PyData.leavesShort; rfl, by unfold PyData.showable; rfl⟩
  | .bool _, _ => ⟨by unfold PyData.canLay0; rfl, by unfold PyData.leavesShort; rfl, by unfold PyData.showable; rfl⟩
  | .int i, h => by
    unfold zlg at h
    have h' := of_decide_eq_true h
    refine ⟨by unfold PyData.canLay0; rfl, ?_, ?_⟩
    · unfold PyData.leavesShort
      refine decide_eq_true ?_
      unfold PyData.shown
      have e : (Str.ofString (toString i)).length ≤ 64 := zlen_far h'
      exact e
    · unfold PyData.showable
      refine decide_eq_true ?_
      by_cases h0 : i.natAbs = 0
      · rw [h0]; decide
      · exact (Nat.log2_lt h0).mpr (Nat.lt_trans h' (by decide +kernel))
  | .str x, h => by
    unfold zlg at h
    refine ⟨by unfold PyData.canLay0; exact asc_ok2 h, ?_, by unfold PyData.showable; rfl⟩
    unfold PyData.leavesShort
    exact List.all_eq_true.mpr fun c hc => decide_eq_true (by have := of_decide_eq_true (List.all_eq_true.mp h c hc); omega)
  | .list xs, h => by
    unfold zlg at h
    unfold PyData.canLay0 PyData.leavesShort PyData.showable
    exact zzlg_goods xs h
  | .tuple xs, h => by
    unfold zlg at h
    unfold PyData.canLay0 PyData.leavesShort PyData.showable
    exact zzlg_goods xs h
  | .dict _, h => by unfold zlg at h; cases h
theorem zzlg_goods : ∀ xs : List D, zlgAll xs = true → PyData.canLayAll0 xs = true ∧ PyData.leavesShortAll 64 xs = true ∧ PyData.showableAll xs = true
  | [], _ => ⟨by unfold PyData.canLayAll0; rfl, by unfold PyData.leavesShortAll; rfl, by unfold PyData.showableAll; rfl⟩
  | x :: xs, h => by
    unfold zlgAll at h
    rw [Bool.and_eq_true] at h
    obtain ⟨h1, h2, h3⟩ := zlg_good x h.1
    obtain ⟨k1, k2, k3⟩ := zzlg_goods xs h.2
    unfold PyData.canLayAll0 PyData.leavesShortAll PyData.showableAll
    rw [h1, h2, h3, k1, k2, k3]
    exact ⟨rfl, rfl, rfl⟩
end
theorem zlgAll_iff : ∀ {xs : List D}, zlgAll xs = true ↔ ∀ x ∈ xs, zlg x = true
  | [] => by unfold zlgAll; exact ⟨fun _ _ h => (nomatch h), fun _ => rfl⟩
  | x :: xs => by
    unfold zlgAll
    rw [Bool.and_eq_true, zlgAll_iff (xs := xs)]
    exact ⟨fun h y hy => (List.mem_cons.mp hy).elim (fun e => e ▸ h.1) (h.2 y), fun h => ⟨h x (List.mem_cons_self ..), fun y hy => h y (List.mem_cons_of_mem _ hy)⟩⟩
mutual
theorem sl_zlg : ∀ d : D, sl d = true → zlg d = true
  | .none, _ => by unfold zlg; rfl
  | .bool _, _ => by unfold zlg; rfl
  | .int i, h => by
    unfold sl at h
    unfold zlg
    have := of_decide_eq_true h
    exact decide_eq_true (Nat.lt_of_le_of_lt this (by decide))
  | .str x, h => by unfold sl at h; unfold zlg; exact h
  | .list xs, h => by unfold sl at h; unfold zlg; exact sl_zlgs xs h
  | .tuple xs, h => by unfold sl at h; unfold zlg; exact sl_zlgs xs h
  | .dict _, h => by unfold sl at h; cases h
theorem sl_zlgs : ∀ xs : List D, slAll xs = true → zlgAll xs = true
  | [], _ => by unfold zlgAll; rfl
  | x :: xs, h => by
    unfold slAll at h
    rw [Bool.and_eq_true] at h
    unfold zlgAll
    rw [sl_zlg x h.1, sl_zlgs xs h.2]; rfl
end
/-- of depth k, of weight w at most -/
structure Lz (k w : Nat) (d : D) : Prop where
  lv : zlg d = true
  dp : d.depth ≤ k
  wt : d.weight ≤ w
def lzB (k w : Nat) (d : D) : Bool := zlg d && (decide (d.depth ≤ k) && decide (d.weight ≤ w))
theorem lz_of {k w : Nat} {d : D} (h : lzB k w d = true) : Lz k w d := by
  unfold lzB at h
  rw [Bool.and_eq_true, Bool.and_eq_true] at h
  exact ⟨h.1, of_decide_eq_true h.2.1, of_decide_eq_true h.2.2⟩
theorem Lz.mono {k w k' w' : Nat} {d : D} (h : Lz k w d) (hk : k ≤ k') (hw : w ≤ w') : Lz k' w' d := ⟨h.lv, Nat.le_trans h.dp hk, Nat.le_trans h.wt hw⟩
theorem Lz.rpr {k w : Nat} {d : D} (h : Lz k w d) (hk : k ≤ 60) (hw : w ≤ 250000) : Rpr d :=
  ⟨(zlg_good d h.lv).1, (zlg_good d h.lv).2.1, (zlg_good d h.lv).2.2, Nat.le_trans h.dp hk, Nat.le_trans h.wt hw⟩
theorem Lz.shp {k w : Nat} {d : D} (h : Lz k w d) (hk : k ≤ 60) : shp d = true := by
  unfold Pv.shp SeqAt.shaped
  rw [(zlg_good d h.lv).1, Bool.true_and]
  exact decide_eq_true (by have := h.dp; show _ ≤ 64; omega)
theorem lz_tuple {k w : Nat} {xs : List D} (h : ∀ x ∈ xs, zlg x = true ∧ x.depth ≤ k) (hw : PyData.weightAll xs ≤ w) : Lz (k + 1) w (.tuple xs) :=
  ⟨by unfold zlg; exact zlgAll_iff.mpr fun x hx => (h x hx).1, by rw [z_d_tup]; exact Nat.succ_le_succ (z_dep_all fun x hx => (h x hx).2), by rw [z_w_tup]; exact hw⟩
theorem lz_list {k w : Nat} {xs : List D} (h : ∀ x ∈ xs, zlg x = true ∧ x.depth ≤ k) (hw : PyData.weightAll xs ≤ w) : Lz (k + 1) w (.list xs) :=
  ⟨by unfold zlg; exact zlgAll_iff.mpr fun x hx => (h x hx).1, by rw [z_d_lst]; exact Nat.succ_le_succ (z_dep_all fun x hx => (h x hx).2), by rw [z_w_lst]; exact hw⟩
/-- so many small ones -/
theorem lz_tupn {k w m : Nat} {xs : List D} (h : ∀ x ∈ xs, Lz k w x) (hm : xs.length ≤ m) : Lz (k + 1) (m * (w + 1)) (.tuple xs) :=
  lz_tuple (fun x hx => ⟨(h x hx).lv, (h x hx).dp⟩) (Nat.le_trans (z_wgt_le fun x hx => (h x hx).wt) (Nat.mul_le_mul_right _ hm))
theorem lz_lstn {k w m : Nat} {xs : List D} (h : ∀ x ∈ xs, Lz k w x) (hm : xs.length ≤ m) : Lz (k + 1) (m * (w + 1)) (.list xs) :=
  lz_list (fun x hx => ⟨(h x hx).lv, (h x hx).dp⟩) (Nat.le_trans (z_wgt_le fun x hx => (h x hx).wt) (Nat.mul_le_mul_right _ hm))
section
variable {k k' k'' w w' w'' : Nat} {a b c : D}
theorem lz_one (h : Lz k w a) : Lz (k + 1) (w + 1) (.tuple [a]) := lz_tuple (am_cons ⟨h.lv, h.dp⟩ am_nil) (by rw [z_wgt_cons, z_wgt_nil]; have := h.wt; omega)
theorem lz_two (h : Lz k w a) (h' : Lz k' w' b) : Lz (max k k' + 1) (w + w' + 2) (.tuple [a, b]) :=
  lz_tuple (am_cons ⟨h.lv, Nat.le_trans h.dp (Nat.le_max_left ..)⟩ <| am_cons ⟨h'.lv, Nat.le_trans h'.dp (Nat.le_max_right ..)⟩ am_nil) (by rw [z_wgt_cons, z_wgt_cons, z_wgt_nil]; have := h.wt; have := h'.wt; omega)
theorem lz_three (h : Lz k w a) (h' : Lz k' w' b) (h'' : Lz k'' w'' c) : Lz (max k (max k' k'') + 1) (w + w' + w'' + 3) (.tuple [a, b, c]) :=
  lz_tuple (am_cons ⟨h.lv, Nat.le_trans h.dp (Nat.le_max_left ..)⟩ <| am_cons ⟨h'.lv, Nat.le_trans h'.dp (by omega)⟩ <| am_cons ⟨h''.lv, Nat.le_trans h''.dp (by omega)⟩ am_nil) (by rw [z_wgt_cons, z_wgt_cons, z_wgt_cons, z_wgt_nil]; have := h.wt; have := h'.wt; have := h''.wt; omega)
theorem lz_threeL (h : Lz k w a) (h' : Lz k' w' b) (h'' : Lz k'' w'' c) : Lz (max k (max k' k'') + 1) (w + w' + w'' + 3) (.list [a, b, c]) :=
  lz_list (am_cons ⟨h.lv, Nat.le_trans h.dp (Nat.le_max_left ..)⟩ <| am_cons ⟨h'.lv, Nat.le_trans h'.dp (by omega)⟩ <| am_cons ⟨h''.lv, Nat.le_trans h''.dp (by omega)⟩ am_nil) (by rw [z_wgt_cons, z_wgt_cons, z_wgt_cons, z_wgt_nil]; have := h.wt; have := h'.wt; have := h''.wt; omega)
end
theorem lz_none : Lz 0 0 .none := lz_of (by decide +kernel)
theorem lz_bool (b : Bool) : Lz 0 0 (.bool b) := by cases b <;> exact lz_of (by decide +kernel)
theorem lz_str {x : Str} {w : Nat} (h : ∀ c ∈ x.cps.toList, c < 128) (hw : x.length ≤ w) : Lz 0 w (.str x) :=
  ⟨by unfold zlg; exact List.all_eq_true.mpr fun c hc => decide_eq_true (h c hc), by unfold PyData.depth; exact Nat.zero_le _, by unfold PyData.weight; exact hw⟩
theorem Lz.asc {k w : Nat} {x : Str} (h : Lz k w (.str x)) : ∀ c ∈ x.cps.toList, c < 128 := fun c hc => by
  have := h.lv
  unfold zlg at this
  exact of_decide_eq_true (List.all_eq_true.mp this c hc)
theorem Lz.memT {k w : Nat} {xs : List D} {x : D} (h : Lz k w (.tuple xs)) (hx : x ∈ xs) : Lz (k - 1) (w - 1) x := by
  have h1 := h.lv
  have h2 := h.dp
  have h3 := h.wt
  unfold zlg at h1
  rw [z_d_tup] at h2
  rw [z_w_tup] at h3
  have e2 := z_all_dep hx
  have e3 := z_all_wgt hx
  exact ⟨zlgAll_iff.mp h1 x hx, by omega, by omega⟩
theorem Lz.memL {k w : Nat} {xs : List D} {x : D} (h : Lz k w (.list xs)) (hx : x ∈ xs) : Lz (k - 1) (w - 1) x := by
  have h1 := h.lv
  have h2 := h.dp
  have h3 := h.wt
  unfold zlg at h1
  rw [z_d_lst] at h2
  rw [z_w_lst] at h3
  have e2 := z_all_dep hx
  have e3 := z_all_wgt hx
  exact ⟨zlgAll_iff.mp h1 x hx, by omega, by omega⟩
theorem Sz.lz {k w : Nat} {d : D} (h : Sz k w d) : Lz k w d := ⟨sl_zlg d h.lv, h.dp, h.wt⟩
end Pv
set_option Elab.async false
set_option linter.all false
set_option maxRecDepth 100000
set_option maxHeartbeats 2100000
/-! Comprehensions of two clauses; statements behind which an error is raised. -/
namespace Pv
open PySem
theorem comp2Turns_sat {own own1 : List Nat} {tg tg1 : Tg} {c c1 : Env → Res (Bool × Env)} {g : Env → Res (List D × Env)} {f : Env → Res (Vl × Env)} {Q : List D × Env → Prop} (I : List D → List D → Env → Prop) (done : ∀ acc ρ, I [] acc ρ → Q (acc, ρ))
    (turn : ∀ d ds acc ρ, I (d :: ds) acc ρ → ∃ ρ1, store tg d (ρ.wipe own) = some ρ1 ∧ (c ρ1).sat fun p => match p.1 with
      | true => (g p.2).sat fun q => acc.length + q.1.length ≤ 16777216 ∧ (compTurns own1 tg1 c1 f q.1 acc q.2).sat fun r => I ds r.1 r.2
      | false => I ds acc p.2) : ∀ ds acc ρ, I ds acc ρ → (comp2Turns own own1 tg tg1 c g c1 f ds acc ρ).sat Q
  | [], acc, ρ, h => done acc ρ h
  | d :: ds, acc, ρ, h => by
    obtain ⟨ρ1, e1, h1⟩ := turn d ds acc ρ h
    unfold comp2Turns
    rw [e1, get_some, Res.bind_ok, Res.sat_bind]
    refine h1.mono fun p hp => ?_
    obtain ⟨b, ρ2⟩ := p
    cases b with
    | true =>
      show ((g ρ2).bind _).sat Q
      rw [Res.sat_bind]
      refine hp.mono fun q hq => ?_
      obtain ⟨hz, hq⟩ := hq
      have e : need (sizeOk (acc.length + q.1.length)) = some () := if_pos (decide_eq_true hz)
      rw [e, get_some, Res.bind_ok, Res.sat_bind]
      exact hq.mono fun r hr => comp2Turns_sat I done turn ds _ _ hr
    | false => exact comp2Turns_sat I done turn ds acc ρ2 hp
section
variable {cl : Fun} {ρ : Env} {lk : List Nat} {x : Ex}
theorem xe_comp2v {elt it1 : T} {own own1 : List Nat} {tg tg1 : Tg} {k k1 : Wkd} {c c1 : Option T} {i : Nat} {x : D} {ds : List D} {Q : Vl × Env → Prop} (hx : ρ[i]? = some (some (.dat x))) (e2 : itemsOf k x = some ds) (e3 : ownOk ρ own = true)
    (h : (comp2Turns own own1 tg tg1 (evC cl c) (evW k1 it1 (evE cl it1)) (evC cl c1) (evE cl elt) ds [] ρ).sat fun q => Q (.lst q.1, Env.back ρ q.2 own)) : XE cl (.comp2 elt own own1 tg k (.var i) c tg1 k1 it1 c1) ρ Q := by
  obtain ⟨o, h1, h2, h3, h4⟩ := opl_var (cl := cl) hx
  refine ⟨?_⟩
  unfold evE
  rw [h1, Res.bind_ok]
  show ((get (look ρ o)).bind _).sat Q
  rw [h2, get_some, Res.bind_ok, e2, get_some, Res.bind_ok]
  show ((get (need (ownOk ρ own))).bind _).sat Q
  rw [e3]
  show ((comp2Turns own own1 tg tg1 (evC cl c) (evW k1 it1 (evE cl it1)) (evC cl c1) (evE cl elt) ds [] (lockO o ρ)).noX.bind _).sat Q
  rw [h3, Res.sat_bind, Res.sat_noX]
  refine Res.sat.mono h fun q hq => ?_
  obtain ⟨ys, ρ2⟩ := q
  show Q (.lst ys, unlockO ρ o (Env.back ρ ρ2 own))
  rw [h4]
  exact hq
/-- what the second clause walks leaves the slots -/
theorem evW_ev {k1 : Wkd} {it1 : T} {y : D} {ds : List D} (h : OP cl it1 ρ y) (e : itemsOf k1 y = some ds) (f : flat k1 y = true) : evW k1 it1 (evE cl it1) ρ = .ok (ds, ρ) := by
  obtain ⟨o, h1, h2⟩ := h
  unfold evW
  rw [h1, Res.bind_ok]
  show (get (look ρ o)).bind _ = _
  rw [h2, get_some, Res.bind_ok, e, get_some, Res.bind_ok]
  show (get (need (flat k1 y))).bind _ = _
  rw [f]; rfl
/-- a statement that is passed -/
def NX (cl : Fun) (lk : List Nat) (s : S) (ρ ρ' : Env) : Prop := evS cl lk s ρ = .ok (.nx, ρ')
theorem sx_nx {s : S} {r : List S} {ρ' : Env} (h : NX cl lk s ρ ρ') (hl : ρ'.length = ρ.length) (k : SX cl lk r ρ' x) : SX cl lk (s :: r) ρ x := by
  obtain ⟨ρ2, e1, e2⟩ := k
  refine ⟨ρ2, ?_, e2.trans hl⟩
  unfold evSs
  rw [show evS cl lk s ρ = .ok (.nx, ρ') from h]
  exact e1
theorem js_nx {s : S} {r : List S} {ρ' ρ2 : Env} {v : Vl} (h : NX cl lk s ρ ρ') (k : JS cl lk r ρ' v ρ2) : JS cl lk (s :: r) ρ v ρ2 := by
  unfold JS evSs
  rw [show evS cl lk s ρ = .ok (.nx, ρ') from h]
  exact k
theorem nx_if {c : T} {a : List S} (h : TB cl c ρ false) : NX cl lk (.iff c a []) ρ ρ := by
  unfold NX evS
  rw [show evT cl c ρ = .ok (false, ρ) from h]
  show evSs cl lk [] ρ = _
  unfold evSs; rfl
theorem nx_expr {e : T} {v : Vl} (h : EV cl e ρ v) : NX cl lk (.expr e) ρ ρ := by
  unfold NX evS
  rw [show evE cl e ρ = .ok (v, ρ) from h]; rfl
theorem nx_asg {i : Nat} {e : T} {v : Vl} (h : EV cl e ρ v) (hl : lk.contains i = false) (hi : i < ρ.length) : NX cl lk (.asg i e) ρ (ρ.set i (some v)) := by
  unfold NX evS
  rw [show evE cl e ρ = .ok (v, ρ) from h, Res.bind_ok]
  show (get (putS lk ρ i v)).bind _ = _
  rw [putS_ok hl hi]; rfl
theorem nx_unp {is : List Nat} {e : T} {v : Vl} {d : D} {ρ1 : Env} (h : EV cl e ρ v) (ht : tgOk lk (.tp is) = true) (hf : v.frz = some d) (hs : store (.tp is) d ρ = some ρ1) : NX cl lk (.unp is e) ρ ρ1 := by
  unfold NX evS
  rw [show evE cl e ρ = .ok (v, ρ) from h, Res.bind_ok]
  show (get (if tgOk lk (.tp is) then v.frz else none)).bind _ = _
  rw [if_pos ht, hf, get_some, Res.bind_ok]
  show (get (store (.tp is) d ρ)).bind _ = _
  rw [hs]; rfl
/-- a for over plain data in a slot that runs to its end, one that returns -/
theorem nx_forv {tg : Tg} {k : Wkd} {i : Nat} {y : D} {ds : List D} {body : List S} {ρ' : Env} (hx : ρ[i]? = some (some (.dat y))) (ht : tgOk lk tg = true) (e2 : itemsOf k y = some ds) (h : forTurns tg (evSs cl lk body) ds ρ = .ok (.nx, ρ')) : NX cl lk (.forl tg k (.var i) body) ρ ρ' := by
  obtain ⟨o, h1, h2, h3, h4⟩ := opl_var (cl := cl) hx
  unfold NX evS
  rw [h1, Res.bind_ok]
  show (get (look ρ o)).bind _ = _
  rw [h2, get_some, Res.bind_ok, e2, get_some, Res.bind_ok, if_pos ht]
  show (forTurns tg (evSs cl lk body) ds (lockO o ρ)).bind _ = _
  rw [h3, h, Res.bind_ok]
  show Res.ok (Flow.nx, unlockO ρ o ρ') = _
  rw [h4]
theorem js_forv {tg : Tg} {k : Wkd} {i : Nat} {y : D} {ds : List D} {body r : List S} {v : Vl} {ρ' : Env} (hx : ρ[i]? = some (some (.dat y))) (ht : tgOk lk tg = true) (e2 : itemsOf k y = some ds) (h : forTurns tg (evSs cl lk body) ds ρ = .ok (.ret v, ρ')) : JS cl lk (.forl tg k (.var i) body :: r) ρ v ρ' := by
  obtain ⟨o, h1, h2, h3, h4⟩ := opl_var (cl := cl) hx
  unfold JS evSs evS
  rw [h1, Res.bind_ok]
  show ((get (look ρ o)).bind _).bind _ = _
  rw [h2, get_some, Res.bind_ok, e2, get_some, Res.bind_ok, if_pos ht]
  show ((forTurns tg (evSs cl lk body) ds (lockO o ρ)).bind _).bind _ = _
  rw [h3, h, Res.bind_ok]
  show Res.ok (Flow.ret v, unlockO ρ o ρ') = _
  rw [h4]
theorem jv_idx {a e : T} {y z : D} {n : Int} (h : OP cl a ρ y) (k : OP cl e ρ z) (hl : isiD .list y = true) (hv : idx2 y z = some n) : EV cl (.idx a e) ρ (.dat (.int n)) := by
  obtain ⟨p, h1, h2⟩ := h
  obtain ⟨q, k1, k2⟩ := k
  unfold EV evE
  rw [h1, Res.bind_ok]
  show (get (look ρ p)).bind _ = _
  rw [h2, get_some, Res.bind_ok]
  show (get (need (isiD .list y))).bind _ = _
  rw [hl]
  show (opnd e (evE cl e) ρ).bind _ = _
  rw [k1, Res.bind_ok]
  show (get (look ρ p)).bind _ = _
  rw [h2, get_some, Res.bind_ok]
  show (get (look ρ q)).bind _ = _
  rw [k2, get_some, Res.bind_ok, hv]; rfl
theorem xs_retl {i : Nat} {ds : List D} {r : List S} {Q : Flow × Env → Prop} (h : ρ[i]? = some (some (.lst ds))) (hl : lk.contains i = false) (q : Q (.ret (.lst ds), ρ.set i none)) : XS cl lk (.ret (.var i) :: r) ρ Q := by
  refine XS.of ?_
  have e : evS cl lk (.ret (.var i)) ρ = .ok (.ret (.lst ds), ρ.set i none) := by
    unfold evS
    simp only [h]
    rw [hl]; rfl
  unfold evSs
  rw [e]; exact q
theorem jv_callr2 {k : Nat} {a b : T} {x y : D} {v : Vl} {fin : List (Option Vl)} (h : AR cl a ρ (.dat x)) (h' : AR cl b ρ (.dat y)) (c : cl k [.dat y, .dat x] = .ok (v, fin)) (hl : fin.length = 2) : EV cl (.callr k [a, b]) ρ v := by
  unfold EV evE
  rw [show evAs cl [a, b] ρ = .ok ([.dat x, .dat y].map .vl, ρ) from av_cons h (av_cons h' av_nil), Res.bind_ok]
  exact doCall_vl (vs := [.dat y, .dat x]) c hl
theorem xs_unp {is : List Nat} {e : T} {r : List S} {Q : Flow × Env → Prop} (ht : tgOk lk (.tp is) = true) (h : XE cl e ρ fun p => ∃ d ρ1, p.1.frz = some d ∧ store (.tp is) d p.2 = some ρ1 ∧ XS cl lk r ρ1 Q) : XS cl lk (.unp is e :: r) ρ Q := by
  refine XS.of ?_
  obtain ⟨⟨v, ρ'⟩, e1, d, ρ1, e2, e3, k⟩ := Res.sat_iff.mp h.sat
  have e : evS cl lk (.unp is e) ρ = .ok (.nx, ρ1) := by
    unfold evS
    rw [e1, Res.bind_ok]
    show (get (if tgOk lk (.tp is) then v.frz else none)).bind _ = _
    rw [if_pos ht, e2, get_some, Res.bind_ok]
    show (get (store (.tp is) d ρ')).bind _ = _
    rw [e3]; rfl
  unfold evSs
  rw [e]
  exact k.sat
end
end Pv
set_option Elab.async false
set_option linter.all false
set_option maxRecDepth 100000
set_option maxHeartbeats 2100000
/-! Sorted pairs of a text and a whole number: one order, one list. -/
namespace Pv
open PySem
theorem sortP_perm (xs : List (Str × Int)) : (sortP xs).Perm xs := List.mergeSort_perm xs leP
theorem sortP_pw (xs : List (Str × Int)) : (sortP xs).Pairwise fun p q => leP p q = true := List.pairwise_mergeSort leP_trans leP_total xs
theorem sortP_one {xs ys : List (Str × Int)} (h : xs.Perm ys) (hx : xs.Pairwise fun p q => leP p q = true) (hy : ys.Pairwise fun p q => leP p q = true) : xs = ys :=
  List.Perm.eq_of_pairwise (fun a b _ _ => leP_anti a b) hx hy h
theorem sortP_filter (p : Str × Int → Bool) (xs : List (Str × Int)) : (sortP xs).filter p = sortP (xs.filter p) :=
  sortP_one (((sortP_perm xs).filter p).trans (sortP_perm _).symm) ((sortP_pw xs).filter p) (sortP_pw _)
theorem sortP_mem {xs : List (Str × Int)} {p : Str × Int} : p ∈ sortP xs ↔ p ∈ xs := (sortP_perm xs).mem_iff
theorem sortP_len (xs : List (Str × Int)) : (sortP xs).length = xs.length := (sortP_perm xs).length_eq
theorem pairsOf_map : ∀ ps : List (Str × Int), pairsOf (ps.map pairD) = some ps
  | [] => rfl
  | p :: ps => by
    show (pairsOf (ps.map pairD)).map _ = _
    rw [pairsOf_map ps]; rfl
theorem blt_sorted_pairs (ps : List (Str × Int)) : blt1 .sortp (.list (ps.map pairD)) = some (.lst ((sortP ps).map pairD)) := by
  show (pairsOf (ps.map pairD)).map _ = _
  rw [pairsOf_map]; rfl
theorem eqv_pairD (p : Str × Int) (a : Str) (i : Int) : PyData.eqv (pairD p) (.tuple [.str a, .int i]) = decide (p = (a, i)) := by
  obtain ⟨b, j⟩ := p
  show ((b == a) && ((j == i) && true)) = _
  rw [Bool.and_true]
  by_cases h1 : b = a
  · by_cases h2 : j = i
    · rw [h1, h2, beq_self_eq_true, beq_self_eq_true]
      exact (decide_eq_true rfl).symm
    · rw [show (j == i) = false from beq_eq_false_iff_ne.mpr h2, Bool.and_false]
      exact (decide_eq_false fun e => h2 (Prod.mk.inj e).2).symm
  · rw [show (b == a) = false from beq_eq_false_iff_ne.mpr h1, Bool.false_and]
    exact (decide_eq_false fun e => h1 (Prod.mk.inj e).1).symm
theorem any_pairs (ps : List (Str × Int)) (a : Str) (i : Int) : ((ps.map pairD).any fun z => PyData.eqv z (.tuple [.str a, .int i])) = decide ((a, i) ∈ ps) := by
  rw [List.any_map, Bool.eq_iff_iff, List.any_eq_true, decide_eq_true_eq]
  constructor
  · rintro ⟨p, hp, e⟩
    have e' : PyData.eqv (pairD p) (.tuple [.str a, .int i]) = true := e
    rw [eqv_pairD, decide_eq_true_eq] at e'
    rwa [← e']
  · intro h
    exact ⟨_, h, (eqv_pairD (a, i) a i).trans (decide_eq_true rfl)⟩
theorem find_idx {α : Type} {p : α → Bool} : ∀ {l : List α} {x : α}, l.find? p = some x → ∃ j, l.findIdx? p = some j ∧ l[j]? = some x
  | a :: l, x, h => by
    rw [List.find?_cons] at h
    rw [List.findIdx?_cons]
    cases q : p a with
    | true =>
      rw [q] at h
      cases h
      exact ⟨0, by rw [if_pos rfl], rfl⟩
    | false =>
      rw [q] at h
      obtain ⟨j, e1, e2⟩ := find_idx h
      exact ⟨j + 1, by rw [if_neg (by decide), e1]; rfl, e2⟩
end Pv
set_option Elab.async false
set_option linter.all false
set_option maxRecDepth 100000
set_option maxHeartbeats 4100000
namespace Pv
open PySem
/-! ### walks, told by what is left -/
theorem turns_end {tg : Tg} {f : Env → Res (Flow × Env)} (I : List D → Env → Prop) (R : Res (Flow × Env) → Prop) (nil : ∀ ρ, I [] ρ → R (.ok (.nx, ρ)))
    (step : ∀ d rest ρ, I (d :: rest) ρ → ∃ ρ1, store tg d ρ = some ρ1 ∧ ((∃ ρ2, f ρ1 = .ok (.nx, ρ2) ∧ I rest ρ2) ∨ (∃ x ρ2, f ρ1 = .exc x ρ2 ∧ R (.exc x ρ2)) ∨ (∃ v ρ2, f ρ1 = .ok (.ret v, ρ2) ∧ R (.ok (.ret v, ρ2))))) :
    ∀ ds ρ, I ds ρ → R (forTurns tg f ds ρ)
  | [], ρ, h => by unfold forTurns; exact nil ρ h
  | d :: ds, ρ, h => by
    obtain ⟨ρ1, e1, h⟩ := step d ds ρ h
    unfold forTurns
    rw [e1, get_some, Res.bind_ok]
    rcases h with ⟨ρ2, e2, h⟩ | ⟨x, ρ2, e2, h⟩ | ⟨v, ρ2, e2, h⟩ <;> rw [e2]
    · exact turns_end I R nil step ds ρ2 h
    · exact h
    · exact h
section
variable {cl : Fun} {ρ : Env} {lk : List Nat}
theorem jv_compG {elt it : T} {own : List Nat} {tg : Tg} {k : Wkd} {x : D} {ds : List D} {g : D → D} (St : Env → Prop) (hown : ownOk ρ own = true) (h : OPL cl it ρ x) (hi : itemsOf k x = some ds) (h0 : St ρ)
    (step : ∀ d ∈ ds, ∀ ρ', St ρ' → ∃ ρ1 v ρ2, store tg d (Env.wipe ρ' own) = some ρ1 ∧ evE cl elt ρ1 = .ok (v, ρ2) ∧ v.frz = some (g d) ∧ St ρ2) (hb : ∀ ρ', St ρ' → Env.back ρ ρ' own = ρ) :
    EV cl (.comp elt own tg k it none) ρ (.lst (ds.map g)) := by
  obtain ⟨o, h1, h2, h3, h4⟩ := h
  have key : ∀ (ds acc : List D) (ρ' : Env), (∀ d ∈ ds, ∀ ρ', St ρ' → ∃ ρ1 v ρ2, store tg d (Env.wipe ρ' own) = some ρ1 ∧ evE cl elt ρ1 = .ok (v, ρ2) ∧ v.frz = some (g d) ∧ St ρ2) → St ρ' →
      ∃ ρ2, compTurns own tg (evC cl none) (evE cl elt) ds acc ρ' = .ok (acc ++ ds.map g, ρ2) ∧ St ρ2 := by
    intro ds
    induction ds with
    | nil => exact fun acc ρ' _ s => ⟨ρ', by unfold compTurns; rw [List.map_nil, List.append_nil], s⟩
    | cons d ds ih =>
      intro acc ρ' st s
      obtain ⟨ρ1, v, ρ2, e1, e2, e3, s2⟩ := st d (.head _) ρ' s
      obtain ⟨ρ3, e, s3⟩ := ih (acc ++ [g d]) ρ2 (fun d hd => st d (.tail _ hd)) s2
      refine ⟨ρ3, ?_, s3⟩
      unfold compTurns
      rw [e1, get_some, Res.bind_ok, show evC cl none ρ1 = .ok (true, ρ1) by unfold evC; rfl, Res.bind_ok]
      show (evE cl elt ρ1).bind _ = _
      rw [e2, Res.bind_ok]
      show (get v.frz).bind _ = _
      rw [e3, get_some, Res.bind_ok, List.map_cons]
      rw [List.append_assoc] at e
      exact e
  obtain ⟨ρ2, e, s⟩ := key ds [] ρ step h0
  unfold EV evE
  rw [h1, Res.bind_ok]
  show (get (look ρ o)).bind _ = _
  rw [h2, get_some, Res.bind_ok, hi, get_some, Res.bind_ok]
  show (get (need (ownOk ρ own))).bind _ = _
  rw [hown]
  show ((compTurns own tg (evC cl none) (evE cl elt) ds [] (lockO o ρ)).noX).bind _ = _
  rw [h3, e, Res.noX_ok, Res.bind_ok, hb ρ2 s]
  show Res.ok (Vl.lst ([] ++ ds.map g), unlockO ρ o ρ) = _
  rw [h4, List.nil_append]
theorem jv_dgt {i : Nat} {k e : T} {kvs : List (Str × D)} {s : Str} {v : Vl} {d : D} (hi : ρ[i]? = some (some (.dct kvs))) (hk : EV cl k ρ (.dat (.str s))) (he : EV cl e ρ v) (hf : v.frz = some d) : EV cl (.dgt i k e) ρ (.dat ((valD kvs s).getD d)) := by
  unfold EV evE
  rw [hi]
  show (evE cl k ρ).bind _ = _
  rw [show evE cl k ρ = _ from hk, Res.bind_ok]
  show (evE cl e ρ).bind _ = _
  rw [show evE cl e ρ = _ from he, Res.bind_ok]
  show (get v.frz).bind _ = _
  rw [hf, get_some, Res.bind_ok]
  have : lookD ρ i (.dat (.str s)) = some (valD kvs s) := by
    unfold lookD
    rw [hi]; rfl
  show (get (lookD ρ i (.dat (.str s)))).bind _ = _
  rw [this]; rfl
theorem tb_ind {i : Nat} {n : Bool} {k : T} {kvs : List (Str × D)} {s : Str} (hi : ρ[i]? = some (some (.dct kvs))) (hk : EV cl k ρ (.dat (.str s))) : TB cl (.ind n k i) ρ (n != (valD kvs s).isSome) := by
  unfold TB evT
  rw [show evE cl k ρ = _ from hk, Res.bind_ok]
  have : lookD ρ i (.dat (.str s)) = some (valD kvs s) := by
    unfold lookD
    rw [hi]; rfl
  show (get (lookD ρ i (.dat (.str s)))).bind _ = _
  rw [this]; rfl
/-- a call that is handed plain data and lent a dict that it leaves as it is -/
theorem jv_lend1 {i k : Nat} {a : T} {x : D} {kvs : List (Str × D)} {v : Vl} {f : Option Vl} (h : AR cl a ρ (.dat x)) (hi : ρ[i]? = some (some (.dct kvs))) (c : cl k [.dat x, .dct kvs] = .ok (v, [f, some (.dct kvs)])) : EV cl (.call k [a, .var i]) ρ v := by
  unfold EV evE
  have e : evAs cl [a, .var i] ρ = .ok ([.vl (.dat x), .lend i], ρ) := by
    unfold evAs
    rw [show argOf a (evE cl a) ρ = _ from h, Res.bind_ok]
    unfold evAs
    have : argOf (.var i) (evE cl (.var i)) ρ = .ok (.lend i, ρ) := by
      unfold argOf T.isVar
      simp only [hi]
    rw [this, Res.bind_ok]
    unfold evAs
    rfl
  rw [e, Res.bind_ok]
  show doCall (cl k) [.vl (.dat x), .lend i] ρ = _
  have av : argVs ρ [.vl (.dat x), .lend i] = some [.dat x, .dct kvs] := by
    unfold argVs argV argVs argV argVs
    simp only [hi]
    rfl
  unfold doCall
  rw [if_pos (show nodupB (lends [.vl (.dat x), .lend i]) = true from rfl), av, get_some, Res.bind_ok, c]
  show (get (giveBack ρ [.vl (.dat x), .lend i] [f, some (.dct kvs)])).bind _ = _
  have g : giveBack ρ [.vl (.dat x), .lend i] [f, some (.dct kvs)] = some ρ := by
    unfold giveBack giveBack giveBack
    rw [set_get hi]
  rw [g]; rfl
theorem nx_putd {i : Nat} {k e : T} {kvs : List (Str × D)} {s : Str} {v : Vl} {d : D} (hi : ρ[i]? = some (some (.dct kvs))) (hk : EV cl k ρ (.dat (.str s))) (he : EV cl e ρ v) (hf : v.frz = some d) (hl : kvs.length < 16777216) : NX cl lk (.putd i k e) ρ (ρ.set i (some (.dct (putD kvs s d)))) := by
  unfold NX evS
  rw [show evE cl e ρ = _ from he, Res.bind_ok]
  show (get v.frz).bind _ = _
  rw [hf, get_some, Res.bind_ok]
  simp only [hi]
  rw [show evE cl k ρ = _ from hk, Res.bind_ok]
  show (get (some s)).bind _ = _
  rw [get_some, Res.bind_ok]
  simp only [hi]
  rw [if_pos (decide_eq_true hl)]
theorem ss_nx {s : S} {r : List S} {ρ' : Env} (h : NX cl lk s ρ ρ') : evSs cl lk (s :: r) ρ = evSs cl lk r ρ' := by
  rw [evSs, show evS cl lk s ρ = _ from h, Res.bind_ok]
/-- a statement that ends all: it raises, or returns -/
def Ends (r : Res (Flow × Env)) : Prop := (∃ x ρ', r = .exc x ρ') ∨ ∃ v ρ', r = .ok (.ret v, ρ')
theorem ss_fin {s : S} {r : List S} (h : Ends (evS cl lk s ρ)) : evSs cl lk (s :: r) ρ = evS cl lk s ρ := by
  rw [evSs]
  rcases h with ⟨x, ρ', e⟩ | ⟨v, ρ', e⟩ <;> rw [e] <;> rfl
theorem s_ift {c : T} {a : List S} (h : TB cl c ρ true) : evS cl lk (.iff c a []) ρ = evSs cl lk a ρ := by
  unfold evS
  rw [show evT cl c ρ = _ from h, Res.bind_ok]
theorem s_iff {c : T} {a : List S} (h : TB cl c ρ false) : NX cl lk (.iff c a []) ρ ρ := nx_if h
theorem s_forv {tg : Tg} {k : Wkd} {i : Nat} {y : D} {ds : List D} {body : List S} (hx : ρ[i]? = some (some (.dat y))) (ht : tgOk lk tg = true) (e2 : itemsOf k y = some ds) : evS cl lk (.forl tg k (.var i) body) ρ = forTurns tg (evSs cl lk body) ds ρ := by
  obtain ⟨o, h1, h2, h3, h4⟩ := opl_var (cl := cl) hx
  unfold evS
  rw [h1, Res.bind_ok]
  show (get (look ρ o)).bind _ = _
  rw [h2, get_some, Res.bind_ok, e2, get_some, Res.bind_ok, if_pos ht]
  show (forTurns tg (evSs cl lk body) ds (lockO o ρ)).bind _ = _
  rw [h3]
  cases forTurns tg (evSs cl lk body) ds ρ with
  | ok p => show Res.ok (p.1, unlockO ρ o p.2) = _; rw [h4]
  | exc _ _ => rfl
  | stuck => rfl
theorem s_fore {tg : Tg} {k : Wkd} {it : T} {y : D} {ds : List D} {body : List S} {v : Vl} (h : EV cl it ρ v) (hv : it.isVar = none) (hw : v.view = some y) (ht : tgOk lk tg = true) (e2 : itemsOf k y = some ds) : evS cl lk (.forl tg k it body) ρ = forTurns tg (evSs cl lk body) ds ρ := by
  obtain ⟨o, h1, h2, h3, h4⟩ := opl_ev h hv hw
  unfold evS
  rw [h1, Res.bind_ok]
  show (get (look ρ o)).bind _ = _
  rw [h2, get_some, Res.bind_ok, e2, get_some, Res.bind_ok, if_pos ht]
  show (forTurns tg (evSs cl lk body) ds (lockO o ρ)).bind _ = _
  rw [h3]
  cases forTurns tg (evSs cl lk body) ds ρ with
  | ok p => show Res.ok (p.1, unlockO ρ o p.2) = _; rw [h4]
  | exc _ _ => rfl
  | stuck => rfl
theorem s_forl {tg : Tg} {k : Wkd} {i : Nat} {ds items : List D} {body : List S} (hi : ρ[i]? = some (some (.lst ds))) (ht : tgOk lk tg = true) (e2 : itemsOf k (.list ds) = some items) :
    evS cl lk (.forl tg k (.var i) body) ρ = (forTurns tg (evSs cl lk body) items (ρ.set i (some (.lck ds)))).bind fun q => .ok (q.1, unlockO ρ (.pk i) q.2) := by
  unfold evS
  rw [opnd_var hi, Res.bind_ok]
  have hlook : look ρ (.pk i) = some (.list ds) := by unfold look; simp only [hi]; rfl
  have hlk : lockO (.pk i) ρ = ρ.set i (some (.lck ds)) := by unfold lockO; simp only [hi]
  show (get (look ρ (.pk i))).bind _ = _
  rw [hlook, get_some, Res.bind_ok, e2, get_some, Res.bind_ok, if_pos ht]
  show (forTurns tg (evSs cl lk body) items (lockO (.pk i) ρ)).bind _ = _
  rw [hlk]
theorem s_asg {i : Nat} {e : T} {v : Vl} (h : EV cl e ρ v) (hl : lk.contains i = false) (hi : i < ρ.length) : NX cl lk (.asg i e) ρ (ρ.set i (some v)) := nx_asg h hl hi
theorem s_ret {e : T} {v : Vl} (hv : e.isVar = none) (h : EV cl e ρ v) : evS cl lk (.ret e) ρ = .ok (.ret v, ρ) := by
  have := js_ret (lk := lk) (r := []) hv h
  unfold JS evSs at this
  cases q : evS cl lk (.ret e) ρ with
  | ok p =>
    obtain ⟨f, ρ1⟩ := p
    rw [q] at this
    cases f with
    | ret v' => exact this
    | nx => exact absurd this (by show ¬ evSs cl lk [] ρ1 = _; unfold evSs; intro h; cases h)
    | brk => cases this
    | cnt => cases this
  | exc _ _ => rw [q] at this; cases this
  | stuck => rw [q] at this; cases this
theorem s_retx {e : T} {x : Ex} (hv : e.isVar = none) (h : EX cl e ρ x) : evS cl lk (.ret e) ρ = .exc x ρ := by
  cases e <;> first | (cases hv; done) | (unfold evS; show (evE cl _ ρ).bind _ = _; rw [show evE cl _ ρ = _ from h]; rfl)
theorem s_raise {k : Nat} {fs : List Str} {es : List T} {ds : List D} (h : DV cl es ρ ds) : evS cl lk (.raise k fs es) ρ = .exc ⟨k, (fs.zip ds).reverse⟩ ρ := by
  unfold evS
  rw [show evDs cl es ρ = _ from h]; rfl
end
theorem mem_tup {x : D} {ys : List D} (h : shp x = true) (h' : shp (.tuple ys) = true) : cmp2 .mem x (.tuple ys) = some (ys.any fun z => PyData.eqv z x) := by
  have e : cmp2 .mem x (.tuple ys) = if shp x && shp (.tuple ys) then memD x (.tuple ys) else none := by cases x <;> rfl
  rw [e, h, h']; rfl
theorem mem_lst {x : D} {ys : List D} (h : shp x = true) (h' : shp (.list ys) = true) : cmp2 .mem x (.list ys) = some (ys.any fun z => PyData.eqv z x) := by
  have e : cmp2 .mem x (.list ys) = if shp x && shp (.list ys) then memD x (.list ys) else none := by cases x <;> rfl
  rw [e, h, h']; rfl
theorem nmem_tup {x : D} {ys : List D} (h : shp x = true) (h' : shp (.tuple ys) = true) : cmp2 .nmem x (.tuple ys) = some (!ys.any fun z => PyData.eqv z x) := by
  have e : cmp2 .nmem x (.tuple ys) = if shp x && shp (.tuple ys) then (memD x (.tuple ys)).map (!·) else none := by cases x <;> rfl
  rw [e, h, h']; rfl
theorem nmem_lst {x : D} {ys : List D} (h : shp x = true) (h' : shp (.list ys) = true) : cmp2 .nmem x (.list ys) = some (!ys.any fun z => PyData.eqv z x) := by
  have e : cmp2 .nmem x (.list ys) = if shp x && shp (.list ys) then (memD x (.list ys)).map (!·) else none := by cases x <;> rfl
  rw [e, h, h']; rfl
theorem eqv_ss (a b : Str) : PyData.eqv (.str a) (.str b) = decide (a = b) := by
  show (a == b) = _
  by_cases h : a = b
  · rw [h, beq_self_eq_true]
    exact (decide_eq_true rfl).symm
  · rw [beq_eq_false_iff_ne.mpr h]
    exact (decide_eq_false h).symm
theorem any_strs (T : List Str) (s : Str) : ((T.map PyData.str).any fun z => PyData.eqv z (.str s)) = decide (s ∈ T) := by
  rw [List.any_map, Bool.eq_iff_iff, List.any_eq_true, decide_eq_true_eq]
  constructor
  · rintro ⟨t, ht, e⟩
    have e : PyData.eqv (.str t) (.str s) = true := e
    rw [eqv_ss, decide_eq_true_eq] at e
    exact e ▸ ht
  · exact fun h => ⟨s, h, (eqv_ss s s).trans (decide_eq_true rfl)⟩
theorem cut_take (xs : List D) (k : Nat) : cutL xs none (some (k : Nat)) = xs.take k := by
  unfold cutL
  rw [HT.sIx_none, HT.sIx_nat, List.drop_zero, Nat.sub_zero]
  rcases Nat.le_total k xs.length with h | h
  · rw [Nat.min_eq_left h]
  · rw [Nat.min_eq_right h, List.take_of_length_le (Nat.le_refl _), List.take_of_length_le h]
section
variable {cl : Fun} {ρ : Env} {lk : List Nat}
theorem s_retv {i : Nat} {d : D} (h : ρ[i]? = some (some (.dat d))) : evS cl lk (.ret (.var i)) ρ = .ok (.ret (.dat d), ρ) := by
  unfold evS
  simp only [h]
theorem op_at {i : Nat} {v : Vl} {x : D} (hi : ρ[i]? = some (some v)) (hv : v.view = some x) : OP cl (.var i) ρ x := ⟨.pk i, opnd_var hi, by unfold look; simp only [hi]; exact hv⟩
theorem xe_give {i : Nat} {ds : List D} {Q : Vl × Env → Prop} (h : ρ[i]? = some (some (.lst ds))) (q : Q (.dat (.list ds), ρ.set i (some (.dat (.list ds))))) : XE cl (.var i) ρ Q := by
  refine XE.of ?_
  unfold evE
  rw [h]
  exact q
theorem nx_asgs2 {i j : Nat} {a b : T} {v w : Vl} (h : EV cl a ρ v) (k : EV cl b ρ w) (hi : lk.contains i = false) (hj : lk.contains j = false) (li : i < ρ.length) (lj : j < ρ.length) : NX cl lk (.asgs [i, j] [a, b]) ρ ((ρ.set i (some v)).set j (some w)) := by
  unfold NX evS evVs evVs evVs
  rw [show evE cl a ρ = .ok (v, ρ) from h, Res.bind_ok]
  show (((evE cl b ρ).bind _).bind _).bind _ = _
  rw [show evE cl b ρ = .ok (w, ρ) from k, Res.bind_ok]
  show (get (putsS lk ρ [i, j] [v, w])).bind _ = _
  have : putsS lk ρ [i, j] [v, w] = some ((ρ.set i (some v)).set j (some w)) := by
    unfold putsS
    rw [putS_ok hi li, Option.bind_some]
    unfold putsS
    rw [putS_ok hj (by rw [List.length_set]; exact lj), Option.bind_some]
    unfold putsS; rfl
  rw [this]; rfl
/-- a walk that goes through, told by a fold -/
theorem turns_fold {α : Type} {tg : Tg} {f : Env → Res (Flow × Env)} (g : α → D → α) (St : α → Env → Prop) (Ok : α → Prop) : ∀ (ds : List D) (a : α) (ρ : Env),
    (∀ d ∈ ds, ∀ a ρ, Ok a → St a ρ → ∃ ρ1 ρ2, store tg d ρ = some ρ1 ∧ f ρ1 = .ok (.nx, ρ2) ∧ St (g a d) ρ2 ∧ Ok (g a d)) → Ok a → St a ρ → ∃ ρ2, forTurns tg f ds ρ = .ok (.nx, ρ2) ∧ St (ds.foldl g a) ρ2 ∧ Ok (ds.foldl g a)
  | [], a, ρ, _, o, s => ⟨ρ, by unfold forTurns; rfl, s, o⟩
  | d :: ds, a, ρ, h, o, s => by
    obtain ⟨ρ1, ρ2, e1, e2, s2, o2⟩ := h d (.head _) a ρ o s
    obtain ⟨ρ3, e3, s3, o3⟩ := turns_fold g St Ok ds (g a d) ρ2 (fun d hd => h d (.tail _ hd)) o2 s2
    refine ⟨ρ3, ?_, s3, o3⟩
    unfold forTurns
    rw [e1, get_some, Res.bind_ok, e2, Res.bind_ok]
    exact e3
theorem nx_app {i : Nat} {e : T} {ds : List D} {v : Vl} {d : D} (ha : ρ[i]? = some (some (.lst ds))) (h : EV cl e ρ v) (hf : v.frz = some d) (hz : ds.length < 16777216) : NX cl lk (.app i e) ρ (ρ.set i (some (.lst (ds ++ [d])))) := by
  unfold NX evS
  simp only [ha]
  rw [show evE cl e ρ = .ok (v, ρ) from h, Res.bind_ok]
  show (get v.frz).bind _ = _
  rw [hf, get_some, Res.bind_ok]
  simp only [ha]
  rw [if_pos (decide_eq_true hz)]
theorem nx_ext {i : Nat} {e : T} {ds ys : List D} (ha : ρ[i]? = some (some (.lst ds))) (h : OP cl e ρ (.list ys)) (hz : ds.length + ys.length ≤ 16777216) : NX cl lk (.ext i e) ρ (ρ.set i (some (.lst (ds ++ ys)))) := by
  obtain ⟨o, h1, h2⟩ := h
  unfold NX evS
  simp only [ha, h1, Res.bind_ok, h2, get_some]
  rw [if_pos (show sizeOk (ds.length + ys.length) = true from decide_eq_true hz)]
end
end Pv
set_option Elab.async false
set_option linter.all false
set_option maxRecDepth 100000
set_option maxHeartbeats 4100000
/-! More comprehensions told exactly; both branches of an if. -/
namespace Pv
open PySem
section
variable {cl : Fun} {ρ : Env} {lk : List Nat}
/-- a list that is walked right now -/
theorem opl_lck {i : Nat} {ds : List D} (h : ρ[i]? = some (some (.lck ds))) : OPL cl (.var i) ρ (.list ds) := by
  refine ⟨.pk i, opnd_var h, ?_, ?_, fun ρ' => ?_⟩
  · unfold look; simp only [h]; rfl
  · unfold lockO; simp only [h]
  · unfold unlockO; simp only [h]
/-- two names, over an own list -/
theorem jv_compl2 {i a b : Nat} {elt : T} {ds : List D} {g : D → D} (hi : ρ[i]? = some (some (.lst ds))) (ha : ρ[a]? = some none) (hb : ρ[b]? = some none) (hab : a ≠ b) (hia : i ≠ a) (hib : i ≠ b)
    (hf : ∀ d ∈ ds, ∃ x y v, d = .tuple [x, y] ∧ EV cl elt (two (ρ.set i (some (.lck ds))) a b (some (.dat x)) (some (.dat y))) v ∧ v.frz = some (g d)) :
    EV cl (.comp elt [a, b] (.tp [a, b]) .seq (.var i) none) ρ (.lst (ds.map g)) := by
  have ha' : (ρ.set i (some (.lck ds)))[a]? = some none := by rw [List.getElem?_set_ne hia]; exact ha
  have hb' : (ρ.set i (some (.lck ds)))[b]? = some none := by rw [List.getElem?_set_ne hib]; exact hb
  obtain ⟨p, p', e⟩ := turns_two (cl := cl) (f := evE cl elt) (g := g) ha' hb' hab ds [] none none hf
  have e0 : two (ρ.set i (some (.lck ds))) a b none none = ρ.set i (some (.lck ds)) := by unfold two; rw [set_get ha', set_get hb']
  rw [e0] at e
  have hown : ownOk ρ [a, b] = true := by
    unfold ownOk
    show ((match ρ[a]? with | some (some v) => !v.own | _ => true) && ((match ρ[b]? with | some (some v) => !v.own | _ => true) && true)) = true
    rw [ha, hb]; rfl
  have hlk : lockO (.pk i) ρ = ρ.set i (some (.lck ds)) := by unfold lockO; simp only [hi]
  have hlook : look ρ (.pk i) = some (.list ds) := by unfold look; simp only [hi]; rfl
  unfold EV evE
  rw [opnd_var hi, Res.bind_ok]
  show (get (look ρ (.pk i))).bind _ = _
  rw [hlook, get_some, Res.bind_ok]
  show (get (some ds)).bind _ = _
  rw [get_some, Res.bind_ok]
  show (get (need (ownOk ρ [a, b]))).bind _ = _
  rw [hown]
  show ((compTurns [a, b] (.tp [a, b]) (evC cl none) (evE cl elt) ds [] (lockO (.pk i) ρ)).noX).bind _ = _
  rw [hlk, e, Res.noX_ok, Res.bind_ok]
  have hback : Env.back ρ (two (ρ.set i (some (.lck ds))) a b p p') [a, b] = ρ.set i (some (.lck ds)) := by
    show (((two (ρ.set i (some (.lck ds))) a b p p').set b (keepV ρ[b]?)).set a (keepV ρ[a]?)) = _
    rw [ha, hb]
    exact two_wipe ha' hb' hab
  show Res.ok (Vl.lst ([] ++ ds.map g), unlockO ρ (.pk i) (Env.back ρ (two (ρ.set i (some (.lck ds))) a b p p') [a, b])) = _
  rw [hback, List.nil_append]
  have hu : unlockO ρ (.pk i) (ρ.set i (some (.lck ds))) = ρ := by
    unfold unlockO
    simp only [hi, List.getElem?_set_self (lt_of_at hi)]
    rw [List.set_set]
    exact set_get hi
  rw [hu]
theorem s_ifE {c : T} {a b : List S} {x : Bool} (h : TB cl c ρ x) : evS cl lk (.iff c a b) ρ = if x then evSs cl lk a ρ else evSs cl lk b ρ := by
  unfold evS
  rw [show evT cl c ρ = .ok (x, ρ) from h, Res.bind_ok]
  cases x <;> rfl
theorem ss_one {s : S} {ρ' : Env} (h : NX cl lk s ρ ρ') : evSs cl lk [s] ρ = .ok (.nx, ρ') := by
  rw [ss_nx h]
  unfold evSs
  rfl
theorem ss_none : evSs cl lk [] ρ = .ok (.nx, ρ) := by unfold evSs; rfl
theorem nx_ifE {c : T} {a b : List S} {x : Bool} {ρ' : Env} (h : TB cl c ρ x) (ht : x = true → evSs cl lk a ρ = .ok (.nx, ρ')) (hf : x = false → evSs cl lk b ρ = .ok (.nx, ρ')) : NX cl lk (.iff c a b) ρ ρ' := by
  unfold NX
  rw [s_ifE h]
  cases x with
  | true => exact ht rfl
  | false => exact hf rfl
theorem jv_mxd {e d : T} {xs : List D} {ns : List Int} {j : Int} (h : OP cl e ρ (.list xs)) (k : EV cl d ρ (.dat (.int j))) (hn : intsOf xs = some ns) : EV cl (.mxd e d) ρ (.dat (.int (maxZ j ns))) := by
  obtain ⟨o, h1, h2⟩ := h
  unfold EV evE
  rw [h1, Res.bind_ok]
  show (evE cl d ρ).bind _ = _
  rw [show evE cl d ρ = _ from k, Res.bind_ok]
  show (get (look ρ o)).bind _ = _
  rw [h2, get_some, Res.bind_ok]
  show (get (intsOf xs)).bind _ = _
  rw [hn]
  rfl
theorem jv_mx {a b : T} {i j : Int} (h : EV cl a ρ (.dat (.int i))) (k : EV cl b ρ (.dat (.int j))) : EV cl (.mx a b) ρ (.dat (.int (if j > i then j else i))) := by
  unfold EV evE
  rw [show evE cl a ρ = _ from h, Res.bind_ok]
  show (evE cl b ρ).bind _ = _
  rw [show evE cl b ρ = _ from k, Res.bind_ok]
theorem s_retl {i : Nat} {ds : List D} (h : ρ[i]? = some (some (.lst ds))) (hl : lk.contains i = false) : evS cl lk (.ret (.var i)) ρ = .ok (.ret (.lst ds), ρ.set i none) := by
  unfold evS
  simp only [h]
  rw [hl]
  rfl
end
theorem intsOf_map : ∀ ns : List Int, intsOf (ns.map .int) = some ns
  | [] => rfl
  | n :: ns => by
    show (intsOf (ns.map .int)).map _ = _
    rw [intsOf_map ns]
    rfl
end Pv
namespace Pv
open PySem
theorem nx_asgs3 {cl : Fun} {ρ : Env} {lk : List Nat} {i j m : Nat} {a b c : T} {u v w : Vl} (h : EV cl a ρ u) (k : EV cl b ρ v) (l : EV cl c ρ w) (hi : lk.contains i = false) (hj : lk.contains j = false) (hm : lk.contains m = false) (li : i < ρ.length) (lj : j < ρ.length) (lm : m < ρ.length) : NX cl lk (.asgs [i, j, m] [a, b, c]) ρ (((ρ.set i (some u)).set j (some v)).set m (some w)) := by
  have e : evVs cl [a, b, c] ρ = .ok ([u, v, w], ρ) := by
    unfold evVs
    rw [show evE cl a ρ = _ from h, Res.bind_ok]
    unfold evVs
    rw [show evE cl b ρ = _ from k, Res.bind_ok]
    unfold evVs
    rw [show evE cl c ρ = _ from l, Res.bind_ok]
    unfold evVs
    rfl
  unfold NX evS
  rw [e, Res.bind_ok]
  show (get (putsS lk ρ [i, j, m] [u, v, w])).bind _ = _
  have : putsS lk ρ [i, j, m] [u, v, w] = some (((ρ.set i (some u)).set j (some v)).set m (some w)) := by
    unfold putsS
    rw [putS_ok hi li, Option.bind_some]
    unfold putsS
    rw [putS_ok hj (by rw [List.length_set]; exact lj), Option.bind_some]
    unfold putsS
    rw [putS_ok hm (by rw [List.length_set, List.length_set]; exact lm), Option.bind_some]
    unfold putsS
    rfl
  rw [this]; rfl
end Pv
set_option Elab.async false
set_option linter.all false
set_option maxRecDepth 100000
set_option maxHeartbeats 0
namespace K64
open PySem L2 Pv PyProof.Rows
def top (i : Nat) : Stmt := PySem.Challenge.pw_outandover_k64_free_programs.main.body.getD i (.Pass ⟨0, 0, 0, 0⟩)
/-- free_programs -/
def w0 : Df := ⟨2, 14, [(.asg 2 (.bin .add (.call 1 [(.var 0)]) (.call 1 [(.var 1)]))), (.asg 3 (.comp (.var 11) [11, 12] (.tp [11, 12]) .seq (.var 2) none)), (.asg 4 (.comp (.var 10) [10] (.nm 10) .seq (.cst (.str "abcdefghijklmnopqrstuvwxyz")) (some (.cmp .nmem (.var 10) (.var 3))))), (.asg 5 (.blt .sset (.bin .add (.var 3) (.sl (.var 4) none (some (.cst (.int 1))))))), (.asg 6 (.call 2 [(.var 5), (.bin .add (.mxd (.comp (.var 13) [12, 13] (.tp [12, 13]) .seq (.var 2) none) (.cst (.int 0))) (.cst (.int 2)))])), (.asg 7 (.lst [])), (.forl (.nm 8) .seq (.var 5) [(.asg 9 (.bin .add (.lst [(.var 8)]) (.comp (.var 11) [11] (.nm 11) .seq (.var 5) (some (.cmp .ne (.var 11) (.var 8)))))), (.app 7 (.blt .tuple (.comp (.tup [(.var 11), (.var 6)]) [11] (.nm 11) .seq (.var 9) none)))]), (.ret (.blt .tuple (.var 7)))]⟩
/-- named_in -/
def w1 : Df := ⟨1, 6, [(.asg 1 (.lst [])), (.forl (.nm 2) .seq (.var 0) [(.forl (.tp [3, 4, 5, 4]) .seq (.var 2) [(.ext 1 (.blt .list (.var 5))), (.iff (.blt (.isi .tuple) (.var 3)) [(.app 1 (.var 3))] [(.iff (.cmp .ne (.var 3) (.cst (.str ""))) [(.app 1 (.tup [(.var 3), (.cst (.int 0))]))] [])])])]), (.ret (.var 1))]⟩
/-- free_lines -/
def w2 : Df := ⟨2, 4, [(.asg 2 (.bin .add (.tup [(.cst (.str ""))]) (.blt .tuple (.var 0)))), (.asg 3 (.bin .add (.blt .rngt (.var 1)) (.tup [(.cst (.tuple [(.str "back")]))]))), (.ret (.bin .mul (.tup [(.tup [(.var 2), (.var 3), (.tup [])])]) (.var 1)))]⟩
/-- _law_feed -/
def w3 : Df := ⟨1, 1, [(.ret (.dct ["cells", "at", "rest", "turn"] [(.blt .list (.cut 0 63)), (.cst (.int 0)), (.cst (.int 0)), (.cst (.int 0))]))]⟩
/-- _law_draw -/
def w4 : Df := ⟨2, 8, [(.asg 2 (.bin .add (.ixd 0 (.cst (.str "turn"))) (.cst (.int 1)))), (.putd 0 (.cst (.str "turn")) (.var 2)), (.iff (.cmp .gt (.ixd 0 (.cst (.str "rest"))) (.cst (.int 0))) [(.asg 5 (.bin .mod (.blt .int (.ixd 0 (.cst (.str "rest")))) (.var 1))), (.putd 0 (.cst (.str "rest")) (.bin .fdiv (.ixd 0 (.cst (.str "rest"))) (.var 1))), (.ret (.var 5))] []), (.asgs [6, 7] [(.ixd 0 (.cst (.str "at"))), (.ixd 0 (.cst (.str "cells")))]), (.putd 0 (.cst (.str "at")) (.bin .add (.var 6) (.cst (.int 1)))), (.asg 3 (.ite (.cmp .ne (.var 7) (.lst [])) (.ix (.var 7) (.bin .mod (.blt .int (.var 6)) (.blt .len (.var 7)))) (.cst (.int 61681)))), (.iff (.and (.cmp .ge (.var 3) (.bin .pow (.cst (.int 10)) (.cst (.int 18)))) (.cmp .lt (.var 6) (.blt .len (.var 7)))) [(.putd 0 (.cst (.str "rest")) (.bin .fdiv (.var 3) (.var 1))), (.ret (.bin .mod (.blt .int (.var 3)) (.var 1)))] []), (.asg 4 (.bin .mod (.blt .int (.bin .add (.bin .add (.bin .mod (.blt .int (.var 3)) (.cst (.int 2147481907))) (.bin .mul (.cst (.int 50021)) (.var 2))) (.cst (.int 613)))) (.cst (.int 2147483489)))), (.asg 4 (.bin .mod (.blt .int (.bin .add (.bin .add (.bin .mul (.var 4) (.var 4)) (.bin .mul (.bin .mul (.cst (.int 6961)) (.var 2)) (.var 2))) (.cst (.int 127)))) (.cst (.int 2147483353)))), (.ret (.bin .mod (.blt .int (.bin .fdiv (.bin .mod (.blt .int (.bin .add (.bin .mul (.var 4) (.var 4)) (.bin .mul (.cst (.int 577)) (.var 4)))) (.cst (.int 2147483249))) (.cst (.int 32)))) (.var 1)))]⟩
/-- _law_pick -/
def w5 : Df := ⟨2, 2, [(.ret (.ix (.var 1) (.call 4 [(.var 0), (.blt .len (.var 1))])))]⟩
/-- _law_rule -/
def w6 : Df := ⟨5, 9, [(.asg 5 (.ite (.var 4) (.cst (.str "")) (.call 5 [(.var 0), (.var 1)]))), (.asg 6 (.lst [])), (.iff (.cmp .ne (.var 2) (.lst [])) [(.asg 6 (.comp (.call 5 [(.var 0), (.var 2)]) [8] (.nm 8) .rng (.call 4 [(.var 0), (.cst (.int 3))]) none))] []), (.asg 7 (.call 5 [(.var 0), (.lst [(.cst (.str "step")), (.cst (.str "next")), (.cst (.str "out")), (.cst (.str "go")), (.cst (.str "next")), (.cst (.str "out"))])])), (.ret (.tup [(.var 5), (.var 7), (.blt .tuple (.blt .ssetp (.var 6))), (.call 4 [(.var 0), (.var 3)])]))]⟩
/-- _law_guide -/
def w7 : Df := ⟨4, 8, [(.asg 4 (.lst [])), (.forl (.nm 5) .seq (.var 3) [(.asg 6 (.comp (.call 6 [(.var 0), (.var 1), (.var 2), (.blt .len (.var 3)), (.cmp .eq (.var 7) (.bin .sub (.var 5) (.cst (.int 1))))]) [7] (.nm 7) .rng (.var 5) none)), (.app 4 (.blt .tuple (.var 6)))]), (.ret (.blt .tuple (.var 4)))]⟩
/-- _law_free -/
def w8 : Df := ⟨2, 20, [(.asgs [6, 7, 8] [(.lst []), (.lst []), (.cst (.int 0))]), (.forl (.nm 2) .seq (.tup [(.var 0), (.var 1)]) [(.forl (.nm 9) .seq (.var 2) [(.forl (.tp [13, 14, 15, 16]) .seq (.var 9) [(.ext 6 (.bin .add (.blt .list (.var 15)) (.ite (.blt (.isi .tuple) (.var 13)) (.lst [(.var 13)]) (.lst [])))), (.ext 7 (.ite (.and (.blt (.isi .str) (.var 13)) (.cmp .ne (.var 13) (.cst (.str "")))) (.lst [(.var 13)]) (.lst [])))])])]), (.forl (.tp [10, 11]) .seq (.var 6) [(.app 7 (.var 10)), (.asg 8 (.mx (.var 8) (.var 11)))]), (.app 7 (.ix (.comp (.var 18) [18] (.nm 18) .seq (.cst (.str "abcdefghijklmnopqrstuvwxyz")) (some (.cmp .nmem (.var 18) (.var 7)))) (.cst (.int 0)))), (.asg 3 (.blt .sset (.var 7))), (.asg 4 (.tup [(.bin .add (.tup [(.cst (.str ""))]) (.blt .tuple (.var 3))), (.bin .add (.blt .rngt (.bin .add (.var 8) (.cst (.int 2)))) (.tup [(.tup [(.cst (.str "back"))])])), (.tup [])])), (.asg 5 (.comp (.tup [(.var 12), (.bin .mul (.tup [(.var 4)]) (.bin .add (.var 8) (.cst (.int 2))))]) [12] (.nm 12) .seq (.var 3) none)), (.ret (.blt .tuple (.comp (.bin .add (.tup [(.var 17)]) (.blt .tuple (.comp (.var 19) [19] (.nm 19) .seq (.var 5) (some (.cmp .ne (.var 19) (.var 17)))))) [17] (.nm 17) .seq (.var 5) none)))]⟩
/-- _law_by_hand -/
def w9 : Df := ⟨0, 9, [(.asg 0 (.tup [(.tup [(.tup [(.cst (.str "")), (.cst (.str "step")), (.tup []), (.cst (.int 0))])])])), (.asg 1 (.tup [(.tup [(.cst (.str "")), (.cst (.str "a"))]), (.tup [(.cst (.int 0)), (.cst (.int 1)), (.tup [(.cst (.str "back"))])]), (.tup [])])), (.iff (.cmp .ne (.call 0 [(.var 0), (.var 0)]) (.tup [(.tup [(.tup [(.cst (.str "a")), (.tup [(.var 1), (.var 1)])])])])) [(.ret (.cst (.bool false)))] []), (.asg 2 (.tup [(.tup [(.tup [(.cst (.str "f")), (.cst (.str "step")), (.tup []), (.cst (.int 0))]), (.tup [(.cst (.str "")), (.cst (.str "next")), (.tup []), (.cst (.int 0))])])])), (.asg 1 (.tup [(.tup [(.cst (.str "")), (.cst (.str "a")), (.cst (.str "f"))]), (.tup [(.cst (.int 0)), (.cst (.int 1)), (.tup [(.cst (.str "back"))])]), (.tup [])])), (.asg 3 (.tup [(.tup [(.tup [(.cst (.str "a")), (.tup [(.var 1), (.var 1)])]), (.tup [(.cst (.str "f")), (.tup [(.var 1), (.var 1)])])]), (.tup [(.tup [(.cst (.str "f")), (.tup [(.var 1), (.var 1)])]), (.tup [(.cst (.str "a")), (.tup [(.var 1), (.var 1)])])])])), (.iff (.or (.cmp .ne (.call 0 [(.var 0), (.var 2)]) (.var 3)) (.cmp .ne (.callr 0 [(.var 0), (.var 2)]) (.var 3))) [(.ret (.cst (.bool false)))] []), (.asg 4 (.tup [(.tup [(.tup [(.cst (.str "")), (.cst (.str "go")), (.tup [(.tup [(.cst (.str "a")), (.cst (.int 0))]), (.tup [(.cst (.str "c")), (.cst (.int 3))])]), (.cst (.int 0))])]), (.tup [(.tup [(.tup [(.cst (.str "b")), (.cst (.int 1))]), (.cst (.str "out")), (.tup []), (.cst (.int 1))]), (.tup [(.cst (.str "")), (.cst (.str "step")), (.tup []), (.cst (.int 0))])])])), (.asg 5 (.call 0 [(.var 4), (.var 0)])), (.iff (.or (.cmp .ne (.comp (.ix (.ix (.var 7) (.cst (.int 0))) (.cst (.int 0))) [7] (.nm 7) .seq (.var 5) none) (.lst [(.cst (.str "a")), (.cst (.str "b")), (.cst (.str "c")), (.cst (.str "d"))])) (.cmp .ne (.comp (.ix (.var 8) (.cst (.int 0))) [8] (.nm 8) .seq (.ix (.var 5) (.cst (.int 1))) none) (.lst [(.cst (.str "b")), (.cst (.str "a")), (.cst (.str "c")), (.cst (.str "d"))]))) [(.ret (.cst (.bool false)))] []), (.asg 6 (.tup [(.tup [(.cst (.str "")), (.cst (.str "a")), (.cst (.str "b")), (.cst (.str "c")), (.cst (.str "d"))]), (.tup [(.cst (.int 0)), (.cst (.int 1)), (.cst (.int 2)), (.cst (.int 3)), (.cst (.int 4)), (.tup [(.cst (.str "back"))])]), (.tup [])])), (.ret (.cmp .eq (.ix (.ix (.var 5) (.cst (.int 3))) (.cst (.int 3))) (.tup [(.cst (.str "c")), (.bin .mul (.tup [(.var 6)]) (.cst (.int 5)))])))]⟩
/-- law -/
def w10 : Df := ⟨1, 13, [(.asg 1 (.call 3 [(.var 0)])), (.iff (.not (.call 9 [])) [(.ret (.cst (.bool false)))] []), (.forl (.nm 2) .rng (.cst (.int 3)) [(.asg 3 (.ix (.lst [(.lst [(.cst (.str "a")), (.cst (.str "b")), (.cst (.str "c"))]), (.lst [(.cst (.str "f")), (.cst (.str "a")), (.cst (.str "zz"))]), (.lst [(.cst (.str "b")), (.cst (.str "elevenll")), (.cst (.str "a"))]), (.lst [(.cst (.str "z"))]), (.lst [])]) (.call 4 [(.var 1), (.cst (.int 5))]))), (.asg 4 (.bin .add (.cst (.int 1)) (.call 4 [(.var 1), (.cst (.int 4))]))), (.asg 5 (.comp (.tup [(.var 11), (.call 4 [(.var 1), (.var 4)])]) [11] (.nm 11) .seq (.bin .add (.var 3) (.var 3)) none)), (.asg 6 (.bin .add (.bin .add (.var 3) (.var 5)) (.lst [(.cst (.str ""))]))), (.asg 7 (.lst [])), (.forl (.nm 8) .rng (.cst (.int 2)) [(.asg 10 (.comp (.bin .add (.cst (.int 1)) (.call 4 [(.var 1), (.cst (.int 3))])) [12] (.nm 12) .rng (.bin .add (.cst (.int 1)) (.call 4 [(.var 1), (.cst (.int 3))])) none)), (.app 7 (.call 7 [(.var 1), (.var 6), (.var 5), (.var 10)]))]), (.asg 9 (.blt .repr (.call 8 [(.ix (.var 7) (.cst (.int 0))), (.ix (.var 7) (.cst (.int 1)))]))), (.iff (.or (.cmp .ne (.blt .repr (.call 0 [(.ix (.var 7) (.cst (.int 0))), (.ix (.var 7) (.cst (.int 1)))])) (.var 9)) (.cmp .ne (.blt .repr (.call 0 [(.ix (.var 7) (.cst (.int 1))), (.ix (.var 7) (.cst (.int 0)))])) (.var 9))) [(.ret (.cst (.bool false)))] [])]), (.ret (.cst (.bool true)))]⟩
def Pr : List Df := [w0, w1, w2, w3, w4, w5, w6, w7, w8, w9, w10]
/-- what stands behind the top -/
structure Tx (K : PySem.W.Frag) (mg : Str → Option Value) (w : Wd) where
  a0 : Addr
  h0 : w.fa 0 = some a0
  m0 : mg "free_programs" = some (.ref a0)
  p0 : w.ps 0 = (["guide", "other"] : List Str)
  a1 : Addr
  h1 : w.fa 1 = some a1
  m1 : mg "named_in" = some (.ref a1)
  p1 : w.ps 1 = (["guide"] : List Str)
  a2 : Addr
  h2 : w.fa 2 = some a2
  m2 : mg "free_lines" = some (.ref a2)
  p2 : w.ps 2 = (["names", "many"] : List Str)
  a3 : Addr
  h3 : w.fa 3 = some a3
  m3 : mg "_law_feed" = some (.ref a3)
  p3 : w.ps 3 = (["_law_script"] : List Str)
  a4 : Addr
  h4 : w.fa 4 = some a4
  m4 : mg "_law_draw" = some (.ref a4)
  p4 : w.ps 4 = (["_law_feed_here", "_law_many"] : List Str)
  a5 : Addr
  h5 : w.fa 5 = some a5
  m5 : mg "_law_pick" = some (.ref a5)
  p5 : w.ps 5 = (["_law_feed_here", "_law_things"] : List Str)
  a6 : Addr
  h6 : w.fa 6 = some a6
  m6 : mg "_law_rule" = some (.ref a6)
  p6 : w.ps 6 = (["_law_feed_here", "_law_wheres", "_law_places", "_law_states", "_law_is_last"] : List Str)
  a7 : Addr
  h7 : w.fa 7 = some a7
  m7 : mg "_law_guide" = some (.ref a7)
  p7 : w.ps 7 = (["_law_feed_here", "_law_wheres", "_law_places", "_law_sizes"] : List Str)
  a8 : Addr
  h8 : w.fa 8 = some a8
  m8 : mg "_law_free" = some (.ref a8)
  p8 : w.ps 8 = (["_law_mine", "_law_theirs"] : List Str)
  a9 : Addr
  h9 : w.fa 9 = some a9
  m9 : mg "_law_by_hand" = some (.ref a9)
  p9 : w.ps 9 = ([] : List Str)
  a10 : Addr
  h10 : w.fa 10 = some a10
  m10 : mg "law" = some (.ref a10)
  p10 : w.ps 10 = (["_law_script"] : List Str)
  z_int : mg "int" = none
  z_isinstance : mg "isinstance" = none
  z_len : mg "len" = none
  z_list : mg "list" = none
  z_max : mg "max" = none
  z_range : mg "range" = none
  z_repr : mg "repr" = none
  z_set : mg "set" = none
  z_sorted : mg "sorted" = none
  z_str : mg "str" = none
  z_tuple : mg "tuple" = none
  u_BACK : Value
  v_BACK : V
  c_BACK : mg "BACK" = some u_BACK
  r_BACK : RelV v_BACK u_BACK
  d_BACK : ∀ H U, Rp K H U v_BACK (.tuple [(.str "back")])
  u_LETTERS : Value
  v_LETTERS : V
  c_LETTERS : mg "LETTERS" = some u_LETTERS
  r_LETTERS : RelV v_LETTERS u_LETTERS
  d_LETTERS : ∀ H U, Rp K H U v_LETTERS (.str "abcdefghijklmnopqrstuvwxyz")
/-- the errors -/
structure Er (P : Program) (wd : World) (K : PySem.W.Frag) (mg : Str → Option Value) (base : Heap) (w : Wd) : Prop where
  t : True
section
variable {P : Program} {wd : World} {K : PySem.W.Frag} {mg : Str → Option Value} {base : Heap} {w : Wd} {cl : Fun} {n : Nat} {f : Addr} {cdv : Value} {A : Around} {outer : List PySem.Env} {s : Shared} {H : Hp} {E : XK} {lk : List Nat}
abbrev N0 : List Str := ["guide", "other", "named", "known", "fresh", "names", "function_lines", "programs", "first", "order", "letter", "name", "_", "index"]
theorem sc0 : FnScope N0 ["guide", "other"] (defScope (top 3)) := ⟨rfl, rfl, rfl, by decide +kernel, rfl, by decide +kernel, by decide +kernel⟩
theorem b0 (T : Tx K mg w) (R : Er P wd K mg base w) (G : GC (bodyX P wd K mg base N0 "free_programs" (defScope (top 3)) f cdv A outer s H E) (fun c d _ H' => E c d H')) (F : HasF (bodyX P wd K mg base N0 "free_programs" (defScope (top 3)) f cdv A outer s H E) w cl (n + 2)) : SSs (bodyX P wd K mg base N0 "free_programs" (defScope (top 3)) f cdv A outer s H E) w cl (fun c d _ H' => E c d H') lk (defBody (top 3)) w0.body :=
  (sss_cons (ss_asg G (i := 2) (by rfl) (by first | exact Or.inl rfl | exact Or.inr rfl) (se_bin bin_add (SE.so (by rfl) (se_call G F T.h1 (by rfl) T.m1 (sa_cons (gv 0) sa_nil))) (SE.so (by rfl) (se_call G F T.h1 (by rfl) T.m1 (sa_cons (gv 1) sa_nil))))) (sss_cons (ss_asg G (i := 3) (by rfl) (by first | exact Or.inl rfl | exact Or.inr rfl) (se_comp G (si_seq (ov 2)) (own := [("name", 11), ("_", 12)]) (blkOk_by (N := N0) (sc := defScope (top 3)) (by decide +kernel)) (fun _ _ _ _ _ => (pg_tp G.calm (pgs_names_cons (pg_name (i := 11) G.nd (by rfl) (by first | exact Or.inl rfl | exact Or.inr rfl)) (pgs_names_cons (pg_name (i := 12) G.nd (by rfl) (by first | exact Or.inl rfl | exact Or.inr rfl)) pgs_names_nil)))) (by rfl) (fun _ _ _ _ _ => sc_none) (fun _ _ _ _ _ => (ev 11)))) (sss_cons (ss_asgC (i := 4) G (by rfl) (by rfl) (sw_true (by rfl) (by rfl) (by rfl) (by decide +kernel)) (si_seq (SE.so (by rfl) (se_glob (by rfl) T.c_LETTERS T.r_LETTERS T.d_LETTERS))) (own := [("letter", 10)]) (blkOk_by (N := N0) (sc := defScope (top 3)) (by decide +kernel)) (fun _ _ _ _ _ => (pg_name (i := 10) G.nd (by rfl) (by first | exact Or.inl rfl | exact Or.inr rfl))) (by rfl) (fun _ _ _ _ _ => (sc_some (st_cmp (cmp_nmem (GC.blk G).room) (ov 10) (ov 3) (by rfl)))) (fun _ _ _ _ _ => (ev 10))) (sss_cons (ss_asg G (i := 5) (by rfl) (by first | exact Or.inl rfl | exact Or.inr rfl) (se_sset G.calm (SE.so (by rfl) (se_bin bin_add (ov 3) (SE.so (by rfl) (se_sl (ov 4) sp_none (sp_some se_int))))) (by rfl) T.z_sorted (by decide +kernel) (by rfl) T.z_set (by decide +kernel))) (sss_cons (ss_asg G (i := 6) (by rfl) (by first | exact Or.inl rfl | exact Or.inr rfl) (se_call G F T.h2 (by rfl) T.m2 (sa_cons (gv 5) (sa_cons (SE.sg (by rfl) (se_bin bin_add (SE.so (by rfl) (se_mxd G.calm (by have := G.room; omega) (SE.so (by rfl) (se_comp G (si_seq (ov 2)) (own := [("_", 12), ("index", 13)]) (blkOk_by (N := N0) (sc := defScope (top 3)) (by decide +kernel)) (fun _ _ _ _ _ => (pg_tp G.calm (pgs_names_cons (pg_name (i := 12) G.nd (by rfl) (by first | exact Or.inl rfl | exact Or.inr rfl)) (pgs_names_cons (pg_name (i := 13) G.nd (by rfl) (by first | exact Or.inl rfl | exact Or.inr rfl)) pgs_names_nil)))) (by rfl) (fun _ _ _ _ _ => sc_none) (fun _ _ _ _ _ => (ev 13)))) se_int (by rfl) T.z_max (by decide +kernel))) (SE.so (by rfl) se_int))) sa_nil)))) (sss_cons (ss_asg G (i := 7) (by rfl) (by first | exact Or.inl rfl | exact Or.inr rfl) (se_lst sd_nil (by decide))) (sss_cons (ss_for G po_of (si_seq (ov 5)) (pg_name (i := 8) G.nd (by rfl) (by first | exact Or.inl rfl | exact Or.inr rfl)) (sss_cons (ss_asg G (i := 9) (by rfl) (by first | exact Or.inl rfl | exact Or.inr rfl) (se_bin bin_add (SE.so (by rfl) (se_lst (sd_cons (ev 8) sd_nil (by rfl)) (by decide))) (SE.so (by rfl) (se_comp G (si_seq (ov 5)) (own := [("name", 11)]) (blkOk_by (N := N0) (sc := defScope (top 3)) (by decide +kernel)) (fun _ _ _ _ _ => (pg_name (i := 11) G.nd (by rfl) (by first | exact Or.inl rfl | exact Or.inr rfl))) (by rfl) (fun _ _ _ _ _ => (sc_some (st_cmp (cmp_ne (GC.blk G).room) (ov 11) (ov 8) (by rfl)))) (fun _ _ _ _ _ => (ev 11)))))) (sss_cons (ss_app (i := 7) (by rfl) (by first | exact Or.inl rfl | exact Or.inr (Or.inl rfl) | exact Or.inr (Or.inr rfl)) (se_bltT blt_tuple (SE.so (by rfl) (se_comp G (si_seq (ov 9)) (own := [("name", 11)]) (blkOk_by (N := N0) (sc := defScope (top 3)) (by decide +kernel)) (fun _ _ _ _ _ => (pg_name (i := 11) G.nd (by rfl) (by first | exact Or.inl rfl | exact Or.inr rfl))) (by rfl) (fun _ _ _ _ _ => sc_none) (fun _ _ _ _ _ => (se_tup (sd_cons (ev 11) (sd_cons (ev 6) sd_nil (by rfl)) (by rfl)) (by decide))))) (by rfl) T.z_tuple (by decide +kernel))) sss_nil))) (sss_cons (ss_ret (by rfl) (se_bltT blt_tuple (ov 7) (by rfl) T.z_tuple (by decide +kernel))) sss_nil))))))))
abbrev N1 : List Str := ["guide", "found", "state", "where", "_", "breaks"]
theorem sc1 : FnScope N1 ["guide"] (defScope (top 4)) := ⟨rfl, rfl, rfl, by decide +kernel, rfl, by decide +kernel, by decide +kernel⟩
theorem b1 (T : Tx K mg w) (R : Er P wd K mg base w) (G : GC (bodyX P wd K mg base N1 "named_in" (defScope (top 4)) f cdv A outer s H E) (fun c d _ H' => E c d H')) (F : HasF (bodyX P wd K mg base N1 "named_in" (defScope (top 4)) f cdv A outer s H E) w cl (n + 2)) : SSs (bodyX P wd K mg base N1 "named_in" (defScope (top 4)) f cdv A outer s H E) w cl (fun c d _ H' => E c d H') lk (defBody (top 4)) w1.body :=
  (sss_cons (ss_asg G (i := 1) (by rfl) (by first | exact Or.inl rfl | exact Or.inr rfl) (se_lst sd_nil (by decide))) (sss_cons (ss_for G po_of (si_seq (ov 0)) (pg_name (i := 2) G.nd (by rfl) (by first | exact Or.inl rfl | exact Or.inr rfl)) (sss_cons (ss_for G po_of (si_seq (ov 2)) (pg_tp G.calm (pgs_names_cons (pg_name (i := 3) G.nd (by rfl) (by first | exact Or.inl rfl | exact Or.inr rfl)) (pgs_names_cons (pg_name (i := 4) G.nd (by rfl) (by first | exact Or.inl rfl | exact Or.inr rfl)) (pgs_names_cons (pg_name (i := 5) G.nd (by rfl) (by first | exact Or.inl rfl | exact Or.inr rfl)) (pgs_names_cons (pg_name (i := 4) G.nd (by rfl) (by first | exact Or.inl rfl | exact Or.inr rfl)) pgs_names_nil))))) (sss_cons (ss_ext (i := 1) (by rfl) (by first | exact Or.inl rfl | exact Or.inr (Or.inl rfl) | exact Or.inr (Or.inr rfl)) (SE.so (by rfl) (se_bltT blt_list (ov 5) (by rfl) T.z_list (by decide +kernel)))) (sss_cons (ss_if (st_val (se_isi (t := .tuple) (ov 3) (by rfl) T.z_isinstance (by rfl) T.z_tuple (by decide +kernel)) (fun _ => rfl) (ev_blt _ _)) (sss_cons (ss_app (i := 1) (by rfl) (by first | exact Or.inl rfl | exact Or.inr (Or.inl rfl) | exact Or.inr (Or.inr rfl)) (ev 3)) sss_nil) (sss_cons (ss_if (st_cmp (cmp_ne G.room) (ov 3) (SE.so (by rfl) se_str) (by rfl)) (sss_cons (ss_app (i := 1) (by rfl) (by first | exact Or.inl rfl | exact Or.inr (Or.inl rfl) | exact Or.inr (Or.inr rfl)) (se_tup (sd_cons (ev 3) (sd_cons se_int sd_nil (by rfl)) (by rfl)) (by decide))) sss_nil) sss_nil) sss_nil)) sss_nil))) sss_nil)) (sss_cons (rv 1) sss_nil)))
abbrev N2 : List Str := ["names", "many", "calls", "ways"]
theorem sc2 : FnScope N2 ["names", "many"] (defScope (top 5)) := ⟨rfl, rfl, rfl, by decide +kernel, rfl, by decide +kernel, by decide +kernel⟩
theorem b2 (T : Tx K mg w) (R : Er P wd K mg base w) (G : GC (bodyX P wd K mg base N2 "free_lines" (defScope (top 5)) f cdv A outer s H E) (fun c d _ H' => E c d H')) (F : HasF (bodyX P wd K mg base N2 "free_lines" (defScope (top 5)) f cdv A outer s H E) w cl (n + 2)) : SSs (bodyX P wd K mg base N2 "free_lines" (defScope (top 5)) f cdv A outer s H E) w cl (fun c d _ H' => E c d H') lk (defBody (top 5)) w2.body :=
  (sss_cons (ss_asg G (i := 2) (by rfl) (by first | exact Or.inl rfl | exact Or.inr rfl) (se_bin bin_add (SE.so (by rfl) (se_tup (sd_cons se_str sd_nil (by rfl)) (by decide))) (SE.so (by rfl) (se_bltT blt_tuple (ov 0) (by rfl) T.z_tuple (by decide +kernel))))) (sss_cons (ss_asg G (i := 3) (by rfl) (by first | exact Or.inl rfl | exact Or.inr rfl) (se_bin bin_add (SE.so (by rfl) (se_rngt G.calm (ov 1) (by rfl) T.z_tuple (by rfl) T.z_range)) (SE.so (by rfl) (se_tup (sd_cons (se_glob (by rfl) T.c_BACK T.r_BACK T.d_BACK) sd_nil (by rfl)) (by decide))))) (sss_cons (ss_ret (by rfl) (se_bin bin_mul (SE.so (by rfl) (se_tup (sd_cons (se_tup (sd_cons (ev 2) (sd_cons (ev 3) (sd_cons (se_tup sd_nil (by decide)) sd_nil (by rfl)) (by rfl)) (by rfl)) (by decide)) sd_nil (by rfl)) (by decide))) (ov 1))) sss_nil)))
abbrev N3 : List Str := ["_law_script"]
theorem sc3 : FnScope N3 ["_law_script"] (defScope (top 7)) := ⟨rfl, rfl, rfl, by decide +kernel, rfl, by decide +kernel, by decide +kernel⟩
theorem b3 (T : Tx K mg w) (R : Er P wd K mg base w) (G : GC (bodyX P wd K mg base N3 "_law_feed" (defScope (top 7)) f cdv A outer s H E) (fun c d _ H' => E c d H')) (F : HasF (bodyX P wd K mg base N3 "_law_feed" (defScope (top 7)) f cdv A outer s H E) w cl (n + 2)) : SSs (bodyX P wd K mg base N3 "_law_feed" (defScope (top 7)) f cdv A outer s H E) w cl (fun c d _ H' => E c d H') lk (defBody (top 7)) w3.body :=
  (sss_cons (ss_ret (by rfl) (se_dct (sq_cons (se_bltT blt_list (SE.so (by rfl) (cutv 0)) (by rfl) T.z_list (by decide +kernel)) (sq_cons se_int (sq_cons se_int (sq_cons se_int sq_nil)))) (by decide))) sss_nil)
abbrev N4 : List Str := ["_law_feed_here", "_law_many", "_law_turn", "_law_cell", "_law_mixed", "_law_digit", "_law_at", "_law_cells"]
theorem sc4 : FnScope N4 ["_law_feed_here", "_law_many"] (defScope (top 8)) := ⟨rfl, rfl, rfl, by decide +kernel, rfl, by decide +kernel, by decide +kernel⟩
theorem b4 (T : Tx K mg w) (R : Er P wd K mg base w) (G : GC (bodyX P wd K mg base N4 "_law_draw" (defScope (top 8)) f cdv A outer s H E) (fun c d _ H' => E c d H')) (F : HasF (bodyX P wd K mg base N4 "_law_draw" (defScope (top 8)) f cdv A outer s H E) w cl (n + 2)) : SSs (bodyX P wd K mg base N4 "_law_draw" (defScope (top 8)) f cdv A outer s H E) w cl (fun c d _ H' => E c d H') lk (defBody (top 8)) w4.body :=
  (sss_cons (ss_asg G (i := 2) (by rfl) (by first | exact Or.inl rfl | exact Or.inr rfl) (se_bin bin_add (SE.so (by rfl) (xv 0 G se_str)) (SE.so (by rfl) se_int))) (sss_cons (ss_putd G (i := 0) (by rfl) (by first | exact Or.inl rfl | exact Or.inr (Or.inl rfl) | exact Or.inr (Or.inr rfl)) se_str (ev 2)) (sss_cons (ss_if (st_cmp cmp_gt (SE.so (by rfl) (xv 0 G se_str)) (SE.so (by rfl) se_int) (by rfl)) (sss_cons (ss_asg G (i := 5) (by rfl) (by first | exact Or.inl rfl | exact Or.inr rfl) (se_bin bin_mod (SE.so (by rfl) (se_bltT blt_int (SE.so (by rfl) (xv 0 G se_str)) (by rfl) T.z_int (by decide +kernel))) (ov 1))) (sss_cons (ss_putd G (i := 0) (by rfl) (by first | exact Or.inl rfl | exact Or.inr (Or.inl rfl) | exact Or.inr (Or.inr rfl)) se_str (se_bin bin_fdiv (SE.so (by rfl) (xv 0 G se_str)) (ov 1))) (sss_cons (rv 5) sss_nil))) sss_nil) (sss_cons (ss_asgs (is := [6, 7]) (sv_cons (xv 0 G se_str) (sv_cons (xv 0 G se_str) sv_nil)) (par2 G (by rfl) (by rfl) (by decide) (by rfl) (by rfl) (by rfl)) (by rfl)) (sss_cons (ss_putd G (i := 0) (by rfl) (by first | exact Or.inl rfl | exact Or.inr (Or.inl rfl) | exact Or.inr (Or.inr rfl)) se_str (se_bin bin_add (ov 6) (SE.so (by rfl) se_int))) (sss_cons (ss_asg G (i := 3) (by rfl) (by first | exact Or.inl rfl | exact Or.inr rfl) (se_ite (st_cmp (cmp_ne G.room) (ov 7) (SE.so (by rfl) (se_lst sd_nil (by decide))) (by rfl)) (se_ix (ov 7) (SE.so (by rfl) (se_bin bin_mod (SE.so (by rfl) (se_bltT blt_int (ov 6) (by rfl) T.z_int (by decide +kernel))) (SE.so (by rfl) (se_blt blt_len (ov 7) (by rfl) T.z_len (by decide +kernel))))) (fun _ _ => rfl)) se_int)) (sss_cons (ss_if (SW.st (sw_and (st_cmp cmp_ge (ov 3) (SE.so (by rfl) (se_bin bin_pow (SE.so (by rfl) se_int) (SE.so (by rfl) se_int))) (by rfl)) (sw_and1 (st_cmp cmp_lt (ov 6) (SE.so (by rfl) (se_blt blt_len (ov 7) (by rfl) T.z_len (by decide +kernel))) (by rfl))))) (sss_cons (ss_putd G (i := 0) (by rfl) (by first | exact Or.inl rfl | exact Or.inr (Or.inl rfl) | exact Or.inr (Or.inr rfl)) se_str (se_bin bin_fdiv (ov 3) (ov 1))) (sss_cons (ss_ret (by rfl) (se_bin bin_mod (SE.so (by rfl) (se_bltT blt_int (ov 3) (by rfl) T.z_int (by decide +kernel))) (ov 1))) sss_nil)) sss_nil) (sss_cons (ss_asg G (i := 4) (by rfl) (by first | exact Or.inl rfl | exact Or.inr rfl) (se_bin bin_mod (SE.so (by rfl) (se_bltT blt_int (SE.so (by rfl) (se_bin bin_add (SE.so (by rfl) (se_bin bin_add (SE.so (by rfl) (se_bin bin_mod (SE.so (by rfl) (se_bltT blt_int (ov 3) (by rfl) T.z_int (by decide +kernel))) (SE.so (by rfl) se_int))) (SE.so (by rfl) (se_bin bin_mul (SE.so (by rfl) se_int) (ov 2))))) (SE.so (by rfl) se_int))) (by rfl) T.z_int (by decide +kernel))) (SE.so (by rfl) se_int))) (sss_cons (ss_asg G (i := 4) (by rfl) (by first | exact Or.inl rfl | exact Or.inr rfl) (se_bin bin_mod (SE.so (by rfl) (se_bltT blt_int (SE.so (by rfl) (se_bin bin_add (SE.so (by rfl) (se_bin bin_add (SE.so (by rfl) (se_bin bin_mul (ov 4) (ov 4))) (SE.so (by rfl) (se_bin bin_mul (SE.so (by rfl) (se_bin bin_mul (SE.so (by rfl) se_int) (ov 2))) (ov 2))))) (SE.so (by rfl) se_int))) (by rfl) T.z_int (by decide +kernel))) (SE.so (by rfl) se_int))) (sss_cons (ss_ret (by rfl) (se_bin bin_mod (SE.so (by rfl) (se_bltT blt_int (SE.so (by rfl) (se_bin bin_fdiv (SE.so (by rfl) (se_bin bin_mod (SE.so (by rfl) (se_bltT blt_int (SE.so (by rfl) (se_bin bin_add (SE.so (by rfl) (se_bin bin_mul (ov 4) (ov 4))) (SE.so (by rfl) (se_bin bin_mul (SE.so (by rfl) se_int) (ov 4))))) (by rfl) T.z_int (by decide +kernel))) (SE.so (by rfl) se_int))) (SE.so (by rfl) se_int))) (by rfl) T.z_int (by decide +kernel))) (ov 1))) sss_nil))))))))))
abbrev N5 : List Str := ["_law_feed_here", "_law_things"]
theorem sc5 : FnScope N5 ["_law_feed_here", "_law_things"] (defScope (top 9)) := ⟨rfl, rfl, rfl, by decide +kernel, rfl, by decide +kernel, by decide +kernel⟩
theorem b5 (T : Tx K mg w) (R : Er P wd K mg base w) (G : GC (bodyX P wd K mg base N5 "_law_pick" (defScope (top 9)) f cdv A outer s H E) (fun c d _ H' => E c d H')) (F : HasF (bodyX P wd K mg base N5 "_law_pick" (defScope (top 9)) f cdv A outer s H E) w cl (n + 2)) : SSs (bodyX P wd K mg base N5 "_law_pick" (defScope (top 9)) f cdv A outer s H E) w cl (fun c d _ H' => E c d H') lk (defBody (top 9)) w5.body :=
  (sss_cons (ss_ret (by rfl) (se_ix (ov 1) (SE.so (by rfl) (se_call G F T.h4 (by rfl) T.m4 (sa_cons (gv 0) (sa_cons (SE.sg (by rfl) (se_blt blt_len (ov 1) (by rfl) T.z_len (by decide +kernel))) sa_nil)))) (fun _ _ => rfl))) sss_nil)
abbrev N6 : List Str := ["_law_feed_here", "_law_wheres", "_law_places", "_law_states", "_law_is_last", "_law_where", "_law_kept", "_law_word", "_law_lap"]
theorem sc6 : FnScope N6 ["_law_feed_here", "_law_wheres", "_law_places", "_law_states", "_law_is_last"] (defScope (top 10)) := ⟨rfl, rfl, rfl, by decide +kernel, rfl, by decide +kernel, by decide +kernel⟩
theorem b6 (T : Tx K mg w) (R : Er P wd K mg base w) (G : GC (bodyX P wd K mg base N6 "_law_rule" (defScope (top 10)) f cdv A outer s H E) (fun c d _ H' => E c d H')) (F : HasF (bodyX P wd K mg base N6 "_law_rule" (defScope (top 10)) f cdv A outer s H E) w cl (n + 2)) : SSs (bodyX P wd K mg base N6 "_law_rule" (defScope (top 10)) f cdv A outer s H E) w cl (fun c d _ H' => E c d H') lk (defBody (top 10)) w6.body :=
  (sss_cons (ss_asg G (i := 5) (by rfl) (by first | exact Or.inl rfl | exact Or.inr rfl) (se_ite (st_var 4) se_str (se_call G F T.h5 (by rfl) T.m5 (sa_cons (gv 0) (sa_cons (gv 1) sa_nil))))) (sss_cons (ss_asg G (i := 6) (by rfl) (by first | exact Or.inl rfl | exact Or.inr rfl) (se_lst sd_nil (by decide))) (sss_cons (ss_if (st_cmp (cmp_ne G.room) (ov 2) (SE.so (by rfl) (se_lst sd_nil (by decide))) (by rfl)) (sss_cons (ss_asgC (i := 6) G (by rfl) (by rfl) (sw_true (by rfl) (by rfl) (by rfl) (by decide +kernel)) (si_rng (by rfl) T.z_range (SE.so (by rfl) (se_call G F T.h4 (by rfl) T.m4 (sa_cons (gv 0) (sa_cons (SE.sg (by rfl) se_int) sa_nil))))) (own := [("_law_lap", 8)]) (blkOk_by (N := N6) (sc := defScope (top 10)) (by decide +kernel)) (fun _ _ _ _ _ => (pg_name (i := 8) G.nd (by rfl) (by first | exact Or.inl rfl | exact Or.inr rfl))) (by rfl) (fun _ _ _ _ _ => sc_none) (fun _ _ _ _ _ => (se_call (GC.blk G) (HasF.blk F) T.h5 (by rfl) T.m5 (sa_cons (gv 0) (sa_cons (gv 2) sa_nil))))) sss_nil) sss_nil) (sss_cons (ss_asg G (i := 7) (by rfl) (by first | exact Or.inl rfl | exact Or.inr rfl) (se_call G F T.h5 (by rfl) T.m5 (sa_cons (gv 0) (sa_cons (SE.sg (by rfl) (se_lst (sd_cons se_str (sd_cons se_str (sd_cons se_str (sd_cons se_str (sd_cons se_str (sd_cons se_str sd_nil (by rfl)) (by rfl)) (by rfl)) (by rfl)) (by rfl)) (by rfl)) (by decide))) sa_nil)))) (sss_cons (ss_ret (by rfl) (se_tup (sd_cons (ev 5) (sd_cons (ev 7) (sd_cons (se_bltT blt_tuple (SE.so (by rfl) (se_ssetp G.calm (by have := G.room; omega) (ov 6) (by rfl) T.z_sorted (by decide +kernel) (by rfl) T.z_set (by decide +kernel))) (by rfl) T.z_tuple (by decide +kernel)) (sd_cons (se_call G F T.h4 (by rfl) T.m4 (sa_cons (gv 0) (sa_cons (gv 3) sa_nil))) sd_nil (by rfl)) (by rfl)) (by rfl)) (by rfl)) (by decide))) sss_nil)))))
abbrev N7 : List Str := ["_law_feed_here", "_law_wheres", "_law_places", "_law_sizes", "_law_found", "_law_size", "_law_rows", "_law_at"]
theorem sc7 : FnScope N7 ["_law_feed_here", "_law_wheres", "_law_places", "_law_sizes"] (defScope (top 11)) := ⟨rfl, rfl, rfl, by decide +kernel, rfl, by decide +kernel, by decide +kernel⟩
theorem b7 (T : Tx K mg w) (R : Er P wd K mg base w) (G : GC (bodyX P wd K mg base N7 "_law_guide" (defScope (top 11)) f cdv A outer s H E) (fun c d _ H' => E c d H')) (F : HasF (bodyX P wd K mg base N7 "_law_guide" (defScope (top 11)) f cdv A outer s H E) w cl (n + 2)) : SSs (bodyX P wd K mg base N7 "_law_guide" (defScope (top 11)) f cdv A outer s H E) w cl (fun c d _ H' => E c d H') lk (defBody (top 11)) w7.body :=
  (sss_cons (ss_asg G (i := 4) (by rfl) (by first | exact Or.inl rfl | exact Or.inr rfl) (se_lst sd_nil (by decide))) (sss_cons (ss_for G po_of (si_seq (ov 3)) (pg_name (i := 5) G.nd (by rfl) (by first | exact Or.inl rfl | exact Or.inr rfl)) (sss_cons (ss_asgC (i := 6) G (by rfl) (by rfl) (sw_true (by rfl) (by rfl) (by rfl) (by decide +kernel)) (si_rng (by rfl) T.z_range (ov 5)) (own := [("_law_at", 7)]) (blkOk_by (N := N7) (sc := defScope (top 11)) (by decide +kernel)) (fun _ _ _ _ _ => (pg_name (i := 7) G.nd (by rfl) (by first | exact Or.inl rfl | exact Or.inr rfl))) (by rfl) (fun _ _ _ _ _ => sc_none) (fun _ _ _ _ _ => (se_call (GC.blk G) (HasF.blk F) T.h6 (by rfl) T.m6 (sa_cons (gv 0) (sa_cons (gv 1) (sa_cons (gv 2) (sa_cons (SE.sg (by rfl) (se_blt blt_len (ov 3) (by rfl) T.z_len (by decide +kernel))) (sa_cons (SE.sg (by rfl) (se_cmp (cmp_eq (GC.blk G).room) (ov 7) (SE.so (by rfl) (se_bin bin_sub (ov 5) (SE.so (by rfl) se_int))) (by rfl))) sa_nil)))))))) (sss_cons (ss_app (i := 4) (by rfl) (by first | exact Or.inl rfl | exact Or.inr (Or.inl rfl) | exact Or.inr (Or.inr rfl)) (se_bltT blt_tuple (ov 6) (by rfl) T.z_tuple (by decide +kernel))) sss_nil))) (sss_cons (ss_ret (by rfl) (se_bltT blt_tuple (ov 4) (by rfl) T.z_tuple (by decide +kernel))) sss_nil)))
abbrev N8 : List Str := ["_law_mine", "_law_theirs", "_law_states", "_law_labels", "_law_row", "_law_functions", "_law_places", "_law_names", "_law_top", "_law_rules", "_law_name", "_law_at", "_law_label", "_law_where", "_law_word", "_law_cut", "_law_to", "_law_own", "_law_sign", "_law_one"]
theorem sc8 : FnScope N8 ["_law_mine", "_law_theirs"] (defScope (top 12)) := ⟨rfl, rfl, rfl, by decide +kernel, rfl, by decide +kernel, by decide +kernel⟩
theorem b8 (T : Tx K mg w) (R : Er P wd K mg base w) (G : GC (bodyX P wd K mg base N8 "_law_free" (defScope (top 12)) f cdv A outer s H E) (fun c d _ H' => E c d H')) (F : HasF (bodyX P wd K mg base N8 "_law_free" (defScope (top 12)) f cdv A outer s H E) w cl (n + 2)) : SSs (bodyX P wd K mg base N8 "_law_free" (defScope (top 12)) f cdv A outer s H E) w cl (fun c d _ H' => E c d H') lk (defBody (top 12)) w8.body :=
  (sss_cons (ss_asgs (is := [6, 7, 8]) (sv_cons (se_lst sd_nil (by decide)) (sv_cons (se_lst sd_nil (by decide)) (sv_cons se_int sv_nil))) (parT (pg_tp G.calm (pgs_names_cons (pg_name (i := 6) G.nd (by rfl) (by first | exact Or.inl rfl | exact Or.inr rfl)) (pgs_names_cons (pg_name (i := 7) G.nd (by rfl) (by first | exact Or.inl rfl | exact Or.inr rfl)) (pgs_names_cons (pg_name (i := 8) G.nd (by rfl) (by first | exact Or.inl rfl | exact Or.inr rfl)) pgs_names_nil)))) (by decide)) (by rfl)) (sss_cons (ss_for G po_of (si_seq (SE.so (by rfl) (se_tup (sd_cons (ev 0) (sd_cons (ev 1) sd_nil (by rfl)) (by rfl)) (by decide)))) (pg_name (i := 2) G.nd (by rfl) (by first | exact Or.inl rfl | exact Or.inr rfl)) (sss_cons (ss_for G po_of (si_seq (ov 2)) (pg_name (i := 9) G.nd (by rfl) (by first | exact Or.inl rfl | exact Or.inr rfl)) (sss_cons (ss_for G po_of (si_seq (ov 9)) (pg_tp G.calm (pgs_names_cons (pg_name (i := 13) G.nd (by rfl) (by first | exact Or.inl rfl | exact Or.inr rfl)) (pgs_names_cons (pg_name (i := 14) G.nd (by rfl) (by first | exact Or.inl rfl | exact Or.inr rfl)) (pgs_names_cons (pg_name (i := 15) G.nd (by rfl) (by first | exact Or.inl rfl | exact Or.inr rfl)) (pgs_names_cons (pg_name (i := 16) G.nd (by rfl) (by first | exact Or.inl rfl | exact Or.inr rfl)) pgs_names_nil))))) (sss_cons (ss_ext (i := 6) (by rfl) (by first | exact Or.inl rfl | exact Or.inr (Or.inl rfl) | exact Or.inr (Or.inr rfl)) (SE.so (by rfl) (se_bin bin_add (SE.so (by rfl) (se_bltT blt_list (ov 15) (by rfl) T.z_list (by decide +kernel))) (SE.so (by rfl) (se_ite (st_val (se_isi (t := .tuple) (ov 13) (by rfl) T.z_isinstance (by rfl) T.z_tuple (by decide +kernel)) (fun _ => rfl) (ev_blt _ _)) (se_lst (sd_cons (ev 13) sd_nil (by rfl)) (by decide)) (se_lst sd_nil (by decide))))))) (sss_cons (ss_ext (i := 7) (by rfl) (by first | exact Or.inl rfl | exact Or.inr (Or.inl rfl) | exact Or.inr (Or.inr rfl)) (SE.so (by rfl) (se_ite (SW.st (sw_and (st_val (se_isi (t := .str) (ov 13) (by rfl) T.z_isinstance (by rfl) T.z_str (by decide +kernel)) (fun _ => rfl) (ev_blt _ _)) (sw_and1 (st_cmp (cmp_ne G.room) (ov 13) (SE.so (by rfl) se_str) (by rfl))))) (se_lst (sd_cons (ev 13) sd_nil (by rfl)) (by decide)) (se_lst sd_nil (by decide))))) sss_nil))) sss_nil)) sss_nil)) (sss_cons (ss_for G po_of (si_seq (ov 6)) (pg_tp G.calm (pgs_names_cons (pg_name (i := 10) G.nd (by rfl) (by first | exact Or.inl rfl | exact Or.inr rfl)) (pgs_names_cons (pg_name (i := 11) G.nd (by rfl) (by first | exact Or.inl rfl | exact Or.inr rfl)) pgs_names_nil))) (sss_cons (ss_app (i := 7) (by rfl) (by first | exact Or.inl rfl | exact Or.inr (Or.inl rfl) | exact Or.inr (Or.inr rfl)) (ev 10)) (sss_cons (ss_asg G (i := 8) (by rfl) (by first | exact Or.inl rfl | exact Or.inr rfl) (se_mx G.calm (ev 8) (ev 11) (by rfl) T.z_max (by decide +kernel))) sss_nil))) (sss_cons (ss_app (i := 7) (by rfl) (by first | exact Or.inl rfl | exact Or.inr (Or.inl rfl) | exact Or.inr (Or.inr rfl)) (se_ix (SE.so (by rfl) (se_comp G (si_seq (SE.so (by rfl) se_str)) (own := [("_law_sign", 18)]) (blkOk_by (N := N8) (sc := defScope (top 12)) (by decide +kernel)) (fun _ _ _ _ _ => (pg_name (i := 18) G.nd (by rfl) (by first | exact Or.inl rfl | exact Or.inr rfl))) (by rfl) (fun _ _ _ _ _ => (sc_some (st_cmp (cmp_nmem (GC.blk G).room) (ov 18) (ov 7) (by rfl)))) (fun _ _ _ _ _ => (ev 18)))) (SE.so (by rfl) se_int) (fun _ _ => rfl))) (sss_cons (ss_asg G (i := 3) (by rfl) (by first | exact Or.inl rfl | exact Or.inr rfl) (se_sset G.calm (ov 7) (by rfl) T.z_sorted (by decide +kernel) (by rfl) T.z_set (by decide +kernel))) (sss_cons (ss_asg G (i := 4) (by rfl) (by first | exact Or.inl rfl | exact Or.inr rfl) (se_tup (sd_cons (se_bin bin_add (SE.so (by rfl) (se_tup (sd_cons se_str sd_nil (by rfl)) (by decide))) (SE.so (by rfl) (se_bltT blt_tuple (ov 3) (by rfl) T.z_tuple (by decide +kernel)))) (sd_cons (se_bin bin_add (SE.so (by rfl) (se_rngt G.calm (SE.so (by rfl) (se_bin bin_add (ov 8) (SE.so (by rfl) se_int))) (by rfl) T.z_tuple (by rfl) T.z_range)) (SE.so (by rfl) (se_tup (sd_cons (se_tup (sd_cons se_str sd_nil (by rfl)) (by decide)) sd_nil (by rfl)) (by decide)))) (sd_cons (se_tup sd_nil (by decide)) sd_nil (by rfl)) (by rfl)) (by rfl)) (by decide))) (sss_cons (ss_asg G (i := 5) (by rfl) (by first | exact Or.inl rfl | exact Or.inr rfl) (se_comp G (si_seq (ov 3)) (own := [("_law_label", 12)]) (blkOk_by (N := N8) (sc := defScope (top 12)) (by decide +kernel)) (fun _ _ _ _ _ => (pg_name (i := 12) G.nd (by rfl) (by first | exact Or.inl rfl | exact Or.inr rfl))) (by rfl) (fun _ _ _ _ _ => sc_none) (fun _ _ _ _ _ => (se_tup (sd_cons (ev 12) (sd_cons (se_bin bin_mul (SE.so (by rfl) (se_tup (sd_cons (ev 4) sd_nil (by rfl)) (by decide))) (SE.so (by rfl) (se_bin bin_add (ov 8) (SE.so (by rfl) se_int)))) sd_nil (by rfl)) (by rfl)) (by decide))))) (sss_cons (ss_ret (by rfl) (se_bltT blt_tuple (SE.so (by rfl) (se_comp G (si_seq (ov 5)) (own := [("_law_own", 17)]) (blkOk_by (N := N8) (sc := defScope (top 12)) (by decide +kernel)) (fun _ _ _ _ _ => (pg_name (i := 17) G.nd (by rfl) (by first | exact Or.inl rfl | exact Or.inr rfl))) (by rfl) (fun _ _ _ _ _ => sc_none) (fun _ _ _ _ _ => (se_bin bin_add (SE.so (by rfl) (se_tup (sd_cons (ev 17) sd_nil (by rfl)) (by decide))) (SE.so (by rfl) (se_bltT blt_tuple (SE.so (by rfl) (se_comp (GC.blk G) (si_seq (ov 5)) (own := [("_law_one", 19)]) (by (show BlkOk N8 _ _ _); refine ⟨rfl, by decide +kernel, by decide +kernel, ?_, by decide +kernel⟩; repeat (first | (refine List.forall_mem_cons.mpr ⟨(by intro h; first | (cases h; done) | exact Or.inl rfl | exact Or.inr rfl), ?_⟩) | (exact List.forall_mem_nil _))) (fun _ _ _ _ _ => (pg_name (i := 19) (GC.blk G).nd (by rfl) (by first | exact Or.inl rfl | exact Or.inr rfl))) (by rfl) (fun _ _ _ _ _ => (sc_some (st_cmp (cmp_ne (GC.blk (GC.blk G)).room) (ov 19) (ov 17) (by rfl)))) (fun _ _ _ _ _ => (ev 19)))) (by rfl) T.z_tuple (by decide +kernel))))))) (by rfl) T.z_tuple (by decide +kernel))) sss_nil))))))))
abbrev N9 : List Str := ["_law_step", "_law_row", "_law_named", "_law_due", "_law_great", "_law_told", "_law_line", "_law_code", "_law_one"]
theorem sc9 : FnScope N9 [] (defScope (top 13)) := ⟨rfl, rfl, rfl, by decide +kernel, rfl, by decide +kernel, by decide +kernel⟩
theorem b9 (T : Tx K mg w) (R : Er P wd K mg base w) (G : GC (bodyX P wd K mg base N9 "_law_by_hand" (defScope (top 13)) f cdv A outer s H E) (fun c d _ H' => E c d H')) (F : HasF (bodyX P wd K mg base N9 "_law_by_hand" (defScope (top 13)) f cdv A outer s H E) w cl (n + 2)) : SSs (bodyX P wd K mg base N9 "_law_by_hand" (defScope (top 13)) f cdv A outer s H E) w cl (fun c d _ H' => E c d H') lk (defBody (top 13)) w9.body :=
  (sss_cons (ss_asg G (i := 0) (by rfl) (by first | exact Or.inl rfl | exact Or.inr rfl) (se_tup (sd_cons (se_tup (sd_cons (se_tup (sd_cons se_str (sd_cons se_str (sd_cons (se_tup sd_nil (by decide)) (sd_cons se_int sd_nil (by rfl)) (by rfl)) (by rfl)) (by rfl)) (by decide)) sd_nil (by rfl)) (by decide)) sd_nil (by rfl)) (by decide))) (sss_cons (ss_asg G (i := 1) (by rfl) (by first | exact Or.inl rfl | exact Or.inr rfl) (se_tup (sd_cons (se_tup (sd_cons se_str (sd_cons se_str sd_nil (by rfl)) (by rfl)) (by decide)) (sd_cons (se_tup (sd_cons se_int (sd_cons se_int (sd_cons (se_tup (sd_cons se_str sd_nil (by rfl)) (by decide)) sd_nil (by rfl)) (by rfl)) (by rfl)) (by decide)) (sd_cons (se_tup sd_nil (by decide)) sd_nil (by rfl)) (by rfl)) (by rfl)) (by decide))) (sss_cons (ss_if (st_cmp (cmp_ne G.room) (SE.so (by rfl) (se_call G F T.h0 (by rfl) T.m0 (sa_cons (gv 0) (sa_cons (gv 0) sa_nil)))) (SE.so (by rfl) (se_tup (sd_cons (se_tup (sd_cons (se_tup (sd_cons se_str (sd_cons (se_tup (sd_cons (ev 1) (sd_cons (ev 1) sd_nil (by rfl)) (by rfl)) (by decide)) sd_nil (by rfl)) (by rfl)) (by decide)) sd_nil (by rfl)) (by decide)) sd_nil (by rfl)) (by decide))) (by rfl)) (sss_cons (ss_ret (by rfl) se_bl) sss_nil) sss_nil) (sss_cons (ss_asg G (i := 2) (by rfl) (by first | exact Or.inl rfl | exact Or.inr rfl) (se_tup (sd_cons (se_tup (sd_cons (se_tup (sd_cons se_str (sd_cons se_str (sd_cons (se_tup sd_nil (by decide)) (sd_cons se_int sd_nil (by rfl)) (by rfl)) (by rfl)) (by rfl)) (by decide)) (sd_cons (se_tup (sd_cons se_str (sd_cons se_str (sd_cons (se_tup sd_nil (by decide)) (sd_cons se_int sd_nil (by rfl)) (by rfl)) (by rfl)) (by rfl)) (by decide)) sd_nil (by rfl)) (by rfl)) (by decide)) sd_nil (by rfl)) (by decide))) (sss_cons (ss_asg G (i := 1) (by rfl) (by first | exact Or.inl rfl | exact Or.inr rfl) (se_tup (sd_cons (se_tup (sd_cons se_str (sd_cons se_str (sd_cons se_str sd_nil (by rfl)) (by rfl)) (by rfl)) (by decide)) (sd_cons (se_tup (sd_cons se_int (sd_cons se_int (sd_cons (se_tup (sd_cons se_str sd_nil (by rfl)) (by decide)) sd_nil (by rfl)) (by rfl)) (by rfl)) (by decide)) (sd_cons (se_tup sd_nil (by decide)) sd_nil (by rfl)) (by rfl)) (by rfl)) (by decide))) (sss_cons (ss_asg G (i := 3) (by rfl) (by first | exact Or.inl rfl | exact Or.inr rfl) (se_tup (sd_cons (se_tup (sd_cons (se_tup (sd_cons se_str (sd_cons (se_tup (sd_cons (ev 1) (sd_cons (ev 1) sd_nil (by rfl)) (by rfl)) (by decide)) sd_nil (by rfl)) (by rfl)) (by decide)) (sd_cons (se_tup (sd_cons se_str (sd_cons (se_tup (sd_cons (ev 1) (sd_cons (ev 1) sd_nil (by rfl)) (by rfl)) (by decide)) sd_nil (by rfl)) (by rfl)) (by decide)) sd_nil (by rfl)) (by rfl)) (by decide)) (sd_cons (se_tup (sd_cons (se_tup (sd_cons se_str (sd_cons (se_tup (sd_cons (ev 1) (sd_cons (ev 1) sd_nil (by rfl)) (by rfl)) (by decide)) sd_nil (by rfl)) (by rfl)) (by decide)) (sd_cons (se_tup (sd_cons se_str (sd_cons (se_tup (sd_cons (ev 1) (sd_cons (ev 1) sd_nil (by rfl)) (by rfl)) (by decide)) sd_nil (by rfl)) (by rfl)) (by decide)) sd_nil (by rfl)) (by rfl)) (by decide)) sd_nil (by rfl)) (by rfl)) (by decide))) (sss_cons (ss_if (SW.st (sw_or (st_cmp (cmp_ne G.room) (SE.so (by rfl) (se_callK G F T.h0 (by rfl) T.m0 (sk_cons (gv 0) (sk_cons (gv 2) sk_nil)) (hks := by rw [T.p0]; rfl))) (ov 3) (by rfl)) (sw_or1 (st_cmp (cmp_ne G.room) (SE.so (by rfl) (se_callKr G F T.h0 (by rfl) T.m0 (sk_cons (gv 0) (sk_cons (gv 2) sk_nil)) (hks := by rw [T.p0]; rfl))) (ov 3) (by rfl))))) (sss_cons (ss_ret (by rfl) se_bl) sss_nil) sss_nil) (sss_cons (ss_asg G (i := 4) (by rfl) (by first | exact Or.inl rfl | exact Or.inr rfl) (se_tup (sd_cons (se_tup (sd_cons (se_tup (sd_cons se_str (sd_cons se_str (sd_cons (se_tup (sd_cons (se_tup (sd_cons se_str (sd_cons se_int sd_nil (by rfl)) (by rfl)) (by decide)) (sd_cons (se_tup (sd_cons se_str (sd_cons se_int sd_nil (by rfl)) (by rfl)) (by decide)) sd_nil (by rfl)) (by rfl)) (by decide)) (sd_cons se_int sd_nil (by rfl)) (by rfl)) (by rfl)) (by rfl)) (by decide)) sd_nil (by rfl)) (by decide)) (sd_cons (se_tup (sd_cons (se_tup (sd_cons (se_tup (sd_cons se_str (sd_cons se_int sd_nil (by rfl)) (by rfl)) (by decide)) (sd_cons se_str (sd_cons (se_tup sd_nil (by decide)) (sd_cons se_int sd_nil (by rfl)) (by rfl)) (by rfl)) (by rfl)) (by decide)) (sd_cons (se_tup (sd_cons se_str (sd_cons se_str (sd_cons (se_tup sd_nil (by decide)) (sd_cons se_int sd_nil (by rfl)) (by rfl)) (by rfl)) (by rfl)) (by decide)) sd_nil (by rfl)) (by rfl)) (by decide)) sd_nil (by rfl)) (by rfl)) (by decide))) (sss_cons (ss_asg G (i := 5) (by rfl) (by first | exact Or.inl rfl | exact Or.inr rfl) (se_call G F T.h0 (by rfl) T.m0 (sa_cons (gv 4) (sa_cons (gv 0) sa_nil)))) (sss_cons (ss_if (SW.st (sw_or (st_cmp (cmp_ne G.room) (SE.so (by rfl) (se_comp G (si_seq (ov 5)) (own := [("_law_code", 7)]) (blkOk_by (N := N9) (sc := defScope (top 13)) (by decide +kernel)) (fun _ _ _ _ _ => (pg_name (i := 7) G.nd (by rfl) (by first | exact Or.inl rfl | exact Or.inr rfl))) (by rfl) (fun _ _ _ _ _ => sc_none) (fun _ _ _ _ _ => (se_ix (SE.so (by rfl) (se_ix (ov 7) (SE.so (by rfl) se_int) (fun _ _ => rfl))) (SE.so (by rfl) se_int) (fun _ _ => rfl))))) (SE.so (by rfl) (se_lst (sd_cons se_str (sd_cons se_str (sd_cons se_str (sd_cons se_str sd_nil (by rfl)) (by rfl)) (by rfl)) (by rfl)) (by decide))) (by rfl)) (sw_or1 (st_cmp (cmp_ne G.room) (SE.so (by rfl) (se_comp G (si_seq (SE.so (by rfl) (se_ix (ov 5) (SE.so (by rfl) se_int) (fun _ _ => rfl)))) (own := [("_law_one", 8)]) (blkOk_by (N := N9) (sc := defScope (top 13)) (by decide +kernel)) (fun _ _ _ _ _ => (pg_name (i := 8) G.nd (by rfl) (by first | exact Or.inl rfl | exact Or.inr rfl))) (by rfl) (fun _ _ _ _ _ => sc_none) (fun _ _ _ _ _ => (se_ix (ov 8) (SE.so (by rfl) se_int) (fun _ _ => rfl))))) (SE.so (by rfl) (se_lst (sd_cons se_str (sd_cons se_str (sd_cons se_str (sd_cons se_str sd_nil (by rfl)) (by rfl)) (by rfl)) (by rfl)) (by decide))) (by rfl))))) (sss_cons (ss_ret (by rfl) se_bl) sss_nil) sss_nil) (sss_cons (ss_asg G (i := 6) (by rfl) (by first | exact Or.inl rfl | exact Or.inr rfl) (se_tup (sd_cons (se_tup (sd_cons se_str (sd_cons se_str (sd_cons se_str (sd_cons se_str (sd_cons se_str sd_nil (by rfl)) (by rfl)) (by rfl)) (by rfl)) (by rfl)) (by decide)) (sd_cons (se_tup (sd_cons se_int (sd_cons se_int (sd_cons se_int (sd_cons se_int (sd_cons se_int (sd_cons (se_tup (sd_cons se_str sd_nil (by rfl)) (by decide)) sd_nil (by rfl)) (by rfl)) (by rfl)) (by rfl)) (by rfl)) (by rfl)) (by decide)) (sd_cons (se_tup sd_nil (by decide)) sd_nil (by rfl)) (by rfl)) (by rfl)) (by decide))) (sss_cons (ss_ret (by rfl) (se_cmp (cmp_eq G.room) (SE.so (by rfl) (se_ix (SE.so (by rfl) (se_ix (ov 5) (SE.so (by rfl) se_int) (fun _ _ => rfl))) (SE.so (by rfl) se_int) (fun _ _ => rfl))) (SE.so (by rfl) (se_tup (sd_cons se_str (sd_cons (se_bin bin_mul (SE.so (by rfl) (se_tup (sd_cons (ev 6) sd_nil (by rfl)) (by decide))) (SE.so (by rfl) se_int)) sd_nil (by rfl)) (by rfl)) (by decide))) (by rfl))) sss_nil))))))))))))
abbrev N10 : List Str := ["_law_script", "_law_feed_here", "_law_lap", "_law_some", "_law_top", "_law_places", "_law_wheres", "_law_guides", "_law_one", "_law_due", "_law_sizes", "_law_name", "_law_own"]
theorem sc10 : FnScope N10 ["_law_script"] (defScope (top 14)) := ⟨rfl, rfl, rfl, by decide +kernel, rfl, by decide +kernel, by decide +kernel⟩
theorem b10 (T : Tx K mg w) (R : Er P wd K mg base w) (G : GC (bodyX P wd K mg base N10 "law" (defScope (top 14)) f cdv A outer s H E) (fun c d _ H' => E c d H')) (F : HasF (bodyX P wd K mg base N10 "law" (defScope (top 14)) f cdv A outer s H E) w cl (n + 2)) : SSs (bodyX P wd K mg base N10 "law" (defScope (top 14)) f cdv A outer s H E) w cl (fun c d _ H' => E c d H') lk (defBody (top 14)) w10.body :=
  (sss_cons (ss_asg G (i := 1) (by rfl) (by first | exact Or.inl rfl | exact Or.inr rfl) (se_call G F T.h3 (by rfl) T.m3 (sa_cons (gv 0) sa_nil))) (sss_cons (ss_if (st_not (st_val (se_call0 G F T.h9 (by rfl) T.m9) (fun _ => rfl) (ev_call _ _))) (sss_cons (ss_ret (by rfl) se_bl) sss_nil) sss_nil) (sss_cons (ss_for G po_of (si_rng (by rfl) T.z_range (SE.so (by rfl) se_int)) (pg_name (i := 2) G.nd (by rfl) (by first | exact Or.inl rfl | exact Or.inr rfl)) (sss_cons (ss_asg G (i := 3) (by rfl) (by first | exact Or.inl rfl | exact Or.inr rfl) (se_ix (SE.so (by rfl) (se_lst (sd_cons (se_lst (sd_cons se_str (sd_cons se_str (sd_cons se_str sd_nil (by rfl)) (by rfl)) (by rfl)) (by decide)) (sd_cons (se_lst (sd_cons se_str (sd_cons se_str (sd_cons se_str sd_nil (by rfl)) (by rfl)) (by rfl)) (by decide)) (sd_cons (se_lst (sd_cons se_str (sd_cons se_str (sd_cons se_str sd_nil (by rfl)) (by rfl)) (by rfl)) (by decide)) (sd_cons (se_lst (sd_cons se_str sd_nil (by rfl)) (by decide)) (sd_cons (se_lst sd_nil (by decide)) sd_nil (by rfl)) (by rfl)) (by rfl)) (by rfl)) (by rfl)) (by decide))) (SE.so (by rfl) (se_call G F T.h4 (by rfl) T.m4 (sa_cons (gv 1) (sa_cons (SE.sg (by rfl) se_int) sa_nil)))) (fun _ _ => rfl))) (sss_cons (ss_asg G (i := 4) (by rfl) (by first | exact Or.inl rfl | exact Or.inr rfl) (se_bin bin_add (SE.so (by rfl) se_int) (SE.so (by rfl) (se_call G F T.h4 (by rfl) T.m4 (sa_cons (gv 1) (sa_cons (SE.sg (by rfl) se_int) sa_nil)))))) (sss_cons (ss_asgC (i := 5) G (by rfl) (by rfl) (sw_true (by rfl) (by rfl) (by rfl) (by decide +kernel)) (si_seq (SE.so (by rfl) (se_bin bin_add (ov 3) (ov 3)))) (own := [("_law_name", 11)]) (blkOk_by (N := N10) (sc := defScope (top 14)) (by decide +kernel)) (fun _ _ _ _ _ => (pg_name (i := 11) G.nd (by rfl) (by first | exact Or.inl rfl | exact Or.inr rfl))) (by rfl) (fun _ _ _ _ _ => sc_none) (fun _ _ _ _ _ => (se_tup (sd_cons (ev 11) (sd_cons (se_call (GC.blk G) (HasF.blk F) T.h4 (by rfl) T.m4 (sa_cons (gv 1) (sa_cons (gv 4) sa_nil))) sd_nil (by rfl)) (by rfl)) (by decide)))) (sss_cons (ss_asg G (i := 6) (by rfl) (by first | exact Or.inl rfl | exact Or.inr rfl) (se_bin bin_add (SE.so (by rfl) (se_bin bin_add (ov 3) (ov 5))) (SE.so (by rfl) (se_lst (sd_cons se_str sd_nil (by rfl)) (by decide))))) (sss_cons (ss_asg G (i := 7) (by rfl) (by first | exact Or.inl rfl | exact Or.inr rfl) (se_lst sd_nil (by decide))) (sss_cons (ss_for G po_of (si_rng (by rfl) T.z_range (SE.so (by rfl) se_int)) (pg_name (i := 8) G.nd (by rfl) (by first | exact Or.inl rfl | exact Or.inr rfl)) (sss_cons (ss_asgC (i := 10) G (by rfl) (by rfl) (sw_true (by rfl) (by rfl) (by rfl) (by decide +kernel)) (si_rng (by rfl) T.z_range (SE.so (by rfl) (se_bin bin_add (SE.so (by rfl) se_int) (SE.so (by rfl) (se_call G F T.h4 (by rfl) T.m4 (sa_cons (gv 1) (sa_cons (SE.sg (by rfl) se_int) sa_nil))))))) (own := [("_law_own", 12)]) (blkOk_by (N := N10) (sc := defScope (top 14)) (by decide +kernel)) (fun _ _ _ _ _ => (pg_name (i := 12) G.nd (by rfl) (by first | exact Or.inl rfl | exact Or.inr rfl))) (by rfl) (fun _ _ _ _ _ => sc_none) (fun _ _ _ _ _ => (se_bin bin_add (SE.so (by rfl) se_int) (SE.so (by rfl) (se_call (GC.blk G) (HasF.blk F) T.h4 (by rfl) T.m4 (sa_cons (gv 1) (sa_cons (SE.sg (by rfl) se_int) sa_nil))))))) (sss_cons (ss_app (i := 7) (by rfl) (by first | exact Or.inl rfl | exact Or.inr (Or.inl rfl) | exact Or.inr (Or.inr rfl)) (se_call G F T.h7 (by rfl) T.m7 (sa_cons (gv 1) (sa_cons (gv 6) (sa_cons (gv 5) (sa_cons (gv 10) sa_nil)))))) sss_nil))) (sss_cons (ss_asg G (i := 9) (by rfl) (by first | exact Or.inl rfl | exact Or.inr rfl) (se_blt (blt_repr G.gd G.room) (SE.so (by rfl) (se_call G F T.h8 (by rfl) T.m8 (sa_cons (SE.sg (by rfl) (se_ix (ov 7) (SE.so (by rfl) se_int) (fun _ _ => rfl))) (sa_cons (SE.sg (by rfl) (se_ix (ov 7) (SE.so (by rfl) se_int) (fun _ _ => rfl))) sa_nil)))) (by rfl) T.z_repr (by decide +kernel))) (sss_cons (ss_if (SW.st (sw_or (st_cmp (cmp_ne G.room) (SE.so (by rfl) (se_blt (blt_repr G.gd G.room) (SE.so (by rfl) (se_call G F T.h0 (by rfl) T.m0 (sa_cons (SE.sg (by rfl) (se_ix (ov 7) (SE.so (by rfl) se_int) (fun _ _ => rfl))) (sa_cons (SE.sg (by rfl) (se_ix (ov 7) (SE.so (by rfl) se_int) (fun _ _ => rfl))) sa_nil)))) (by rfl) T.z_repr (by decide +kernel))) (ov 9) (by rfl)) (sw_or1 (st_cmp (cmp_ne G.room) (SE.so (by rfl) (se_blt (blt_repr G.gd G.room) (SE.so (by rfl) (se_call G F T.h0 (by rfl) T.m0 (sa_cons (SE.sg (by rfl) (se_ix (ov 7) (SE.so (by rfl) se_int) (fun _ _ => rfl))) (sa_cons (SE.sg (by rfl) (se_ix (ov 7) (SE.so (by rfl) se_int) (fun _ _ => rfl))) sa_nil)))) (by rfl) T.z_repr (by decide +kernel))) (ov 9) (by rfl))))) (sss_cons (ss_ret (by rfl) se_bl) sss_nil) sss_nil) sss_nil))))))))) (sss_cons (ss_ret (by rfl) se_bl) sss_nil))))
end
end K64
set_option Elab.async false
set_option linter.all false
set_option maxRecDepth 100000
set_option maxHeartbeats 4100000
/-! The feed, the draws. -/
namespace K64
open PySem Pv
def feed (cs : D) (a r t : Int) : List (Str × D) := [("cells", cs), ("at", .int a), ("rest", .int r), ("turn", .int t)]
section
variable {cs : D} {a l c x : Int}
theorem f1 : valD (feed cs a l c) "cells" = some cs := rfl
theorem f2 : valD (feed cs a l c) "at" = some (.int a) := rfl
theorem f3 : valD (feed cs a l c) "rest" = some (.int l) := rfl
theorem f4 : valD (feed cs a l c) "turn" = some (.int c) := rfl
theorem f5 : putD (feed cs a l c) "at" (.int x) = feed cs x l c := rfl
theorem f6 : putD (feed cs a l c) "rest" (.int x) = feed cs a x c := rfl
theorem f7 : putD (feed cs a l c) "turn" (.int x) = feed cs a l x := rfl
theorem f8 : (feed cs a l c).length = 4 := rfl
end
theorem can_ints : ∀ cs : List Int, PyData.canLayAll0 (cs.map .int) = true
  | [] => rfl
  | c :: cs => by
    rw [List.map_cons]
    unfold PyData.canLayAll0 PyData.canLay0
    exact can_ints cs
theorem dep_ints : ∀ cs : List Int, PyData.depthAll (cs.map .int) ≤ 1
  | [] => by decide
  | c :: cs => by
    have ih := dep_ints cs
    rw [List.map_cons]
    unfold PyData.depthAll PyData.depth
    omega
theorem shp_ints (cs : List Int) : shp (.list (cs.map .int)) = true := by
  have h1 := can_ints cs
  have h2 := dep_ints cs
  unfold shp SeqAt.shaped PyData.canLay0 PyData.depth
  rw [h1, Bool.true_and]
  exact decide_eq_true (show _ ≤ 64 by omega)
theorem ne_ints (cs : List Int) : cmp2 .ne (.list (cs.map .int)) (.list []) = some (decide (cs ≠ [])) := by
  have e : cmp2 .ne (.list (cs.map .int)) (.list []) = if shp (.list (cs.map .int)) && shp (.list []) then some (!PyData.eqv (.list (cs.map .int)) (.list [])) else none := rfl
  rw [e, shp_ints, show shp (.list []) = true from rfl, if_pos (show (true && true) = true from rfl)]
  cases cs with
  | nil => rfl
  | cons c cs => rfl
theorem cgt {i j : Int} : cmp2 .gt (.int i) (.int j) = some (decide (j < i)) := rfl
theorem cge {i j : Int} : cmp2 .ge (.int i) (.int j) = some (decide (j ≤ i)) := rfl
theorem clt {i j : Int} : cmp2 .lt (.int i) (.int j) = some (decide (i < j)) := rfl
theorem ix_ints {cs : List Int} {i : Int} (h0 : 0 ≤ i) (h1 : i < cs.length) : ∃ c : Int, ix2 (.list (cs.map .int)) (.int i) = some (.int c) := by
  have hj : i.toNat < cs.length := by omega
  refine ⟨cs[i.toNat], ?_⟩
  show L2.atI (cs.map PyData.int) i = _
  unfold L2.atI L2.ixN
  rw [if_pos h0, List.length_map, if_pos h1, Option.bind_some, List.getElem?_map, List.getElem?_eq_getElem hj]
  rfl
theorem badd {i j : Int} : bin2 .add (.int i) (.int j) = some (.dat (.int (i + j))) := rfl
theorem bsub {i j : Int} : bin2 .sub (.int i) (.int j) = some (.dat (.int (i - j))) := rfl
theorem bmod {i j : Int} (h : 0 < j) : bin2 .mod (.int i) (.int j) = some (.dat (.int (i % j))) := if_pos (decide_eq_true h)
theorem bfdiv {i j : Int} (h : 0 < j) (h' : j < 1073741824) : bin2 .fdiv (.int i) (.int j) = some (.dat (.int (i / j))) := if_pos (decide_eq_true ⟨h, h'⟩)
theorem bmul {i j : Int} (h : -(2 ^ 64) < i) (h' : i < 2 ^ 64) : bin2 .mul (.int i) (.int j) = some (.dat (.int (i * j))) := if_pos (by rw [decide_eq_true (show -(2 ^ 64) < i ∧ i < 2 ^ 64 from ⟨h, h'⟩)]; rfl)
theorem bmulr {i j : Int} (h : -(2 ^ 64) < j) (h' : j < 2 ^ 64) : bin2 .mul (.int i) (.int j) = some (.dat (.int (i * j))) := if_pos (by rw [decide_eq_true (show -(2 ^ 64) < j ∧ j < 2 ^ 64 from ⟨h, h'⟩), Bool.or_true])
theorem bmulm {x m y : Int} (h : 0 < m) (h' : m < 2 ^ 64) : bin2 .mul (.int (x % m)) (.int y) = some (.dat (.int (x % m * y))) :=
  bmul (Int.lt_of_lt_of_le (by decide) (Int.emod_nonneg x (by omega))) (Int.lt_trans (Int.emod_lt_of_pos x h) h')
theorem p18 : bin2 .pow (.int 10) (.int 18) = some (.dat (.int 1000000000000000000)) := rfl
theorem xint {i : Int} : blt1 .int (.int i) = some (.dat (.int i)) := rfl
theorem xlen {xs : List D} : blt1 .len (.list xs) = some (.dat (.int xs.length)) := rfl
theorem draw_sat {n : Nat} {cs : List Int} {a l t many : Int} (ha : 0 ≤ a) (h0 : 0 ≤ t) (ht : t < 1000000000) (hm : 1 ≤ many) (hm2 : many < 1073741824) :
    (evF Pr (n + 1) 4 [.dct (feed (.list (cs.map .int)) a l t), .dat (.int many)]).sat fun p => ∃ r a' l', p = (.dat (.int r), [some (.dct (feed (.list (cs.map .int)) a' l' (t + 1))), some (.dat (.int many))]) ∧ 0 ≤ r ∧ r < many ∧ 0 ≤ a' := by
  have hmp : 0 < many := by omega
  have ht2 : bin2 .mul (.int (6961 * (t + 1))) (.int (t + 1)) = some (.dat (.int (6961 * (t + 1) * (t + 1)))) := bmulr (by omega) (by omega)
  show (runF (evF Pr n) w4 _).sat _
  refine runF_sat rfl ?_
  show (evSs (evF Pr n) [0] w4.body [some (.dct (feed (.list (cs.map .int)) a l t)), some (.dat (.int many)), none, none, none, none, none, none]).sat _
  unfold w4
  simp only [evSs, evS, evVs, putsS, Res.sat_bind, Res.sat_ok, evE, lookD, keyOf, opnd, T.isVar, look, Vl.view, List.getElem?_cons_zero, List.getElem?_cons_succ, Res.sat_get, f1, f2, f3, f4, f5, f6, f7, f8, Vl.frz, badd, bmod, bfdiv, bmul, bmulm, p18, List.set_cons_zero, List.set_cons_succ, Option.some.injEq, exists_eq_left', evT, decide_true, decide_false, if_true, if_false, Res.bind_ok, get_some, xint, xlen, Env.put, putS, List.contains_cons, List.contains_nil, Nat.reduceLT, List.length_cons, List.length_nil, Nat.reduceAdd, Nat.reduceBEq, Bool.or_self, Bool.false_eq_true, and_self, List.take_succ_cons, List.take_zero, hmp, hm2, ht2, Int.reducePow, Int.reduceNeg, Int.reduceLT, Int.reduceLE, evDs, Bool.and_true, Bool.true_and, Bool.or_false, Bool.or_true, Option.bind_some, cgt, cge, clt, truth, ne_ints]
  cases hl : decide (0 < l) with
  | true =>
    simp only [evSs, evS, evVs, putsS, Res.sat_bind, Res.sat_ok, evE, lookD, keyOf, opnd, T.isVar, look, Vl.view, List.getElem?_cons_zero, List.getElem?_cons_succ, Res.sat_get, f1, f2, f3, f4, f5, f6, f7, f8, Vl.frz, badd, bmod, bfdiv, bmul, bmulm, p18, List.set_cons_zero, List.set_cons_succ, Option.some.injEq, exists_eq_left', evT, decide_true, decide_false, if_true, if_false, Res.bind_ok, get_some, xint, xlen, Env.put, putS, List.contains_cons, List.contains_nil, Nat.reduceLT, List.length_cons, List.length_nil, Nat.reduceAdd, Nat.reduceBEq, Bool.or_self, Bool.false_eq_true, and_self, List.take_succ_cons, List.take_zero, hmp, hm2, ht2, Int.reducePow, Int.reduceNeg, Int.reduceLT, Int.reduceLE, evDs, Bool.and_true, Bool.true_and, Bool.or_false, Bool.or_true, Option.bind_some, cgt, cge, clt, truth, ne_ints]
    exact ⟨_, _, _, rfl, Int.emod_nonneg _ (by omega), Int.emod_lt_of_pos _ hmp, ha⟩
  | false =>
    simp only [evSs, evS, evVs, putsS, Res.sat_bind, Res.sat_ok, evE, lookD, keyOf, opnd, T.isVar, look, Vl.view, List.getElem?_cons_zero, List.getElem?_cons_succ, Res.sat_get, f1, f2, f3, f4, f5, f6, f7, f8, Vl.frz, badd, bmod, bfdiv, bmul, bmulm, p18, List.set_cons_zero, List.set_cons_succ, Option.some.injEq, exists_eq_left', evT, decide_true, decide_false, if_true, if_false, Res.bind_ok, get_some, xint, xlen, Env.put, putS, List.contains_cons, List.contains_nil, Nat.reduceLT, List.length_cons, List.length_nil, Nat.reduceAdd, Nat.reduceBEq, Bool.or_self, Bool.false_eq_true, and_self, List.take_succ_cons, List.take_zero, hmp, hm2, ht2, Int.reducePow, Int.reduceNeg, Int.reduceLT, Int.reduceLE, evDs, Bool.and_true, Bool.true_and, Bool.or_false, Bool.or_true, Option.bind_some, cgt, cge, clt, truth, ne_ints]
    by_cases hc : cs = []
    · subst hc
      simp only [evSs, evS, evVs, putsS, Res.sat_bind, Res.sat_ok, evE, lookD, keyOf, opnd, T.isVar, look, Vl.view, List.getElem?_cons_zero, List.getElem?_cons_succ, Res.sat_get, f1, f2, f3, f4, f5, f6, f7, f8, Vl.frz, badd, bmod, bfdiv, bmul, bmulm, p18, List.set_cons_zero, List.set_cons_succ, Option.some.injEq, exists_eq_left', evT, decide_true, decide_false, if_true, if_false, Res.bind_ok, get_some, xint, xlen, Env.put, putS, List.contains_cons, List.contains_nil, Nat.reduceLT, List.length_cons, List.length_nil, Nat.reduceAdd, Nat.reduceBEq, Bool.or_self, Bool.false_eq_true, and_self, List.take_succ_cons, List.take_zero, hmp, hm2, ht2, Int.reducePow, Int.reduceNeg, Int.reduceLT, Int.reduceLE, evDs, Bool.and_true, Bool.true_and, Bool.or_false, Bool.or_true, Option.bind_some, cgt, cge, clt, truth, ne_ints, List.map_nil, ne_eq, not_true_eq_false]
      exact ⟨_, _, _, rfl, Int.emod_nonneg _ (by omega), Int.emod_lt_of_pos _ hmp, by omega⟩
    · have hp : 0 < (cs.length : Int) := by
        cases cs with
        | nil => exact (hc rfl).elim
        | cons _ _ => rw [List.length_cons]; omega
      have hp' : 0 < ((cs.map PyData.int).length : Int) := by rw [List.length_map]; exact hp
      obtain ⟨x, hx⟩ := ix_ints (cs := cs) (Int.emod_nonneg a (by omega : (cs.length : Int) ≠ 0)) (Int.emod_lt_of_pos a hp)
      rw [← List.length_map (f := PyData.int)] at hx
      simp only [evSs, evS, evVs, putsS, Res.sat_bind, Res.sat_ok, evE, lookD, keyOf, opnd, T.isVar, look, Vl.view, List.getElem?_cons_zero, List.getElem?_cons_succ, Res.sat_get, f1, f2, f3, f4, f5, f6, f7, f8, Vl.frz, badd, bmod, bfdiv, bmul, bmulm, p18, List.set_cons_zero, List.set_cons_succ, Option.some.injEq, exists_eq_left', evT, decide_true, decide_false, if_true, if_false, Res.bind_ok, get_some, xint, xlen, Env.put, putS, List.contains_cons, List.contains_nil, Nat.reduceLT, List.length_cons, List.length_nil, Nat.reduceAdd, Nat.reduceBEq, Bool.or_self, Bool.false_eq_true, and_self, List.take_succ_cons, List.take_zero, hmp, hm2, ht2, Int.reducePow, Int.reduceNeg, Int.reduceLT, Int.reduceLE, evDs, Bool.and_true, Bool.true_and, Bool.or_false, Bool.or_true, Option.bind_some, cgt, cge, clt, truth, ne_ints, ne_eq, hc, not_false_eq_true, hp', hx]
      have fin : ∀ y : Int, 0 ≤ y % many ∧ y % many < many := fun y => ⟨Int.emod_nonneg _ (by omega), Int.emod_lt_of_pos _ hmp⟩
      cases h1 : decide (1000000000000000000 ≤ x) with
      | true =>
        simp only [evSs, evS, evVs, putsS, Res.sat_bind, Res.sat_ok, evE, lookD, keyOf, opnd, T.isVar, look, Vl.view, List.getElem?_cons_zero, List.getElem?_cons_succ, Res.sat_get, f1, f2, f3, f4, f5, f6, f7, f8, Vl.frz, badd, bmod, bfdiv, bmul, bmulm, p18, List.set_cons_zero, List.set_cons_succ, Option.some.injEq, exists_eq_left', evT, decide_true, decide_false, if_true, if_false, Res.bind_ok, get_some, xint, xlen, Env.put, putS, List.contains_cons, List.contains_nil, Nat.reduceLT, List.length_cons, List.length_nil, Nat.reduceAdd, Nat.reduceBEq, Bool.or_self, Bool.false_eq_true, and_self, List.take_succ_cons, List.take_zero, hmp, hm2, ht2, Int.reducePow, Int.reduceNeg, Int.reduceLT, Int.reduceLE, evDs, Bool.and_true, Bool.true_and, Bool.or_false, Bool.or_true, Option.bind_some, cgt, cge, clt, truth, ne_ints]
        cases h2 : decide (a < ((cs.map PyData.int).length : Int)) with
        | true =>
          simp only [evSs, evS, evVs, putsS, Res.sat_bind, Res.sat_ok, evE, lookD, keyOf, opnd, T.isVar, look, Vl.view, List.getElem?_cons_zero, List.getElem?_cons_succ, Res.sat_get, f1, f2, f3, f4, f5, f6, f7, f8, Vl.frz, badd, bmod, bfdiv, bmul, bmulm, p18, List.set_cons_zero, List.set_cons_succ, Option.some.injEq, exists_eq_left', evT, decide_true, decide_false, if_true, if_false, Res.bind_ok, get_some, xint, xlen, Env.put, putS, List.contains_cons, List.contains_nil, Nat.reduceLT, List.length_cons, List.length_nil, Nat.reduceAdd, Nat.reduceBEq, Bool.or_self, Bool.false_eq_true, and_self, List.take_succ_cons, List.take_zero, hmp, hm2, ht2, Int.reducePow, Int.reduceNeg, Int.reduceLT, Int.reduceLE, evDs, Bool.and_true, Bool.true_and, Bool.or_false, Bool.or_true, Option.bind_some, cgt, cge, clt, truth, ne_ints]
          exact ⟨_, _, _, rfl, (fin _).1, (fin _).2, by omega⟩
        | false =>
          simp only [evSs, evS, evVs, putsS, Res.sat_bind, Res.sat_ok, evE, lookD, keyOf, opnd, T.isVar, look, Vl.view, List.getElem?_cons_zero, List.getElem?_cons_succ, Res.sat_get, f1, f2, f3, f4, f5, f6, f7, f8, Vl.frz, badd, bmod, bfdiv, bmul, bmulm, p18, List.set_cons_zero, List.set_cons_succ, Option.some.injEq, exists_eq_left', evT, decide_true, decide_false, if_true, if_false, Res.bind_ok, get_some, xint, xlen, Env.put, putS, List.contains_cons, List.contains_nil, Nat.reduceLT, List.length_cons, List.length_nil, Nat.reduceAdd, Nat.reduceBEq, Bool.or_self, Bool.false_eq_true, and_self, List.take_succ_cons, List.take_zero, hmp, hm2, ht2, Int.reducePow, Int.reduceNeg, Int.reduceLT, Int.reduceLE, evDs, Bool.and_true, Bool.true_and, Bool.or_false, Bool.or_true, Option.bind_some, cgt, cge, clt, truth, ne_ints]
          exact ⟨_, _, _, rfl, (fin _).1, (fin _).2, by omega⟩
      | false =>
        simp only [evSs, evS, evVs, putsS, Res.sat_bind, Res.sat_ok, evE, lookD, keyOf, opnd, T.isVar, look, Vl.view, List.getElem?_cons_zero, List.getElem?_cons_succ, Res.sat_get, f1, f2, f3, f4, f5, f6, f7, f8, Vl.frz, badd, bmod, bfdiv, bmul, bmulm, p18, List.set_cons_zero, List.set_cons_succ, Option.some.injEq, exists_eq_left', evT, decide_true, decide_false, if_true, if_false, Res.bind_ok, get_some, xint, xlen, Env.put, putS, List.contains_cons, List.contains_nil, Nat.reduceLT, List.length_cons, List.length_nil, Nat.reduceAdd, Nat.reduceBEq, Bool.or_self, Bool.false_eq_true, and_self, List.take_succ_cons, List.take_zero, hmp, hm2, ht2, Int.reducePow, Int.reduceNeg, Int.reduceLT, Int.reduceLE, evDs, Bool.and_true, Bool.true_and, Bool.or_false, Bool.or_true, Option.bind_some, cgt, cge, clt, truth, ne_ints]
        exact ⟨_, _, _, rfl, (fin _).1, (fin _).2, by omega⟩
/-- a feed from which at most b were drawn -/
structure Fd (cs : List Int) (b : Nat) (kvs : List (Str × D)) : Prop where
  ex : ∃ a l t, 0 ≤ a ∧ 0 ≤ t ∧ t ≤ (b : Int) ∧ kvs = feed (.list (cs.map .int)) a l t
theorem Fd.mono {cs : List Int} {b b' : Nat} {kvs : List (Str × D)} (h : Fd cs b kvs) (k : b ≤ b') : Fd cs b' kvs :=
  let ⟨a, l, t, h1, h2, h3, e⟩ := h.ex
  ⟨a, l, t, h1, h2, by omega, e⟩
section
variable {cs : List Int} {n i b : Nat} {e : T} {many : Int} {kvs : List (Str × D)} {ρ : Pv.Env} {Q : Vl × Pv.Env → Prop}
theorem draw_cs (hf : Fd cs b kvs) (hb : b < 1000000) (h1 : 1 ≤ many) (h2 : many < 1073741824) : CS (evF Pr (n + 1) 4 [.dct kvs, .dat (.int many)]) fun p => ∃ r kvs', p = (.dat (.int r), [some (.dct kvs'), some (.dat (.int many))]) ∧ Fd cs (b + 1) kvs' ∧ 0 ≤ r ∧ r < many := by
  obtain ⟨a, l, t, g1, g2, g3, e⟩ := hf.ex
  subst e
  refine CS.of (Res.sat.mono (draw_sat (n := n) (cs := cs) (l := l) g1 g2 (by omega) h1 h2) fun p hp => ?_)
  obtain ⟨r, a', l', e, k0, k1, k2⟩ := hp
  exact ⟨r, _, e, ⟨a', l', t + 1, k2, by omega, by omega, rfl⟩, k0, k1⟩
theorem xe_drawi (h0 : ρ[i]? = some (some (.dct kvs))) (hf : Fd cs b kvs) (hb : b < 1000000) (ha : AR (evF Pr (n + 1)) e ρ (.dat (.int many))) (h1 : 1 ≤ many) (h2 : many < 1073741824)
    (q : ∀ r kvs', Fd cs (b + 1) kvs' → 0 ≤ r → r < many → Q (.dat (.int r), ρ.set i (some (.dct kvs')))) : XE (evF Pr (n + 1)) (.call 4 [.var i, e]) ρ Q := by
  refine xe_lendi h0 (av_cons ha av_nil) ((draw_cs hf hb h1 h2).mono fun p hp => ?_)
  obtain ⟨r, kvs', e, k, k0, k1⟩ := hp
  subst e
  exact ⟨_, [some (.dat (.int many))], rfl, rfl, q r kvs' k k0 k1⟩
end
theorem feed_run {n : Nat} {ns : List Int} : CS (evF Pr (n + 1) 3 [.scr ns]) fun p => p = (.dct (feed (.list ((ns.take 63).map .int)) 0 0 0), [some (.scr ns)]) := by
  refine cs_run (d := w3) rfl rfl ?_
  exact xs_ret rfl (xe_ev (jv_dct (dv_cons (jv_blt (op_ev (jv_cut rfl) rfl rfl) rfl) rfl <| dv_cons (jv_cst _) rfl <| dv_cons (jv_cst _) rfl <| dv_cons (jv_cst _) rfl dv_nil)) rfl)
end K64
set_option Elab.async false
set_option linter.all false
set_option maxRecDepth 100000
set_option maxHeartbeats 4100000
/-! Guides as data; what they name. -/
namespace K64
open PySem Pv
abbrev Pr2 := Str × Int
inductive Wh where
  | nm (s : Str)
  | sp (p : Pr2)
def whD : Wh → D
  | .nm s => .str s
  | .sp p => pairD p
structure Ru where
  w : Wh
  c : Str
  cuts : List Pr2
  t : Int
def ruD (r : Ru) : D := .tuple [whD r.w, .str r.c, .tuple (r.cuts.map pairD), .int r.t]
def stD (s : List Ru) : D := .tuple (s.map ruD)
def guD (g : List (List Ru)) : D := .tuple (g.map stD)
def low (x : Str) : Bool := decide (x.length ≤ 8) && x.cps.toList.all (· < 128)
theorem low_sz {x : Str} (h : low x = true) : Sz 0 8 (.str x) := by
  unfold low at h
  rw [Bool.and_eq_true] at h
  exact sz_str (fun c hc => of_decide_eq_true (List.all_eq_true.mp h.2 c hc)) (of_decide_eq_true h.1)
/-- a pair of these names -/
structure Po (T : List Str) (p : Pr2) : Prop where
  n : p.1 ∈ T
  lo : 0 ≤ p.2
  hi : p.2 < 5
/-- a rule of these names -/
structure RuOk (T : List Str) (r : Ru) : Prop where
  w : match r.w with
    | .nm s => s ≠ "" → s ∈ T
    | .sp p => Po T p
  cuts : ∀ p ∈ r.cuts, Po T p
  len : r.cuts.length ≤ 2
structure GuOk (T : List Str) (g : List (List Ru)) : Prop where
  len : g.length ≤ 3
  st : ∀ s ∈ g, s.length ≤ 3 ∧ ∀ r ∈ s, RuOk T r
structure TOk (T : List Str) : Prop where
  low : ∀ t ∈ T, low t = true
  len : T.length ≤ 3
def namedR (r : Ru) : List Pr2 := r.cuts ++ match r.w with
  | .sp p => [p]
  | .nm s => if s = "" then [] else [(s, 0)]
def namedS (s : List Ru) : List Pr2 := s.flatMap namedR
def named (g : List (List Ru)) : List Pr2 := g.flatMap namedS
theorem namedR_ok {T : List Str} {r : Ru} (h : RuOk T r) : (∀ p ∈ namedR r, Po T p) ∧ (namedR r).length ≤ 3 := by
  obtain ⟨w, c, cuts, t⟩ := r
  have hw := h.w
  have hc := h.cuts
  have hl := h.len
  unfold namedR
  cases w with
  | sp p =>
    refine ⟨fun q hq => (List.mem_append.mp hq).elim (hc q) fun hq => ?_, by rw [List.length_append]; exact Nat.succ_le_succ hl⟩
    rw [List.mem_singleton.mp hq]
    exact hw
  | nm s =>
    by_cases e : s = ""
    · show (∀ q ∈ cuts ++ (if s = "" then [] else [(s, 0)]), _) ∧ (cuts ++ (if s = "" then [] else [(s, 0)])).length ≤ 3
      rw [if_pos e, List.append_nil]
      exact ⟨hc, Nat.le_succ_of_le hl⟩
    · show (∀ q ∈ cuts ++ (if s = "" then [] else [(s, 0)]), _) ∧ (cuts ++ (if s = "" then [] else [(s, 0)])).length ≤ 3
      rw [if_neg e]
      refine ⟨fun q hq => (List.mem_append.mp hq).elim (hc q) fun hq => ?_, by rw [List.length_append]; exact Nat.succ_le_succ hl⟩
      rw [List.mem_singleton.mp hq]
      exact ⟨hw e, Int.le_refl 0, (show (0 : Int) < 5 by decide)⟩
theorem flat_len {α β : Type} {f : α → List β} {k m : Nat} : ∀ {xs : List α}, (∀ x ∈ xs, (f x).length ≤ k) → xs.length ≤ m → (xs.flatMap f).length ≤ m * k
  | [], _, _ => Nat.zero_le _
  | x :: xs, h, hl => by
    rw [List.flatMap_cons, List.length_append]
    rw [List.length_cons] at hl
    have h1 := h x (.head _)
    have h2 := flat_len (m := m - 1) (xs := xs) (fun y hy => h y (.tail _ hy)) (by omega)
    obtain ⟨m, rfl⟩ : ∃ m', m = m' + 1 := ⟨m - 1, by omega⟩
    rw [Nat.add_sub_cancel] at h2
    rw [Nat.add_mul]
    omega
theorem named_ok {T : List Str} {g : List (List Ru)} (h : GuOk T g) : (∀ p ∈ named g, Po T p) ∧ (named g).length ≤ 27 := by
  constructor
  · intro p hp
    obtain ⟨s, hs, hp⟩ := List.mem_flatMap.mp hp
    obtain ⟨r, hr, hp⟩ := List.mem_flatMap.mp hp
    exact (namedR_ok ((h.st s hs).2 r hr)).1 p hp
  · exact flat_len (k := 9) (m := 3) (fun s hs => flat_len (k := 3) (m := 3) (fun r hr => (namedR_ok ((h.st s hs).2 r hr)).2) (h.st s hs).1) h.len
/-! ### named_in -/
def nE (g : D) (acc : List Pr2) (s w t b : Option Vl) : Pv.Env := [some (.dat g), some (.lst (acc.map pairD)), s, w, t, b]
def bodyR : List S := [(.ext 1 (.blt .list (.var 5))), (.iff (.blt (.isi .tuple) (.var 3)) [(.app 1 (.var 3))] [(.iff (.cmp .ne (.var 3) (.cst (.str ""))) [(.app 1 (.tup [(.var 3), (.cst (.int 0))]))] [])])]
def bodyS : List S := [(.forl (.tp [3, 4, 5, 4]) .seq (.var 2) bodyR)]
theorem shpE : shp (.str "") = true := by decide +kernel
theorem eqs {x y : D} (h : shp x = true) (h' : shp y = true) : cmp2 .eq x y = some (PyData.eqv x y) := if_pos (by rw [h, h']; rfl)
theorem nes {x y : D} (h : shp x = true) (h' : shp y = true) : cmp2 .ne x y = some (!PyData.eqv x y) := if_pos (by rw [h, h']; rfl)
section
variable {n : Nat} {cl : Fun} {g : D} {T : List Str}
theorem turn_r (hT : TOk T) {acc : List Pr2} {s w t b : Option Vl} {r : Ru} (h : RuOk T r) (hl : acc.length ≤ 1000) : ∃ w' t' b', store (.tp [3, 4, 5, 4]) (ruD r) (nE g acc s w t b) = some (nE g acc s w' t' b') ∧ evSs cl [] bodyR (nE g acc s w' t' b') = .ok (.nx, nE g (acc ++ namedR r) s w' t' b') := by
  refine ⟨some (.dat (whD r.w)), some (.dat (.int r.t)), some (.dat (.tuple (r.cuts.map pairD))), rfl, ?_⟩
  obtain ⟨wh, c, cuts, tt⟩ := r
  have cl2 := h.len
  have cl2 : cuts.length ≤ 2 := cl2
  have lm : ∀ ps : List Pr2, (ps.map pairD).length = ps.length := fun ps => List.length_map ..
  have s1 : NX cl [] (.ext 1 (.blt .list (.var 5))) (nE g acc s (some (.dat (whD wh))) (some (.dat (.int tt))) (some (.dat (.tuple (cuts.map pairD))))) (nE g (acc ++ cuts) s (some (.dat (whD wh))) (some (.dat (.int tt))) (some (.dat (.tuple (cuts.map pairD))))) := by
    have := nx_ext (cl := cl) (lk := []) (ρ := nE g acc s (some (.dat (whD wh))) (some (.dat (.int tt))) (some (.dat (.tuple (cuts.map pairD))))) (i := 1) (e := .blt .list (.var 5)) (ds := acc.map pairD) (ys := cuts.map pairD) rfl (op_ev (jv_blt (v := .lst (cuts.map pairD)) (op_var (d := .tuple (cuts.map pairD)) rfl) rfl) rfl rfl) (by rw [lm, lm]; omega)
    rw [← List.map_append] at this
    exact this
  show evSs cl [] (_ :: _) _ = _
  rw [ss_nx s1]
  refine ss_one ?_
  have al : ((acc ++ cuts).map pairD).length < 16777216 := by rw [lm, List.length_append]; omega
  cases wh with
  | sp p =>
    refine nx_ifE (x := true) (tb_isi (op_var (d := pairD p) rfl)) (fun _ => ?_) fun e => Bool.noConfusion e
    refine ss_one ?_
    have := nx_app (cl := cl) (lk := []) (ρ := nE g (acc ++ cuts) s (some (.dat (pairD p))) (some (.dat (.int tt))) (some (.dat (.tuple (cuts.map pairD))))) (i := 1) (e := .var 3) (ds := (acc ++ cuts).map pairD) (d := pairD p) rfl (jv_var rfl) rfl al
    rw [show (acc ++ cuts).map pairD ++ [pairD p] = (acc ++ namedR ⟨.sp p, c, cuts, tt⟩).map pairD by rw [show namedR ⟨.sp p, c, cuts, tt⟩ = cuts ++ [p] from rfl, ← List.append_assoc, List.map_append (l₂ := [p])]; rfl] at this
    exact this
  | nm x =>
    have xs : shp (.str x) = true := by
      by_cases e : x = ""
      · rw [e]; exact shpE
      · exact (low_sz (hT.low x (h.w e))).shp (by decide)
    refine nx_ifE (x := false) (tb_isi (op_var (d := .str x) rfl)) (fun e => Bool.noConfusion e) fun _ => ?_
    have tb : TB cl (.cmp .ne (.var 3) (.cst (.str ""))) (nE g (acc ++ cuts) s (some (.dat (.str x))) (some (.dat (.int tt))) (some (.dat (.tuple (cuts.map pairD))))) (!PyData.eqv (.str x) (.str "")) := tb_cmp (op_var rfl) (op_cst _) (nes xs shpE)
    rw [eqv_ss] at tb
    by_cases e : x = ""
    · rw [decide_eq_true e] at tb
      refine (ss_nx (s_iff tb)).trans ?_
      have : namedR ⟨.nm x, c, cuts, tt⟩ = cuts := by
        show cuts ++ (if x = "" then [] else [(x, 0)]) = cuts
        rw [if_pos e, List.append_nil]
      rw [this]
      exact ss_none
    · rw [decide_eq_false e] at tb
      have := nx_app (cl := cl) (lk := []) (ρ := nE g (acc ++ cuts) s (some (.dat (.str x))) (some (.dat (.int tt))) (some (.dat (.tuple (cuts.map pairD))))) (i := 1) (e := .tup [(.var 3), (.cst (.int 0))]) (ds := (acc ++ cuts).map pairD) (d := pairD (x, 0)) rfl (jv_tup (dv_cons (jv_var rfl) rfl (dv_cons (jv_cst _) rfl dv_nil))) rfl al
      have e2 : namedR ⟨.nm x, c, cuts, tt⟩ = cuts ++ [(x, 0)] := by
        show cuts ++ (if x = "" then [] else [(x, 0)]) = _
        rw [if_neg e]
      rw [show (acc ++ cuts).map pairD ++ [pairD (x, 0)] = (acc ++ namedR ⟨.nm x, c, cuts, tt⟩).map pairD by rw [e2, ← List.append_assoc, List.map_append (l₂ := [(x, 0)])]; rfl] at this
      exact ss_one ((s_ift tb).trans (ss_one this))
theorem turn_s (hT : TOk T) {acc : List Pr2} {w t b : Option Vl} {rs : List Ru} (h : ∀ r ∈ rs, RuOk T r) (hl3 : rs.length ≤ 3) (hl : acc.length ≤ 900) : ∃ w' t' b', evSs cl [] bodyS (nE g acc (some (.dat (stD rs))) w t b) = .ok (.nx, nE g (acc ++ namedS rs) (some (.dat (stD rs))) w' t' b') := by
  have key : ∀ (s : Option Vl) (rs : List Ru) (acc : List Pr2) (w t b : Option Vl), (∀ r ∈ rs, RuOk T r) → acc.length + 3 * rs.length ≤ 1000 → ∃ w' t' b', forTurns (.tp [3, 4, 5, 4]) (evSs cl [] bodyR) (rs.map ruD) (nE g acc s w t b) = .ok (.nx, nE g (acc ++ namedS rs) s w' t' b') := by
    intro s rs
    induction rs with
    | nil =>
      intro acc w t b _ _
      refine ⟨w, t, b, ?_⟩
      unfold forTurns
      show _ = Res.ok (Pv.Flow.nx, nE g (acc ++ []) s w t b)
      rw [List.append_nil]
      rfl
    | cons r rs ih =>
      intro acc w t b hr hz
      rw [List.length_cons] at hz
      obtain ⟨w1, t1, b1, e1, e2⟩ := turn_r (cl := cl) (g := g) (s := s) (w := w) (t := t) (b := b) hT (hr r (.head _)) (acc := acc) (by omega)
      have ln := (namedR_ok (hr r (.head _))).2
      obtain ⟨w2, t2, b2, e3⟩ := ih (acc ++ namedR r) w1 t1 b1 (fun x hx => hr x (.tail _ hx)) (by rw [List.length_append]; omega)
      refine ⟨w2, t2, b2, ?_⟩
      rw [List.map_cons]
      unfold forTurns
      rw [e1, get_some, Res.bind_ok, e2, Res.bind_ok]
      show forTurns _ _ _ _ = _
      rw [e3, List.append_assoc]
      rfl
  obtain ⟨w', t', b', e⟩ := key (some (.dat (stD rs))) rs acc w t b h (by omega)
  exact ⟨w', t', b', ss_one ((s_forv (y := stD rs) (ds := rs.map ruD) rfl rfl rfl).trans e)⟩
/-- what a guide names -/
theorem r1 {gs : List (List Ru)} (hT : TOk T) (h : GuOk T gs) : evF Pr (n + 1) 1 [.dat (guD gs)] = .ok (.lst ((named gs).map pairD), [some (.dat (guD gs))]) := by
  show runF (evF Pr n) w1 _ = _
  have key : ∀ (ss : List (List Ru)) (acc : List Pr2) (s w t b : Option Vl), (∀ x ∈ ss, x.length ≤ 3 ∧ ∀ r ∈ x, RuOk T r) → acc.length + 9 * ss.length ≤ 900 → ∃ s' w' t' b', forTurns (.nm 2) (evSs (evF Pr n) [] bodyS) (ss.map stD) (nE (guD gs) acc s w t b) = .ok (.nx, nE (guD gs) (acc ++ named ss) s' w' t' b') := by
    intro ss
    induction ss with
    | nil =>
      intro acc s w t b _ _
      refine ⟨s, w, t, b, ?_⟩
      unfold forTurns
      show _ = Res.ok (Pv.Flow.nx, nE (guD gs) (acc ++ []) s w t b)
      rw [List.append_nil]
      rfl
    | cons x ss ih =>
      intro acc s w t b hr hz
      rw [List.length_cons] at hz
      obtain ⟨l3, hx⟩ := hr x (.head _)
      obtain ⟨w1, t1, b1, e2⟩ := turn_s (cl := evF Pr n) (g := guD gs) (w := w) (t := t) (b := b) hT hx l3 (acc := acc) (by omega)
      have ln : (namedS x).length ≤ 9 := flat_len (k := 3) (m := 3) (fun r hr => (namedR_ok (hx r hr)).2) l3
      obtain ⟨s2, w2, t2, b2, e3⟩ := ih (acc ++ namedS x) (some (.dat (stD x))) w1 t1 b1 (fun y hy => hr y (.tail _ hy)) (by rw [List.length_append]; omega)
      refine ⟨s2, w2, t2, b2, ?_⟩
      rw [List.map_cons]
      unfold forTurns
      rw [show store (.nm 2) (stD x) (nE (guD gs) acc s w t b) = some (nE (guD gs) acc (some (.dat (stD x))) w t b) from rfl, get_some, Res.bind_ok, e2, Res.bind_ok]
      show forTurns _ _ _ _ = _
      rw [e3, List.append_assoc]
      rfl
  obtain ⟨s', w', t', b', e⟩ := key gs [] none none none none h.st (by have := h.len; show 0 + _ ≤ _; omega)
  have s1 : NX (evF Pr n) [] (.asg 1 (.lst [])) (startE 6 [.dat (guD gs)]) (nE (guD gs) [] none none none none) := nx_asg (jv_lst dv_nil) rfl (show 1 < 6 by decide)
  have s2 : NX (evF Pr n) [] (.forl (.nm 2) .seq (.var 0) bodyS) (nE (guD gs) [] none none none none) (nE (guD gs) (named gs) s' w' t' b') := (s_forv (y := guD gs) (ds := gs.map stD) rfl rfl rfl).trans e
  have s3 := s_retl (cl := evF Pr n) (lk := []) (ρ := nE (guD gs) (named gs) s' w' t' b') (i := 1) (ds := (named gs).map pairD) rfl rfl
  exact run_js (d := w1) (vs := [.dat (guD gs)]) rfl ((ss_nx s1).trans ((ss_nx s2).trans ((ss_fin (.inr ⟨_, _, s3⟩)).trans s3)))
end
end K64
set_option Elab.async false
set_option linter.all false
set_option maxRecDepth 100000
set_option maxHeartbeats 4100000
/-! free_lines and free_programs. -/
namespace K64
open PySem Pv
section
variable {cl : Fun} {ρ : Pv.Env}
/-- a call that is lent an own list, which it leaves as it is, and handed plain data -/
theorem jv_lendL {i k : Nat} {b : T} {y : D} {ds : List D} {v : Vl} {f : Option Vl} (hi : ρ[i]? = some (some (.lst ds))) (h : AR cl b ρ (.dat y)) (c : cl k [.lst ds, .dat y] = .ok (v, [some (.lst ds), f])) : EV cl (.call k [.var i, b]) ρ v := by
  unfold EV evE
  have e : evAs cl [.var i, b] ρ = .ok ([.lend i, .vl (.dat y)], ρ) := by
    unfold evAs
    have : argOf (.var i) (evE cl (.var i)) ρ = .ok (.lend i, ρ) := by
      unfold argOf T.isVar
      simp only [hi]
    rw [this, Res.bind_ok]
    unfold evAs
    rw [show argOf b (evE cl b) ρ = _ from h, Res.bind_ok]
    unfold evAs
    rfl
  rw [e, Res.bind_ok]
  show doCall (cl k) [.lend i, .vl (.dat y)] ρ = _
  have av : argVs ρ [.lend i, .vl (.dat y)] = some [.lst ds, .dat y] := by
    unfold argVs argV argVs argV argVs
    simp only [hi]
    rfl
  unfold doCall
  rw [if_pos (show nodupB (lends [.lend i, .vl (.dat y)]) = true from rfl), av, get_some, Res.bind_ok, c]
  show (get (giveBack ρ [.lend i, .vl (.dat y)] [some (.lst ds), f])).bind _ = _
  have g : giveBack ρ [.lend i, .vl (.dat y)] [some (.lst ds), f] = some ρ := by
    unfold giveBack giveBack giveBack
    rw [set_get hi]
  rw [g]; rfl
theorem jv_sl {a : T} {lo hi : Option T} {x : D} {i j : Option Int} {v : Vl} (h : OP cl a ρ x) (h1 : evO cl lo ρ = .ok (i, ρ)) (h2 : evO cl hi ρ = .ok (j, ρ)) (hv : slice2 i j x = some v) : EV cl (.sl a lo hi) ρ v := by
  obtain ⟨o, e1, e2⟩ := h
  unfold EV evE
  rw [e1, Res.bind_ok]
  show (evO cl lo ρ).bind _ = _
  rw [h1, Res.bind_ok]
  show (evO cl hi ρ).bind _ = _
  rw [h2, Res.bind_ok]
  show (get (look ρ o)).bind _ = _
  rw [e2, get_some, Res.bind_ok]
  show (get (slice2 i j x)).bind _ = _
  rw [hv]; rfl
theorem evo_some {e : T} {i : Int} (h : EV cl e ρ (.dat (.int i))) : evO cl (some e) ρ = .ok (some i, ρ) := by
  unfold evO
  rw [show evE cl e ρ = _ from h, Res.bind_ok]
theorem evo_none : evO cl none ρ = .ok (none, ρ) := by unfold evO; rfl
end
theorem badT {x y : List D} (h : x.length + y.length ≤ 16777216) : bin2 .add (.tuple x) (.tuple y) = some (.dat (.tuple (x ++ y))) := if_pos (decide_eq_true h)
theorem badL {x y : List D} (h : x.length + y.length ≤ 16777216) : bin2 .add (.list x) (.list y) = some (.lst (x ++ y)) := if_pos (decide_eq_true h)
theorem ar_cst {cl : Fun} {ρ : Pv.Env} (d : D) : AR cl (.cst d) ρ (.dat d) := ar_ev (jv_cst d) rfl rfl
theorem flat_rep {α : Type} (x : α) : ∀ m : Nat, (List.replicate m [x]).flatten = List.replicate m x
  | 0 => rfl
  | m + 1 => by rw [List.replicate_succ, List.flatten_cons, flat_rep x m]; rfl
/-! ### lines -/
def rowD (ls : List Str) (m : Nat) : D := .tuple [.tuple (.str "" :: ls.map .str), .tuple (nums m ++ [.tuple [.str "back"]]), .tuple []]
def rowsD (ls : List Str) (m : Nat) : D := .tuple (List.replicate m (rowD ls m))
section
variable {n : Nat} {ls : List Str} {m : Nat}
theorem r2 (hl : ls.length ≤ 1000) (hm : m ≤ 1000) : evF Pr (n + 1) 2 [.lst (ls.map .str), .dat (.int (m : Nat))] = .ok (.dat (rowsD ls m), [some (.lst (ls.map .str)), some (.dat (.int (m : Nat)))]) := by
  show runF (evF Pr n) w2 _ = _
  have lm : (ls.map PyData.str).length = ls.length := List.length_map ..
  have ln : (nums m).length = m := by unfold nums; rw [List.length_map, List.length_range]
  have hr : blt1 .rngt (.int (m : Nat)) = some (.dat (.tuple (nums m))) := (if_pos (decide_eq_true ⟨by omega, by omega⟩)).trans (by rw [Int.toNat_natCast])
  have s1 : NX (evF Pr n) [0] (.asg 2 (.bin .add (.tup [(.cst (.str ""))]) (.blt .tuple (.var 0)))) [some (.lst (ls.map .str)), some (.dat (.int (m : Nat))), none, none] [some (.lst (ls.map .str)), some (.dat (.int (m : Nat))), some (.dat (.tuple (.str "" :: ls.map .str))), none] :=
    nx_asg (jv_bin (op_ev (jv_tup (dv_cons (jv_cst _) rfl dv_nil)) rfl rfl) (op_ev (jv_blt (v := .dat (.tuple (ls.map .str))) (op_lst rfl) rfl) rfl rfl) (badT (by rw [lm]; show 1 + _ ≤ _; omega))) rfl (show 2 < 4 by decide)
  have s2 : NX (evF Pr n) [0] (.asg 3 (.bin .add (.blt .rngt (.var 1)) (.tup [(.cst (.tuple [(.str "back")]))]))) [some (.lst (ls.map .str)), some (.dat (.int (m : Nat))), some (.dat (.tuple (.str "" :: ls.map .str))), none] [some (.lst (ls.map .str)), some (.dat (.int (m : Nat))), some (.dat (.tuple (.str "" :: ls.map .str))), some (.dat (.tuple (nums m ++ [.tuple [.str "back"]])))] :=
    nx_asg (jv_bin (op_ev (jv_blt (op_var rfl) hr) rfl rfl) (op_ev (jv_tup (dv_cons (jv_cst _) rfl dv_nil)) rfl rfl) (badT (by rw [ln]; show _ + 1 ≤ _; omega))) rfl (show 3 < 4 by decide)
  have hb : bin2 .mul (.tuple [rowD ls m]) (.int (m : Nat)) = some (.dat (rowsD ls m)) := (if_pos (decide_eq_true ⟨by omega, by omega, (show (1 : Nat) ≤ 1000 by decide)⟩)).trans (by rw [Int.toNat_natCast, flat_rep]; rfl)
  have s3 := s_ret (cl := evF Pr n) (lk := [0]) (ρ := [some (.lst (ls.map .str)), some (.dat (.int (m : Nat))), some (.dat (.tuple (.str "" :: ls.map .str))), some (.dat (.tuple (nums m ++ [.tuple [.str "back"]])))]) (e := .bin .mul (.tup [(.tup [(.var 2), (.var 3), (.tup [])])]) (.var 1)) rfl
    (jv_bin (op_ev (v := .dat (.tuple [rowD ls m])) (jv_tup (dv_cons (v := .dat (rowD ls m)) (jv_tup (dv_cons (jv_var rfl) rfl <| dv_cons (jv_var rfl) rfl <| dv_cons (jv_tup dv_nil) rfl dv_nil)) rfl dv_nil)) rfl rfl) (op_var rfl) hb)
  exact run_js (d := w2) (vs := [.lst (ls.map .str), .dat (.int (m : Nat))]) rfl ((ss_nx s1).trans ((ss_nx s2).trans ((ss_fin (.inr ⟨_, _, s3⟩)).trans s3)))
end
/-! ### letters -/
def letters : List Str := ["a", "b", "c", "d", "e", "f", "g", "h", "i", "j", "k", "l", "m", "n", "o", "p", "q", "r", "s", "t", "u", "v", "w", "x", "y", "z"]
theorem letters_items : itemsOf .seq (.str "abcdefghijklmnopqrstuvwxyz") = some (letters.map .str) := by kernel_rfl
theorem letters_low : ∀ t ∈ letters, low t = true := fun t ht => List.all_eq_true.mp (show letters.all low = true by decide +kernel) t ht
def freshOf (N : List Str) : List Str := letters.filter fun l => !decide (l ∈ N)
def labelsOf (N : List Str) : List Str := sortS (oneS (N ++ (freshOf N).take 1))
theorem strs_shp {N : List Str} (h : ∀ t ∈ N, low t = true) (hl : N.length ≤ 1000) : shp (.list (N.map .str)) = true := (sz_lstn (m := 1000) (fun x hx => by
  obtain ⟨t, ht, e⟩ := List.mem_map.mp hx
  subst e
  exact low_sz (h t ht)) (by rw [List.length_map]; exact hl)).shp (by decide)
theorem sort_mem {ts : List Str} {t : Str} : t ∈ sortS ts ↔ t ∈ ts := (List.mergeSort_perm ts leS).mem_iff
theorem sort_len (ts : List Str) : (sortS ts).length = ts.length := (List.mergeSort_perm ts leS).length_eq
theorem sort_nd {ts : List Str} (h : ts.Nodup) : (sortS ts).Nodup := (List.mergeSort_perm ts leS).nodup_iff.mpr h
theorem labels_mem {N : List Str} {t : Str} : t ∈ labelsOf N ↔ t ∈ N ∨ t ∈ (freshOf N).take 1 := by
  unfold labelsOf
  rw [sort_mem, oneS_mem, List.mem_append]
theorem labels_nd (N : List Str) : (labelsOf N).Nodup := sort_nd (oneS_nd _)
theorem labels_low {N : List Str} (h : ∀ t ∈ N, low t = true) : ∀ t ∈ labelsOf N, low t = true := fun t ht => (labels_mem.mp ht).elim (h t) fun ht => letters_low t (List.mem_filter.mp (List.mem_of_mem_take ht)).1
theorem take1_len {α : Type} (xs : List α) : (xs.take 1).length ≤ 1 := by rw [List.length_take]; omega
theorem labels_len (N : List Str) : (labelsOf N).length ≤ N.length + 1 := by
  unfold labelsOf
  rw [sort_len]
  refine Nat.le_trans (oneS_len _) ?_
  rw [List.length_append]
  have := take1_len (freshOf N)
  omega
theorem sset_run {N : List Str} (h : N.length < 64) : blt1 .sset (.list (N.map .str)) = some (.lst ((sortS (oneS N)).map .str)) := by
  have e : strsOf (N.map .str) = some N := strsOf_mapS N
  refine (if_pos (decide_eq_true (by rw [List.length_map]; exact h))).trans ?_
  rw [e]
  rfl
/-! ### programs -/
def progD (ls : List Str) (rows : D) (f : Str) : D := .tuple ((f :: ls.filter fun t => !decide (t = f)).map fun t => .tuple [.str t, rows])
def freeD (ls : List Str) (m : Nat) : D := .tuple (ls.map (progD ls (rowsD ls m)))
def pE (g h : D) (nm kn fr ns li pr fi od : Option Vl) : Pv.Env := [some (.dat g), some (.dat h), nm, kn, fr, ns, li, pr, fi, od, none, none, none, none]
def bodyP : List S := [(.asg 9 (.bin .add (.lst [(.var 8)]) (.comp (.var 11) [11] (.nm 11) .seq (.var 5) (some (.cmp .ne (.var 11) (.var 8)))))), (.app 7 (.blt .tuple (.comp (.tup [(.var 11), (.var 6)]) [11] (.nm 11) .seq (.var 9) none)))]
theorem strs_filter (ls : List Str) (q : Str → Bool) (p : D → Bool) (h : ∀ t, p (.str t) = q t) : ((ls.map PyData.str).filter p) = (ls.filter q).map .str := by
  rw [List.filter_map]
  exact congrArg _ (List.filter_congr fun t _ => h t)
section
variable {n : Nat} {g h : D} {nm kn fr : Option Vl} {ls : List Str} {rows : D}
theorem turn_p {acc : List D} {od : Option Vl} {fi : Option Vl} {f : Str} (hls : ∀ t ∈ ls, low t = true) (hf : low f = true) (hl : ls.length ≤ 1000) (ha : acc.length ≤ 1000) : ∃ od', evSs (evF Pr n) [] bodyP (pE g h nm kn fr (some (.lck (ls.map .str))) (some (.dat rows)) (some (.lst acc)) (some (.dat (.str f))) od) = .ok (.nx, pE g h nm kn fr (some (.lck (ls.map .str))) (some (.dat rows)) (some (.lst (acc ++ [progD ls rows f]))) (some (.dat (.str f))) od') := by
  have lm : ∀ ts : List Str, (ts.map PyData.str).length = ts.length := fun ts => List.length_map ..
  have c1 : EV (evF Pr n) (.comp (.var 11) [11] (.nm 11) .seq (.var 5) (some (.cmp .ne (.var 11) (.var 8)))) (pE g h nm kn fr (some (.lck (ls.map .str))) (some (.dat rows)) (some (.lst acc)) (some (.dat (.str f))) od) (.lst ((ls.filter fun t => !decide (t = f)).map .str)) := by
    have e := jv_comp (cl := evF Pr n) (ρ := pE g h nm kn fr (some (.lck (ls.map .str))) (some (.dat rows)) (some (.lst acc)) (some (.dat (.str f))) od) (j := 11) (elt := .var 11) (it := .var 5) (wk := .seq) (c := some (.cmp .ne (.var 11) (.var 8))) (p := fun d => !PyData.eqv d (.str f)) (g := fun d => d) rfl (opl_lck (ds := ls.map .str) rfl) rfl (fun d hd => by
      obtain ⟨t, ht, e⟩ := List.mem_map.mp hd
      subst e
      unfold evC
      exact tb_cmp (op_var rfl) (op_var rfl) (nes ((low_sz (hls t ht)).shp (by decide)) ((low_sz hf).shp (by decide)))) (fun d _ _ => ⟨_, jv_var (set_at rfl), rfl⟩)
    rw [List.map_id', strs_filter ls (fun t => !decide (t = f)) _ (fun t => by rw [eqv_ss])] at e
    exact e
  have hfl : (ls.filter fun t => !decide (t = f)).length ≤ 1000 := Nat.le_trans (List.length_filter_le ..) hl
  have s1 : NX (evF Pr n) [] (.asg 9 (.bin .add (.lst [(.var 8)]) (.comp (.var 11) [11] (.nm 11) .seq (.var 5) (some (.cmp .ne (.var 11) (.var 8)))))) (pE g h nm kn fr (some (.lck (ls.map .str))) (some (.dat rows)) (some (.lst acc)) (some (.dat (.str f))) od) (pE g h nm kn fr (some (.lck (ls.map .str))) (some (.dat rows)) (some (.lst acc)) (some (.dat (.str f))) (some (.lst ((f :: ls.filter fun t => !decide (t = f)).map .str)))) :=
    nx_asg (jv_bin (op_ev (jv_lst (dv_cons (jv_var (d := .str f) rfl) rfl dv_nil)) rfl rfl) (op_ev c1 rfl rfl) (badL (by rw [lm]; show 1 + _ ≤ _; omega))) rfl (show 9 < 14 by decide)
  generalize hos : (f :: ls.filter fun t => !decide (t = f)) = os at s1
  have c2 : EV (evF Pr n) (.comp (.tup [(.var 11), (.var 6)]) [11] (.nm 11) .seq (.var 9) none) (pE g h nm kn fr (some (.lck (ls.map .str))) (some (.dat rows)) (some (.lst acc)) (some (.dat (.str f))) (some (.lst (os.map .str)))) (.lst ((os.map PyData.str).map fun d => .tuple [d, rows])) :=
    jv_compl (i := 9) (j := 11) (o := none) rfl rfl (fun v h => by cases h) (by decide) fun d hd => ⟨_, jv_tup (dv_cons (jv_var rfl) rfl (dv_cons (jv_var rfl) rfl dv_nil)), rfl⟩
  have s2 : NX (evF Pr n) [] (.app 7 (.blt .tuple (.comp (.tup [(.var 11), (.var 6)]) [11] (.nm 11) .seq (.var 9) none))) (pE g h nm kn fr (some (.lck (ls.map .str))) (some (.dat rows)) (some (.lst acc)) (some (.dat (.str f))) (some (.lst (os.map .str)))) (pE g h nm kn fr (some (.lck (ls.map .str))) (some (.dat rows)) (some (.lst (acc ++ [progD ls rows f]))) (some (.dat (.str f))) (some (.lst (os.map .str)))) := by
    have e : PyData.tuple ((os.map PyData.str).map fun d => .tuple [d, rows]) = progD ls rows f := by
      unfold progD
      rw [hos, List.map_map]
      rfl
    rw [← e]
    exact nx_app rfl (jv_blt (op_ev c2 rfl rfl) rfl) rfl (by omega)
  exact ⟨_, (ss_nx s1).trans (ss_one s2)⟩
end
end K64
set_option Elab.async false
set_option linter.all false
set_option maxRecDepth 100000
set_option maxHeartbeats 4100000
/-! free_programs. -/
namespace K64
open PySem Pv
def fs1 : D → D
  | .tuple [x, _] => x
  | _ => .none
def sn1 : D → D
  | .tuple [_, y] => y
  | _ => .none
theorem map_fs (P : List Pr2) : (P.map pairD).map fs1 = (P.map (·.1)).map .str := by
  rw [List.map_map, List.map_map]
  rfl
theorem map_sn (P : List Pr2) : (P.map pairD).map sn1 = (P.map (·.2)).map .int := by
  rw [List.map_map, List.map_map]
  rfl
def mOf (P : List Pr2) : Nat := (maxZ 0 (P.map (·.2)) + 2).toNat
def valD2 (gs hs : List (List Ru)) : D := freeD (labelsOf ((named gs ++ named hs).map (·.1))) (mOf (named gs ++ named hs))
theorem fold_max : ∀ (ns : List Int) (m k : Int), m ≤ k → (∀ x ∈ ns, x ≤ k) → m ≤ ns.foldl max m ∧ ns.foldl max m ≤ k ∧ (∀ x ∈ ns, x ≤ ns.foldl max m) ∧ (ns.foldl max m = m ∨ ns.foldl max m ∈ ns)
  | [], m, k, h, _ => ⟨Int.le_refl _, h, fun _ h => (by cases h), .inl rfl⟩
  | n :: r, m, k, h, hx => by
    have hn := hx n (.head _)
    obtain ⟨a1, a2, a3, a4⟩ := fold_max r (max m n) k (by omega) fun x hx' => hx x (.tail _ hx')
    rw [List.foldl_cons]
    refine ⟨by omega, a2, fun x hx' => ?_, ?_⟩
    · rcases List.mem_cons.mp hx' with e | hx'
      · rw [e]; omega
      · exact a3 x hx'
    · rcases a4 with e | e
      · by_cases q : m ≤ n
        · exact .inr (by rw [e, Int.max_eq_right q]; exact .head _)
        · exact .inl (by rw [e, Int.max_eq_left (by omega)])
      · exact .inr (.tail _ e)
theorem maxZ_fold {ns : List Int} (h : ∀ x ∈ ns, 0 ≤ x) : maxZ 0 ns = ns.foldl max 0 := by
  cases ns with
  | nil => rfl
  | cons n r =>
    show r.foldl max n = r.foldl max (max 0 n)
    rw [Int.max_eq_right (h n (.head _))]
theorem mOf_lt {P : List Pr2} {T : List Str} (h : ∀ p ∈ P, Po T p) : mOf P ≤ 6 ∧ ((mOf P : Nat) : Int) = maxZ 0 (P.map (·.2)) + 2 := by
  have h0 : ∀ x ∈ P.map (·.2), 0 ≤ x := fun x hx => by
    obtain ⟨p, hp, rfl⟩ := List.mem_map.mp hx
    exact (h p hp).lo
  have h5 : ∀ x ∈ P.map (·.2), x ≤ 4 := fun x hx => by
    obtain ⟨p, hp, rfl⟩ := List.mem_map.mp hx
    have := (h p hp).hi
    omega
  have e := maxZ_fold h0
  obtain ⟨a1, a2, _, _⟩ := fold_max (P.map (·.2)) 0 4 (by decide) h5
  unfold mOf
  rw [e]
  omega
section
variable {n : Nat} {T : List Str}
theorem r0 {gs hs : List (List Ru)} (hT : TOk T) (hg : GuOk T gs) (hh : GuOk T hs) : evF Pr (n + 2) 0 [.dat (guD gs), .dat (guD hs)] = .ok (.dat (valD2 gs hs), [some (.dat (guD gs)), some (.dat (guD hs))]) := by
  show runF (evF Pr (n + 1)) w0 _ = _
  obtain ⟨g1, g2⟩ := named_ok hg
  obtain ⟨h1, h2⟩ := named_ok hh
  have lm : ∀ ps : List Pr2, (ps.map pairD).length = ps.length := fun ps => List.length_map ..
  have hP : ∀ p ∈ named gs ++ named hs, Po T p := fun p hp => (List.mem_append.mp hp).elim (g1 p) (h1 p)
  have hl : (named gs ++ named hs).length ≤ 54 := by rw [List.length_append]; omega
  have st : startE 14 [.dat (guD gs), .dat (guD hs)] = pE (guD gs) (guD hs) none none none none none none none none := rfl
  have s1 : NX (evF Pr (n + 1)) [] (.asg 2 (.bin .add (.call 1 [(.var 0)]) (.call 1 [(.var 1)]))) (pE (guD gs) (guD hs) none none none none none none none none) (pE (guD gs) (guD hs) (some (.lst ((named gs ++ named hs).map pairD))) none none none none none none none) := by
    rw [List.map_append]
    exact nx_asg (jv_bin (op_ev (jv_call (av_cons (ar_var rfl) av_nil) (r1 hT hg) rfl) rfl rfl) (op_ev (jv_call (av_cons (ar_var rfl) av_nil) (r1 hT hh) rfl) rfl rfl) (badL (by rw [lm, lm]; omega))) rfl (show 2 < 14 by decide)
  obtain ⟨m6, em⟩ := mOf_lt hP
  unfold valD2
  generalize mOf (named gs ++ named hs) = m at m6 em
  generalize named gs ++ named hs = P at s1 hP hl em
  have c3 : EV (evF Pr (n + 1)) (.comp (.var 11) [11, 12] (.tp [11, 12]) .seq (.var 2) none) (pE (guD gs) (guD hs) (some (.lst (P.map pairD))) none none none none none none none) (.lst ((P.map (·.1)).map .str)) := by
    rw [← map_fs]
    exact jv_compl2 (i := 2) (a := 11) (b := 12) (g := fs1) rfl rfl rfl (by decide) (by decide) (by decide) fun d hd => by
      obtain ⟨p, _, e⟩ := List.mem_map.mp hd
      subst e
      exact ⟨_, _, _, rfl, jv_var rfl, rfl⟩
  have s2 : NX (evF Pr (n + 1)) [] (.asg 3 (.comp (.var 11) [11, 12] (.tp [11, 12]) .seq (.var 2) none)) (pE (guD gs) (guD hs) (some (.lst (P.map pairD))) none none none none none none none) (pE (guD gs) (guD hs) (some (.lst (P.map pairD))) (some (.lst ((P.map (·.1)).map .str))) none none none none none none) := nx_asg c3 rfl (show 3 < 14 by decide)
  have hN : ∀ t ∈ P.map (·.1), low t = true := fun t ht => by
    obtain ⟨p, hp, rfl⟩ := List.mem_map.mp ht
    exact hT.low _ (hP p hp).n
  have lN : (P.map (·.1)).length ≤ 54 := by rw [List.length_map]; exact hl
  generalize hNe : P.map (·.1) = N at s2 hN lN ⊢
  have ls : ∀ ts : List Str, (ts.map PyData.str).length = ts.length := fun ts => List.length_map ..
  have c4 : EV (evF Pr (n + 1)) (.comp (.var 10) [10] (.nm 10) .seq (.cst (.str "abcdefghijklmnopqrstuvwxyz")) (some (.cmp .nmem (.var 10) (.var 3)))) (pE (guD gs) (guD hs) (some (.lst (P.map pairD))) (some (.lst (N.map .str))) none none none none none none) (.lst ((freshOf N).map .str)) := by
    have e := jv_comp (cl := evF Pr (n + 1)) (ρ := pE (guD gs) (guD hs) (some (.lst (P.map pairD))) (some (.lst (N.map .str))) none none none none none none) (j := 10) (elt := .var 10) (it := .cst (.str "abcdefghijklmnopqrstuvwxyz")) (wk := .seq) (c := some (.cmp .nmem (.var 10) (.var 3))) (p := fun d => !((N.map PyData.str).any fun z => PyData.eqv z d)) (g := fun d => d) rfl (opl_ev (jv_cst _) rfl rfl) letters_items (fun d hd => by
      obtain ⟨t, ht, e⟩ := List.mem_map.mp hd
      subst e
      unfold evC
      exact tb_cmp (op_var rfl) (op_lst (ds := N.map .str) rfl) (nmem_lst ((low_sz (letters_low t ht)).shp (by decide)) (strs_shp hN (by omega)))) (fun d _ _ => ⟨_, jv_var (set_at rfl), rfl⟩)
    rw [List.map_id', strs_filter letters (fun t => !decide (t ∈ N)) _ (fun t => by rw [any_strs])] at e
    exact e
  have s3 : NX (evF Pr (n + 1)) [] (.asg 4 (.comp (.var 10) [10] (.nm 10) .seq (.cst (.str "abcdefghijklmnopqrstuvwxyz")) (some (.cmp .nmem (.var 10) (.var 3))))) (pE (guD gs) (guD hs) (some (.lst (P.map pairD))) (some (.lst (N.map .str))) none none none none none none) (pE (guD gs) (guD hs) (some (.lst (P.map pairD))) (some (.lst (N.map .str))) (some (.lst ((freshOf N).map .str))) none none none none none) := nx_asg c4 rfl (show 4 < 14 by decide)
  have e1 : EV (evF Pr (n + 1)) (.sl (.var 4) none (some (.cst (.int 1)))) (pE (guD gs) (guD hs) (some (.lst (P.map pairD))) (some (.lst (N.map .str))) (some (.lst ((freshOf N).map .str))) none none none none none) (.lst (((freshOf N).take 1).map .str)) :=
    jv_sl (op_lst (ds := (freshOf N).map .str) rfl) evo_none (evo_some (jv_cst _)) (by show some (Vl.lst (cutL _ none (some ((1 : Nat) : Int)))) = _; rw [cut_take, List.map_take])
  have l1 := take1_len (freshOf N)
  have c5 : EV (evF Pr (n + 1)) (.bin .add (.var 3) (.sl (.var 4) none (some (.cst (.int 1))))) (pE (guD gs) (guD hs) (some (.lst (P.map pairD))) (some (.lst (N.map .str))) (some (.lst ((freshOf N).map .str))) none none none none none) (.lst ((N ++ (freshOf N).take 1).map .str)) := by
    rw [List.map_append]
    exact jv_bin (op_lst (ds := N.map .str) rfl) (op_ev e1 rfl rfl) (badL (by rw [ls, ls]; omega))
  have s4 : NX (evF Pr (n + 1)) [] (.asg 5 (.blt .sset (.bin .add (.var 3) (.sl (.var 4) none (some (.cst (.int 1))))))) (pE (guD gs) (guD hs) (some (.lst (P.map pairD))) (some (.lst (N.map .str))) (some (.lst ((freshOf N).map .str))) none none none none none) (pE (guD gs) (guD hs) (some (.lst (P.map pairD))) (some (.lst (N.map .str))) (some (.lst ((freshOf N).map .str))) (some (.lst ((labelsOf N).map .str))) none none none none) :=
    nx_asg (jv_blt (op_ev c5 rfl rfl) (sset_run (by rw [List.length_append]; omega))) rfl (show 5 < 14 by decide)
  have ll := labels_len N
  have lo := labels_low hN
  generalize labelsOf N = L at s4 ll lo ⊢
  generalize freshOf N = F at s3 s4
  have c6 : EV (evF Pr (n + 1)) (.comp (.var 13) [12, 13] (.tp [12, 13]) .seq (.var 2) none) (pE (guD gs) (guD hs) (some (.lst (P.map pairD))) (some (.lst (N.map .str))) (some (.lst (F.map .str))) (some (.lst (L.map .str))) none none none none) (.lst ((P.map (·.2)).map .int)) := by
    rw [← map_sn]
    exact jv_compl2 (i := 2) (a := 12) (b := 13) (g := sn1) rfl rfl rfl (by decide) (by decide) (by decide) fun d hd => by
      obtain ⟨p, _, e⟩ := List.mem_map.mp hd
      subst e
      exact ⟨_, _, _, rfl, jv_var rfl, rfl⟩
  have c7 : EV (evF Pr (n + 1)) (.bin .add (.mxd (.comp (.var 13) [12, 13] (.tp [12, 13]) .seq (.var 2) none) (.cst (.int 0))) (.cst (.int 2))) (pE (guD gs) (guD hs) (some (.lst (P.map pairD))) (some (.lst (N.map .str))) (some (.lst (F.map .str))) (some (.lst (L.map .str))) none none none none) (.dat (.int (m : Nat))) := by
    rw [em]
    exact jv_bin (op_ev (jv_mxd (op_ev c6 rfl rfl) (jv_cst _) (intsOf_map _)) rfl rfl) (op_cst _) badd
  have s5 : NX (evF Pr (n + 1)) [] (.asg 6 (.call 2 [(.var 5), (.bin .add (.mxd (.comp (.var 13) [12, 13] (.tp [12, 13]) .seq (.var 2) none) (.cst (.int 0))) (.cst (.int 2)))])) (pE (guD gs) (guD hs) (some (.lst (P.map pairD))) (some (.lst (N.map .str))) (some (.lst (F.map .str))) (some (.lst (L.map .str))) none none none none) (pE (guD gs) (guD hs) (some (.lst (P.map pairD))) (some (.lst (N.map .str))) (some (.lst (F.map .str))) (some (.lst (L.map .str))) (some (.dat (rowsD L m))) none none none) :=
    nx_asg (jv_lendL (i := 5) (ds := L.map .str) rfl (ar_ev c7 rfl rfl) (r2 (by omega) (by omega))) rfl (show 6 < 14 by decide)
  have s6 : NX (evF Pr (n + 1)) [] (.asg 7 (.lst [])) (pE (guD gs) (guD hs) (some (.lst (P.map pairD))) (some (.lst (N.map .str))) (some (.lst (F.map .str))) (some (.lst (L.map .str))) (some (.dat (rowsD L m))) none none none) (pE (guD gs) (guD hs) (some (.lst (P.map pairD))) (some (.lst (N.map .str))) (some (.lst (F.map .str))) (some (.lst (L.map .str))) (some (.dat (rowsD L m))) (some (.lst [])) none none) := nx_asg (jv_lst dv_nil) rfl (show 7 < 14 by decide)
  have key : ∀ (fs : List Str) (acc : List D) (fi od : Option Vl), (∀ t ∈ fs, low t = true) → acc.length + fs.length ≤ 1000 → ∃ fi' od', forTurns (.nm 8) (evSs (evF Pr (n + 1)) [] bodyP) (fs.map .str) (pE (guD gs) (guD hs) (some (.lst (P.map pairD))) (some (.lst (N.map .str))) (some (.lst (F.map .str))) (some (.lck (L.map .str))) (some (.dat (rowsD L m))) (some (.lst acc)) fi od) = .ok (.nx, pE (guD gs) (guD hs) (some (.lst (P.map pairD))) (some (.lst (N.map .str))) (some (.lst (F.map .str))) (some (.lck (L.map .str))) (some (.dat (rowsD L m))) (some (.lst (acc ++ fs.map (progD L (rowsD L m))))) fi' od') := by
    intro fs
    induction fs with
    | nil =>
      intro acc fi od _ _
      refine ⟨fi, od, ?_⟩
      rw [List.map_nil, List.map_nil, List.append_nil]
      unfold forTurns
      rfl
    | cons f fs ih =>
      intro acc fi od hf hz
      rw [List.length_cons] at hz
      obtain ⟨od1, e1⟩ := turn_p (n := n + 1) (g := guD gs) (h := guD hs) (nm := some (.lst (P.map pairD))) (kn := some (.lst (N.map .str))) (fr := some (.lst (F.map .str))) (rows := rowsD L m) (acc := acc) (od := od) (f := f) (fi := none) lo (hf f (.head _)) (by omega) (by omega)
      obtain ⟨fi2, od2, e2⟩ := ih (acc ++ [progD L (rowsD L m) f]) (some (.dat (.str f))) od1 (fun t ht => hf t (.tail _ ht)) (by rw [List.length_append]; show _ + 1 + _ ≤ _; omega)
      refine ⟨fi2, od2, ?_⟩
      rw [List.map_cons, List.map_cons]
      unfold forTurns
      rw [show store (.nm 8) (.str f) (pE (guD gs) (guD hs) (some (.lst (P.map pairD))) (some (.lst (N.map .str))) (some (.lst (F.map .str))) (some (.lck (L.map .str))) (some (.dat (rowsD L m))) (some (.lst acc)) fi od) = some (pE (guD gs) (guD hs) (some (.lst (P.map pairD))) (some (.lst (N.map .str))) (some (.lst (F.map .str))) (some (.lck (L.map .str))) (some (.dat (rowsD L m))) (some (.lst acc)) (some (.dat (.str f))) od) from rfl, get_some, Res.bind_ok, e1, Res.bind_ok]
      show forTurns _ _ _ _ = _
      rw [e2, List.append_assoc]
      rfl
  obtain ⟨fi, od, e⟩ := key L [] none none lo (by show 0 + _ ≤ _; omega)
  rw [List.nil_append] at e
  have s7 : NX (evF Pr (n + 1)) [] (.forl (.nm 8) .seq (.var 5) bodyP) (pE (guD gs) (guD hs) (some (.lst (P.map pairD))) (some (.lst (N.map .str))) (some (.lst (F.map .str))) (some (.lst (L.map .str))) (some (.dat (rowsD L m))) (some (.lst [])) none none) (pE (guD gs) (guD hs) (some (.lst (P.map pairD))) (some (.lst (N.map .str))) (some (.lst (F.map .str))) (some (.lst (L.map .str))) (some (.dat (rowsD L m))) (some (.lst (L.map (progD L (rowsD L m))))) fi od) := by
    refine (s_forl (i := 5) (ds := L.map .str) (items := L.map .str) rfl rfl rfl).trans ?_
    show (forTurns (.nm 8) (evSs (evF Pr (n + 1)) [] bodyP) (L.map .str) (pE (guD gs) (guD hs) (some (.lst (P.map pairD))) (some (.lst (N.map .str))) (some (.lst (F.map .str))) (some (.lck (L.map .str))) (some (.dat (rowsD L m))) (some (.lst [])) none none)).bind _ = _
    rw [e]
    rfl
  have s8 := s_ret (cl := evF Pr (n + 1)) (lk := []) (ρ := pE (guD gs) (guD hs) (some (.lst (P.map pairD))) (some (.lst (N.map .str))) (some (.lst (F.map .str))) (some (.lst (L.map .str))) (some (.dat (rowsD L m))) (some (.lst (L.map (progD L (rowsD L m))))) fi od) (e := .blt .tuple (.var 7)) (v := .dat (freeD L m)) rfl (jv_blt (op_lst (ds := L.map (progD L (rowsD L m))) rfl) rfl)
  exact run_js (d := w0) (vs := [.dat (guD gs), .dat (guD hs)]) rfl ((ss_nx s1).trans ((ss_nx s2).trans ((ss_nx s3).trans ((ss_nx s4).trans ((ss_nx s5).trans ((ss_nx s6).trans ((ss_nx s7).trans ((ss_fin (.inr ⟨_, _, s8⟩)).trans s8))))))))
end
end K64
set_option Elab.async false
set_option linter.all false
set_option maxRecDepth 100000
set_option maxHeartbeats 4100000
/-! What the law works out. -/
namespace K64
open PySem Pv
def whP : Wh → List Pr2
  | .sp p => [p]
  | .nm _ => []
def placesR (r : Ru) : List Pr2 := r.cuts ++ whP r.w
def namesR (r : Ru) : List Str := match r.w with
  | .sp _ => []
  | .nm s => if s = "" then [] else [s]
def placesS (s : List Ru) : List Pr2 := s.flatMap placesR
def namesS (s : List Ru) : List Str := s.flatMap namesR
def placesG (g : List (List Ru)) : List Pr2 := g.flatMap placesS
def namesG (g : List (List Ru)) : List Str := g.flatMap namesS
/-! ### the same names, the same greatest index -/
theorem mem_named {g : List (List Ru)} {p : Pr2} : p ∈ named g ↔ p ∈ placesG g ∨ (p.2 = 0 ∧ p.1 ∈ namesG g) := by
  have one : ∀ r : Ru, p ∈ namedR r ↔ p ∈ placesR r ∨ (p.2 = 0 ∧ p.1 ∈ namesR r) := fun r => by
    obtain ⟨w, c, cuts, t⟩ := r
    cases w with
    | sp q =>
      show p ∈ cuts ++ [q] ↔ p ∈ cuts ++ [q] ∨ (p.2 = 0 ∧ p.1 ∈ ([] : List Str))
      exact ⟨.inl, fun h => h.elim id fun h => (by cases h.2)⟩
    | nm s =>
      show p ∈ cuts ++ (if s = "" then [] else [(s, 0)]) ↔ p ∈ cuts ++ [] ∨ (p.2 = 0 ∧ p.1 ∈ (if s = "" then [] else [s]))
      by_cases e : s = ""
      · rw [if_pos e, if_pos e]
        exact ⟨.inl, fun h => h.elim id fun h => (by cases h.2)⟩
      · rw [if_neg e, if_neg e, List.append_nil, List.mem_append, List.mem_singleton, List.mem_singleton]
        refine or_congr Iff.rfl ⟨fun h => by rw [h]; exact ⟨rfl, rfl⟩, fun h => Prod.ext h.2 h.1⟩
  have two : ∀ s : List Ru, p ∈ namedS s ↔ p ∈ placesS s ∨ (p.2 = 0 ∧ p.1 ∈ namesS s) := fun s => by
    unfold namedS placesS namesS
    rw [List.mem_flatMap, List.mem_flatMap, List.mem_flatMap]
    constructor
    · rintro ⟨r, hr, h⟩
      rcases (one r).mp h with h | ⟨h0, h⟩
      · exact .inl ⟨r, hr, h⟩
      · exact .inr ⟨h0, r, hr, h⟩
    · rintro (⟨r, hr, h⟩ | ⟨h0, r, hr, h⟩)
      · exact ⟨r, hr, (one r).mpr (.inl h)⟩
      · exact ⟨r, hr, (one r).mpr (.inr ⟨h0, h⟩)⟩
  unfold named placesG namesG
  rw [List.mem_flatMap, List.mem_flatMap, List.mem_flatMap]
  constructor
  · rintro ⟨r, hr, h⟩
    rcases (two r).mp h with h | ⟨h0, h⟩
    · exact .inl ⟨r, hr, h⟩
    · exact .inr ⟨h0, r, hr, h⟩
  · rintro (⟨r, hr, h⟩ | ⟨h0, r, hr, h⟩)
    · exact ⟨r, hr, (two r).mpr (.inl h)⟩
    · exact ⟨r, hr, (two r).mpr (.inr ⟨h0, h⟩)⟩
def same (N M : List Str) : Prop := ∀ t, t ∈ N ↔ t ∈ M
theorem fresh_same {N M : List Str} (h : same N M) : freshOf N = freshOf M := by
  unfold freshOf
  exact List.filter_congr fun l _ => by rw [decide_eq_decide.mpr (h l)]
theorem sortS_perm {xs ys : List Str} (h : xs.Perm ys) : sortS xs = sortS ys :=
  List.Perm.eq_of_pairwise (le := fun a b => leS a b = true) (fun a b _ _ h1 h2 => leS_anti a b h1 h2) (List.pairwise_mergeSort leS_trans leS_total xs) (List.pairwise_mergeSort leS_trans leS_total ys) ((List.mergeSort_perm xs leS).trans (h.trans (List.mergeSort_perm ys leS).symm))
theorem sort_same {N M : List Str} (h : same N M) : sortS (oneS N) = sortS (oneS M) :=
  sortS_perm ((List.perm_ext_iff_of_nodup (oneS_nd N) (oneS_nd M)).mpr fun t => by rw [oneS_mem, oneS_mem]; exact h t)
theorem same_app {N M : List Str} (h : same N M) (F : List Str) : same (N ++ F) (M ++ F) := fun t => by rw [List.mem_append, List.mem_append, h t]
theorem labels_same {N M : List Str} (h : same N M) : labelsOf N = labelsOf M := by
  unfold labelsOf
  rw [fresh_same h]
  exact sort_same (same_app h _)
/-- the greatest of numbers, 0 among them -/
def top0 (ns : List Int) : Int := ns.foldl max 0
theorem top_le {ns ms : List Int} {k : Int} (h0 : ∀ x ∈ ns, x ≤ k) (hk : 0 ≤ k) (hm : ∀ x ∈ ms, x ≤ k) (h : ∀ x ∈ ns, x ∈ ms ∨ x = 0) : top0 ns ≤ top0 ms := by
  obtain ⟨_, _, _, a4⟩ := fold_max ns 0 k hk h0
  obtain ⟨b1, _, b3, _⟩ := fold_max ms 0 k hk hm
  unfold top0
  rcases a4 with e | e
  · rw [e]; exact b1
  · rcases h _ e with g | g
    · exact b3 _ g
    · rw [g]; exact b1
theorem letters_nd : letters.Nodup := by
  have h : decide letters.Nodup = true := by decide +kernel
  exact of_decide_eq_true h
theorem fresh_some {N T : List Str} (h : ∀ t ∈ N, t ∈ T) (hT : T.length ≤ 3) : ∃ f r, freshOf N = f :: r := by
  cases e : freshOf N with
  | cons f r => exact ⟨f, r, rfl⟩
  | nil =>
    exfalso
    have sub : ∀ l ∈ letters, l ∈ T := fun l hl => by
      by_cases q : l ∈ N
      · exact h l q
      · have : l ∈ freshOf N := List.mem_filter.mpr ⟨hl, by rw [decide_eq_false q]; rfl⟩
        rw [e] at this
        cases this
    have := len_of_sub letters_nd sub
    have : letters.length = 26 := rfl
    omega
/-! ### the law's walk through the rules -/
def fE (g h : D) (st : Option Vl) (pl : List Pr2) (ns : List Str) (ru w c cut t : Option Vl) : Pv.Env :=
  [some (.dat g), some (.dat h), st, none, none, none, some (.lst (pl.map pairD)), some (.lst (ns.map .str)), some (.dat (.int 0)), ru, none, none, none, w, c, cut, t, none, none, none]
def lawR : List S := [(.ext 6 (.bin .add (.blt .list (.var 15)) (.ite (.blt (.isi .tuple) (.var 13)) (.lst [(.var 13)]) (.lst [])))), (.ext 7 (.ite (.and (.blt (.isi .str) (.var 13)) (.cmp .ne (.var 13) (.cst (.str "")))) (.lst [(.var 13)]) (.lst [])))]
def lawS : List S := [(.forl (.tp [13, 14, 15, 16]) .seq (.var 9) lawR)]
def lawG : List S := [(.forl (.nm 9) .seq (.var 2) lawS)]
theorem placesR_len {T : List Str} {r : Ru} (h : RuOk T r) : (placesR r).length ≤ 3 ∧ (namesR r).length ≤ 1 := by
  obtain ⟨w, c, cuts, t⟩ := r
  have hl := h.len
  have hl : cuts.length ≤ 2 := hl
  cases w with
  | sp p => exact ⟨by show (cuts ++ [p]).length ≤ 3; rw [List.length_append]; exact Nat.succ_le_succ hl, Nat.zero_le _⟩
  | nm s =>
    refine ⟨by show (cuts ++ []).length ≤ 3; rw [List.append_nil]; omega, ?_⟩
    show (if s = "" then ([] : List Str) else [s]).length ≤ 1
    split
    · exact Nat.zero_le _
    · exact Nat.le_refl 1
section
variable {cl : Fun} {g h : D} {T : List Str} {st ru : Option Vl}
theorem law_r (hT : TOk T) {pl : List Pr2} {ns : List Str} {w c cut t : Option Vl} {r : Ru} (ho : RuOk T r) (hl : pl.length ≤ 1000) (hn : ns.length ≤ 1000) : ∃ w' c' b' t', store (.tp [13, 14, 15, 16]) (ruD r) (fE g h st pl ns ru w c cut t) = some (fE g h st pl ns ru w' c' b' t') ∧ evSs cl [] lawR (fE g h st pl ns ru w' c' b' t') = .ok (.nx, fE g h st (pl ++ placesR r) (ns ++ namesR r) ru w' c' b' t') := by
  refine ⟨some (.dat (whD r.w)), some (.dat (.str r.c)), some (.dat (.tuple (r.cuts.map pairD))), some (.dat (.int r.t)), rfl, ?_⟩
  obtain ⟨wh, cc, cuts, tt⟩ := r
  have c2 := ho.len
  have c2 : cuts.length ≤ 2 := c2
  obtain ⟨l3, l1⟩ := placesR_len ho
  have lm : ∀ ps : List Pr2, (ps.map pairD).length = ps.length := fun ps => List.length_map ..
  have ls : ∀ ps : List Str, (ps.map PyData.str).length = ps.length := fun ps => List.length_map ..
  have wsh : shp (whD wh) = true := by
    cases wh with
    | nm x =>
      by_cases e : x = ""
      · rw [e]; exact shpE
      · exact (low_sz (hT.low x (ho.w e))).shp (by decide)
    | sp p =>
      have hp : Po T p := ho.w
      have := hp.lo
      have := hp.hi
      exact (sz_two (low_sz (hT.low _ hp.n)) (sz_int (i := p.2) (by omega))).shp (by decide)
  have q1 : EV cl (.ite (.blt (.isi .tuple) (.var 13)) (.lst [(.var 13)]) (.lst [])) (fE g h st pl ns ru (some (.dat (whD wh))) (some (.dat (.str cc))) (some (.dat (.tuple (cuts.map pairD)))) (some (.dat (.int tt)))) (.lst ((whP wh).map pairD)) := by
    cases wh with
    | sp p => exact jv_ite (x := true) (tb_isi (op_var (d := pairD p) rfl)) (fun _ => jv_lst (dv_cons (jv_var (d := pairD p) rfl) rfl dv_nil)) fun e => Bool.noConfusion e
    | nm x => exact jv_ite (x := false) (tb_isi (op_var (d := .str x) rfl)) (fun e => Bool.noConfusion e) fun _ => jv_lst dv_nil
  have q2 : EV cl (.ite (.and (.blt (.isi .str) (.var 13)) (.cmp .ne (.var 13) (.cst (.str "")))) (.lst [(.var 13)]) (.lst [])) (fE g h st (pl ++ placesR ⟨wh, cc, cuts, tt⟩) ns ru (some (.dat (whD wh))) (some (.dat (.str cc))) (some (.dat (.tuple (cuts.map pairD)))) (some (.dat (.int tt)))) (.lst ((namesR ⟨wh, cc, cuts, tt⟩).map .str)) := by
    cases wh with
    | sp p => exact jv_ite (x := false) (tb_andf (tb_isi (op_var (d := pairD p) rfl))) (fun e => Bool.noConfusion e) fun _ => jv_lst dv_nil
    | nm x =>
      refine jv_ite (x := !decide (x = "")) ((tb_andt (tb_isi (op_var (d := .str x) rfl)) (tb_cmp (op_var rfl) (op_cst _) (nes wsh shpE))).of (by show (!PyData.eqv (.str x) (.str "")) = _; rw [eqv_ss])) (fun e => ?_) fun e => ?_
      · have e : x ≠ "" := fun z => by rw [decide_eq_true z] at e; cases e
        show EV _ _ _ (.lst ((if x = "" then [] else [x]).map .str))
        rw [if_neg e]
        exact jv_lst (dv_cons (jv_var (d := .str x) rfl) rfl dv_nil)
      · have e : x = "" := by
          by_cases z : x = ""
          · exact z
          · rw [decide_eq_false z] at e; cases e
        show EV _ _ _ (.lst ((if x = "" then [] else [x]).map .str))
        rw [if_pos e]
        exact jv_lst dv_nil
  have wl : (whP wh).length ≤ 1 := by cases wh <;> first | exact Nat.le_refl 1 | exact Nat.zero_le _
  have s1 : NX cl [] (.ext 6 (.bin .add (.blt .list (.var 15)) (.ite (.blt (.isi .tuple) (.var 13)) (.lst [(.var 13)]) (.lst [])))) (fE g h st pl ns ru (some (.dat (whD wh))) (some (.dat (.str cc))) (some (.dat (.tuple (cuts.map pairD)))) (some (.dat (.int tt)))) (fE g h st (pl ++ placesR ⟨wh, cc, cuts, tt⟩) ns ru (some (.dat (whD wh))) (some (.dat (.str cc))) (some (.dat (.tuple (cuts.map pairD)))) (some (.dat (.int tt)))) := by
    have e : (placesR ⟨wh, cc, cuts, tt⟩).map pairD = cuts.map pairD ++ (whP wh).map pairD := by rw [← List.map_append]; rfl
    have := nx_ext (cl := cl) (lk := []) (ρ := fE g h st pl ns ru (some (.dat (whD wh))) (some (.dat (.str cc))) (some (.dat (.tuple (cuts.map pairD)))) (some (.dat (.int tt)))) (i := 6) (e := .bin .add (.blt .list (.var 15)) (.ite (.blt (.isi .tuple) (.var 13)) (.lst [(.var 13)]) (.lst []))) (ds := pl.map pairD) (ys := (placesR ⟨wh, cc, cuts, tt⟩).map pairD) rfl (by rw [e]; exact op_ev (jv_bin (op_ev (jv_blt (v := .lst (cuts.map pairD)) (op_var (d := .tuple (cuts.map pairD)) rfl) rfl) rfl rfl) (op_ev q1 rfl rfl) (badL (by rw [lm, lm]; omega))) rfl rfl) (by rw [lm, lm]; omega)
    rw [← List.map_append] at this
    exact this
  have s2 : NX cl [] (.ext 7 (.ite (.and (.blt (.isi .str) (.var 13)) (.cmp .ne (.var 13) (.cst (.str "")))) (.lst [(.var 13)]) (.lst []))) (fE g h st (pl ++ placesR ⟨wh, cc, cuts, tt⟩) ns ru (some (.dat (whD wh))) (some (.dat (.str cc))) (some (.dat (.tuple (cuts.map pairD)))) (some (.dat (.int tt)))) (fE g h st (pl ++ placesR ⟨wh, cc, cuts, tt⟩) (ns ++ namesR ⟨wh, cc, cuts, tt⟩) ru (some (.dat (whD wh))) (some (.dat (.str cc))) (some (.dat (.tuple (cuts.map pairD)))) (some (.dat (.int tt)))) := by
    have := nx_ext (cl := cl) (lk := []) (ρ := fE g h st (pl ++ placesR ⟨wh, cc, cuts, tt⟩) ns ru (some (.dat (whD wh))) (some (.dat (.str cc))) (some (.dat (.tuple (cuts.map pairD)))) (some (.dat (.int tt)))) (i := 7) (ds := ns.map .str) rfl (op_ev q2 rfl rfl) (by rw [ls, ls]; omega)
    rw [← List.map_append] at this
    exact this
  exact (ss_nx s1).trans (ss_one s2)
theorem flat_app {α β : Type} (f : α → List β) (x : α) (xs : List α) : (x :: xs).flatMap f = f x ++ xs.flatMap f := List.flatMap_cons ..
theorem law_s (hT : TOk T) : ∀ (rs : List Ru) (pl : List Pr2) (ns : List Str) (w c cut t : Option Vl), (∀ r ∈ rs, RuOk T r) → pl.length + 3 * rs.length ≤ 1000 → ns.length + rs.length ≤ 1000 → ∃ w' c' b' t', forTurns (.tp [13, 14, 15, 16]) (evSs cl [] lawR) (rs.map ruD) (fE g h st pl ns ru w c cut t) = .ok (.nx, fE g h st (pl ++ placesS rs) (ns ++ namesS rs) ru w' c' b' t')
  | [], pl, ns, w, c, cut, t, _, _, _ => ⟨w, c, cut, t, by
    show forTurns _ _ [] _ = Res.ok (Pv.Flow.nx, fE g h st (pl ++ []) (ns ++ []) ru w c cut t)
    rw [List.append_nil, List.append_nil]
    unfold forTurns
    rfl⟩
  | r :: rs, pl, ns, w, c, cut, t, hr, hz, hz2 => by
    rw [List.length_cons] at hz hz2
    obtain ⟨w1, c1, b1, t1, e1, e2⟩ := law_r (cl := cl) (g := g) (h := h) (st := st) (ru := ru) (w := w) (c := c) (cut := cut) (t := t) hT (hr r (.head _)) (pl := pl) (ns := ns) (by omega) (by omega)
    obtain ⟨l3, l1⟩ := placesR_len (hr r (.head _))
    obtain ⟨w2, c2, b2, t2, e3⟩ := law_s hT rs (pl ++ placesR r) (ns ++ namesR r) w1 c1 b1 t1 (fun x hx => hr x (.tail _ hx)) (by rw [List.length_append]; omega) (by rw [List.length_append]; omega)
    refine ⟨w2, c2, b2, t2, ?_⟩
    rw [List.map_cons]
    unfold forTurns
    rw [e1, get_some, Res.bind_ok, e2, Res.bind_ok]
    show forTurns _ _ _ _ = _
    rw [e3, List.append_assoc, List.append_assoc]
    unfold placesS namesS
    rw [flat_app, flat_app]
end
theorem placesS_len {T : List Str} {rs : List Ru} (h : ∀ r ∈ rs, RuOk T r) (hl : rs.length ≤ 3) : (placesS rs).length ≤ 9 ∧ (namesS rs).length ≤ 3 :=
  ⟨flat_len (k := 3) (m := 3) (fun r hr => (placesR_len (h r hr)).1) hl, flat_len (k := 1) (m := 3) (fun r hr => (placesR_len (h r hr)).2) hl⟩
section
variable {cl : Fun} {g h : D} {T : List Str} {st : Option Vl}
theorem law_g (hT : TOk T) : ∀ (ss : List (List Ru)) (pl : List Pr2) (ns : List Str) (ru w c cut t : Option Vl), (∀ x ∈ ss, x.length ≤ 3 ∧ ∀ r ∈ x, RuOk T r) → pl.length + 9 * ss.length ≤ 900 → ns.length + 3 * ss.length ≤ 900 → ∃ ru' w' c' b' t', forTurns (.nm 9) (evSs cl [] lawS) (ss.map stD) (fE g h st pl ns ru w c cut t) = .ok (.nx, fE g h st (pl ++ placesG ss) (ns ++ namesG ss) ru' w' c' b' t')
  | [], pl, ns, ru, w, c, cut, t, _, _, _ => ⟨ru, w, c, cut, t, by
    show forTurns _ _ [] _ = Res.ok (Pv.Flow.nx, fE g h st (pl ++ []) (ns ++ []) ru w c cut t)
    rw [List.append_nil, List.append_nil]
    unfold forTurns
    rfl⟩
  | x :: ss, pl, ns, ru, w, c, cut, t, hr, hz, hz2 => by
    rw [List.length_cons] at hz hz2
    obtain ⟨l3, hx⟩ := hr x (.head _)
    obtain ⟨w1, c1, b1, t1, e2⟩ := law_s (cl := cl) (g := g) (h := h) (st := st) (ru := some (.dat (stD x))) hT x pl ns w c cut t hx (by omega) (by omega)
    obtain ⟨p9, n3⟩ := placesS_len hx l3
    obtain ⟨ru2, w2, c2, b2, t2, e3⟩ := law_g hT ss (pl ++ placesS x) (ns ++ namesS x) (some (.dat (stD x))) w1 c1 b1 t1 (fun y hy => hr y (.tail _ hy)) (by rw [List.length_append]; omega) (by rw [List.length_append]; omega)
    refine ⟨ru2, w2, c2, b2, t2, ?_⟩
    rw [List.map_cons]
    unfold forTurns
    have s1 : evSs cl [] lawS (fE g h st pl ns (some (.dat (stD x))) w c cut t) = .ok (.nx, fE g h st (pl ++ placesS x) (ns ++ namesS x) (some (.dat (stD x))) w1 c1 b1 t1) := ss_one ((s_forv (y := stD x) (ds := x.map ruD) rfl rfl rfl).trans e2)
    rw [show store (.nm 9) (stD x) (fE g h st pl ns ru w c cut t) = some (fE g h st pl ns (some (.dat (stD x))) w c cut t) from rfl, get_some, Res.bind_ok, s1, Res.bind_ok]
    show forTurns _ _ _ _ = _
    rw [e3, List.append_assoc, List.append_assoc]
    unfold placesG namesG
    rw [flat_app, flat_app]
end
end K64
set_option Elab.async false
set_option linter.all false
set_option maxRecDepth 100000
set_option maxHeartbeats 4100000
/-! The law's own answer is the program's. -/
namespace K64
open PySem Pv
def gE (g h : D) (st lab row fn pl ns top ru nm at_ w c cut t : Option Vl) : Pv.Env :=
  [some (.dat g), some (.dat h), st, lab, row, fn, pl, ns, top, ru, nm, at_, none, w, c, cut, t, none, none, none]
def cutB : List S := [(.app 7 (.var 10)), (.asg 8 (.mx (.var 8) (.var 11)))]
section
variable {cl : Fun} {g h : D} {st ru w c cut t : Option Vl} {PL : List Pr2}
theorem cut_turns : ∀ (ps : List Pr2) (ns : List Str) (m : Int) (nm at_ : Option Vl), ns.length + ps.length ≤ 1000 → ∃ nm' at', forTurns (.tp [10, 11]) (evSs cl [] cutB) (ps.map pairD) (gE g h st none none none (some (.lck (PL.map pairD))) (some (.lst (ns.map .str))) (some (.dat (.int m))) ru nm at_ w c cut t) =
    .ok (.nx, gE g h st none none none (some (.lck (PL.map pairD))) (some (.lst ((ns ++ ps.map (·.1)).map .str))) (some (.dat (.int ((ps.map (·.2)).foldl max m)))) ru nm' at' w c cut t)
  | [], ns, m, nm, at_, _ => ⟨nm, at_, by
    rw [List.map_nil, List.map_nil, List.map_nil, List.append_nil]
    unfold forTurns
    rfl⟩
  | p :: ps, ns, m, nm, at_, hz => by
    rw [List.length_cons] at hz
    obtain ⟨nm2, at2, e3⟩ := cut_turns ps (ns ++ [p.1]) (max m p.2) (some (.dat (.str p.1))) (some (.dat (.int p.2))) (by rw [List.length_append]; show _ + 1 + _ ≤ _; omega)
    refine ⟨nm2, at2, ?_⟩
    rw [List.map_cons]
    unfold forTurns
    have s1 : NX cl [] (.app 7 (.var 10)) (gE g h st none none none (some (.lck (PL.map pairD))) (some (.lst (ns.map .str))) (some (.dat (.int m))) ru (some (.dat (.str p.1))) (some (.dat (.int p.2))) w c cut t) (gE g h st none none none (some (.lck (PL.map pairD))) (some (.lst ((ns ++ [p.1]).map .str))) (some (.dat (.int m))) ru (some (.dat (.str p.1))) (some (.dat (.int p.2))) w c cut t) := by
      have := nx_app (cl := cl) (lk := []) (ρ := gE g h st none none none (some (.lck (PL.map pairD))) (some (.lst (ns.map .str))) (some (.dat (.int m))) ru (some (.dat (.str p.1))) (some (.dat (.int p.2))) w c cut t) (i := 7) (e := .var 10) (ds := ns.map .str) (d := .str p.1) rfl (jv_var rfl) rfl (by rw [List.length_map]; omega)
      rw [show (ns.map PyData.str) ++ [.str p.1] = (ns ++ [p.1]).map .str by rw [List.map_append]; rfl] at this
      exact this
    have em : (if p.2 > m then p.2 else m) = max m p.2 := by
      by_cases q : p.2 > m
      · rw [if_pos q, Int.max_eq_right (by omega)]
      · rw [if_neg q, Int.max_eq_left (by omega)]
    have s2 : NX cl [] (.asg 8 (.mx (.var 8) (.var 11))) (gE g h st none none none (some (.lck (PL.map pairD))) (some (.lst ((ns ++ [p.1]).map .str))) (some (.dat (.int m))) ru (some (.dat (.str p.1))) (some (.dat (.int p.2))) w c cut t) (gE g h st none none none (some (.lck (PL.map pairD))) (some (.lst ((ns ++ [p.1]).map .str))) (some (.dat (.int (max m p.2)))) ru (some (.dat (.str p.1))) (some (.dat (.int p.2))) w c cut t) := by
      rw [← em]
      exact nx_asg (jv_mx (jv_var rfl) (jv_var rfl)) rfl (show 8 < 20 by decide)
    rw [show store (.tp [10, 11]) (pairD p) (gE g h st none none none (some (.lck (PL.map pairD))) (some (.lst (ns.map .str))) (some (.dat (.int m))) ru nm at_ w c cut t) = some (gE g h st none none none (some (.lck (PL.map pairD))) (some (.lst (ns.map .str))) (some (.dat (.int m))) ru (some (.dat (.str p.1))) (some (.dat (.int p.2))) w c cut t) from rfl, get_some, Res.bind_ok, show evSs cl [] cutB _ = _ from (ss_nx s1).trans (ss_one s2), Res.bind_ok]
    show forTurns _ _ _ _ = _
    rw [e3, List.append_assoc]
    rfl
end
theorem names_sub {T : List Str} {g : List (List Ru)} (h : GuOk T g) : (∀ p ∈ placesG g, Po T p) ∧ (∀ t ∈ namesG g, t ∈ T) ∧ (placesG g).length ≤ 27 ∧ (namesG g).length ≤ 9 := by
  have hn := (named_ok h).1
  refine ⟨fun p hp => hn p (mem_named.mpr (.inl hp)), fun t ht => (hn (t, 0) (mem_named.mpr (.inr ⟨rfl, ht⟩))).n, flat_len (k := 9) (m := 3) (fun s hs => (placesS_len (h.st s hs).2 (h.st s hs).1).1) h.len, flat_len (k := 3) (m := 3) (fun s hs => (placesS_len (h.st s hs).2 (h.st s hs).1).2) h.len⟩
/-- both work out the same -/
theorem same_val {T : List Str} {gs hs : List (List Ru)} (hg : GuOk T gs) (hh : GuOk T hs) (hT : T.length ≤ 3) {f : Str} {r : List Str} (hf : freshOf ((namesG gs ++ namesG hs) ++ (placesG gs ++ placesG hs).map (·.1)) = f :: r) :
    sortS (oneS (((namesG gs ++ namesG hs) ++ (placesG gs ++ placesG hs).map (·.1)) ++ [f])) = labelsOf ((named gs ++ named hs).map (·.1)) ∧ (((placesG gs ++ placesG hs).map (·.2)).foldl max 0 + 2) = ((mOf (named gs ++ named hs) : Nat) : Int) := by
  have hn : same ((named gs ++ named hs).map (·.1)) ((namesG gs ++ namesG hs) ++ (placesG gs ++ placesG hs).map (·.1)) := fun t => by
    rw [List.mem_map, List.mem_append, List.mem_append, List.mem_map]
    constructor
    · rintro ⟨p, hp, rfl⟩
      rcases List.mem_append.mp hp with hp | hp
      · rcases mem_named.mp hp with hp | ⟨_, hp⟩
        · exact .inr ⟨p, List.mem_append_left _ hp, rfl⟩
        · exact .inl (.inl hp)
      · rcases mem_named.mp hp with hp | ⟨_, hp⟩
        · exact .inr ⟨p, List.mem_append_right _ hp, rfl⟩
        · exact .inl (.inr hp)
    · rintro ((hp | hp) | ⟨p, hp, rfl⟩)
      · exact ⟨(t, 0), List.mem_append_left _ (mem_named.mpr (.inr ⟨rfl, hp⟩)), rfl⟩
      · exact ⟨(t, 0), List.mem_append_right _ (mem_named.mpr (.inr ⟨rfl, hp⟩)), rfl⟩
      · rcases List.mem_append.mp hp with hp | hp
        · exact ⟨p, List.mem_append_left _ (mem_named.mpr (.inl hp)), rfl⟩
        · exact ⟨p, List.mem_append_right _ (mem_named.mpr (.inl hp)), rfl⟩
  constructor
  · rw [labels_same hn]
    unfold labelsOf
    rw [hf]
    rfl
  · have hP : ∀ p ∈ named gs ++ named hs, Po T p := fun p hp => (List.mem_append.mp hp).elim ((named_ok hg).1 p) ((named_ok hh).1 p)
    have hQ : ∀ p ∈ placesG gs ++ placesG hs, Po T p := fun p hp => (List.mem_append.mp hp).elim ((names_sub hg).1 p) ((names_sub hh).1 p)
    rw [(mOf_lt hP).2, maxZ_fold fun x hx => by
      obtain ⟨p, hp, rfl⟩ := List.mem_map.mp hx
      exact (hP p hp).lo]
    have u1 : ∀ x ∈ (named gs ++ named hs).map (·.2), x ≤ 4 := fun x hx => by
      obtain ⟨p, hp, rfl⟩ := List.mem_map.mp hx
      have := (hP p hp).hi
      omega
    have u2 : ∀ x ∈ (placesG gs ++ placesG hs).map (·.2), x ≤ 4 := fun x hx => by
      obtain ⟨p, hp, rfl⟩ := List.mem_map.mp hx
      have := (hQ p hp).hi
      omega
    have l1 : top0 ((named gs ++ named hs).map (·.2)) ≤ top0 ((placesG gs ++ placesG hs).map (·.2)) := top_le u1 (by decide) u2 fun x hx => by
      obtain ⟨p, hp, rfl⟩ := List.mem_map.mp hx
      rcases List.mem_append.mp hp with hp | hp
      · rcases mem_named.mp hp with hp | ⟨h0, _⟩
        · exact .inl (List.mem_map.mpr ⟨p, List.mem_append_left _ hp, rfl⟩)
        · exact .inr h0
      · rcases mem_named.mp hp with hp | ⟨h0, _⟩
        · exact .inl (List.mem_map.mpr ⟨p, List.mem_append_right _ hp, rfl⟩)
        · exact .inr h0
    have l2 : top0 ((placesG gs ++ placesG hs).map (·.2)) ≤ top0 ((named gs ++ named hs).map (·.2)) := top_le u2 (by decide) u1 fun x hx => by
      obtain ⟨p, hp, rfl⟩ := List.mem_map.mp hx
      rcases List.mem_append.mp hp with hp | hp
      · exact .inl (List.mem_map.mpr ⟨p, List.mem_append_left _ (mem_named.mpr (.inl hp)), rfl⟩)
      · exact .inl (List.mem_map.mpr ⟨p, List.mem_append_right _ (mem_named.mpr (.inl hp)), rfl⟩)
    have e : top0 ((placesG gs ++ placesG hs).map (·.2)) = top0 ((named gs ++ named hs).map (·.2)) := Int.le_antisymm l2 l1
    unfold top0 at e
    rw [e]
/-- sizes -/
theorem nums_szs {m : Nat} (h : m ≤ 100) : ∀ x ∈ nums m, Sz 0 10 x := fun x hx => by
  obtain ⟨k, hk, rfl⟩ := List.mem_map.mp hx
  have := List.mem_range.mp hk
  exact sz_int (by omega)
theorem row_sz {ls : List Str} {m : Nat} (hl : ∀ t ∈ ls, low t = true) (h4 : ls.length ≤ 5) (hm : m ≤ 6) : Sz 3 250 (rowD ls m) := by
  have a : Sz 1 (6 * 9) (.tuple (.str "" :: ls.map .str)) := sz_tupn (k := 0) (w := 8) (am_cons (sz_of (by decide +kernel)) fun x hx => by
    obtain ⟨t, ht, rfl⟩ := List.mem_map.mp hx
    exact low_sz (hl t ht)) (by rw [List.length_cons, List.length_map]; omega)
  have b : Sz 2 (7 * 16) (.tuple (nums m ++ [.tuple [.str "back"]])) := sz_tupn (k := 1) (w := 15) (fun x hx => (List.mem_append.mp hx).elim (fun h => (nums_szs (by omega) x h).mono (by decide) (by decide)) fun h => by rw [List.mem_singleton.mp h]; exact sz_of (by decide +kernel)) (by
    have ln : (nums m).length = m := by unfold nums; rw [List.length_map, List.length_range]
    rw [List.length_append, ln]
    show m + 1 ≤ 7
    omega)
  exact (sz_three a b (sz_of (k := 1) (w := 1) (d := .tuple []) (by decide +kernel))).mono (by decide) (by decide)
theorem rows_sz {ls : List Str} {m : Nat} (hl : ∀ t ∈ ls, low t = true) (h4 : ls.length ≤ 5) (hm : m ≤ 6) : Sz 4 (6 * 251) (rowsD ls m) :=
  sz_tupn (fun x hx => by rw [(List.mem_replicate.mp hx).2]; exact row_sz hl h4 hm) (by rw [List.length_replicate]; exact hm)
theorem fn_sz {ls : List Str} {m : Nat} (hl : ∀ t ∈ ls, low t = true) (h4 : ls.length ≤ 5) (hm : m ≤ 6) {t : Str} (ht : low t = true) : Sz 5 1600 (.tuple [.str t, rowsD ls m]) :=
  (sz_two (low_sz ht) (rows_sz hl h4 hm)).mono (by decide) (by decide)
theorem prog_sz {ls : List Str} {m : Nat} (hl : ∀ t ∈ ls, low t = true) (h4 : ls.length ≤ 5) (hm : m ≤ 6) {t : Str} (ht : low t = true) : Sz 6 (6 * 1601) (progD ls (rowsD ls m) t) :=
  sz_tupn (fun x hx => by
    obtain ⟨u, hu, rfl⟩ := List.mem_map.mp hx
    refine fn_sz hl h4 hm ?_
    rcases List.mem_cons.mp hu with e | hu
    · rw [e]; exact ht
    · exact hl u (List.mem_filter.mp hu).1) (by
    rw [List.length_map, List.length_cons]
    have := List.length_filter_le (fun u => !decide (u = t)) ls
    omega)
theorem free_sz {ls : List Str} {m : Nat} (hl : ∀ t ∈ ls, low t = true) (h4 : ls.length ≤ 5) (hm : m ≤ 6) : Sz 7 (5 * (6 * 1601 + 1)) (freeD ls m) :=
  sz_tupn (fun x hx => by
    obtain ⟨u, hu, rfl⟩ := List.mem_map.mp hx
    exact prog_sz hl h4 hm (hl u hu)) (by rw [List.length_map]; exact h4)
theorem Sz.self {k w : Nat} {d : D} (h : Sz k w d) : PyData.eqv d d = true := SeqAt.eqv_refl d (sl_good d h.lv).1
/-- the law's last row, over its own functions -/
def fnD (rows : D) (t : Str) : D := .tuple [.str t, rows]
theorem eqv_fn {rows : D} (h : PyData.eqv rows rows = true) (a b : Str) : PyData.eqv (fnD rows a) (fnD rows b) = decide (a = b) := by
  show PyData.eqv (.tuple [.str a, rows]) (.tuple [.str b, rows]) = _
  unfold PyData.eqv PyData.eqvAll PyData.eqvAll PyData.eqvAll
  rw [eqv_ss, h]
  cases decide (a = b) <;> rfl
end K64
set_option Elab.async false
set_option linter.all false
set_option maxRecDepth 100000
set_option maxHeartbeats 4100000
/-! The law's own answer, run. -/
namespace K64
open PySem Pv
theorem ix_zero (f : Str) (fr : List Str) : ix2 (.list ((f :: fr).map .str)) (.int 0) = some (.str f) := by
  show L2.atI _ 0 = _
  unfold L2.atI L2.ixN
  rw [if_pos (by omega), if_pos (by rw [List.length_map]; show (0 : Int) < ((fr.length + 1 : Nat) : Int); omega)]
  rfl
theorem labels_few {N T : List Str} (h : ∀ t ∈ N, t ∈ T) (hT : T.length ≤ 3) : (labelsOf N).length ≤ 4 := by
  have := len_of_sub (labels_nd N) (ks := T ++ (freshOf N).take 1) fun t ht => (labels_mem.mp ht).elim (fun h' => List.mem_append_left _ (h t h')) fun h' => List.mem_append_right _ h'
  rw [List.length_append] at this
  have := take1_len (freshOf N)
  omega
theorem flat_two {α β γ : Type} {f : α → List β} {g : α → List γ} {k m : Nat} : ∀ {xs : List α}, (∀ x ∈ xs, (f x).length + (g x).length ≤ k) → xs.length ≤ m → (xs.flatMap f).length + (xs.flatMap g).length ≤ m * k
  | [], _, _ => Nat.zero_le _
  | x :: xs, h, hl => by
    rw [List.flatMap_cons, List.flatMap_cons, List.length_append, List.length_append]
    rw [List.length_cons] at hl
    have h1 := h x (.head _)
    have h2 := flat_two (m := m - 1) (xs := xs) (fun y hy => h y (.tail _ hy)) (by omega)
    obtain ⟨m, rfl⟩ : ∃ m', m = m' + 1 := ⟨m - 1, by omega⟩
    rw [Nat.add_sub_cancel] at h2
    rw [Nat.add_mul]
    omega
theorem both_len {T : List Str} {g : List (List Ru)} (h : GuOk T g) : (placesG g).length + (namesG g).length ≤ 27 := by
  refine flat_two (k := 9) (m := 3) (fun s hs => flat_two (k := 3) (m := 3) (fun r hr => ?_) (h.st s hs).1) h.len
  have hr := (h.st s hs).2 r hr
  obtain ⟨w, c, cuts, t⟩ := r
  have hl := hr.len
  have hl : cuts.length ≤ 2 := hl
  cases w with
  | sp p =>
    show (cuts ++ [p]).length + 0 ≤ 3
    rw [List.length_append]
    exact Nat.succ_le_succ hl
  | nm s =>
    show (cuts ++ []).length + (if s = "" then ([] : List Str) else [s]).length ≤ 3
    rw [List.append_nil]
    split
    · exact Nat.le_succ_of_le hl
    · exact Nat.succ_le_succ hl
theorem filter_fn {rows : D} (hr : PyData.eqv rows rows = true) (L : List Str) (l : Str) : (L.map (fnD rows)).filter (fun d => !PyData.eqv d (fnD rows l)) = (L.filter fun t => !decide (t = l)).map (fnD rows) := by
  rw [List.filter_map]
  exact congrArg _ (List.filter_congr fun t _ => by show (!PyData.eqv (fnD rows t) (fnD rows l)) = _; rw [eqv_fn hr])
section
variable {n : Nat} {T : List Str}
theorem r8 {gs hs : List (List Ru)} (hT : TOk T) (hg : GuOk T gs) (hh : GuOk T hs) : evF Pr (n + 1) 8 [.dat (guD gs), .dat (guD hs)] = .ok (.dat (valD2 gs hs), [some (.dat (guD gs)), some (.dat (guD hs))]) := by
  show runF (evF Pr n) w8 _ = _
  obtain ⟨p1, n1, lp1, ln1⟩ := names_sub hg
  obtain ⟨p2, n2, lp2, ln2⟩ := names_sub hh
  have ls : ∀ ts : List Str, (ts.map PyData.str).length = ts.length := fun ts => List.length_map ..
  have s1 : NX (evF Pr n) [] (.asgs [6, 7, 8] [(.lst []), (.lst []), (.cst (.int 0))]) (startE 20 [.dat (guD gs), .dat (guD hs)]) (fE (guD gs) (guD hs) none [] [] none none none none none) := nx_asgs3 (jv_lst dv_nil) (jv_lst dv_nil) (jv_cst _) rfl rfl rfl (show 6 < 20 by decide) (show 7 < 20 by decide) (show 8 < 20 by decide)
  -- the two guides
  obtain ⟨ru1, w1, c1, b1, t1, e1⟩ := law_g (cl := evF Pr n) (g := guD gs) (h := guD hs) (st := some (.dat (guD gs))) hT gs [] [] none none none none none hg.st (by have := hg.len; show 0 + _ ≤ _; omega) (by have := hg.len; show 0 + _ ≤ _; omega)
  rw [List.nil_append, List.nil_append] at e1
  obtain ⟨ru2, w2, c2, b2, t2, e2⟩ := law_g (cl := evF Pr n) (g := guD gs) (h := guD hs) (st := some (.dat (guD hs))) hT hs (placesG gs) (namesG gs) ru1 w1 c1 b1 t1 hh.st (by have := hh.len; omega) (by have := hh.len; omega)
  have b1' : evSs (evF Pr n) [] lawG (fE (guD gs) (guD hs) (some (.dat (guD gs))) [] [] none none none none none) = .ok (.nx, fE (guD gs) (guD hs) (some (.dat (guD gs))) (placesG gs) (namesG gs) ru1 w1 c1 b1 t1) := ss_one ((s_forv (y := guD gs) (ds := gs.map stD) rfl rfl rfl).trans e1)
  have b2' : evSs (evF Pr n) [] lawG (fE (guD gs) (guD hs) (some (.dat (guD hs))) (placesG gs) (namesG gs) ru1 w1 c1 b1 t1) = .ok (.nx, fE (guD gs) (guD hs) (some (.dat (guD hs))) (placesG gs ++ placesG hs) (namesG gs ++ namesG hs) ru2 w2 c2 b2 t2) := ss_one ((s_forv (y := guD hs) (ds := hs.map stD) rfl rfl rfl).trans e2)
  have s2 : NX (evF Pr n) [] (.forl (.nm 2) .seq (.tup [(.var 0), (.var 1)]) lawG) (fE (guD gs) (guD hs) none [] [] none none none none none) (fE (guD gs) (guD hs) (some (.dat (guD hs))) (placesG gs ++ placesG hs) (namesG gs ++ namesG hs) ru2 w2 c2 b2 t2) := by
    refine (s_fore (y := .tuple [guD gs, guD hs]) (ds := [guD gs, guD hs]) (v := .dat (.tuple [guD gs, guD hs])) (jv_tup (dv_cons (jv_var rfl) rfl <| dv_cons (jv_var rfl) rfl dv_nil)) rfl rfl rfl rfl).trans ?_
    unfold forTurns
    rw [show store (.nm 2) (guD gs) (fE (guD gs) (guD hs) none [] [] none none none none none) = some (fE (guD gs) (guD hs) (some (.dat (guD gs))) [] [] none none none none none) from rfl, get_some, Res.bind_ok, b1', Res.bind_ok]
    show forTurns _ _ [guD hs] _ = _
    unfold forTurns
    rw [show store (.nm 2) (guD hs) (fE (guD gs) (guD hs) (some (.dat (guD gs))) (placesG gs) (namesG gs) ru1 w1 c1 b1 t1) = some (fE (guD gs) (guD hs) (some (.dat (guD hs))) (placesG gs) (namesG gs) ru1 w1 c1 b1 t1) from rfl, get_some, Res.bind_ok, b2', Res.bind_ok]
    show forTurns _ _ [] _ = _
    unfold forTurns
    rfl
  have lpl : (placesG gs ++ placesG hs).length + (namesG gs ++ namesG hs).length ≤ 54 := by
    have := both_len hg
    have := both_len hh
    rw [List.length_append, List.length_append]
    omega
  have hN : ∀ t ∈ (namesG gs ++ namesG hs) ++ (placesG gs ++ placesG hs).map (·.1), t ∈ T := fun t ht => by
    rcases List.mem_append.mp ht with h | h
    · exact (List.mem_append.mp h).elim (n1 t) (n2 t)
    · obtain ⟨p, hp, rfl⟩ := List.mem_map.mp h
      exact ((List.mem_append.mp hp).elim (p1 p) (p2 p)).n
  obtain ⟨f, fr, hf⟩ := fresh_some hN hT.len
  obtain ⟨v1, v2⟩ := same_val hg hh hT.len hf
  have few : (labelsOf ((named gs ++ named hs).map (·.1))).length ≤ 4 := labels_few (T := T) (fun t ht => by
    obtain ⟨p, hp, rfl⟩ := List.mem_map.mp ht
    exact ((List.mem_append.mp hp).elim ((named_ok hg).1 p) ((named_ok hh).1 p)).n) hT.len
  have lolb : ∀ t ∈ labelsOf ((named gs ++ named hs).map (·.1)), low t = true := labels_low fun t ht => by
    obtain ⟨p, hp, rfl⟩ := List.mem_map.mp ht
    exact hT.low _ ((List.mem_append.mp hp).elim ((named_ok hg).1 p) ((named_ok hh).1 p)).n
  have m6 := (mOf_lt (T := T) (P := named gs ++ named hs) fun p hp => (List.mem_append.mp hp).elim ((named_ok hg).1 p) ((named_ok hh).1 p)).1
  unfold valD2
  generalize labelsOf ((named gs ++ named hs).map (·.1)) = L at v1 few lolb ⊢
  generalize mOf (named gs ++ named hs) = m at v2 m6 ⊢
  generalize placesG gs ++ placesG hs = PL at s2 lpl hN hf v1 v2
  generalize namesG gs ++ namesG hs = NM at s2 lpl hN hf v1
  clear e1 e2 b1' b2'
  -- the places
  obtain ⟨nm3, at3, e3⟩ := cut_turns (cl := evF Pr n) (g := guD gs) (h := guD hs) (st := some (.dat (guD hs))) (ru := ru2) (w := w2) (c := c2) (cut := b2) (t := t2) (PL := PL) PL NM 0 none none (by omega)
  have s3 : NX (evF Pr n) [] (.forl (.tp [10, 11]) .seq (.var 6) cutB) (fE (guD gs) (guD hs) (some (.dat (guD hs))) PL NM ru2 w2 c2 b2 t2) (gE (guD gs) (guD hs) (some (.dat (guD hs))) none none none (some (.lst (PL.map pairD))) (some (.lst ((NM ++ PL.map (·.1)).map .str))) (some (.dat (.int ((PL.map (·.2)).foldl max 0)))) ru2 nm3 at3 w2 c2 b2 t2) := by
    refine (s_forl (i := 6) (ds := PL.map pairD) (items := PL.map pairD) rfl rfl rfl).trans ?_
    show (forTurns (.tp [10, 11]) (evSs (evF Pr n) [] cutB) (PL.map pairD) (gE (guD gs) (guD hs) (some (.dat (guD hs))) none none none (some (.lck (PL.map pairD))) (some (.lst (NM.map .str))) (some (.dat (.int 0))) ru2 none none w2 c2 b2 t2)).bind _ = _
    rw [e3]
    rfl
  have lN : (NM ++ PL.map (·.1)).length ≤ 54 := by rw [List.length_append, List.length_map]; omega
  generalize NM ++ PL.map (·.1) = N at s3 hN hf v1 lN
  generalize (PL.map (·.2)).foldl max 0 = top at s3 v2
  have hlow : ∀ t ∈ N, low t = true := fun t ht => hT.low t (hN t ht)
  have sN := strs_shp hlow (by omega)
  -- a fresh letter
  have c4 : EV (evF Pr n) (.comp (.var 18) [18] (.nm 18) .seq (.cst (.str "abcdefghijklmnopqrstuvwxyz")) (some (.cmp .nmem (.var 18) (.var 7)))) (gE (guD gs) (guD hs) (some (.dat (guD hs))) none none none (some (.lst (PL.map pairD))) (some (.lst (N.map .str))) (some (.dat (.int top))) ru2 nm3 at3 w2 c2 b2 t2) (.lst ((freshOf N).map .str)) := by
    have e := jv_comp (cl := evF Pr n) (ρ := gE (guD gs) (guD hs) (some (.dat (guD hs))) none none none (some (.lst (PL.map pairD))) (some (.lst (N.map .str))) (some (.dat (.int top))) ru2 nm3 at3 w2 c2 b2 t2) (j := 18) (elt := .var 18) (it := .cst (.str "abcdefghijklmnopqrstuvwxyz")) (wk := .seq) (c := some (.cmp .nmem (.var 18) (.var 7))) (p := fun d => !((N.map PyData.str).any fun z => PyData.eqv z d)) (g := fun d => d) rfl (opl_ev (jv_cst _) rfl rfl) letters_items (fun d hd => by
      obtain ⟨t, ht, e⟩ := List.mem_map.mp hd
      subst e
      unfold evC
      exact tb_cmp (op_var rfl) (op_lst (ds := N.map .str) rfl) (nmem_lst ((low_sz (letters_low t ht)).shp (by decide)) sN)) (fun d _ _ => ⟨_, jv_var (set_at rfl), rfl⟩)
    rw [List.map_id', strs_filter letters (fun t => !decide (t ∈ N)) _ (fun t => by rw [any_strs])] at e
    exact e
  rw [hf] at c4
  have s4 : NX (evF Pr n) [] (.app 7 (.ix (.comp (.var 18) [18] (.nm 18) .seq (.cst (.str "abcdefghijklmnopqrstuvwxyz")) (some (.cmp .nmem (.var 18) (.var 7)))) (.cst (.int 0)))) (gE (guD gs) (guD hs) (some (.dat (guD hs))) none none none (some (.lst (PL.map pairD))) (some (.lst (N.map .str))) (some (.dat (.int top))) ru2 nm3 at3 w2 c2 b2 t2) (gE (guD gs) (guD hs) (some (.dat (guD hs))) none none none (some (.lst (PL.map pairD))) (some (.lst ((N ++ [f]).map .str))) (some (.dat (.int top))) ru2 nm3 at3 w2 c2 b2 t2) := by
    have := nx_app (cl := evF Pr n) (lk := []) (ρ := gE (guD gs) (guD hs) (some (.dat (guD hs))) none none none (some (.lst (PL.map pairD))) (some (.lst (N.map .str))) (some (.dat (.int top))) ru2 nm3 at3 w2 c2 b2 t2) (i := 7) (ds := N.map .str) (d := .str f) rfl (jv_ix (op_ev c4 rfl rfl) (op_cst (.int 0)) (ix_zero _ _)) rfl (by rw [ls]; omega)
    rw [show (N.map PyData.str) ++ [.str f] = (N ++ [f]).map .str by rw [List.map_append]; rfl] at this
    exact this
  have s5 : NX (evF Pr n) [] (.asg 3 (.blt .sset (.var 7))) (gE (guD gs) (guD hs) (some (.dat (guD hs))) none none none (some (.lst (PL.map pairD))) (some (.lst ((N ++ [f]).map .str))) (some (.dat (.int top))) ru2 nm3 at3 w2 c2 b2 t2) (gE (guD gs) (guD hs) (some (.dat (guD hs))) (some (.lst (L.map .str))) none none (some (.lst (PL.map pairD))) (some (.lst ((N ++ [f]).map .str))) (some (.dat (.int top))) ru2 nm3 at3 w2 c2 b2 t2) := by
    rw [← v1]
    exact nx_asg (jv_blt (op_lst (ds := (N ++ [f]).map .str) rfl) (sset_run (by rw [List.length_append]; show _ + 1 < 64; omega))) rfl (show 3 < 20 by decide)
  have ln : (nums m).length = m := by unfold nums; rw [List.length_map, List.length_range]
  have q2 : ∀ {ρ : Pv.Env}, ρ[8]? = some (some (.dat (.int top))) → OP (evF Pr n) (.bin .add (.var 8) (.cst (.int 2))) ρ (.int (m : Nat)) := fun h8 => by
    rw [← v2]
    exact op_ev (jv_bin (op_var h8) (op_cst _) badd) rfl rfl
  have hr : blt1 .rngt (.int (m : Nat)) = some (.dat (.tuple (nums m))) := (if_pos (decide_eq_true ⟨by omega, by omega⟩)).trans (by rw [Int.toNat_natCast])
  have s6 : NX (evF Pr n) [] (.asg 4 (.tup [(.bin .add (.tup [(.cst (.str ""))]) (.blt .tuple (.var 3))), (.bin .add (.blt .rngt (.bin .add (.var 8) (.cst (.int 2)))) (.tup [(.tup [(.cst (.str "back"))])])), (.tup [])])) (gE (guD gs) (guD hs) (some (.dat (guD hs))) (some (.lst (L.map .str))) none none (some (.lst (PL.map pairD))) (some (.lst ((N ++ [f]).map .str))) (some (.dat (.int top))) ru2 nm3 at3 w2 c2 b2 t2) (gE (guD gs) (guD hs) (some (.dat (guD hs))) (some (.lst (L.map .str))) (some (.dat (rowD L m))) none (some (.lst (PL.map pairD))) (some (.lst ((N ++ [f]).map .str))) (some (.dat (.int top))) ru2 nm3 at3 w2 c2 b2 t2) :=
    nx_asg (v := .dat (rowD L m)) (jv_tup (dv_cons (jv_bin (op_ev (jv_tup (dv_cons (jv_cst _) rfl dv_nil)) rfl rfl) (op_ev (jv_blt (v := .dat (.tuple (L.map .str))) (op_lst (ds := L.map .str) rfl) rfl) rfl rfl) (badT (by rw [ls]; show 1 + _ ≤ _; omega))) rfl <| dv_cons (jv_bin (op_ev (jv_blt (q2 rfl) hr) rfl rfl) (op_ev (jv_tup (dv_cons (jv_tup (dv_cons (jv_cst _) rfl dv_nil)) rfl dv_nil)) rfl rfl) (badT (by rw [ln]; show _ + 1 ≤ _; omega))) rfl <| dv_cons (jv_tup dv_nil) rfl dv_nil)) rfl (show 4 < 20 by decide)
  have hb : bin2 .mul (.tuple [rowD L m]) (.int (m : Nat)) = some (.dat (rowsD L m)) := (if_pos (decide_eq_true ⟨by omega, by omega, (show (1 : Nat) ≤ 1000 by decide)⟩)).trans (by rw [Int.toNat_natCast, flat_rep]; rfl)
  have c7 : EV (evF Pr n) (.comp (.tup [(.var 12), (.bin .mul (.tup [(.var 4)]) (.bin .add (.var 8) (.cst (.int 2))))]) [12] (.nm 12) .seq (.var 3) none) (gE (guD gs) (guD hs) (some (.dat (guD hs))) (some (.lst (L.map .str))) (some (.dat (rowD L m))) none (some (.lst (PL.map pairD))) (some (.lst ((N ++ [f]).map .str))) (some (.dat (.int top))) ru2 nm3 at3 w2 c2 b2 t2) (.lst ((L.map PyData.str).map fun d => .tuple [d, rowsD L m])) :=
    jv_compl (i := 3) (j := 12) (o := none) rfl rfl (fun v h => by cases h) (by decide) fun d hd => ⟨_, jv_tup (dv_cons (jv_var rfl) rfl <| dv_cons (jv_bin (op_ev (jv_tup (dv_cons (jv_var (d := rowD L m) rfl) rfl dv_nil)) rfl rfl) (q2 rfl) hb) rfl dv_nil), rfl⟩
  have e7 : ((L.map PyData.str).map fun d => PyData.tuple [d, rowsD L m]) = L.map (fnD (rowsD L m)) := by rw [List.map_map]; rfl
  rw [e7] at c7
  have s7 : NX (evF Pr n) [] (.asg 5 (.comp (.tup [(.var 12), (.bin .mul (.tup [(.var 4)]) (.bin .add (.var 8) (.cst (.int 2))))]) [12] (.nm 12) .seq (.var 3) none)) (gE (guD gs) (guD hs) (some (.dat (guD hs))) (some (.lst (L.map .str))) (some (.dat (rowD L m))) none (some (.lst (PL.map pairD))) (some (.lst ((N ++ [f]).map .str))) (some (.dat (.int top))) ru2 nm3 at3 w2 c2 b2 t2) (gE (guD gs) (guD hs) (some (.dat (guD hs))) (some (.lst (L.map .str))) (some (.dat (rowD L m))) (some (.lst (L.map (fnD (rowsD L m))))) (some (.lst (PL.map pairD))) (some (.lst ((N ++ [f]).map .str))) (some (.dat (.int top))) ru2 nm3 at3 w2 c2 b2 t2) := nx_asg c7 rfl (show 5 < 20 by decide)
  have rself := Sz.self (rows_sz lolb (by omega) m6)
  have fsh : ∀ t ∈ L, shp (fnD (rowsD L m) t) = true := fun t ht => (fn_sz lolb (by omega) m6 (lolb t ht)).shp (by decide)
  have lL : (L.map (fnD (rowsD L m))).length = L.length := List.length_map ..
  have c8 : EV (evF Pr n) (.comp (.bin .add (.tup [(.var 17)]) (.blt .tuple (.comp (.var 19) [19] (.nm 19) .seq (.var 5) (some (.cmp .ne (.var 19) (.var 17)))))) [17] (.nm 17) .seq (.var 5) none) (gE (guD gs) (guD hs) (some (.dat (guD hs))) (some (.lst (L.map .str))) (some (.dat (rowD L m))) (some (.lst (L.map (fnD (rowsD L m))))) (some (.lst (PL.map pairD))) (some (.lst ((N ++ [f]).map .str))) (some (.dat (.int top))) ru2 nm3 at3 w2 c2 b2 t2) (.lst ((L.map (fnD (rowsD L m))).map fun d => .tuple (d :: (L.map (fnD (rowsD L m))).filter fun x => !PyData.eqv x d))) := by
    refine jv_compl (i := 5) (j := 17) (o := none) rfl rfl (fun v h => by cases h) (by decide) fun d hd => ?_
    obtain ⟨l, hl, e⟩ := List.mem_map.mp hd
    have inner := jv_comp (cl := evF Pr n) (ρ := ((gE (guD gs) (guD hs) (some (.dat (guD hs))) (some (.lst (L.map .str))) (some (.dat (rowD L m))) (some (.lst (L.map (fnD (rowsD L m))))) (some (.lst (PL.map pairD))) (some (.lst ((N ++ [f]).map .str))) (some (.dat (.int top))) ru2 nm3 at3 w2 c2 b2 t2).set 5 (some (.lck (L.map (fnD (rowsD L m)))))).set 17 (some (.dat d))) (j := 19) (elt := .var 19) (it := .var 5) (wk := .seq) (c := some (.cmp .ne (.var 19) (.var 17))) (p := fun x => !PyData.eqv x d) (g := fun x => x) rfl (opl_lck (ds := L.map (fnD (rowsD L m))) rfl) rfl (fun x hx => by
      obtain ⟨y, hy, e2⟩ := List.mem_map.mp hx
      unfold evC
      exact tb_cmp (op_var rfl) (op_var rfl) (nes (by rw [← e2]; exact fsh y hy) (by rw [← e]; exact fsh l hl))) (fun x _ _ => ⟨_, jv_var (set_at rfl), rfl⟩)
    rw [List.map_id'] at inner
    have fl := List.length_filter_le (fun x => !PyData.eqv x d) (L.map (fnD (rowsD L m)))
    exact ⟨_, jv_bin (op_ev (jv_tup (dv_cons (jv_var (d := d) rfl) rfl dv_nil)) rfl rfl) (op_ev (jv_blt (op_ev inner rfl rfl) rfl) rfl rfl) (badT (by show 1 + ((L.map (fnD (rowsD L m))).filter fun x => !PyData.eqv x d).length ≤ _; omega)), rfl⟩
  have e8 : ((L.map (fnD (rowsD L m))).map fun d => PyData.tuple (d :: (L.map (fnD (rowsD L m))).filter fun x => !PyData.eqv x d)) = L.map (progD L (rowsD L m)) := by
    rw [List.map_map]
    refine List.map_congr_left fun l _ => ?_
    show PyData.tuple (fnD (rowsD L m) l :: (L.map (fnD (rowsD L m))).filter fun x => !PyData.eqv x (fnD (rowsD L m) l)) = _
    rw [filter_fn rself]
    rfl
  rw [e8] at c8
  have s8 := s_ret (cl := evF Pr n) (lk := []) (v := .dat (freeD L m)) rfl (jv_blt (b := .tuple) (op_ev c8 rfl rfl) rfl)
  exact run_js (d := w8) (vs := [.dat (guD gs), .dat (guD hs)]) rfl ((ss_nx s1).trans ((ss_nx s2).trans ((ss_nx s3).trans ((ss_nx s4).trans ((ss_nx s5).trans ((ss_nx s6).trans ((ss_nx s7).trans ((ss_fin (.inr ⟨_, _, s8⟩)).trans s8))))))))
end
end K64
set_option Elab.async false
set_option linter.all false
set_option maxRecDepth 100000
set_option maxHeartbeats 4100000
/-! Guides that are drawn. -/
namespace K64
open PySem Pv
section
variable {cl : Fun} {ρ : Pv.Env}
/-- an argument of a call -/
def AG (cl : Fun) (e : T) (ρ : Pv.Env) (a : Pv.Arg) : Prop := argOf e (evE cl e) ρ = .ok (a, ρ)
def AGs (cl : Fun) (es : List T) (ρ : Pv.Env) (as : List Pv.Arg) : Prop := evAs cl es ρ = .ok (as, ρ)
theorem ag_lst {i : Nat} {ds : List D} (h : ρ[i]? = some (some (.lst ds))) : AG cl (.var i) ρ (.lend i) := by
  unfold AG argOf T.isVar
  simp only [h]
theorem ag_dct {i : Nat} {kvs : List (Str × D)} (h : ρ[i]? = some (some (.dct kvs))) : AG cl (.var i) ρ (.lend i) := by
  unfold AG argOf T.isVar
  simp only [h]
theorem ag_ar {e : T} {v : Vl} (h : AR cl e ρ v) : AG cl e ρ (.vl v) := h
theorem ags_nil : AGs cl [] ρ [] := by unfold AGs evAs; rfl
theorem ags_cons {e : T} {es : List T} {a : Pv.Arg} {as : List Pv.Arg} (h : AG cl e ρ a) (k : AGs cl es ρ as) : AGs cl (e :: es) ρ (a :: as) := by
  unfold AGs evAs
  rw [show argOf e (evE cl e) ρ = _ from h, Res.bind_ok]
  rw [show evAs cl es ρ = _ from k]
  rfl
/-- a call with arguments of any kind, told from its end -/
theorem xe_callg {k : Nat} {es : List T} {as : List Pv.Arg} {vs : List Vl} {Q : Vl × Pv.Env → Prop} (h : AGs cl es ρ as) (hn : nodupB (lends as) = true) (hv : argVs ρ as = some vs)
    (c : CS (cl k vs) fun p => ∃ ρ', giveBack ρ as p.2 = some ρ' ∧ Q (p.1, ρ')) : XE cl (.call k es) ρ Q := by
  refine XE.of ?_
  obtain ⟨⟨v, fs⟩, e, ρ', e2, q⟩ := Res.sat_iff.mp c.sat
  unfold evE
  rw [show evAs cl es ρ = _ from h, Res.bind_ok]
  show (doCall (cl k) as ρ).sat Q
  unfold doCall
  rw [if_pos hn, hv, get_some, Res.bind_ok, e]
  show ((get (giveBack ρ as fs)).bind _).sat Q
  rw [show giveBack ρ as fs = some ρ' from e2]
  exact q
end
/-! ### what is drawn from -/
def WhOk (T : List Str) (w : Wh) : Prop := match w with
  | .nm s => s ≠ "" → s ∈ T
  | .sp p => Po T p
def GW (T : List Str) (d : D) : Prop := ∃ w, d = whD w ∧ WhOk T w
def PP (T : List Str) (d : D) : Prop := ∃ p, d = pairD p ∧ Po T p
theorem eqv_ii (i j : Int) : PyData.eqv (.int i) (.int j) = decide (i = j) := by
  unfold PyData.eqv
  rfl
theorem ceqi {i j : Int} : cmp2 .eq (.int i) (.int j) = some (decide (i = j)) := (eqs rfl rfl).trans (by rw [eqv_ii])
theorem ix_in {ds : List D} {r : Int} (h0 : 0 ≤ r) (h1 : r < ds.length) : ∃ d ∈ ds, ix2 (.list ds) (.int r) = some d := by
  refine ⟨ds[r.toNat]'(by omega), List.getElem_mem _, ?_⟩
  show L2.atI ds r = _
  unfold L2.atI L2.ixN
  rw [if_pos h0, if_pos h1, Option.bind_some]
  exact List.getElem?_eq_getElem (by omega)
theorem pairs_all {T : List Str} : ∀ ds : List D, (∀ d ∈ ds, PP T d) → ∃ ps : List Pr2, pairsOf ds = some ps ∧ ps.length = ds.length ∧ ∀ p ∈ ps, Po T p
  | [], _ => ⟨[], rfl, rfl, fun _ h => by cases h⟩
  | d :: ds, h => by
    obtain ⟨p, e, hp⟩ := h d (.head _)
    obtain ⟨ps, e2, l, hs⟩ := pairs_all ds fun x hx => h x (.tail _ hx)
    subst e
    refine ⟨p :: ps, ?_, by rw [List.length_cons, List.length_cons, l], fun q hq => ?_⟩
    · show (pairsOf ds).map _ = _
      rw [e2]; rfl
    · cases hq with
      | head => exact hp
      | tail _ hq => exact hs q hq
theorem oneP_sub : ∀ (ps : List Pr2) (p : Pr2), p ∈ oneP ps → p ∈ ps
  | [], _, h => by cases h
  | x :: r, p, h => by
    unfold oneP at h
    by_cases hx : x ∈ r
    · rw [if_pos (decide_eq_true hx)] at h
      exact .tail _ (oneP_sub r p h)
    · rw [if_neg (by rw [decide_eq_false hx]; exact Bool.noConfusion)] at h
      cases h with
      | head => exact .head _
      | tail _ h => exact .tail _ (oneP_sub r p h)
theorem oneP_le : ∀ ps : List Pr2, (oneP ps).length ≤ ps.length
  | [] => Nat.le_refl _
  | x :: r => by
    have ih := oneP_le r
    unfold oneP
    by_cases hx : x ∈ r
    · rw [if_pos (decide_eq_true hx), List.length_cons]; omega
    · rw [if_neg (by rw [decide_eq_false hx]; exact Bool.noConfusion), List.length_cons, List.length_cons]; omega
theorem sortP_mem {ps : List Pr2} {p : Pr2} : p ∈ sortP ps ↔ p ∈ ps := (List.mergeSort_perm ps leP).mem_iff
theorem sortP_len (ps : List Pr2) : (sortP ps).length = ps.length := (List.mergeSort_perm ps leP).length_eq
theorem pp_shp {T : List Str} {P : List D} (hT : TOk T) (h : ∀ d ∈ P, PP T d) (hl : P.length ≤ 50) : shp (.list P) = true :=
  (sz_lstn (k := 1) (w := 20) (m := 50) (fun x hx => by
    obtain ⟨p, e, hp⟩ := h x hx
    subst e
    have h0 := hp.lo
    have h1 := hp.hi
    exact (sz_two (low_sz (hT.low p.1 hp.n)) (sz_int (by omega))).mono (by decide) (by decide)) hl).shp (by decide)
theorem tb_var {cl : Fun} {ρ : Pv.Env} {i : Nat} {b : Bool} (h : ρ[i]? = some (some (.dat (.bool b)))) : TB cl (.var i) ρ b := by unfold TB evT; rw [h]
section
variable {n b : Nat} {cs : List Int} {kvs : List (Str × D)} {T : List Str}
theorem r5 {ds : List D} (hf : Fd cs b kvs) (hb : b < 1000000) (h1 : 1 ≤ ds.length) (h2 : ds.length ≤ 1000) : CS (evF Pr (n + 2) 5 [.dct kvs, .lst ds]) fun p => ∃ d ∈ ds, ∃ kvs', p = (.dat d, [some (.dct kvs'), some (.lst ds)]) ∧ Fd cs (b + 1) kvs' := by
  refine cs_run (d := w5) rfl rfl ?_
  refine xs_ret rfl (xe_ixr (p := .pk 1) (opnd_var (v := .lst ds) rfl) rfl ?_)
  refine xe_drawi (many := ds.length) rfl hf hb (ar_ev (jv_blt (op_lst (ds := ds) rfl) rfl) rfl rfl) (by omega) (by omega) fun r kvs' hf' r0 r1 => ?_
  obtain ⟨d, hd, e⟩ := ix_in r0 r1
  exact ⟨.list ds, .int r, d, rfl, rfl, e, d, hd, kvs', rfl, hf'⟩
theorem r5d {ds : List D} (hf : Fd cs b kvs) (hb : b < 1000000) (h1 : 1 ≤ ds.length) (h2 : ds.length ≤ 1000) : CS (evF Pr (n + 2) 5 [.dct kvs, .dat (.list ds)]) fun p => ∃ d ∈ ds, ∃ kvs', p = (.dat d, [some (.dct kvs'), some (.dat (.list ds))]) ∧ Fd cs (b + 1) kvs' := by
  refine cs_run (d := w5) rfl rfl ?_
  refine xs_ret rfl (xe_ixr (p := .pk 1) (opnd_var (v := .dat (.list ds)) rfl) rfl ?_)
  refine xe_drawi (many := ds.length) rfl hf hb (ar_ev (jv_blt (op_var (d := .list ds) rfl) rfl) rfl rfl) (by omega) (by omega) fun r kvs' hf' r0 r1 => ?_
  obtain ⟨d, hd, e⟩ := ix_in r0 r1
  exact ⟨.list ds, .int r, d, rfl, rfl, e, d, hd, kvs', rfl, hf'⟩
/-! ### a rule -/
def uE (kvs : List (Str × D)) (W P : List D) (ms : Int) (lb : Bool) (a c : Option Vl) (d e : Option Vl) : Pv.Env :=
  [some (.dct kvs), some (.lst W), some (.lst P), some (.dat (.int ms)), some (.dat (.bool lb)), a, c, d, e]
theorem u_pick1 {W P : List D} {ms : Int} {lb : Bool} {a c o1 o2 : Option Vl} {Q : Vl × Pv.Env → Prop} (hf : Fd cs b kvs) (hb : b < 1000000) (h1 : 1 ≤ W.length) (h2 : W.length ≤ 1000)
    (q : ∀ d ∈ W, ∀ kvs', Fd cs (b + 1) kvs' → Q (.dat d, uE kvs' W P ms lb a c o1 o2)) : XE (evF Pr (n + 2)) (.call 5 [.var 0, .var 1]) (uE kvs W P ms lb a c o1 o2) Q := by
  refine xe_callg (as := [.lend 0, .lend 1]) (vs := [.dct kvs, .lst W]) (ags_cons (ag_dct rfl) (ags_cons (ag_lst rfl) ags_nil)) rfl rfl ((r5 hf hb h1 h2).mono fun p hp => ?_)
  obtain ⟨d, hd, kvs', e, hf'⟩ := hp
  subst e
  exact ⟨_, rfl, q d hd kvs' hf'⟩
theorem u_pick2 {W P : List D} {ms : Int} {lb : Bool} {a c o1 o2 : Option Vl} {Q : Vl × Pv.Env → Prop} (hf : Fd cs b kvs) (hb : b < 1000000) (h1 : 1 ≤ P.length) (h2 : P.length ≤ 1000)
    (q : ∀ d ∈ P, ∀ kvs', Fd cs (b + 1) kvs' → Q (.dat d, uE kvs' W P ms lb a c o1 o2)) : XE (evF Pr (n + 2)) (.call 5 [.var 0, .var 2]) (uE kvs W P ms lb a c o1 o2) Q := by
  refine xe_callg (as := [.lend 0, .lend 2]) (vs := [.dct kvs, .lst P]) (ags_cons (ag_dct rfl) (ags_cons (ag_lst rfl) ags_nil)) rfl rfl ((r5 hf hb h1 h2).mono fun p hp => ?_)
  obtain ⟨d, hd, kvs', e, hf'⟩ := hp
  subst e
  exact ⟨_, rfl, q d hd kvs' hf'⟩
theorem r6 {W P : List D} {ms : Int} {lb : Bool} (hT : TOk T) (hf : Fd cs b kvs) (hb : b + 6 < 1000000) (hW : ∀ d ∈ W, GW T d) (w1 : 1 ≤ W.length) (w2 : W.length ≤ 1000) (hP : ∀ d ∈ P, PP T d) (p2 : P.length ≤ 50) (m1 : 1 ≤ ms) (m2 : ms ≤ 1000) :
    CS (evF Pr (n + 3) 6 [.dct kvs, .lst W, .lst P, .dat (.int ms), .dat (.bool lb)]) fun p => ∃ r : Ru, ∃ kvs', p = (.dat (ruD r), [some (.dct kvs'), some (.lst W), some (.lst P), some (.dat (.int ms)), some (.dat (.bool lb))]) ∧ RuOk T r ∧ Fd cs (b + 6) kvs' := by
  refine cs_run (d := w6) rfl rfl ?_
  have fin : ∀ (w : Wh), WhOk T w → ∀ (kvs1 : List (Str × D)) (b1 : Nat), Fd cs b1 kvs1 → b1 ≤ b + 4 → ∀ (ds : List D) (o : Option Vl), (∀ d ∈ ds, PP T d) → ds.length ≤ 2 →
      XS (evF Pr (n + 2)) [0, 1, 2] [(.asg 7 (.call 5 [(.var 0), (.lst [(.cst (.str "step")), (.cst (.str "next")), (.cst (.str "out")), (.cst (.str "go")), (.cst (.str "next")), (.cst (.str "out"))])])), (.ret (.tup [(.var 5), (.var 7), (.blt .tuple (.blt .ssetp (.var 6))), (.call 4 [(.var 0), (.var 3)])]))] (uE kvs1 W P ms lb (some (.dat (whD w))) (some (.lst ds)) none o)
        fun q => match q.1 with
          | .ret v => ∃ r : Ru, ∃ kvs', (v, q.2.take 5) = (.dat (ruD r), [some (.dct kvs'), some (.lst W), some (.lst P), some (.dat (.int ms)), some (.dat (.bool lb))]) ∧ RuOk T r ∧ Fd cs (b + 6) kvs'
          | _ => False := by
    intro w hw kvs1 b1 hf1 hb1 ds o hds ld
    refine xs_asg rfl ?_
    refine xe_lendi (vs := [.dat (.list [.str "step", .str "next", .str "out", .str "go", .str "next", .str "out"])]) rfl (av_cons (ar_ev (jv_lst (dv_cons (jv_cst _) rfl <| dv_cons (jv_cst _) rfl <| dv_cons (jv_cst _) rfl <| dv_cons (jv_cst _) rfl <| dv_cons (jv_cst _) rfl <| dv_cons (jv_cst _) rfl dv_nil)) rfl rfl) av_nil) ((r5d hf1 (by omega) (by decide) (by decide)).mono fun p hp => ?_)
    obtain ⟨d, hd, kvs2, e, hf2⟩ := hp
    subst e
    refine ⟨kvs2, _, rfl, rfl, show 7 < 9 by decide, ?_⟩
    have hc : ∃ c : Str, d = .str c := by
      simp only [List.mem_cons, List.not_mem_nil, or_false] at hd
      rcases hd with h | h | h | h | h | h <;> exact ⟨_, h⟩
    obtain ⟨c, e⟩ := hc
    subst e
    clear hd
    obtain ⟨ps, ep, lp, hp⟩ := pairs_all ds hds
    show XS _ _ _ (uE kvs2 W P ms lb (some (.dat (whD w))) (some (.lst ds)) (some (.dat (.str c))) o) _
    refine xs_ret rfl (xe_tup (xd_cons (xe_ev (jv_var (d := whD w) rfl) ⟨_, rfl, xd_cons (xe_ev (jv_var (d := .str c) rfl) ⟨_, rfl, xd_cons (xe_ev (v := .dat (.tuple ((sortP (oneP ps)).map pairD))) (jv_blt (op_ev (jv_blt (v := .lst ((sortP (oneP ps)).map pairD)) (op_lst (ds := ds) rfl) ?_) rfl rfl) rfl) ⟨_, rfl, xd_cons ?_⟩)⟩)⟩)))
    · refine (if_pos (decide_eq_true (show ds.length < 64 by omega))).trans ?_
      rw [ep]; rfl
    · refine xe_drawi (many := ms) rfl hf2 (by omega) (ar_var rfl) m1 (by omega) fun r kvs3 hf3 r0 r1 => ⟨_, rfl, xd_nil ?_⟩
      refine ⟨⟨w, c, sortP (oneP ps), r⟩, kvs3, rfl, ⟨hw, fun p h => hp p (oneP_sub _ _ (sortP_mem.mp h)), ?_⟩, hf3.mono (by omega)⟩
      show (sortP (oneP ps)).length ≤ 2
      rw [sortP_len]
      exact Nat.le_trans (oneP_le ps) (by omega)
  have mid : ∀ (w : Wh), WhOk T w → ∀ (kvs1 : List (Str × D)), Fd cs (b + 1) kvs1 →
      XS (evF Pr (n + 2)) [0, 1, 2] (w6.body.drop 1) (uE kvs1 W P ms lb (some (.dat (whD w))) none none none)
        fun q => match q.1 with
          | .ret v => ∃ r : Ru, ∃ kvs', (v, q.2.take 5) = (.dat (ruD r), [some (.dct kvs'), some (.lst W), some (.lst P), some (.dat (.int ms)), some (.dat (.bool lb))]) ∧ RuOk T r ∧ Fd cs (b + 6) kvs'
          | _ => False := by
    intro w hw kvs1 hf1
    refine xs_asg rfl (xe_ev (jv_lst dv_nil) ⟨show 6 < 9 by decide, ?_⟩)
    show XS _ _ _ (uE kvs1 W P ms lb (some (.dat (whD w))) (some (.lst [])) none none) _
    have tb : TB (evF Pr (n + 2)) (.cmp .ne (.var 2) (.lst [])) (uE kvs1 W P ms lb (some (.dat (whD w))) (some (.lst [])) none none) (!PyData.eqv (.list P) (.list [])) := tb_cmp (op_lst (ds := P) rfl) (op_ev (jv_lst dv_nil) rfl rfl) (nes (pp_shp hT hP p2) rfl)
    refine xs_if (xt_tb tb ?_)
    cases hb0 : !PyData.eqv (.list P) (.list []) with
    | false => exact xs_nil (fin w hw kvs1 (b + 1) hf1 (by omega) [] none (fun _ h => by cases h) (Nat.zero_le _))
    | true =>
      have p1 : 1 ≤ P.length := by
        cases P with
        | nil => exact Bool.noConfusion (hb0.symm.trans rfl : true = false)
        | cons x xs => rw [List.length_cons]; omega
      refine xs_asg rfl ?_
      refine xe_comp rfl ?_
      refine xe_drawi (many := 3) rfl hf1 (by omega) (ar_cst _) (by decide) (by decide) fun r kvs2 hf2 r0 r1 => ?_
      refine ⟨.int r, nums r.toNat, rfl, ?_, rfl, ?_⟩
      · exact (if_pos (decide_eq_true ⟨r0, by omega⟩))
      · refine xc_turns (fun ds acc ρ => ∃ kvs o, ρ = uE kvs W P ms lb (some (.dat (whD w))) (some (.lst [])) none o ∧ (∀ d ∈ acc, PP T d) ∧ acc.length + ds.length = r.toNat ∧ Fd cs (b + 2 + acc.length) kvs) (fun acc ρ h => ?_) (fun d ds acc ρ h => ?_) (nums r.toNat) [] _ ⟨kvs2, none, rfl, (fun _ h => by cases h), by rw [show (nums r.toNat).length = r.toNat by unfold nums; rw [List.length_map, List.length_range]]; exact Nat.zero_add _, hf2⟩
        · obtain ⟨kvs3, o, e, ha, hl, hf3⟩ := h
          subst e
          rw [List.length_nil] at hl
          refine ⟨show 6 < 9 by decide, xs_nil ?_⟩
          exact fin w hw kvs3 (b + 2 + acc.length) hf3 (by omega) acc none ha (by omega)
        · obtain ⟨kvs3, o, e, ha, hl, hf3⟩ := h
          subst e
          rw [List.length_cons] at hl
          refine ⟨uE kvs3 W P ms lb (some (.dat (whD w))) (some (.lst [])) none (some (.dat d)), rfl, ?_⟩
          refine u_pick2 hf3 (by omega) p1 (by omega) fun x hx kvs4 hf4 => ⟨x, rfl, kvs4, some (.dat d), rfl, fun y hy => ?_, by rw [List.length_append]; show acc.length + 1 + _ = _; omega, ?_⟩
          · rcases List.mem_append.mp hy with hy | hy
            · exact ha y hy
            · rw [List.mem_singleton.mp hy]; exact hP x hx
          · rw [List.length_append]; exact hf4
  cases lb with
  | true =>
    refine xs_asg rfl (xe_ite (tb_var rfl) (fun _ => ?_) fun e => Bool.noConfusion e)
    refine xe_ev (jv_cst _) ⟨show 5 < 9 by decide, ?_⟩
    exact mid (.nm "") (fun h => (h rfl).elim) kvs (hf.mono (by omega))
  | false =>
    refine xs_asg rfl (xe_ite (tb_var rfl) (fun e => Bool.noConfusion e) fun _ => ?_)
    refine u_pick1 (a := none) (c := none) (o1 := none) (o2 := none) hf (by omega) w1 w2 fun d hd kvs1 hf1 => ⟨show 5 < 9 by decide, ?_⟩
    obtain ⟨w, e, hw⟩ := hW d hd
    subst e
    exact mid w hw kvs1 hf1
/-! ### a guide -/
def vE (kvs : List (Str × D)) (W P : List D) (z g i x y : Option Vl) : Pv.Env := [some (.dct kvs), some (.lst W), some (.lst P), z, g, i, x, y]
def GG (T : List Str) (d : D) : Prop := ∃ s : List Ru, d = stD s ∧ s.length ≤ 3 ∧ ∀ r ∈ s, RuOk T r
def GR (T : List Str) (d : D) : Prop := ∃ r : Ru, d = ruD r ∧ RuOk T r
theorem all_ru {T : List Str} : ∀ ds : List D, (∀ d ∈ ds, GR T d) → ∃ rs : List Ru, ds = rs.map ruD ∧ ∀ r ∈ rs, RuOk T r
  | [], _ => ⟨[], rfl, fun _ h => by cases h⟩
  | d :: ds, h => by
    obtain ⟨r, e, hr⟩ := h d (.head _)
    obtain ⟨rs, e2, hs⟩ := all_ru ds fun x hx => h x (.tail _ hx)
    subst e e2
    exact ⟨r :: rs, rfl, fun q hq => (List.mem_cons.mp hq).elim (fun e => e ▸ hr) (hs q)⟩
theorem all_st {T : List Str} : ∀ ds : List D, (∀ d ∈ ds, GG T d) → ∃ g : List (List Ru), ds = g.map stD ∧ ∀ s ∈ g, s.length ≤ 3 ∧ ∀ r ∈ s, RuOk T r
  | [], _ => ⟨[], rfl, fun _ h => by cases h⟩
  | d :: ds, h => by
    obtain ⟨s, e, hr⟩ := h d (.head _)
    obtain ⟨g, e2, hs⟩ := all_st ds fun x hx => h x (.tail _ hx)
    subst e e2
    exact ⟨s :: g, rfl, fun q hq => (List.mem_cons.mp hq).elim (fun e => e ▸ hr) (hs q)⟩
theorem r7 {W P zs : List D} (hT : TOk T) (hf : Fd cs b kvs) (hb : b + 60 < 1000000) (hW : ∀ d ∈ W, GW T d) (w1 : 1 ≤ W.length) (w2 : W.length ≤ 1000) (hP : ∀ d ∈ P, PP T d) (p2 : P.length ≤ 50) (hz : ∀ d ∈ zs, ∃ k : Int, d = .int k ∧ 0 ≤ k ∧ k ≤ 3) (z1 : 1 ≤ zs.length) (z3 : zs.length ≤ 3) :
    CS (evF Pr (n + 4) 7 [.dct kvs, .lst W, .lst P, .lst zs]) fun p => ∃ g : List (List Ru), ∃ kvs', p = (.dat (guD g), [some (.dct kvs'), some (.lst W), some (.lst P), some (.lst zs)]) ∧ GuOk T g ∧ Fd cs (b + 54) kvs' := by
  refine cs_run (d := w7) rfl rfl ?_
  refine xs_asg rfl (xe_ev (jv_lst dv_nil) ⟨show 4 < 8 by decide, ?_⟩)
  show XS _ _ _ (vE kvs W P (some (.lst zs)) (some (.lst [])) none none none) _
  refine xs_forl (i := 3) (ds := zs) (items := zs) rfl rfl rfl ?_
  refine xs_turns (fun ds ρ => ∃ kvs acc i x, ρ = vE kvs W P (some (.lck zs)) (some (.lst acc)) i x none ∧ (∀ d ∈ acc, GG T d) ∧ (∀ d ∈ ds, d ∈ zs) ∧ acc.length + ds.length = zs.length ∧ Fd cs (b + 18 * acc.length) kvs) (fun ρ h => ?_) (fun d ds ρ h => ?_) zs _ ⟨kvs, [], none, none, rfl, (fun _ h => by cases h), (fun _ h => h), Nat.zero_add _, hf⟩
  · obtain ⟨kvs1, acc, i, x, e, ha, _, hl, hf1⟩ := h
    subst e
    show XS _ _ _ (vE kvs1 W P (some (.lst zs)) (some (.lst acc)) i x none) _
    obtain ⟨g, e, hg⟩ := all_st acc ha
    subst e
    rw [List.length_map, List.length_nil] at hl
    refine xs_ret rfl (xe_ev (jv_blt (v := .dat (guD g)) (op_lst (ds := g.map stD) rfl) rfl) ⟨g, kvs1, rfl, ⟨by omega, hg⟩, ?_⟩)
    rw [List.length_map] at hf1
    exact hf1.mono (by omega)
  · obtain ⟨kvs1, acc, i, x, e, ha, hd, hl, hf1⟩ := h
    subst e
    rw [List.length_cons] at hl
    obtain ⟨k, e, k0, k3⟩ := hz d (hd d (.head _))
    subst e
    refine ⟨vE kvs1 W P (some (.lck zs)) (some (.lst acc)) (some (.dat (.int k))) x none, rfl, ?_⟩
    refine xs_asg rfl ?_
    refine xe_compv (i := 5) (x := .int k) (ds := nums k.toNat) rfl (if_pos (decide_eq_true ⟨k0, by omega⟩)) rfl ?_
    refine xc_turns (fun ds' rs ρ => ∃ kvs y, ρ = vE kvs W P (some (.lck zs)) (some (.lst acc)) (some (.dat (.int k))) x y ∧ (∀ d ∈ rs, GR T d) ∧ (∀ d ∈ ds', ∃ j : Int, d = .int j) ∧ rs.length + ds'.length = k.toNat ∧ Fd cs (b + 18 * acc.length + 6 * rs.length) kvs) (fun rs ρ h => ?_) (fun d' ds' rs ρ h => ?_) (nums k.toNat) [] _ ⟨kvs1, none, rfl, (fun _ h => by cases h), (fun d h => by obtain ⟨j, _, e⟩ := List.mem_map.mp h; exact ⟨_, e.symm⟩), by rw [show (nums k.toNat).length = k.toNat by unfold nums; rw [List.length_map, List.length_range]]; exact Nat.zero_add _, hf1⟩
    · obtain ⟨kvs2, y, e, hr, _, hl2, hf2⟩ := h
      subst e
      rw [List.length_nil] at hl2
      obtain ⟨s, e, hs⟩ := all_ru rs hr
      subst e
      rw [List.length_map] at hl2 hf2
      refine ⟨show 6 < 8 by decide, ?_⟩
      show XS _ _ _ (vE kvs2 W P (some (.lck zs)) (some (.lst acc)) (some (.dat (.int k))) (some (.lst (s.map ruD))) none) _
      refine xs_app (ds := acc) rfl (xe_ev (jv_blt (v := .dat (stD s)) (op_lst (ds := s.map ruD) rfl) rfl) ⟨stD s, acc, rfl, rfl, by omega, xs_nil ?_⟩)
      refine ⟨kvs2, acc ++ [stD s], some (.dat (.int k)), some (.lst (s.map ruD)), rfl, fun d h => ?_, fun d h => hd d (.tail _ h), by rw [List.length_append]; show acc.length + 1 + _ = _; omega, ?_⟩
      · rcases List.mem_append.mp h with h | h
        · exact ha d h
        · rw [List.mem_singleton.mp h]
          exact ⟨s, rfl, by omega, hs⟩
      · rw [List.length_append]
        exact hf2.mono (by show _ ≤ b + 18 * (acc.length + 1); omega)
    · obtain ⟨kvs2, y, e, hr, hj, hl2, hf2⟩ := h
      subst e
      rw [List.length_cons] at hl2
      obtain ⟨j, e⟩ := hj d' (.head _)
      subst e
      refine ⟨vE kvs2 W P (some (.lck zs)) (some (.lst acc)) (some (.dat (.int k))) x (some (.dat (.int j))), rfl, ?_⟩
      have eb : EV (evF Pr (n + 3)) (.cmp .eq (.var 7) (.bin .sub (.var 5) (.cst (.int 1)))) (vE kvs2 W P (some (.lck zs)) (some (.lst acc)) (some (.dat (.int k))) x (some (.dat (.int j)))) (.dat (.bool (decide (j = k - 1)))) := eb_cmp (op_var rfl) (op_ev (jv_bin (op_var rfl) (op_cst _) bsub) rfl rfl) ceqi
      refine xe_callg (as := [.lend 0, .lend 1, .lend 2, .vl (.dat (.int zs.length)), .vl (.dat (.bool (decide (j = k - 1))))]) (vs := [.dct kvs2, .lst W, .lst P, .dat (.int zs.length), .dat (.bool (decide (j = k - 1)))])
        (ags_cons (ag_dct rfl) <| ags_cons (ag_lst rfl) <| ags_cons (ag_lst rfl) <| ags_cons (ag_ar (ar_ev (jv_blt (v := .dat (.int zs.length)) (opl_lck (ds := zs) rfl).op rfl) rfl rfl)) <| ags_cons (ag_ar (ar_ev eb rfl rfl)) ags_nil) rfl rfl ((r6 hT hf2 (by omega) hW w1 w2 hP p2 (by omega) (by omega)).mono fun p hp => ?_)
      obtain ⟨r, kvs3, e, hr3, hf3⟩ := hp
      subst e
      refine ⟨_, rfl, ruD r, rfl, kvs3, some (.dat (.int j)), rfl, fun d h => ?_, fun d h => hj d (.tail _ h), by rw [List.length_append]; show rs.length + 1 + _ = _; omega, ?_⟩
      · rcases List.mem_append.mp h with h | h
        · exact hr d h
        · rw [List.mem_singleton.mp h]
          exact ⟨r, rfl, hr3⟩
      · rw [List.length_append]
        exact hf3.mono (by show _ ≤ b + 18 * acc.length + 6 * (rs.length + 1); omega)
end
end K64
set_option Elab.async false
set_option linter.all false
set_option maxRecDepth 100000
set_option maxHeartbeats 4100000
/-! Guides by hand. -/
namespace K64
open PySem Pv
def Lf : List Str := ["f"]
def La : List Str := ["a"]
def Laf : List Str := ["a", "f"]
def Labc : List Str := ["a", "b", "c"]
def Lacb : List Str := ["a", "c", "b"]
def L4 : List Str := ["a", "b", "c", "d"]
def L4b : List Str := ["b", "a", "c", "d"]
def L4d : List Str := ["d", "a", "b", "c"]
def P2 : List Pr2 := [("f", 0)]
def P4 : List Pr2 := [("a", 0), ("c", 3), ("b", 1)]
def G0 : List (List Ru) := [[⟨.nm "", "step", [], 0⟩]]
def G2 : List (List Ru) := [[⟨.nm "f", "step", [], 0⟩, ⟨.nm "", "next", [], 0⟩]]
def G4 : List (List Ru) := [[⟨.nm "", "go", [("a", 0), ("c", 3)], 0⟩], [⟨.sp ("b", 1), "out", [], 1⟩, ⟨.nm "", "step", [], 0⟩]]
theorem tok1 : TOk Lf := ⟨fun t ht => List.all_eq_true.mp (show Lf.all low = true by decide +kernel) t ht, by decide⟩
theorem tok3 : TOk Labc := ⟨fun t ht => List.all_eq_true.mp (show Labc.all low = true by decide +kernel) t ht, by decide⟩
theorem ru_e {T : List Str} {c : Str} {t : Int} : RuOk T ⟨.nm "", c, [], t⟩ := ⟨fun h => (h rfl).elim, (fun p h => by cases h), Nat.zero_le _⟩
theorem gok0 {T : List Str} : GuOk T G0 := ⟨by decide, fun s hs => by
  rw [List.mem_singleton.mp hs]
  exact ⟨by decide, fun r hr => by rw [List.mem_singleton.mp hr]; exact ru_e⟩⟩
theorem gok2 : GuOk Lf G2 := ⟨by decide, fun s hs => by
  rw [List.mem_singleton.mp hs]
  refine ⟨by decide, fun r hr => ?_⟩
  rcases List.mem_cons.mp hr with e | hr
  · rw [e]; exact ⟨fun _ => .head _, (fun p h => by cases h), by decide⟩
  · rw [List.mem_singleton.mp hr]; exact ru_e⟩
theorem gok4 : GuOk Labc G4 := ⟨by decide, fun s hs => by
  rcases List.mem_cons.mp hs with e | hs
  · rw [e]
    refine ⟨by decide, fun r hr => ?_⟩
    rw [List.mem_singleton.mp hr]
    refine ⟨fun h => (h rfl).elim, fun p hp => ?_, by decide⟩
    rcases List.mem_cons.mp hp with e | hp
    · rw [e]; exact ⟨.head _, by decide, by decide⟩
    · rw [List.mem_singleton.mp hp]; exact ⟨.tail _ (.tail _ (.head _)), by decide, by decide⟩
  · rw [List.mem_singleton.mp hs]
    refine ⟨by decide, fun r hr => ?_⟩
    rcases List.mem_cons.mp hr with e | hr
    · rw [e]; exact ⟨show Po _ ("b", 1) from ⟨.tail _ (.head _), by decide, by decide⟩, (fun p h => by cases h), by decide⟩
    · rw [List.mem_singleton.mp hr]; exact ru_e⟩
theorem lab_of {N xs ys : List Str} (e : oneS (N ++ (freshOf N).take 1) = xs) (h : ys.Perm xs) (s : PyProof.Rows.sortedS ys = true) : labelsOf N = ys := by
  unfold labelsOf
  rw [e]
  exact (Pv.sortS_eq h s).symm
theorem lab0 : labelsOf [] = La := lab_of (xs := La) (by decide +kernel) (List.Perm.refl _) (by decide +kernel)
theorem lab2 : labelsOf Lf = Laf := lab_of (xs := ["f", "a"]) (by decide +kernel) (by decide +kernel) (by decide +kernel)
theorem lab4 : labelsOf Lacb = L4 := lab_of (xs := ["a", "c", "b", "d"]) (by decide +kernel) (by decide +kernel) (by decide +kernel)
theorem nm0 : named G0 = [] := by decide +kernel
theorem nm2 : named G2 = P2 := by decide +kernel
theorem nm4 : named G4 = P4 := by decide +kernel
def R1 : D := rowsD La 2
def R2 : D := rowsD Laf 2
def R4 : D := rowsD L4 5
theorem prog_of {ls os : List Str} {R : D} {f : Str} (e : (ls.filter fun t => !decide (t = f)) = os) : progD ls R f = .tuple ((f :: os).map fun t => .tuple [.str t, R]) := by
  unfold progD
  rw [e]
theorem v0 : valD2 G0 G0 = .tuple [.tuple [.tuple [.str "a", R1]]] := by
  unfold valD2
  rw [nm0]
  show freeD (labelsOf []) 2 = _
  rw [lab0]
  show PyData.tuple [progD La R1 "a"] = _
  rw [prog_of (os := []) (by decide +kernel)]
  rfl
def V2 : D := .tuple [.tuple [.tuple [.str "a", R2], .tuple [.str "f", R2]], .tuple [.tuple [.str "f", R2], .tuple [.str "a", R2]]]
theorem free2 : freeD Laf 2 = V2 := by
  show PyData.tuple [progD Laf R2 "a", progD Laf R2 "f"] = _
  rw [prog_of (os := ["f"]) (by decide +kernel), prog_of (os := ["a"]) (by decide +kernel)]
  rfl
theorem v02 : valD2 G0 G2 = V2 := by
  unfold valD2
  rw [nm0, nm2]
  show freeD (labelsOf Lf) 2 = _
  rw [lab2, free2]
theorem v20 : valD2 G2 G0 = V2 := by
  unfold valD2
  rw [nm0, nm2]
  show freeD (labelsOf Lf) 2 = _
  rw [lab2, free2]
def V4 : List (List Str) := [["a", "b", "c", "d"], ["b", "a", "c", "d"], ["c", "a", "b", "d"], ["d", "a", "b", "c"]]
def rowF (os : List Str) : D := .tuple (os.map fun t => .tuple [.str t, R4])
theorem v4 : valD2 G4 G0 = .tuple (V4.map rowF) := by
  unfold valD2
  rw [nm0, nm4]
  show freeD (labelsOf Lacb) 5 = _
  rw [lab4]
  show PyData.tuple [progD L4 R4 "a", progD L4 R4 "b", progD L4 R4 "c", progD L4 R4 "d"] = _
  rw [prog_of (os := ["b", "c", "d"]) (by decide +kernel), prog_of (os := ["a", "c", "d"]) (by decide +kernel), prog_of (os := ["a", "b", "d"]) (by decide +kernel), prog_of (os := ["a", "b", "c"]) (by decide +kernel)]
  rfl
def mE (a b c d e f g : Option Vl) : Pv.Env := [a, b, c, d, e, f, g, none, none]
def fs2 : D → D
  | .tuple (.tuple (x :: _) :: _) => x
  | _ => .none
theorem mulT {x : D} {m : Nat} (h : m ≤ 1000) : bin2 .mul (.tuple [x]) (.int (m : Nat)) = some (.dat (.tuple (List.replicate m x))) := (if_pos (decide_eq_true ⟨by omega, by omega, (show (1 : Nat) ≤ 1000 by decide)⟩)).trans (by rw [Int.toNat_natCast, flat_rep])
theorem self_ne {d : D} {k w : Nat} (h : Sz k w d) (hk : k ≤ 60 := by decide) : cmp2 .ne d d = some false := (nes (h.shp hk) (h.shp hk)).trans (by rw [Sz.self h]; rfl)
theorem low4 {L : List Str} (h : L.all low = true) : ∀ t ∈ L, low t = true := fun t ht => List.all_eq_true.mp h t ht
theorem strs4 {L : List Str} (h : L.all low = true) (hl : L.length ≤ 4) : Sz 1 36 (.list (L.map .str)) := sz_lstn (k := 0) (w := 8) (m := 4) (fun x hx => by
  obtain ⟨t, ht, e⟩ := List.mem_map.mp hx
  subst e
  exact low_sz (low4 h t ht)) (by rw [List.length_map]; exact hl)
section
variable {n : Nat}
theorem r9 : evF Pr (n + 3) 9 [] = .ok (.dat (.bool true), []) := by
  have e0 : evF Pr (n + 3) 9 [] = runF (evF Pr (n + 2)) w9 [] := rfl
  rw [e0]
  have s0 : NX (evF Pr (n + 2)) [] (.asg 0 (.tup [(.tup [(.tup [(.cst (.str "")), (.cst (.str "step")), (.tup []), (.cst (.int 0))])])])) (mE none none none none none none none) (mE (some (.dat (guD G0))) none none none none none none) := nx_asg (v := .dat (guD G0)) (jv_tup (dv_cons (jv_tup (dv_cons (jv_tup (dv_cons (jv_cst _) rfl <| dv_cons (jv_cst _) rfl <| dv_cons (jv_tup ( dv_nil)) rfl <| dv_cons (jv_cst _) rfl <| dv_nil)) rfl <| dv_nil)) rfl <| dv_nil)) rfl (show 0 < 9 by decide)
  have s1 : NX (evF Pr (n + 2)) [] (.asg 1 (.tup [(.tup [(.cst (.str "")), (.cst (.str "a"))]), (.tup [(.cst (.int 0)), (.cst (.int 1)), (.tup [(.cst (.str "back"))])]), (.tup [])])) (mE (some (.dat (guD G0))) none none none none none none) (mE (some (.dat (guD G0))) (some (.dat (rowD La 2))) none none none none none) := nx_asg (v := .dat (rowD La 2)) (jv_tup (dv_cons (jv_tup (dv_cons (jv_cst _) rfl <| dv_cons (jv_cst _) rfl <| dv_nil)) rfl <| dv_cons (jv_tup (dv_cons (jv_cst _) rfl <| dv_cons (jv_cst _) rfl <| dv_cons (jv_tup (dv_cons (jv_cst _) rfl <| dv_nil)) rfl <| dv_nil)) rfl <| dv_cons (jv_tup ( dv_nil)) rfl <| dv_nil)) rfl (show 1 < 9 by decide)
  have c0 : EV (evF Pr (n + 2)) (.call 0 [(.var 0), (.var 0)]) (mE (some (.dat (guD G0))) (some (.dat (rowD La 2))) none none none none none) (.dat (.tuple [.tuple [.tuple [.str "a", R1]]])) := by
    rw [← v0]
    exact jv_call (av_cons (ar_var rfl) (av_cons (ar_var rfl) av_nil)) (r0 tok1 gok0 gok0) rfl
  have z1 : Sz 7 (5 * (6 * 1601 + 1)) (.tuple [.tuple [.tuple [.str "a", R1]]]) := by
    have := free_sz (ls := La) (m := 2) (low4 (by decide +kernel)) (by decide) (by decide)
    have e : freeD La 2 = .tuple [.tuple [.tuple [.str "a", R1]]] := by
      show PyData.tuple [progD La R1 "a"] = _
      rw [prog_of (os := []) (by decide +kernel)]
      rfl
    rw [e] at this
    exact this
  have s2 : NX (evF Pr (n + 2)) [] (.iff (.cmp .ne (.call 0 [(.var 0), (.var 0)]) (.tup [(.tup [(.tup [(.cst (.str "a")), (.tup [(.var 1), (.var 1)])])])])) [(.ret (.cst (.bool false)))] []) (mE (some (.dat (guD G0))) (some (.dat (rowD La 2))) none none none none none) (mE (some (.dat (guD G0))) (some (.dat (rowD La 2))) none none none none none) := s_iff (tb_cmp (op_ev c0 rfl rfl) (op_ev (v := .dat (.tuple [.tuple [.tuple [.str "a", R1]]])) (jv_tup (dv_cons (jv_tup (dv_cons (jv_tup (dv_cons (jv_cst _) rfl <| dv_cons (jv_tup (dv_cons (jv_var rfl) rfl <| dv_cons (jv_var rfl) rfl <| dv_nil)) rfl <| dv_nil)) rfl <| dv_nil)) rfl <| dv_nil)) rfl rfl) (self_ne z1))
  have s3 : NX (evF Pr (n + 2)) [] (.asg 2 (.tup [(.tup [(.tup [(.cst (.str "f")), (.cst (.str "step")), (.tup []), (.cst (.int 0))]), (.tup [(.cst (.str "")), (.cst (.str "next")), (.tup []), (.cst (.int 0))])])])) (mE (some (.dat (guD G0))) (some (.dat (rowD La 2))) none none none none none) (mE (some (.dat (guD G0))) (some (.dat (rowD La 2))) (some (.dat (guD G2))) none none none none) := nx_asg (v := .dat (guD G2)) (jv_tup (dv_cons (jv_tup (dv_cons (jv_tup (dv_cons (jv_cst _) rfl <| dv_cons (jv_cst _) rfl <| dv_cons (jv_tup ( dv_nil)) rfl <| dv_cons (jv_cst _) rfl <| dv_nil)) rfl <| dv_cons (jv_tup (dv_cons (jv_cst _) rfl <| dv_cons (jv_cst _) rfl <| dv_cons (jv_tup ( dv_nil)) rfl <| dv_cons (jv_cst _) rfl <| dv_nil)) rfl <| dv_nil)) rfl <| dv_nil)) rfl (show 2 < 9 by decide)
  have s4 : NX (evF Pr (n + 2)) [] (.asg 1 (.tup [(.tup [(.cst (.str "")), (.cst (.str "a")), (.cst (.str "f"))]), (.tup [(.cst (.int 0)), (.cst (.int 1)), (.tup [(.cst (.str "back"))])]), (.tup [])])) (mE (some (.dat (guD G0))) (some (.dat (rowD La 2))) (some (.dat (guD G2))) none none none none) (mE (some (.dat (guD G0))) (some (.dat (rowD Laf 2))) (some (.dat (guD G2))) none none none none) := nx_asg (v := .dat (rowD Laf 2)) (jv_tup (dv_cons (jv_tup (dv_cons (jv_cst _) rfl <| dv_cons (jv_cst _) rfl <| dv_cons (jv_cst _) rfl <| dv_nil)) rfl <| dv_cons (jv_tup (dv_cons (jv_cst _) rfl <| dv_cons (jv_cst _) rfl <| dv_cons (jv_tup (dv_cons (jv_cst _) rfl <| dv_nil)) rfl <| dv_nil)) rfl <| dv_cons (jv_tup ( dv_nil)) rfl <| dv_nil)) rfl (show 1 < 9 by decide)
  have s5 : NX (evF Pr (n + 2)) [] (.asg 3 (.tup [(.tup [(.tup [(.cst (.str "a")), (.tup [(.var 1), (.var 1)])]), (.tup [(.cst (.str "f")), (.tup [(.var 1), (.var 1)])])]), (.tup [(.tup [(.cst (.str "f")), (.tup [(.var 1), (.var 1)])]), (.tup [(.cst (.str "a")), (.tup [(.var 1), (.var 1)])])])])) (mE (some (.dat (guD G0))) (some (.dat (rowD Laf 2))) (some (.dat (guD G2))) none none none none) (mE (some (.dat (guD G0))) (some (.dat (rowD Laf 2))) (some (.dat (guD G2))) (some (.dat V2)) none none none) := nx_asg (v := .dat V2) (jv_tup (dv_cons (jv_tup (dv_cons (jv_tup (dv_cons (jv_cst _) rfl <| dv_cons (jv_tup (dv_cons (jv_var rfl) rfl <| dv_cons (jv_var rfl) rfl <| dv_nil)) rfl <| dv_nil)) rfl <| dv_cons (jv_tup (dv_cons (jv_cst _) rfl <| dv_cons (jv_tup (dv_cons (jv_var rfl) rfl <| dv_cons (jv_var rfl) rfl <| dv_nil)) rfl <| dv_nil)) rfl <| dv_nil)) rfl <| dv_cons (jv_tup (dv_cons (jv_tup (dv_cons (jv_cst _) rfl <| dv_cons (jv_tup (dv_cons (jv_var rfl) rfl <| dv_cons (jv_var rfl) rfl <| dv_nil)) rfl <| dv_nil)) rfl <| dv_cons (jv_tup (dv_cons (jv_cst _) rfl <| dv_cons (jv_tup (dv_cons (jv_var rfl) rfl <| dv_cons (jv_var rfl) rfl <| dv_nil)) rfl <| dv_nil)) rfl <| dv_nil)) rfl <| dv_nil)) rfl (show 3 < 9 by decide)
  have c1 : EV (evF Pr (n + 2)) (.call 0 [(.var 0), (.var 2)]) (mE (some (.dat (guD G0))) (some (.dat (rowD Laf 2))) (some (.dat (guD G2))) (some (.dat V2)) none none none) (.dat V2) := by
    rw [← v02]
    exact jv_call (av_cons (ar_var rfl) (av_cons (ar_var rfl) av_nil)) (r0 tok1 gok0 gok2) rfl
  have c2 : EV (evF Pr (n + 2)) (.callr 0 [(.var 0), (.var 2)]) (mE (some (.dat (guD G0))) (some (.dat (rowD Laf 2))) (some (.dat (guD G2))) (some (.dat V2)) none none none) (.dat V2) := by
    rw [← v20]
    exact jv_callr2 (ar_var rfl) (ar_var rfl) (r0 tok1 gok2 gok0) rfl
  have z2 : Sz 7 (5 * (6 * 1601 + 1)) V2 := by
    have := free_sz (ls := Laf) (m := 2) (low4 (by decide +kernel)) (by decide) (by decide)
    rw [free2] at this
    exact this
  have s6 : NX (evF Pr (n + 2)) [] (.iff (.or (.cmp .ne (.call 0 [(.var 0), (.var 2)]) (.var 3)) (.cmp .ne (.callr 0 [(.var 0), (.var 2)]) (.var 3))) [(.ret (.cst (.bool false)))] []) (mE (some (.dat (guD G0))) (some (.dat (rowD Laf 2))) (some (.dat (guD G2))) (some (.dat V2)) none none none) (mE (some (.dat (guD G0))) (some (.dat (rowD Laf 2))) (some (.dat (guD G2))) (some (.dat V2)) none none none) := s_iff (tb_orf (tb_cmp (op_ev c1 rfl rfl) (op_var rfl) (self_ne z2)) (tb_cmp (op_ev c2 rfl rfl) (op_var rfl) (self_ne z2)))
  have s7 : NX (evF Pr (n + 2)) [] (.asg 4 (.tup [(.tup [(.tup [(.cst (.str "")), (.cst (.str "go")), (.tup [(.tup [(.cst (.str "a")), (.cst (.int 0))]), (.tup [(.cst (.str "c")), (.cst (.int 3))])]), (.cst (.int 0))])]), (.tup [(.tup [(.tup [(.cst (.str "b")), (.cst (.int 1))]), (.cst (.str "out")), (.tup []), (.cst (.int 1))]), (.tup [(.cst (.str "")), (.cst (.str "step")), (.tup []), (.cst (.int 0))])])])) (mE (some (.dat (guD G0))) (some (.dat (rowD Laf 2))) (some (.dat (guD G2))) (some (.dat V2)) none none none) (mE (some (.dat (guD G0))) (some (.dat (rowD Laf 2))) (some (.dat (guD G2))) (some (.dat V2)) (some (.dat (guD G4))) none none) := nx_asg (v := .dat (guD G4)) (jv_tup (dv_cons (jv_tup (dv_cons (jv_tup (dv_cons (jv_cst _) rfl <| dv_cons (jv_cst _) rfl <| dv_cons (jv_tup (dv_cons (jv_tup (dv_cons (jv_cst _) rfl <| dv_cons (jv_cst _) rfl <| dv_nil)) rfl <| dv_cons (jv_tup (dv_cons (jv_cst _) rfl <| dv_cons (jv_cst _) rfl <| dv_nil)) rfl <| dv_nil)) rfl <| dv_cons (jv_cst _) rfl <| dv_nil)) rfl <| dv_nil)) rfl <| dv_cons (jv_tup (dv_cons (jv_tup (dv_cons (jv_tup (dv_cons (jv_cst _) rfl <| dv_cons (jv_cst _) rfl <| dv_nil)) rfl <| dv_cons (jv_cst _) rfl <| dv_cons (jv_tup ( dv_nil)) rfl <| dv_cons (jv_cst _) rfl <| dv_nil)) rfl <| dv_cons (jv_tup (dv_cons (jv_cst _) rfl <| dv_cons (jv_cst _) rfl <| dv_cons (jv_tup ( dv_nil)) rfl <| dv_cons (jv_cst _) rfl <| dv_nil)) rfl <| dv_nil)) rfl <| dv_nil)) rfl (show 4 < 9 by decide)
  have c4 : EV (evF Pr (n + 2)) (.call 0 [(.var 4), (.var 0)]) (mE (some (.dat (guD G0))) (some (.dat (rowD Laf 2))) (some (.dat (guD G2))) (some (.dat V2)) (some (.dat (guD G4))) none none) (.dat (.tuple (V4.map rowF))) := by
    rw [← v4]
    exact jv_call (av_cons (ar_var rfl) (av_cons (ar_var rfl) av_nil)) (r0 tok3 gok4 gok0) rfl
  have s8 : NX (evF Pr (n + 2)) [] (.asg 5 (.call 0 [(.var 4), (.var 0)])) (mE (some (.dat (guD G0))) (some (.dat (rowD Laf 2))) (some (.dat (guD G2))) (some (.dat V2)) (some (.dat (guD G4))) none none) (mE (some (.dat (guD G0))) (some (.dat (rowD Laf 2))) (some (.dat (guD G2))) (some (.dat V2)) (some (.dat (guD G4))) (some (.dat (.tuple (V4.map rowF)))) none) := nx_asg c4 rfl (show 5 < 9 by decide)
  have d1 : EV (evF Pr (n + 2)) (.comp (.ix (.ix (.var 7) (.cst (.int 0))) (.cst (.int 0))) [7] (.nm 7) .seq (.var 5) none) (mE (some (.dat (guD G0))) (some (.dat (rowD Laf 2))) (some (.dat (guD G2))) (some (.dat V2)) (some (.dat (guD G4))) (some (.dat (.tuple (V4.map rowF)))) none) (.lst ((V4.map rowF).map fs2)) := by
    refine jv_compm (ds := V4.map rowF) (g := fs2) rfl (opl_var (d := .tuple (V4.map rowF)) rfl) rfl fun d hd => ?_
    obtain ⟨os, ho, e⟩ := List.mem_map.mp hd
    subst e
    simp only [V4, List.mem_cons, List.not_mem_nil, or_false] at ho
    rcases ho with e | e | e | e <;> subst e <;> exact ⟨_, jv_ix (op_ev (jv_ix (op_var rfl) (op_cst (.int 0)) rfl) rfl rfl) (op_cst (.int 0)) rfl, rfl⟩
  have e1 : (V4.map rowF).map fs2 = L4.map PyData.str := rfl
  rw [e1] at d1
  have d2 : EV (evF Pr (n + 2)) (.comp (.ix (.var 8) (.cst (.int 0))) [8] (.nm 8) .seq (.ix (.var 5) (.cst (.int 1))) none) (mE (some (.dat (guD G0))) (some (.dat (rowD Laf 2))) (some (.dat (guD G2))) (some (.dat V2)) (some (.dat (guD G4))) (some (.dat (.tuple (V4.map rowF)))) none) (.lst ((L4b.map fun t => PyData.tuple [.str t, R4]).map fs1)) := by
    refine jv_compm (ds := L4b.map fun t => PyData.tuple [.str t, R4]) (g := fs1) rfl (opl_ev (v := .dat (rowF L4b)) (jv_ix (op_var (d := .tuple (V4.map rowF)) rfl) (op_cst (.int 1)) rfl) rfl rfl) rfl fun d hd => ?_
    obtain ⟨t, ho, e⟩ := List.mem_map.mp hd
    subst e
    exact ⟨_, jv_ix (op_var rfl) (op_cst (.int 0)) rfl, rfl⟩
  have e2 : (L4b.map fun t => PyData.tuple [.str t, R4]).map fs1 = L4b.map PyData.str := rfl
  rw [e2] at d2
  have s9 : NX (evF Pr (n + 2)) [] (.iff (.or (.cmp .ne (.comp (.ix (.ix (.var 7) (.cst (.int 0))) (.cst (.int 0))) [7] (.nm 7) .seq (.var 5) none) (.lst [(.cst (.str "a")), (.cst (.str "b")), (.cst (.str "c")), (.cst (.str "d"))])) (.cmp .ne (.comp (.ix (.var 8) (.cst (.int 0))) [8] (.nm 8) .seq (.ix (.var 5) (.cst (.int 1))) none) (.lst [(.cst (.str "b")), (.cst (.str "a")), (.cst (.str "c")), (.cst (.str "d"))]))) [(.ret (.cst (.bool false)))] []) (mE (some (.dat (guD G0))) (some (.dat (rowD Laf 2))) (some (.dat (guD G2))) (some (.dat V2)) (some (.dat (guD G4))) (some (.dat (.tuple (V4.map rowF)))) none) (mE (some (.dat (guD G0))) (some (.dat (rowD Laf 2))) (some (.dat (guD G2))) (some (.dat V2)) (some (.dat (guD G4))) (some (.dat (.tuple (V4.map rowF)))) none) := s_iff (tb_orf (tb_cmp (op_ev d1 rfl rfl) (op_ev (v := .lst (L4.map .str)) (jv_lst (dv_cons (jv_cst _) rfl <| dv_cons (jv_cst _) rfl <| dv_cons (jv_cst _) rfl <| dv_cons (jv_cst _) rfl dv_nil)) rfl rfl) (self_ne (strs4 (by decide +kernel) (by decide)))) (tb_cmp (op_ev d2 rfl rfl) (op_ev (v := .lst (L4b.map .str)) (jv_lst (dv_cons (jv_cst _) rfl <| dv_cons (jv_cst _) rfl <| dv_cons (jv_cst _) rfl <| dv_cons (jv_cst _) rfl dv_nil)) rfl rfl) (self_ne (strs4 (by decide +kernel) (by decide)))))
  have s10 : NX (evF Pr (n + 2)) [] (.asg 6 (.tup [(.tup [(.cst (.str "")), (.cst (.str "a")), (.cst (.str "b")), (.cst (.str "c")), (.cst (.str "d"))]), (.tup [(.cst (.int 0)), (.cst (.int 1)), (.cst (.int 2)), (.cst (.int 3)), (.cst (.int 4)), (.tup [(.cst (.str "back"))])]), (.tup [])])) (mE (some (.dat (guD G0))) (some (.dat (rowD Laf 2))) (some (.dat (guD G2))) (some (.dat V2)) (some (.dat (guD G4))) (some (.dat (.tuple (V4.map rowF)))) none) (mE (some (.dat (guD G0))) (some (.dat (rowD Laf 2))) (some (.dat (guD G2))) (some (.dat V2)) (some (.dat (guD G4))) (some (.dat (.tuple (V4.map rowF)))) (some (.dat (rowD L4 5)))) := nx_asg (v := .dat (rowD L4 5)) (jv_tup (dv_cons (jv_tup (dv_cons (jv_cst _) rfl <| dv_cons (jv_cst _) rfl <| dv_cons (jv_cst _) rfl <| dv_cons (jv_cst _) rfl <| dv_cons (jv_cst _) rfl <| dv_nil)) rfl <| dv_cons (jv_tup (dv_cons (jv_cst _) rfl <| dv_cons (jv_cst _) rfl <| dv_cons (jv_cst _) rfl <| dv_cons (jv_cst _) rfl <| dv_cons (jv_cst _) rfl <| dv_cons (jv_tup (dv_cons (jv_cst _) rfl <| dv_nil)) rfl <| dv_nil)) rfl <| dv_cons (jv_tup ( dv_nil)) rfl <| dv_nil)) rfl (show 6 < 9 by decide)
  have z4 : Sz 5 1600 (.tuple [.str "c", R4]) := fn_sz (ls := L4) (m := 5) (low4 (by decide +kernel)) (by decide) (by decide) (by decide +kernel)
  have b5 : bin2 .mul (.tuple [rowD L4 5]) (.int 5) = some (.dat R4) := mulT (x := rowD L4 5) (m := 5) (by decide)
  have t5 := eb_cmp (o := .eq) (v := true) (cl := evF Pr (n + 2)) (ρ := (mE (some (.dat (guD G0))) (some (.dat (rowD Laf 2))) (some (.dat (guD G2))) (some (.dat V2)) (some (.dat (guD G4))) (some (.dat (.tuple (V4.map rowF)))) (some (.dat (rowD L4 5))))) (a := (.ix (.ix (.var 5) (.cst (.int 3))) (.cst (.int 3)))) (b := (.tup [(.cst (.str "c")), (.bin .mul (.tup [(.var 6)]) (.cst (.int 5)))])) (x := .tuple [.str "c", R4]) (y := .tuple [.str "c", R4])
    (op_ev (jv_ix (x := rowF L4d) (op_ev (v := .dat (rowF L4d)) (jv_ix (op_var (d := .tuple (V4.map rowF)) rfl) (op_cst (.int 3)) rfl) rfl rfl) (op_cst (.int 3)) rfl) rfl rfl)
    (op_ev (v := .dat (.tuple [.str "c", R4])) (jv_tup (dv_cons (jv_cst _) rfl <| dv_cons (jv_bin (op_ev (jv_tup (dv_cons (jv_var (d := rowD L4 5) rfl) rfl dv_nil)) rfl rfl) (op_cst _) b5) rfl dv_nil)) rfl rfl)
    ((eqs (z4.shp (by decide)) (z4.shp (by decide))).trans (by rw [Sz.self z4]))
  have s11 := s_ret (cl := evF Pr (n + 2)) (lk := []) (ρ := (mE (some (.dat (guD G0))) (some (.dat (rowD Laf 2))) (some (.dat (guD G2))) (some (.dat V2)) (some (.dat (guD G4))) (some (.dat (.tuple (V4.map rowF)))) (some (.dat (rowD L4 5))))) (e := (.cmp .eq (.ix (.ix (.var 5) (.cst (.int 3))) (.cst (.int 3))) (.tup [(.cst (.str "c")), (.bin .mul (.tup [(.var 6)]) (.cst (.int 5)))]))) rfl t5
  exact run_js (d := w9) (vs := []) rfl ((ss_nx s0).trans ((ss_nx s1).trans ((ss_nx s2).trans ((ss_nx s3).trans ((ss_nx s4).trans ((ss_nx s5).trans ((ss_nx s6).trans ((ss_nx s7).trans ((ss_nx s8).trans ((ss_nx s9).trans ((ss_nx s10).trans ((ss_fin (.inr ⟨_, _, s11⟩)).trans s11))))))))))))
end
end K64
set_option Elab.async false
set_option linter.all false
set_option maxRecDepth 100000
set_option maxHeartbeats 4100000
/-! The law. -/
namespace K64
open PySem Pv
theorem op_repr {cl : Fun} {ρ : Pv.Env} {e : T} {x : D} (h : OP cl e ρ x) (r : Rpr x) : OP cl (.blt .repr e) ρ (.str x.shown) := op_ev (jv_blt h r.run) rfl rfl
theorem eqv_refl_str (x : Str) : PyData.eqv (.str x) (.str x) = true := beq_self_eq_true x
/-! ### both orders -/
theorem names_ok {T : List Str} {P : List Pr2} (h : ∀ p ∈ P, Po T p) : ∀ t ∈ P.map (·.1), t ∈ T := fun t ht => by
  obtain ⟨p, hp, e⟩ := List.mem_map.mp ht
  subst e
  exact (h p hp).n
theorem both_ok {T : List Str} {gs hs : List (List Ru)} (hg : GuOk T gs) (hh : GuOk T hs) : ∀ p ∈ named gs ++ named hs, Po T p := fun p hp => (List.mem_append.mp hp).elim ((named_ok hg).1 p) ((named_ok hh).1 p)
theorem mOf_le {T : List Str} {P P' : List Pr2} (h : ∀ p ∈ P, Po T p) (h' : ∀ p ∈ P', Po T p) (hs : ∀ p ∈ P, p ∈ P') : mOf P ≤ mOf P' := by
  have e := (mOf_lt h).2
  have e' := (mOf_lt h').2
  have n0 : ∀ {P : List Pr2}, (∀ p ∈ P, Po T p) → (∀ x ∈ P.map (·.2), 0 ≤ x) ∧ ∀ x ∈ P.map (·.2), x ≤ 4 := fun {P} h => ⟨fun x hx => by
    obtain ⟨p, hp, e⟩ := List.mem_map.mp hx
    subst e
    exact (h p hp).lo, fun x hx => by
    obtain ⟨p, hp, e⟩ := List.mem_map.mp hx
    subst e
    have := (h p hp).hi
    omega⟩
  rw [maxZ_fold (n0 h).1] at e
  rw [maxZ_fold (n0 h').1] at e'
  have := top_le (k := 4) (n0 h).2 (by decide) (n0 h').2 fun x hx => by
    obtain ⟨p, hp, e⟩ := List.mem_map.mp hx
    exact .inl (List.mem_map.mpr ⟨p, hs p hp, e⟩)
  unfold top0 at this
  omega
theorem val_comm {T : List Str} {gs hs : List (List Ru)} (hg : GuOk T gs) (hh : GuOk T hs) : valD2 hs gs = valD2 gs hs := by
  have sw : ∀ {α : Type} {xs ys : List α} {x : α}, x ∈ xs ++ ys → x ∈ ys ++ xs := fun h => List.mem_append.mpr (List.mem_append.mp h).symm
  unfold valD2
  rw [labels_same (N := (named hs ++ named gs).map (·.1)) (M := (named gs ++ named hs).map (·.1)) fun t => by
    rw [List.map_append, List.map_append]
    exact ⟨sw, sw⟩]
  rw [Nat.le_antisymm (mOf_le (both_ok hh hg) (both_ok hg hh) fun p hp => sw hp) (mOf_le (both_ok hg hh) (both_ok hh hg) fun p hp => sw hp)]
theorem val_rpr {T : List Str} {gs hs : List (List Ru)} (hT : TOk T) (hg : GuOk T gs) (hh : GuOk T hs) : Rpr (valD2 gs hs) := by
  have hP := both_ok hg hh
  have hN := names_ok hP
  exact (free_sz (labels_low fun t ht => hT.low t (hN t ht)) (Nat.le_succ_of_le (labels_few hN hT.len)) (mOf_lt hP).1).rpr (by decide) (by decide)
/-! ### a lap -/
def S5 : List (List Str) := [["a", "b", "c"], ["f", "a", "zz"], ["b", "elevenll", "a"], ["z"], []]
theorem s5_ok : ∀ T ∈ S5, TOk T := fun T hT => by
  have h := List.all_eq_true.mp (show (S5.all fun T => T.all low && decide (T.length ≤ 3)) = true by decide +kernel) T hT
  rw [Bool.and_eq_true] at h
  exact ⟨fun t ht => List.all_eq_true.mp h.1 t ht, of_decide_eq_true h.2⟩
def strL (T : List Str) : D := .list (T.map .str)
def lE (ns : List Int) (kvs : List (Str × D)) (a2 a3 a4 a5 a6 a7 a8 a9 a10 a11 a12 : Option Vl) : Pv.Env := [some (.scr ns), some (.dct kvs), a2, a3, a4, a5, a6, a7, a8, a9, a10, a11, a12]
section
variable {n b : Nat} {cs ns : List Int} {kvs : List (Str × D)} {T : List Str} {a2 a3 a4 a5 a6 a7 a8 a9 a10 a11 a12 : Option Vl}
/-- one more than what is drawn -/
theorem xe_one {many : Int} {e : Pv.T} {Q : Vl × Pv.Env → Prop} (hf : Fd cs b kvs) (hb : b < 1000000) (ha : AR (evF Pr (n + 1)) e (lE ns kvs a2 a3 a4 a5 a6 a7 a8 a9 a10 a11 a12) (.dat (.int many))) (h1 : 1 ≤ many) (h2 : many < 1000)
    (q : ∀ r kvs', Fd cs (b + 1) kvs' → 1 ≤ r → r ≤ many → Q (.dat (.int r), lE ns kvs' a2 a3 a4 a5 a6 a7 a8 a9 a10 a11 a12)) : XE (evF Pr (n + 1)) (.bin .add (.cst (.int 1)) (.call 4 [.var 1, e])) (lE ns kvs a2 a3 a4 a5 a6 a7 a8 a9 a10 a11 a12) Q := by
  refine xe_binr (p := .vl (.dat (.int 1))) (opnd_ev rfl (jv_cst _)) rfl ?_
  refine xe_drawi (i := 1) rfl hf hb ha h1 (by omega) fun r kvs' hf' r0 r1 => ⟨.int 1, .int r, _, rfl, rfl, badd, ?_⟩
  exact q (1 + r) kvs' hf' (by omega) (by omega)
end
end K64
set_option Elab.async false
set_option linter.all false
set_option maxRecDepth 100000
set_option maxHeartbeats 4100000
/-! The law's laps. -/
namespace K64
open PySem Pv
def GV (T : List Str) (d : D) : Prop := ∃ g : List (List Ru), d = guD g ∧ GuOk T g
def gdB : List S := [(.asg 10 (.comp (.bin .add (.cst (.int 1)) (.call 4 [(.var 1), (.cst (.int 3))])) [12] (.nm 12) .rng (.bin .add (.cst (.int 1)) (.call 4 [(.var 1), (.cst (.int 3))])) none)), (.app 7 (.call 7 [(.var 1), (.var 6), (.var 5), (.var 10)]))]
def lapB : List S := [(.asg 3 (.ix (.lst [(.lst [(.cst (.str "a")), (.cst (.str "b")), (.cst (.str "c"))]), (.lst [(.cst (.str "f")), (.cst (.str "a")), (.cst (.str "zz"))]), (.lst [(.cst (.str "b")), (.cst (.str "elevenll")), (.cst (.str "a"))]), (.lst [(.cst (.str "z"))]), (.lst [])]) (.call 4 [(.var 1), (.cst (.int 5))]))), (.asg 4 (.bin .add (.cst (.int 1)) (.call 4 [(.var 1), (.cst (.int 4))]))), (.asg 5 (.comp (.tup [(.var 11), (.call 4 [(.var 1), (.var 4)])]) [11] (.nm 11) .seq (.bin .add (.var 3) (.var 3)) none)), (.asg 6 (.bin .add (.bin .add (.var 3) (.var 5)) (.lst [(.cst (.str ""))]))), (.asg 7 (.lst [])), (.forl (.nm 8) .rng (.cst (.int 2)) gdB), (.asg 9 (.blt .repr (.call 8 [(.ix (.var 7) (.cst (.int 0))), (.ix (.var 7) (.cst (.int 1)))]))), (.iff (.or (.cmp .ne (.blt .repr (.call 0 [(.ix (.var 7) (.cst (.int 0))), (.ix (.var 7) (.cst (.int 1)))])) (.var 9)) (.cmp .ne (.blt .repr (.call 0 [(.ix (.var 7) (.cst (.int 1))), (.ix (.var 7) (.cst (.int 0)))])) (.var 9))) [(.ret (.cst (.bool false)))] [])]
theorem badL2 {x y : List D} (h : x.length + y.length ≤ 16777216) : bin2 .add (.list x) (.list y) = some (.lst (x ++ y)) := badL h
section
variable {n b : Nat} {cs ns : List Int} {kvs : List (Str × D)} {T : List Str} {a2 a3 a4 a5 a6 a7 a8 a9 a10 a11 a12 : Option Vl}
/-- the guides -/
theorem guide_turn {W P gs : List D} (hT : TOk T) (hf : Fd cs b kvs) (hb : b + 100 < 1000000) (hW : ∀ d ∈ W, GW T d) (w1 : 1 ≤ W.length) (w2 : W.length ≤ 1000) (hP : ∀ d ∈ P, PP T d) (p2 : P.length ≤ 50) (hg : gs.length ≤ 10) :
    XS (evF Pr (n + 5)) [] gdB (lE ns kvs a2 a3 a4 (some (.lst P)) (some (.lst W)) (some (.lst gs)) a8 a9 a10 a11 none)
      fun q => ∃ kvs' c10 g, q = (.nx, lE ns kvs' a2 a3 a4 (some (.lst P)) (some (.lst W)) (some (.lst (gs ++ [g]))) a8 a9 c10 a11 none) ∧ GV T g ∧ Fd cs (b + 58) kvs' := by
  refine xs_asg rfl (xe_comp rfl ?_)
  refine xe_one (many := 3) hf (by omega) (ar_cst _) (by decide) (by decide) fun k kvs1 hf1 k1 k3 => ?_
  refine ⟨.int k, nums k.toNat, rfl, if_pos (decide_eq_true ⟨by omega, by omega⟩), rfl, ?_⟩
  refine xc_turns (fun ds zs ρ => ∃ kvs y, ρ = lE ns kvs a2 a3 a4 (some (.lst P)) (some (.lst W)) (some (.lst gs)) a8 a9 a10 a11 y ∧ (∀ d ∈ zs, ∃ k : Int, d = .int k ∧ 0 ≤ k ∧ k ≤ 3) ∧ zs.length + ds.length = k.toNat ∧ Fd cs (b + 1 + zs.length) kvs) (fun zs ρ h => ?_) (fun d ds zs ρ h => ?_) (nums k.toNat) [] _ ⟨kvs1, none, rfl, (fun _ h => by cases h), by rw [show (nums k.toNat).length = k.toNat by unfold nums; rw [List.length_map, List.length_range]]; exact Nat.zero_add _, hf1⟩
  · obtain ⟨kvs2, y, e, hz, hl, hf2⟩ := h
    subst e
    rw [List.length_nil] at hl
    refine ⟨show 10 < 13 by decide, ?_⟩
    show XS _ _ _ (lE ns kvs2 a2 a3 a4 (some (.lst P)) (some (.lst W)) (some (.lst gs)) a8 a9 (some (.lst zs)) a11 none) _
    refine xs_app (ds := gs) rfl ?_
    refine xe_callg (as := [.lend 1, .lend 6, .lend 5, .lend 10]) (vs := [.dct kvs2, .lst W, .lst P, .lst zs]) (ags_cons (ag_dct rfl) <| ags_cons (ag_lst rfl) <| ags_cons (ag_lst rfl) <| ags_cons (ag_lst rfl) ags_nil) rfl rfl ((r7 (n := n + 1) hT hf2 (by omega) hW w1 w2 hP p2 hz (by omega) (by omega)).mono fun p hp => ?_)
    obtain ⟨g, kvs3, e, hgo, hf3⟩ := hp
    subst e
    exact ⟨_, rfl, guD g, gs, rfl, rfl, by omega, xs_nil ⟨kvs3, some (.lst zs), guD g, rfl, ⟨g, rfl, hgo⟩, hf3.mono (by omega)⟩⟩
  · obtain ⟨kvs2, y, e, hz, hl, hf2⟩ := h
    subst e
    rw [List.length_cons] at hl
    refine ⟨lE ns kvs2 a2 a3 a4 (some (.lst P)) (some (.lst W)) (some (.lst gs)) a8 a9 a10 a11 (some (.dat d)), rfl, ?_⟩
    refine xe_one (many := 3) hf2 (by omega) (ar_cst _) (by decide) (by decide) fun r kvs3 hf3 r1 r3 => ⟨.int r, rfl, kvs3, some (.dat d), rfl, fun x hx => ?_, by rw [List.length_append]; show zs.length + 1 + _ = _; omega, by rw [List.length_append]; exact hf3⟩
    rcases List.mem_append.mp hx with hx | hx
    · exact hz x hx
    · rw [List.mem_singleton.mp hx]; exact ⟨r, rfl, by omega, r3⟩
theorem lap_turn (hf : Fd cs b kvs) (hb : b + 1000 < 1000000) : XS (evF Pr (n + 5)) [] lapB (lE ns kvs a2 a3 a4 a5 a6 a7 a8 a9 a10 none none)
      fun q => ∃ kvs' c3 c4 c5 c6 c7 c8 c9 c10, q = (.nx, lE ns kvs' a2 c3 c4 c5 c6 c7 c8 c9 c10 none none) ∧ Fd cs (b + 130) kvs' := by
  have e5 : EV (evF Pr (n + 5)) (.lst [(.lst [(.cst (.str "a")), (.cst (.str "b")), (.cst (.str "c"))]), (.lst [(.cst (.str "f")), (.cst (.str "a")), (.cst (.str "zz"))]), (.lst [(.cst (.str "b")), (.cst (.str "elevenll")), (.cst (.str "a"))]), (.lst [(.cst (.str "z"))]), (.lst [])]) (lE ns kvs a2 a3 a4 a5 a6 a7 a8 a9 a10 none none) (.lst (S5.map strL)) :=
    jv_lst (dv_cons (jv_lst (dv_cons (jv_cst _) rfl <| dv_cons (jv_cst _) rfl <| dv_cons (jv_cst _) rfl dv_nil)) rfl <| dv_cons (jv_lst (dv_cons (jv_cst _) rfl <| dv_cons (jv_cst _) rfl <| dv_cons (jv_cst _) rfl dv_nil)) rfl <| dv_cons (jv_lst (dv_cons (jv_cst _) rfl <| dv_cons (jv_cst _) rfl <| dv_cons (jv_cst _) rfl dv_nil)) rfl <| dv_cons (jv_lst (dv_cons (jv_cst _) rfl dv_nil)) rfl <| dv_cons (jv_lst dv_nil) rfl dv_nil)
  refine xs_asg rfl (xe_ixr (opnd_ev rfl e5) rfl ?_)
  refine xe_drawi (i := 1) (many := 5) rfl hf (by omega) (ar_cst _) (by decide) (by decide) fun r kvs1 hf1 r0 r1 => ?_
  obtain ⟨d, hd, e⟩ := ix_in (ds := S5.map strL) r0 r1
  refine ⟨.list (S5.map strL), .int r, d, rfl, rfl, e, show 3 < 13 by decide, ?_⟩
  obtain ⟨T, hTm, e⟩ := List.mem_map.mp hd
  subst e
  have hT := s5_ok T hTm
  clear hd hTm e5 e
  show XS _ _ _ (lE ns kvs1 a2 (some (.dat (strL T))) a4 a5 a6 a7 a8 a9 a10 none none) _
  refine xs_asg rfl (xe_one (many := 4) hf1 (by omega) (ar_cst _) (by decide) (by decide) fun top kvs2 hf2 t1 t4 => ⟨show 4 < 13 by decide, ?_⟩)
  show XS _ _ _ (lE ns kvs2 a2 (some (.dat (strL T))) (some (.dat (.int top))) a5 a6 a7 a8 a9 a10 none none) _
  have lm : (T.map PyData.str).length = T.length := List.length_map ..
  have lT := hT.len
  refine xs_asg rfl (xe_comp rfl (xe_ev (v := .lst (T.map .str ++ T.map .str)) (jv_bin (op_var (d := .list (T.map .str)) rfl) (op_var (d := .list (T.map .str)) rfl) (badL (by rw [lm]; omega))) ⟨.list (T.map .str ++ T.map .str), _, rfl, rfl, rfl, ?_⟩))
  refine xc_turns (fun ds P ρ => ∃ kvs y, ρ = lE ns kvs a2 (some (.dat (strL T))) (some (.dat (.int top))) a5 a6 a7 a8 a9 a10 y none ∧ (∀ d ∈ P, PP T d) ∧ (∀ d ∈ ds, ∃ t ∈ T, d = .str t) ∧ P.length + ds.length = T.length + T.length ∧ Fd cs (b + 2 + P.length) kvs) (fun P ρ h => ?_) (fun d ds P ρ h => ?_) (T.map .str ++ T.map .str) [] _ ⟨kvs2, none, rfl, (fun _ h => by cases h), (fun d h => ?_), by rw [List.length_append, lm]; exact Nat.zero_add _, hf2⟩
  · obtain ⟨kvs3, y, e, hP, _, hl, hf3⟩ := h
    subst e
    rw [List.length_nil] at hl
    refine ⟨show 5 < 13 by decide, ?_⟩
    show XS _ _ _ (lE ns kvs3 a2 (some (.dat (strL T))) (some (.dat (.int top))) (some (.lst P)) a6 a7 a8 a9 a10 none none) _
    refine xs_asg rfl (xe_ev (v := .lst ((T.map .str ++ P) ++ [.str ""])) (jv_bin (op_ev (v := .lst (T.map .str ++ P)) (jv_bin (op_var (d := .list (T.map .str)) rfl) (op_lst (ds := P) rfl) (badL (by rw [lm]; omega))) rfl rfl) (op_ev (jv_lst (dv_cons (jv_cst _) rfl dv_nil)) rfl rfl) (badL (by rw [List.length_append, lm]; show _ + 1 ≤ _; omega))) ⟨show 6 < 13 by decide, ?_⟩)
    have hW : ∀ d ∈ (T.map PyData.str ++ P) ++ [PyData.str ""], GW T d := fun d hd => by
      rcases List.mem_append.mp hd with hd | hd
      · rcases List.mem_append.mp hd with hd | hd
        · obtain ⟨t, ht, e⟩ := List.mem_map.mp hd
          exact ⟨.nm t, e.symm, fun _ => ht⟩
        · obtain ⟨p, e, hp⟩ := hP d hd
          exact ⟨.sp p, e, hp⟩
      · exact ⟨.nm "", List.mem_singleton.mp hd, fun h => (h rfl).elim⟩
    have lW : ((T.map PyData.str ++ P) ++ [PyData.str ""]).length = T.length + P.length + 1 := by rw [List.length_append, List.length_append, lm]; rfl
    generalize (T.map PyData.str ++ P) ++ [PyData.str ""] = W at hW lW
    show XS _ _ _ (lE ns kvs3 a2 (some (.dat (strL T))) (some (.dat (.int top))) (some (.lst P)) (some (.lst W)) a7 a8 a9 a10 none none) _
    refine xs_asg rfl (xe_ev (jv_lst dv_nil) ⟨show 7 < 13 by decide, ?_⟩)
    show XS _ _ _ (lE ns kvs3 a2 (some (.dat (strL T))) (some (.dat (.int top))) (some (.lst P)) (some (.lst W)) (some (.lst [])) a8 a9 a10 none none) _
    refine xs_for rfl rfl (xe_ev (jv_cst _) ⟨.int 2, [.int 0, .int 1], rfl, rfl, ?_⟩)
    refine xs_turns (fun ds ρ => ∃ kvs gs c8 c10, ρ = lE ns kvs a2 (some (.dat (strL T))) (some (.dat (.int top))) (some (.lst P)) (some (.lst W)) (some (.lst gs)) c8 a9 c10 none none ∧ (∀ d ∈ gs, GV T d) ∧ gs.length + ds.length = 2 ∧ Fd cs (b + 8 + 58 * gs.length) kvs) (fun ρ h => ?_) (fun d ds ρ h => ?_) _ _ ⟨kvs3, [], a8, a10, rfl, (fun _ h => by cases h), rfl, hf3.mono (by show _ ≤ b + 8; omega)⟩
    · obtain ⟨kvs4, gs, c8, c10, e, hg, hl2, hf4⟩ := h
      subst e
      rw [List.length_nil] at hl2
      match gs, hl2, hg, hf4 with
      | [x, y], _, hg, hf4 =>
        obtain ⟨g, ex, hg1⟩ := hg x (.head _)
        obtain ⟨h, ey, hh1⟩ := hg y (.tail _ (.head _))
        subst ex ey
        have R := val_rpr hT hg1 hh1
        have ax : ∀ {c9 : Option Vl}, AR (evF Pr (n + 5)) (.ix (.var 7) (.cst (.int 0))) (lE ns kvs4 a2 (some (.dat (strL T))) (some (.dat (.int top))) (some (.lst P)) (some (.lst W)) (some (.lst [guD g, guD h])) c8 c9 c10 none none) (.dat (guD g)) := ar_ix (op_lst (ds := [guD g, guD h]) rfl) (op_cst (.int 0)) rfl
        have ay : ∀ {c9 : Option Vl}, AR (evF Pr (n + 5)) (.ix (.var 7) (.cst (.int 1))) (lE ns kvs4 a2 (some (.dat (strL T))) (some (.dat (.int top))) (some (.lst P)) (some (.lst W)) (some (.lst [guD g, guD h])) c8 c9 c10 none none) (.dat (guD h)) := ar_ix (op_lst (ds := [guD g, guD h]) rfl) (op_cst (.int 1)) rfl
        refine xs_asg rfl (xe_ev (jv_blt (op_ev (jv_call (av_cons ax (av_cons ay av_nil)) (r8 hT hg1 hh1) rfl) rfl rfl) R.run) ⟨show 9 < 13 by decide, ?_⟩)
        show XS _ _ _ (lE ns kvs4 a2 (some (.dat (strL T))) (some (.dat (.int top))) (some (.lst P)) (some (.lst W)) (some (.lst [guD g, guD h])) c8 (some (.dat (.str (valD2 g h).shown))) c10 none none) _
        have nn : cmp2 .ne (.str (valD2 g h).shown) (.str (valD2 g h).shown) = some false := (nes (shp_shown R.lay) (shp_shown R.lay)).trans (by rw [eqv_refl_str]; rfl)
        have q1 := K64.r0 (n := n + 3) hT hg1 hh1
        have q2 := K64.r0 (n := n + 3) hT hh1 hg1
        rw [val_comm hg1 hh1] at q2
        refine xs_if (xt_tb (tb_orf (tb_cmp (op_repr (op_ev (jv_call (av_cons ax (av_cons ay av_nil)) q1 rfl) rfl rfl) R) (op_var rfl) nn) (tb_cmp (op_repr (op_ev (jv_call (av_cons ay (av_cons ax av_nil)) q2 rfl) rfl rfl) R) (op_var rfl) nn)) (xs_nil (xs_nil ?_)))
        exact ⟨kvs4, _, _, _, _, _, _, _, _, rfl, hf4.mono (by show b + 8 + 58 * 2 ≤ _; omega)⟩
    · obtain ⟨kvs4, gs, c8, c10, e, hg, hl2, hf4⟩ := h
      subst e
      rw [List.length_cons] at hl2
      refine ⟨lE ns kvs4 a2 (some (.dat (strL T))) (some (.dat (.int top))) (some (.lst P)) (some (.lst W)) (some (.lst gs)) (some (.dat d)) a9 c10 none none, rfl, ?_⟩
      refine (guide_turn hT hf4 (by omega) hW (by omega) (by omega) hP (by omega) (by omega)).mono fun q hq => ?_
      obtain ⟨kvs5, c, g, e, hg5, hf5⟩ := hq
      subst e
      refine ⟨kvs5, gs ++ [g], some (.dat d), c, rfl, fun x hx => ?_, by rw [List.length_append]; show gs.length + 1 + _ = _; omega, by rw [List.length_append]; exact hf5.mono (by show _ ≤ b + 8 + 58 * (gs.length + 1); omega)⟩
      rcases List.mem_append.mp hx with hx | hx
      · exact hg x hx
      · rw [List.mem_singleton.mp hx]; exact hg5
  · obtain ⟨kvs3, y, e, hP, hd, hl, hf3⟩ := h
    subst e
    rw [List.length_cons] at hl
    obtain ⟨t, ht, e⟩ := hd d (.head _)
    subst e
    refine ⟨lE ns kvs3 a2 (some (.dat (strL T))) (some (.dat (.int top))) a5 a6 a7 a8 a9 a10 (some (.dat (.str t))) none, rfl, ?_⟩
    refine xe_tup (xd_cons (xe_ev (jv_var (d := .str t) rfl) ⟨_, rfl, xd_cons ?_⟩))
    refine xe_drawi (i := 1) (many := top) rfl hf3 (by omega) (ar_var rfl) t1 (by omega) fun r kvs4 hf4 r0 r1 => ⟨.int r, rfl, xd_nil ⟨pairD (t, r), rfl, kvs4, some (.dat (.str t)), rfl, fun x hx => ?_, fun x hx => hd x (.tail _ hx), by rw [List.length_append]; show P.length + 1 + _ = _; omega, by rw [List.length_append]; exact hf4⟩⟩
    rcases List.mem_append.mp hx with hx | hx
    · exact hP x hx
    · rw [List.mem_singleton.mp hx]
      exact ⟨(t, r), rfl, ⟨ht, r0, show r < 5 by omega⟩⟩
  · rcases List.mem_append.mp h with h | h <;>
    · obtain ⟨t, ht, e⟩ := List.mem_map.mp h
      exact ⟨t, ht, e.symm⟩
def Lq (q : Pv.Flow × Pv.Env) : Prop := q.1 = .ret (.dat (.bool true))
theorem law_run : CS (evF Pr (n + 6) 10 [.scr ns]) fun p => p.1 = .dat (.bool true) := by
  refine cs_run (d := w10) rfl rfl ?_
  refine XS.mono (Q := Lq) ?_ fun q h => ?_
  · obtain ⟨p, e1, hp⟩ := cs_ex (feed_run (n := n + 4) (ns := ns))
    subst hp
    have hf : Fd (ns.take 63) 0 (feed (.list ((ns.take 63).map .int)) 0 0 0) := ⟨0, 0, 0, by decide, by decide, by decide, rfl⟩
    refine xs_asg rfl (xe_ev (jv_call (av_cons (ar_scr rfl) av_nil) e1 rfl) ⟨show 1 < 13 by decide, ?_⟩)
    generalize feed (.list ((ns.take 63).map .int)) 0 0 0 = kvs at hf
    generalize ns.take 63 = cs at hf
    show XS _ _ _ (lE ns kvs none none none none none none none none none none none) _
    refine xs_if (xt_tb (tb_not (tb_call av_nil (r9 (n := n + 2)) rfl)) (xs_nil ?_))
    refine xs_for rfl rfl (xe_ev (jv_cst _) ⟨.int 3, [.int 0, .int 1, .int 2], rfl, rfl, ?_⟩)
    refine xs_turns (fun ds ρ => ∃ kvs b c2 c3 c4 c5 c6 c7 c8 c9 c10, ρ = lE ns kvs c2 c3 c4 c5 c6 c7 c8 c9 c10 none none ∧ Fd cs b kvs ∧ b + 130 * ds.length = 390) (fun ρ h => ?_) (fun d ds ρ h => ?_) _ _ ⟨kvs, 0, none, none, none, none, none, none, none, none, none, rfl, hf, rfl⟩
    · obtain ⟨kvs1, b, c2, c3, c4, c5, c6, c7, c8, c9, c10, e, hf1, _⟩ := h
      subst e
      exact xs_ret rfl (xe_ev (jv_cst _) rfl)
    · obtain ⟨kvs1, b, c2, c3, c4, c5, c6, c7, c8, c9, c10, e, hf1, hb⟩ := h
      subst e
      rw [List.length_cons] at hb
      refine ⟨lE ns kvs1 (some (.dat d)) c3 c4 c5 c6 c7 c8 c9 c10 none none, rfl, ?_⟩
      refine (lap_turn hf1 (by omega)).mono fun q hq => ?_
      obtain ⟨kvs2, d3, d4, d5, d6, d7, d8, d9, d10, e, hf2⟩ := hq
      subst e
      exact ⟨kvs2, b + 130, _, _, _, _, _, _, _, _, _, rfl, hf2, by omega⟩
  · obtain ⟨fl, ρ⟩ := q
    have h : fl = .ret (.dat (.bool true)) := h
    subst h
    rfl
theorem law_true : ∀ ns : List Int, ns.length ≤ 63 → ∃ fin, evF Pr 200 10 [.scr ns] = .ok (.dat (.bool true), fin) := fun ns _ => by
  obtain ⟨p, e, h⟩ := cs_ex (law_run (n := 194) (ns := ns))
  obtain ⟨v, fin⟩ := p
  cases h
  exact ⟨fin, e⟩
end
end K64
set_option Elab.async false
set_option linter.all false
set_option maxRecDepth 100000
set_option maxHeartbeats 0
namespace K64
open PySem L2 Pv PyProof.Rows
def PS : List (List Str) := ([["guide", "other"], ["guide"], ["names", "many"], ["_law_script"], ["_law_feed_here", "_law_many"], ["_law_feed_here", "_law_things"], ["_law_feed_here", "_law_wheres", "_law_places", "_law_states", "_law_is_last"], ["_law_feed_here", "_law_wheres", "_law_places", "_law_sizes"], ["_law_mine", "_law_theirs"], [], ["_law_script"]] : List (List Str))
/-- a def of a class -/
def inCls (st : Stmt) (q : Nat) : Stmt := match st with
  | .ClassDef (body := b) .. => b.getD q (.Pass ⟨0, 0, 0, 0⟩)
  | _ => .Pass ⟨0, 0, 0, 0⟩
section
variable {P : Program} {wd : World} {K : PySem.W.Frag} {mg : Str → Option Value} {base : Heap} {w : Wd}
theorem ok0 (T : Tx K mg w) (R : Er P wd K mg base w) (B : Ks K w) {n : Nat} (h : Lvls P wd K mg base w Pr n) {f : Addr} {fd : FuncData} (F : L2.Fun K "free_programs" "free_programs" (top 3) f fd) : FnG P wd K mg base (n + 3) f fd ["guide", "other"] (spD K w (evF Pr (n + 1)) 0) := fn_F F rfl sc0 rfl rfl fun cdv A outer s H E lk hr gd => b0 T R (gc_of sc0 gd hr) (hasF_of h B hr)
theorem ok1 (T : Tx K mg w) (R : Er P wd K mg base w) (B : Ks K w) {n : Nat} (h : Lvls P wd K mg base w Pr n) {f : Addr} {fd : FuncData} (F : L2.Fun K "named_in" "named_in" (top 4) f fd) : FnG P wd K mg base (n + 3) f fd ["guide"] (spD K w (evF Pr (n + 1)) 1) := fn_F F rfl sc1 rfl rfl fun cdv A outer s H E lk hr gd => b1 T R (gc_of sc1 gd hr) (hasF_of h B hr)
theorem ok2 (T : Tx K mg w) (R : Er P wd K mg base w) (B : Ks K w) {n : Nat} (h : Lvls P wd K mg base w Pr n) {f : Addr} {fd : FuncData} (F : L2.Fun K "free_lines" "free_lines" (top 5) f fd) : FnG P wd K mg base (n + 3) f fd ["names", "many"] (spD K w (evF Pr (n + 1)) 2) := fn_F F rfl sc2 rfl rfl fun cdv A outer s H E lk hr gd => b2 T R (gc_of sc2 gd hr) (hasF_of h B hr)
theorem ok3 (T : Tx K mg w) (R : Er P wd K mg base w) (B : Ks K w) {n : Nat} (h : Lvls P wd K mg base w Pr n) {f : Addr} {fd : FuncData} (F : L2.Fun K "_law_feed" "_law_feed" (top 7) f fd) : FnG P wd K mg base (n + 3) f fd ["_law_script"] (spD K w (evF Pr (n + 1)) 3) := fn_F F rfl sc3 rfl rfl fun cdv A outer s H E lk hr gd => b3 T R (gc_of sc3 gd hr) (hasF_of h B hr)
theorem ok4 (T : Tx K mg w) (R : Er P wd K mg base w) (B : Ks K w) {n : Nat} (h : Lvls P wd K mg base w Pr n) {f : Addr} {fd : FuncData} (F : L2.Fun K "_law_draw" "_law_draw" (top 8) f fd) : FnG P wd K mg base (n + 3) f fd ["_law_feed_here", "_law_many"] (spD K w (evF Pr (n + 1)) 4) := fn_F F rfl sc4 rfl rfl fun cdv A outer s H E lk hr gd => b4 T R (gc_of sc4 gd hr) (hasF_of h B hr)
theorem ok5 (T : Tx K mg w) (R : Er P wd K mg base w) (B : Ks K w) {n : Nat} (h : Lvls P wd K mg base w Pr n) {f : Addr} {fd : FuncData} (F : L2.Fun K "_law_pick" "_law_pick" (top 9) f fd) : FnG P wd K mg base (n + 3) f fd ["_law_feed_here", "_law_things"] (spD K w (evF Pr (n + 1)) 5) := fn_F F rfl sc5 rfl rfl fun cdv A outer s H E lk hr gd => b5 T R (gc_of sc5 gd hr) (hasF_of h B hr)
theorem ok6 (T : Tx K mg w) (R : Er P wd K mg base w) (B : Ks K w) {n : Nat} (h : Lvls P wd K mg base w Pr n) {f : Addr} {fd : FuncData} (F : L2.Fun K "_law_rule" "_law_rule" (top 10) f fd) : FnG P wd K mg base (n + 3) f fd ["_law_feed_here", "_law_wheres", "_law_places", "_law_states", "_law_is_last"] (spD K w (evF Pr (n + 1)) 6) := fn_F F rfl sc6 rfl rfl fun cdv A outer s H E lk hr gd => b6 T R (gc_of sc6 gd hr) (hasF_of h B hr)
theorem ok7 (T : Tx K mg w) (R : Er P wd K mg base w) (B : Ks K w) {n : Nat} (h : Lvls P wd K mg base w Pr n) {f : Addr} {fd : FuncData} (F : L2.Fun K "_law_guide" "_law_guide" (top 11) f fd) : FnG P wd K mg base (n + 3) f fd ["_law_feed_here", "_law_wheres", "_law_places", "_law_sizes"] (spD K w (evF Pr (n + 1)) 7) := fn_F F rfl sc7 rfl rfl fun cdv A outer s H E lk hr gd => b7 T R (gc_of sc7 gd hr) (hasF_of h B hr)
theorem ok8 (T : Tx K mg w) (R : Er P wd K mg base w) (B : Ks K w) {n : Nat} (h : Lvls P wd K mg base w Pr n) {f : Addr} {fd : FuncData} (F : L2.Fun K "_law_free" "_law_free" (top 12) f fd) : FnG P wd K mg base (n + 3) f fd ["_law_mine", "_law_theirs"] (spD K w (evF Pr (n + 1)) 8) := fn_F F rfl sc8 rfl rfl fun cdv A outer s H E lk hr gd => b8 T R (gc_of sc8 gd hr) (hasF_of h B hr)
theorem ok9 (T : Tx K mg w) (R : Er P wd K mg base w) (B : Ks K w) {n : Nat} (h : Lvls P wd K mg base w Pr n) {f : Addr} {fd : FuncData} (F : L2.Fun K "_law_by_hand" "_law_by_hand" (top 13) f fd) : FnG P wd K mg base (n + 3) f fd [] (spD K w (evF Pr (n + 1)) 9) := fn_F F rfl sc9 rfl rfl fun cdv A outer s H E lk hr gd => b9 T R (gc_of sc9 gd hr) (hasF_of h B hr)
theorem ok10 (T : Tx K mg w) (R : Er P wd K mg base w) (B : Ks K w) {n : Nat} (h : Lvls P wd K mg base w Pr n) {f : Addr} {fd : FuncData} (F : L2.Fun K "law" "law" (top 14) f fd) : FnG P wd K mg base (n + 3) f fd ["_law_script"] (spD K w (evF Pr (n + 1)) 10) := fn_F F rfl sc10 rfl rfl fun cdv A outer s H E lk hr gd => b10 T R (gc_of sc10 gd hr) (hasF_of h B hr)
end
theorem all_mk {l : PySem.W.OpenLaw} {wd : World} {K : PySem.W.Frag} {h : Heap} {mg : Str → Option Value} {fa a0 a1 a2 a3 a4 a5 a6 a7 a8 a9 a10 : Addr} (X : K.In h) (G : h.Ns mainGlobals mg) (hfa : mg "law" = some (.ref fa)) {od0 an0 od1 an1 od2 an2 od3 an3 od4 an4 od5 an5 od6 an6 od7 an7 od8 an8 od9 an9 od10 an10 : Option Addr} {sl0 sl1 sl2 sl3 sl4 sl5 sl6 sl7 sl8 sl9 sl10 : Array (Option Value)} {oc0 kV0 dc0 pm0 cd0 ct0 oc1 kV1 dc1 pm1 cd1 ct1 oc2 kV2 dc2 pm2 cd2 ct2 oc3 kV3 dc3 pm3 cd3 ct3 oc4 kV4 dc4 pm4 cd4 ct4 oc5 kV5 dc5 pm5 cd5 ct5 oc6 kV6 dc6 pm6 cd6 ct6 oc7 kV7 dc7 pm7 cd7 ct7 oc8 kV8 dc8 pm8 cd8 ct8 oc9 kV9 dc9 pm9 cd9 ct9 oc10 kV10 dc10 pm10 cd10 ct10 : Value}
    (n0 : PySem.W.nsIn K mainGlobals "free_programs" = some (some (.ref a0))) (l0 : K.lookup a0 = some ⟨oc0, od0, .func (PySem.W.fnOf "free_programs" "free_programs" (defArgs (top 3)) (defBody (top 3)) (defScope (top 3)) .none kV0 dc0 pm0 an0 cd0 ct0), sl0⟩) (c0 : PySem.W.codeIn K cd0 "free_programs" = true) (k0 : PySem.W.keepIn K (.ref a0) = true)
    (n1 : PySem.W.nsIn K mainGlobals "named_in" = some (some (.ref a1))) (l1 : K.lookup a1 = some ⟨oc1, od1, .func (PySem.W.fnOf "named_in" "named_in" (defArgs (top 4)) (defBody (top 4)) (defScope (top 4)) .none kV1 dc1 pm1 an1 cd1 ct1), sl1⟩) (c1 : PySem.W.codeIn K cd1 "named_in" = true) (k1 : PySem.W.keepIn K (.ref a1) = true)
    (n2 : PySem.W.nsIn K mainGlobals "free_lines" = some (some (.ref a2))) (l2 : K.lookup a2 = some ⟨oc2, od2, .func (PySem.W.fnOf "free_lines" "free_lines" (defArgs (top 5)) (defBody (top 5)) (defScope (top 5)) .none kV2 dc2 pm2 an2 cd2 ct2), sl2⟩) (c2 : PySem.W.codeIn K cd2 "free_lines" = true) (k2 : PySem.W.keepIn K (.ref a2) = true)
    (n3 : PySem.W.nsIn K mainGlobals "_law_feed" = some (some (.ref a3))) (l3 : K.lookup a3 = some ⟨oc3, od3, .func (PySem.W.fnOf "_law_feed" "_law_feed" (defArgs (top 7)) (defBody (top 7)) (defScope (top 7)) .none kV3 dc3 pm3 an3 cd3 ct3), sl3⟩) (c3 : PySem.W.codeIn K cd3 "_law_feed" = true) (k3 : PySem.W.keepIn K (.ref a3) = true)
    (n4 : PySem.W.nsIn K mainGlobals "_law_draw" = some (some (.ref a4))) (l4 : K.lookup a4 = some ⟨oc4, od4, .func (PySem.W.fnOf "_law_draw" "_law_draw" (defArgs (top 8)) (defBody (top 8)) (defScope (top 8)) .none kV4 dc4 pm4 an4 cd4 ct4), sl4⟩) (c4 : PySem.W.codeIn K cd4 "_law_draw" = true) (k4 : PySem.W.keepIn K (.ref a4) = true)
    (n5 : PySem.W.nsIn K mainGlobals "_law_pick" = some (some (.ref a5))) (l5 : K.lookup a5 = some ⟨oc5, od5, .func (PySem.W.fnOf "_law_pick" "_law_pick" (defArgs (top 9)) (defBody (top 9)) (defScope (top 9)) .none kV5 dc5 pm5 an5 cd5 ct5), sl5⟩) (c5 : PySem.W.codeIn K cd5 "_law_pick" = true) (k5 : PySem.W.keepIn K (.ref a5) = true)
    (n6 : PySem.W.nsIn K mainGlobals "_law_rule" = some (some (.ref a6))) (l6 : K.lookup a6 = some ⟨oc6, od6, .func (PySem.W.fnOf "_law_rule" "_law_rule" (defArgs (top 10)) (defBody (top 10)) (defScope (top 10)) .none kV6 dc6 pm6 an6 cd6 ct6), sl6⟩) (c6 : PySem.W.codeIn K cd6 "_law_rule" = true) (k6 : PySem.W.keepIn K (.ref a6) = true)
    (n7 : PySem.W.nsIn K mainGlobals "_law_guide" = some (some (.ref a7))) (l7 : K.lookup a7 = some ⟨oc7, od7, .func (PySem.W.fnOf "_law_guide" "_law_guide" (defArgs (top 11)) (defBody (top 11)) (defScope (top 11)) .none kV7 dc7 pm7 an7 cd7 ct7), sl7⟩) (c7 : PySem.W.codeIn K cd7 "_law_guide" = true) (k7 : PySem.W.keepIn K (.ref a7) = true)
    (n8 : PySem.W.nsIn K mainGlobals "_law_free" = some (some (.ref a8))) (l8 : K.lookup a8 = some ⟨oc8, od8, .func (PySem.W.fnOf "_law_free" "_law_free" (defArgs (top 12)) (defBody (top 12)) (defScope (top 12)) .none kV8 dc8 pm8 an8 cd8 ct8), sl8⟩) (c8 : PySem.W.codeIn K cd8 "_law_free" = true) (k8 : PySem.W.keepIn K (.ref a8) = true)
    (n9 : PySem.W.nsIn K mainGlobals "_law_by_hand" = some (some (.ref a9))) (l9 : K.lookup a9 = some ⟨oc9, od9, .func (PySem.W.fnOf "_law_by_hand" "_law_by_hand" (defArgs (top 13)) (defBody (top 13)) (defScope (top 13)) .none kV9 dc9 pm9 an9 cd9 ct9), sl9⟩) (c9 : PySem.W.codeIn K cd9 "_law_by_hand" = true) (k9 : PySem.W.keepIn K (.ref a9) = true)
    (n10 : PySem.W.nsIn K mainGlobals "law" = some (some (.ref a10))) (l10 : K.lookup a10 = some ⟨oc10, od10, .func (PySem.W.fnOf "law" "law" (defArgs (top 14)) (defBody (top 14)) (defScope (top 14)) .none kV10 dc10 pm10 an10 cd10 ct10), sl10⟩) (c10 : PySem.W.codeIn K cd10 "law" = true) (k10 : PySem.W.keepIn K (.ref a10) = true)
    (z_int : PySem.W.nsIn K mainGlobals "int" = some none)
    (z_isinstance : PySem.W.nsIn K mainGlobals "isinstance" = some none)
    (z_len : PySem.W.nsIn K mainGlobals "len" = some none)
    (z_list : PySem.W.nsIn K mainGlobals "list" = some none)
    (z_max : PySem.W.nsIn K mainGlobals "max" = some none)
    (z_range : PySem.W.nsIn K mainGlobals "range" = some none)
    (z_repr : PySem.W.nsIn K mainGlobals "repr" = some none)
    (z_set : PySem.W.nsIn K mainGlobals "set" = some none)
    (z_sorted : PySem.W.nsIn K mainGlobals "sorted" = some none)
    (z_str : PySem.W.nsIn K mainGlobals "str" = some none)
    (z_tuple : PySem.W.nsIn K mainGlobals "tuple" = some none)
    {a_BACK : Addr} {e_BACK : Option Addr} {g_BACK : Nat} {s_BACK : Array (Option Value)} {t_BACK_0 : Tok} (q_BACK : PySem.W.nsIn K mainGlobals "BACK" = some (some (.ref a_BACK))) (y_BACK : K.lookup a_BACK = some ⟨.type "tuple", e_BACK, .seq #[.str "back" t_BACK_0] g_BACK, s_BACK⟩)
    {t_LETTERS : Tok} (q_LETTERS : PySem.W.nsIn K mainGlobals "LETTERS" = some (some (.str "abcdefghijklmnopqrstuvwxyz" t_LETTERS))) :
    ∃ (fd : FuncData) (w : Wd), w.fa.T = [] ∧ (∀ (s : Shared) (u : Value), BindsTo s fd ⟨[u], []⟩ [("_law_script", u)]) ∧ ∀ base : Heap, K.In base → base.Ns mainGlobals mg → FnG l.prog wd K mg base 202 fa fd ["_law_script"] (spD K w (evF Pr 200) 10) := by
  have e : a10 = fa := by
    have z := (PySem.W.mg_of X G n10).symm.trans hfa
    cases z
    rfl
  subst e
  have F0 := fun_mk (st := top 3) l0 c0 k0
  have F1 := fun_mk (st := top 4) l1 c1 k1
  have F2 := fun_mk (st := top 5) l2 c2 k2
  have F3 := fun_mk (st := top 7) l3 c3 k3
  have F4 := fun_mk (st := top 8) l4 c4 k4
  have F5 := fun_mk (st := top 9) l5 c5 k5
  have F6 := fun_mk (st := top 10) l6 c6 k6
  have F7 := fun_mk (st := top 11) l7 c7 k7
  have F8 := fun_mk (st := top 12) l8 c8 k8
  have F9 := fun_mk (st := top 13) l9 c9 k9
  have F10 := fun_mk (st := top 14) l10 c10 k10
  let w : Wd := ⟨⟨fun k => [some a0, some a1, some a2, some a3, some a4, some a5, some a6, some a7, some a8, some a9, some a10][k]?.getD none, [], none⟩, fun j => ([] : List Addr).getD j 0, fun k => [PySem.W.fnOf "free_programs" "free_programs" (defArgs (top 3)) (defBody (top 3)) (defScope (top 3)) .none kV0 dc0 pm0 an0 cd0 ct0, PySem.W.fnOf "named_in" "named_in" (defArgs (top 4)) (defBody (top 4)) (defScope (top 4)) .none kV1 dc1 pm1 an1 cd1 ct1, PySem.W.fnOf "free_lines" "free_lines" (defArgs (top 5)) (defBody (top 5)) (defScope (top 5)) .none kV2 dc2 pm2 an2 cd2 ct2, PySem.W.fnOf "_law_feed" "_law_feed" (defArgs (top 7)) (defBody (top 7)) (defScope (top 7)) .none kV3 dc3 pm3 an3 cd3 ct3, PySem.W.fnOf "_law_draw" "_law_draw" (defArgs (top 8)) (defBody (top 8)) (defScope (top 8)) .none kV4 dc4 pm4 an4 cd4 ct4, PySem.W.fnOf "_law_pick" "_law_pick" (defArgs (top 9)) (defBody (top 9)) (defScope (top 9)) .none kV5 dc5 pm5 an5 cd5 ct5, PySem.W.fnOf "_law_rule" "_law_rule" (defArgs (top 10)) (defBody (top 10)) (defScope (top 10)) .none kV6 dc6 pm6 an6 cd6 ct6, PySem.W.fnOf "_law_guide" "_law_guide" (defArgs (top 11)) (defBody (top 11)) (defScope (top 11)) .none kV7 dc7 pm7 an7 cd7 ct7, PySem.W.fnOf "_law_free" "_law_free" (defArgs (top 12)) (defBody (top 12)) (defScope (top 12)) .none kV8 dc8 pm8 an8 cd8 ct8, PySem.W.fnOf "_law_by_hand" "_law_by_hand" (defArgs (top 13)) (defBody (top 13)) (defScope (top 13)) .none kV9 dc9 pm9 an9 cd9 ct9, PySem.W.fnOf "law" "law" (defArgs (top 14)) (defBody (top 14)) (defScope (top 14)) .none kV10 dc10 pm10 an10 cd10 ct10].getD k (PySem.W.fnOf "free_programs" "free_programs" (defArgs (top 3)) (defBody (top 3)) (defScope (top 3)) .none kV0 dc0 pm0 an0 cd0 ct0), fun k => PS.getD k [], fun k => [none, none, none, none, none, none, none, none, none, none, none][k]?.getD none⟩
  have T : Tx K mg w := ⟨a0, rfl, PySem.W.mg_of X G n0, rfl, a1, rfl, PySem.W.mg_of X G n1, rfl, a2, rfl, PySem.W.mg_of X G n2, rfl, a3, rfl, PySem.W.mg_of X G n3, rfl, a4, rfl, PySem.W.mg_of X G n4, rfl, a5, rfl, PySem.W.mg_of X G n5, rfl, a6, rfl, PySem.W.mg_of X G n6, rfl, a7, rfl, PySem.W.mg_of X G n7, rfl, a8, rfl, PySem.W.mg_of X G n8, rfl, a9, rfl, PySem.W.mg_of X G n9, rfl, a10, rfl, PySem.W.mg_of X G n10, rfl, PySem.W.mg_none_of X G z_int, PySem.W.mg_none_of X G z_isinstance, PySem.W.mg_none_of X G z_len, PySem.W.mg_none_of X G z_list, PySem.W.mg_none_of X G z_max, PySem.W.mg_none_of X G z_range, PySem.W.mg_none_of X G z_repr, PySem.W.mg_none_of X G z_set, PySem.W.mg_none_of X G z_sorted, PySem.W.mg_none_of X G z_str, PySem.W.mg_none_of X G z_tuple, _, (.ref a_BACK), (PySem.W.mg_of X G q_BACK), rfl, (fun H U => rp_tupStrs (xs := ["back"]) y_BACK (show 1 ≤ sizeLine by decide) (.cons ⟨_, rfl⟩ .nil) H U), _, (.str "abcdefghijklmnopqrstuvwxyz"), (PySem.W.mg_of X G q_LETTERS), ⟨_, rfl⟩, (fun _ _ => .str _)⟩
  have B0 := bnd_of (ps := ["guide", "other"]) F0 (fun _ _ _ _ _ _ us hl => match us, hl with | [_, _], _ => rfl) (fun _ _ _ _ _ _ us hl => match us, hl with | [_, _], _ => rfl) (fun _ _ _ _ _ _ us hl => match us, hl with | [_, _], _ => rfl)
  have B1 := bnd_of (ps := ["guide"]) F1 (fun _ _ _ _ _ _ us hl => match us, hl with | [_], _ => rfl) (fun _ _ _ _ _ _ us hl => match us, hl with | [_], _ => rfl) (fun _ _ _ _ _ _ us hl => match us, hl with | [_], _ => rfl)
  have B2 := bnd_of (ps := ["names", "many"]) F2 (fun _ _ _ _ _ _ us hl => match us, hl with | [_, _], _ => rfl) (fun _ _ _ _ _ _ us hl => match us, hl with | [_, _], _ => rfl) (fun _ _ _ _ _ _ us hl => match us, hl with | [_, _], _ => rfl)
  have B3 := bnd_of (ps := ["_law_script"]) F3 (fun _ _ _ _ _ _ us hl => match us, hl with | [_], _ => rfl) (fun _ _ _ _ _ _ us hl => match us, hl with | [_], _ => rfl) (fun _ _ _ _ _ _ us hl => match us, hl with | [_], _ => rfl)
  have B4 := bnd_of (ps := ["_law_feed_here", "_law_many"]) F4 (fun _ _ _ _ _ _ us hl => match us, hl with | [_, _], _ => rfl) (fun _ _ _ _ _ _ us hl => match us, hl with | [_, _], _ => rfl) (fun _ _ _ _ _ _ us hl => match us, hl with | [_, _], _ => rfl)
  have B5 := bnd_of (ps := ["_law_feed_here", "_law_things"]) F5 (fun _ _ _ _ _ _ us hl => match us, hl with | [_, _], _ => rfl) (fun _ _ _ _ _ _ us hl => match us, hl with | [_, _], _ => rfl) (fun _ _ _ _ _ _ us hl => match us, hl with | [_, _], _ => rfl)
  have B6 := bnd_of (ps := ["_law_feed_here", "_law_wheres", "_law_places", "_law_states", "_law_is_last"]) F6 (fun _ _ _ _ _ _ us hl => match us, hl with | [_, _, _, _, _], _ => rfl) (fun _ _ _ _ _ _ us hl => match us, hl with | [_, _, _, _, _], _ => rfl) (fun _ _ _ _ _ _ us hl => match us, hl with | [_, _, _, _, _], _ => rfl)
  have B7 := bnd_of (ps := ["_law_feed_here", "_law_wheres", "_law_places", "_law_sizes"]) F7 (fun _ _ _ _ _ _ us hl => match us, hl with | [_, _, _, _], _ => rfl) (fun _ _ _ _ _ _ us hl => match us, hl with | [_, _, _, _], _ => rfl) (fun _ _ _ _ _ _ us hl => match us, hl with | [_, _, _, _], _ => rfl)
  have B8 := bnd_of (ps := ["_law_mine", "_law_theirs"]) F8 (fun _ _ _ _ _ _ us hl => match us, hl with | [_, _], _ => rfl) (fun _ _ _ _ _ _ us hl => match us, hl with | [_, _], _ => rfl) (fun _ _ _ _ _ _ us hl => match us, hl with | [_, _], _ => rfl)
  have B9 := bnd_of (ps := []) F9 (fun _ _ _ _ _ _ us hl => match us, hl with | [], _ => rfl) (fun _ _ _ _ _ _ us hl => match us, hl with | [], _ => rfl) (fun _ _ _ _ _ _ us hl => match us, hl with | [], _ => rfl)
  have B10 := bnd_of (ps := ["_law_script"]) F10 (fun _ _ _ _ _ _ us hl => match us, hl with | [_], _ => rfl) (fun _ _ _ _ _ _ us hl => match us, hl with | [_], _ => rfl) (fun _ _ _ _ _ _ us hl => match us, hl with | [_], _ => rfl)
  have B : Ks K w := by
    refine ⟨fun k f hk => ?_, fun k f hk => ?_, fun k f hk => ?_⟩
    · match k, hk with
      | 0, hk => exact hk.elim (fun hk => by cases hk; exact k0) (fun hk => by cases hk)
      | 1, hk => exact hk.elim (fun hk => by cases hk; exact k1) (fun hk => by cases hk)
      | 2, hk => exact hk.elim (fun hk => by cases hk; exact k2) (fun hk => by cases hk)
      | 3, hk => exact hk.elim (fun hk => by cases hk; exact k3) (fun hk => by cases hk)
      | 4, hk => exact hk.elim (fun hk => by cases hk; exact k4) (fun hk => by cases hk)
      | 5, hk => exact hk.elim (fun hk => by cases hk; exact k5) (fun hk => by cases hk)
      | 6, hk => exact hk.elim (fun hk => by cases hk; exact k6) (fun hk => by cases hk)
      | 7, hk => exact hk.elim (fun hk => by cases hk; exact k7) (fun hk => by cases hk)
      | 8, hk => exact hk.elim (fun hk => by cases hk; exact k8) (fun hk => by cases hk)
      | 9, hk => exact hk.elim (fun hk => by cases hk; exact k9) (fun hk => by cases hk)
      | 10, hk => exact hk.elim (fun hk => by cases hk; exact k10) (fun hk => by cases hk)
      | k + 11, hk => exact hk.elim (fun hk => by simp [w] at hk) (fun hk => by simp [w] at hk)
    · match k, hk with
      | 0, hk => exact B0
      | 1, hk => exact B1
      | 2, hk => exact B2
      | 3, hk => exact B3
      | 4, hk => exact B4
      | 5, hk => exact B5
      | 6, hk => exact B6
      | 7, hk => exact B7
      | 8, hk => exact B8
      | 9, hk => exact B9
      | 10, hk => exact B10
      | k + 11, hk => simp [w] at hk
    · match k, hk with
      | 0, hk => cases hk
      | 1, hk => cases hk
      | 2, hk => cases hk
      | 3, hk => cases hk
      | 4, hk => cases hk
      | 5, hk => cases hk
      | 6, hk => cases hk
      | 7, hk => cases hk
      | 8, hk => cases hk
      | 9, hk => cases hk
      | 10, hk => cases hk
      | k + 11, hk => simp [w] at hk
  refine ⟨PySem.W.fnOf "law" "law" (defArgs (top 14)) (defBody (top 14)) (defScope (top 14)) .none kV10 dc10 pm10 an10 cd10 ct10, w, rfl, fun s v => .of_eq rfl, fun base _ _ => ?_⟩
  have R : Er l.prog wd K mg base w := ⟨trivial⟩
  have L : ∀ n, Lvl l.prog wd K mg base w Pr n := lvl_all (show 11 ≤ 1000 by decide) fun n h => by
    intro k f hk
    match k, hk with
    | 0, hk => exact hk.elim (fun hk => by cases hk; exact ok0 T R B h F0) (fun hk => by cases hk)
    | 1, hk => exact hk.elim (fun hk => by cases hk; exact ok1 T R B h F1) (fun hk => by cases hk)
    | 2, hk => exact hk.elim (fun hk => by cases hk; exact ok2 T R B h F2) (fun hk => by cases hk)
    | 3, hk => exact hk.elim (fun hk => by cases hk; exact ok3 T R B h F3) (fun hk => by cases hk)
    | 4, hk => exact hk.elim (fun hk => by cases hk; exact ok4 T R B h F4) (fun hk => by cases hk)
    | 5, hk => exact hk.elim (fun hk => by cases hk; exact ok5 T R B h F5) (fun hk => by cases hk)
    | 6, hk => exact hk.elim (fun hk => by cases hk; exact ok6 T R B h F6) (fun hk => by cases hk)
    | 7, hk => exact hk.elim (fun hk => by cases hk; exact ok7 T R B h F7) (fun hk => by cases hk)
    | 8, hk => exact hk.elim (fun hk => by cases hk; exact ok8 T R B h F8) (fun hk => by cases hk)
    | 9, hk => exact hk.elim (fun hk => by cases hk; exact ok9 T R B h F9) (fun hk => by cases hk)
    | 10, hk => exact hk.elim (fun hk => by cases hk; exact ok10 T R B h F10) (fun hk => by cases hk)
    | k + 11, hk => exact hk.elim (fun hk => by simp [w] at hk) (fun hk => by simp [w] at hk)
  exact L 200 10 a10 (.inl rfl)
end K64
open PySem PySem.W PyProof.Rows in
set_option maxRecDepth 100000 in
set_option maxHeartbeats 0 in
theorem PySem.Challenge.cw_outandover_k64_free_programs_holds : PySem.Challenge.rw_outandover_k64_free_programs.Holds := by
  w_on; o_law; k_head; (case hw => w_witness2)
  k_fill
  refine Pv.walk_pv (l := PySem.Challenge.rw_outandover_k64_free_programs) (n := 200) (k := 10) (Pr := K64.Pr) (x := "_law_script") rfl rfl ⟨rfl, by decide, by decide⟩ (fun w h Y => PySem.W.kIn_of Y) ?F (K64.law_true)
  case F =>
    intro w mg fa h KX G hmg
    refine' K64.all_mk KX G hmg ?n0 ?l0 ?c0 ?k0 ?n1 ?l1 ?c1 ?k1 ?n2 ?l2 ?c2 ?k2 ?n3 ?l3 ?c3 ?k3 ?n4 ?l4 ?c4 ?k4 ?n5 ?l5 ?c5 ?k5 ?n6 ?l6 ?c6 ?k6 ?n7 ?l7 ?c7 ?k7 ?n8 ?l8 ?c8 ?k8 ?n9 ?l9 ?c9 ?k9 ?n10 ?l10 ?c10 ?k10 ?z_int ?z_isinstance ?z_len ?z_list ?z_max ?z_range ?z_repr ?z_set ?z_sorted ?z_str ?z_tuple ?q_BACK ?y_BACK ?q_LETTERS
    (case n0 => k_is)
    (case l0 => k_is)
    (case c0 => k_is)
    (case k0 => k_is)
    (case n1 => k_is)
    (case l1 => k_is)
    (case c1 => k_is)
    (case k1 => k_is)
    (case n2 => k_is)
    (case l2 => k_is)
    (case c2 => k_is)
    (case k2 => k_is)
    (case n3 => k_is)
    (case l3 => k_is)
    (case c3 => k_is)
    (case k3 => k_is)
    (case n4 => k_is)
    (case l4 => k_is)
    (case c4 => k_is)
    (case k4 => k_is)
    (case n5 => k_is)
    (case l5 => k_is)
    (case c5 => k_is)
    (case k5 => k_is)
    (case n6 => k_is)
    (case l6 => k_is)
    (case c6 => k_is)
    (case k6 => k_is)
    (case n7 => k_is)
    (case l7 => k_is)
    (case c7 => k_is)
    (case k7 => k_is)
    (case n8 => k_is)
    (case l8 => k_is)
    (case c8 => k_is)
    (case k8 => k_is)
    (case n9 => k_is)
    (case l9 => k_is)
    (case c9 => k_is)
    (case k9 => k_is)
    (case n10 => k_is)
    (case l10 => k_is)
    (case c10 => k_is)
    (case k10 => k_is)
    (case z_int => k_is)
    (case z_isinstance => k_is)
    (case z_len => k_is)
    (case z_list => k_is)
    (case z_max => k_is)
    (case z_range => k_is)
    (case z_repr => k_is)
    (case z_set => k_is)
    (case z_sorted => k_is)
    (case z_str => k_is)
    (case z_tuple => k_is)
    (case q_BACK => k_is)
    (case y_BACK => k_is)
    (case q_LETTERS => k_is)
