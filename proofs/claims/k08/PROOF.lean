import PyProof.Rows.All
import Wide.All
import OpenK.AllK
import Wide.FinOn
import HandS.ForMost
import HandS.ForExc
import HandS.IsInst
import HandS.TupMul
import HandS.TupAny
import HandS.Deep
import HandS.Style
import PyProof.Rows.IntBool
import PyProof.CallStr
import HandS.Conv
import KE.KRevSl
import HandS.SortRule
import PyProof.Rows.SortKeyStr
import HandS.FStr
import HandS.Words
import PyProof.ReprLen
import PyProof.Rows.ReprOcc
import HandS.Codes
import PyProof.Rows.StrDigits
import PyProof.Rows.StrJoinMade
import PyProof.Rows.StrDigitsNeg
import PySem.Challenge.RW_outandover_k08_texts_written
set_option Elab.async false
set_option linter.all false
set_option maxRecDepth 100000
/-! A small language over plain data, in which the defs of the program and of the law are said again. -/
namespace Pv
open PySem
abbrev D := PyData
/-- what a slot holds: plain data; a def; a list or a dict that nobody else holds (lck: while it is walked) -/
inductive Vl where
  | dat (d : D)
  | fn (k : Nat)
  | lst (ds : List D)
  | lck (ds : List D)
  | dct (kvs : List (Str × D))
  /-- the script: read by one slice alone -/
  | scr (ns : List Int)
abbrev Env := List (Option Vl)
/-- a raised error: its class, its fields -/
structure Ex where
  cls : Nat
  fields : List (Str × D)
inductive Res (α : Type) where
  | ok (a : α)
  | exc (x : Ex) (ρ : Env)
  | stuck
namespace Res
def bind {α β : Type} : Res α → (α → Res β) → Res β
  | ok a, k => k a
  | exc x ρ, _ => exc x ρ
  | stuck, _ => stuck
@[simp] theorem bind_ok {α β : Type} (a : α) (k : α → Res β) : (Res.ok a).bind k = k a := rfl
@[simp] theorem bind_exc {α β : Type} (x : Ex) (ρ : Env) (k : α → Res β) : (Res.exc x ρ : Res α).bind k = .exc x ρ := rfl
@[simp] theorem bind_stuck {α β : Type} (k : α → Res β) : (Res.stuck : Res α).bind k = .stuck := rfl
end Res
/-- in a comprehension nothing may be raised -/
def Res.noX {α : Type} : Res α → Res α
  | .ok a => .ok a
  | .exc _ _ => .stuck
  | .stuck => .stuck
@[simp] theorem Res.noX_ok {α : Type} (a : α) : (Res.ok a).noX = .ok a := rfl
def get {α : Type} (o : Option α) : Res α := match o with
  | some a => .ok a
  | none => .stuck
@[simp] theorem get_some {α : Type} (a : α) : get (some a) = .ok a := rfl
@[simp] theorem get_none {α : Type} : get (none : Option α) = .stuck := rfl
def need (b : Bool) : Option Unit := if b then some () else none
inductive Bin where
  | add | sub | mul | fdiv | mod | pow
  deriving DecidableEq
inductive Cmp where
  | eq | ne | lt | le | gt | ge | mem | nmem
  deriving DecidableEq
/-- the built-in classes that isinstance asks for -/
inductive Ty where
  | int | bool | str | tuple | list
  deriving DecidableEq
inductive Blt where
  | len | isi (t : Ty) | int | list | tuple | all | sorted | repr | ord | str | rngl | rngt | upper | sortp
  deriving DecidableEq
/-- what is walked: a list, tuple or text; range(n); enumerate(xs) -/
inductive Wkd where
  | seq | rng | enum
  deriving DecidableEq
/-- what a for or a comprehension stores into -/
inductive Tg where
  | nm (i : Nat)
  | tp (is : List Nat)
inductive T where
  | var (i : Nat)
  | cst (d : D)
  | fn (k : Nat)
  | tup (es : List T)
  | fstr (es : List T)
  | join (a e : T)
  | lst (es : List T)
  | dct (ks : List Str) (es : List T)
  | bin (o : Bin) (a b : T)
  | neg (a : T)
  | not (a : T)
  | and (a b : T)
  | or (a b : T)
  | ite (c a b : T)
  | cmp (o : Cmp) (a b : T)
  | chn (o o' : Cmp) (a b c : T)
  | ix (a i : T)
  | ixd (i : Nat) (k : T)
  | ind (neg : Bool) (k : T) (i : Nat)
  | sl (a : T) (lo hi : Option T)
  | slb (a : T)
  | sls (a i : T) (k : Nat)
  | cut (i : Nat) (n : Nat)
  | call (k : Nat) (es : List T)
  | callv (i : Nat) (es : List T)
  | blt (b : Blt) (e : T)
  | comp (elt : T) (own : List Nat) (tg : Tg) (k : Wkd) (it : T) (c : Option T)
inductive S where
  | asg (i : Nat) (e : T)
  | asgs (is : List Nat) (es : List T)
  | unp (is : List Nat) (e : T)
  | aug (i : Nat) (o : Bin) (e : T)
  | putd (i : Nat) (k e : T)
  | app (i : Nat) (e : T)
  | ext (i : Nat) (e : T)
  | expr (e : T)
  | ret (e : T)
  | iff (c : T) (a b : List S)
  | forl (tg : Tg) (k : Wkd) (it : T) (body : List S)
  | pass
  | brk
  | cnt
/-! ### values -/
def Vl.view : Vl → Option D
  | .dat d => some d
  | .lst ds => some (.list ds)
  | .lck ds => some (.list ds)
  | .fn _ => none
  | .dct _ => none
  | .scr _ => none
def Vl.own : Vl → Bool
  | .dat _ => false
  | .fn _ => false
  | .lst _ => true
  | .lck _ => true
  | .dct _ => true
  | .scr _ => false
/-- .. which may be changed -/
def Vl.mut : Vl → Bool
  | .dat _ => false
  | .fn _ => false
  | .lst _ => true
  | .lck _ => false
  | .dct _ => true
  | .scr _ => false
/-- a list or a dict, given up or not -/
def LL : Vl → Bool
  | .dat (.list _) => true
  | .lst _ => true
  | .lck _ => true
  | .dct _ => true
  | _ => false
theorem mut_LL {v : Vl} (h : v.mut = true) : LL v = true := by cases v <;> first | rfl | cases h
theorem mut_own {v : Vl} (h : v.mut = true) : v.own = true := by cases v <;> first | rfl | cases h
/-- a value given up to all -/
def Vl.frz : Vl → Option D
  | .dat d => some d
  | .lst ds => some (.list ds)
  | .lck _ => none
  | .fn _ => none
  | .dct _ => none
  | .scr _ => none
/-- an operand: a value, or a slot that is looked at -/
inductive Opn where
  | vl (v : Vl)
  | pk (i : Nat)
def look (ρ : Env) : Opn → Option D
  | .vl v => v.view
  | .pk i => match ρ[i]? with
    | some (some v) => v.view
    | _ => none
/-- an own dict's item -/
def keyOf : Vl → Option Str
  | .dat (.str k) => some k
  | _ => none
def valD (kvs : List (Str × D)) (k : Str) : Option D := (kvs.find? fun q => decide (q.1 = k)).map (·.2)
def putD (kvs : List (Str × D)) (k : Str) (d : D) : List (Str × D) :=
  if (kvs.any fun q => decide (q.1 = k)) = true then kvs.map (fun q => if q.1 = k then (q.1, d) else q) else kvs ++ [(k, d)]
def lookD (ρ : Env) (i : Nat) (v : Vl) : Option (Option D) := match keyOf v, ρ[i]? with
  | some k, some (some (.dct kvs)) => some (valD kvs k)
  | _, _ => none
def T.isVar : T → Option Nat
  | .var i => some i
  | _ => none
def opnd (a : T) (k : Env → Res (Vl × Env)) (ρ : Env) : Res (Opn × Env) := match a.isVar with
  | some i => match ρ[i]? with
    | some (some _) => .ok (.pk i, ρ)
    | _ => .stuck
  | none => (k ρ).bind fun p => .ok (.vl p.1, p.2)
/-! ### operations on data -/
def lim : Nat := 16777216
def sizeOk (n : Nat) : Bool := decide (n ≤ 16777216)
def bin2 : Bin → D → D → Option Vl
  | .add, .int i, .int j => some (.dat (.int (i + j)))
  | .add, .str x, .str y => if sizeOk (x.length + y.length) then some (.dat (.str (x ++ y))) else none
  | .add, .list xs, .list ys => if sizeOk (xs.length + ys.length) then some (.lst (xs ++ ys)) else none
  | .add, .tuple xs, .tuple ys => if sizeOk (xs.length + ys.length) then some (.dat (.tuple (xs ++ ys))) else none
  | .add, .bool b, .int j => some (.dat (.int ((if b = true then (1 : Int) else 0) + j)))
  | .sub, .int i, .int j => some (.dat (.int (i - j)))
  | .sub, .bool b, .int j => some (.dat (.int ((if b = true then (1 : Int) else 0) - j)))
  | .sub, .int i, .bool b => some (.dat (.int (i - if b = true then (1 : Int) else 0)))
  | .mul, .int i, .int j => if decide (-(2 ^ 64) < i ∧ i < 2 ^ 64) || decide (-(2 ^ 64) < j ∧ j < 2 ^ 64) then some (.dat (.int (i * j))) else none
  | .fdiv, .int i, .int j => if decide (0 < j ∧ j < 1073741824) then some (.dat (.int (i / j))) else none
  | .mod, .int i, .int j => if decide (0 < j) then some (.dat (.int (i % j))) else none
  | .pow, .int i, .int j => if decide (0 ≤ j ∧ j ≤ 1000000 ∧ i.natAbs < 2 ^ 64) then some (.dat (.int (i ^ j.toNat))) else none
  | .mul, .tuple xs, .int j => if decide (xs.length ≠ 0 ∧ 2 ≤ j ∧ j ≤ 1000 ∧ xs.length ≤ 1000) then some (.dat (.tuple (List.replicate j.toNat xs).flatten)) else none
  | .mul, .str x, .int j => if decide (x.length ≠ 0 ∧ 2 ≤ j ∧ j ≤ 1000 ∧ x.length ≤ 1000) then some (.dat (.str ⟨(List.replicate j.toNat x.cps).foldl (fun p q => p ++ q) #[]⟩)) else none
  | .mul, .list xs, .int j => if decide (0 ≤ j ∧ j ≤ 1000000) && sizeOk (xs.length * j.toNat) then some (.lst (List.replicate j.toNat xs).flatten) else none
  | _, _, _ => none
def shp (d : D) : Bool := SeqAt.shaped d
def memD (x : D) : D → Option Bool
  | .list ys => some (ys.any fun z => PyData.eqv z x)
  | .tuple ys => some (ys.any fun z => PyData.eqv z x)
  | _ => none
def strIn (x y : Str) : Bool := !(Builtin.Str.occurrences y x 0 y.length 1).isEmpty
def cmp2 : Cmp → D → D → Option Bool
  | .eq, x, y => if shp x && shp y then some (PyData.eqv x y) else none
  | .ne, x, y => if shp x && shp y then some (!PyData.eqv x y) else none
  | .lt, .int i, .int j => some (decide (i < j))
  | .le, .int i, .int j => some (decide (i ≤ j))
  | .gt, .int i, .int j => some (decide (j < i))
  | .ge, .int i, .int j => some (decide (j ≤ i))
  | .mem, .str x, .str y => some (strIn x y)
  | .mem, x, y => if shp x && shp y then memD x y else none
  | .nmem, .str x, .str y => some (!strIn x y)
  | .nmem, x, y => if shp x && shp y then (memD x y).map (!·) else none
  | _, _, _ => none
def seqOf : D → Option (List D)
  | .list xs => some xs
  | .tuple xs => some xs
  | .str x => if sizeOk x.length then some (x.cps.toList.map fun c => .str ⟨#[c]⟩) else none
  | _ => none
def ix2 : D → D → Option D
  | .list xs, .int i => L2.atI xs i
  | .tuple xs, .int i => L2.atI xs i
  | .str x, .int i => if sizeOk x.length then (L2.atI x.cps.toList i).map fun c => .str ⟨#[c]⟩ else none
  | _, _ => none
def cutL {α : Type} (xs : List α) (lo hi : Option Int) : List α :=
  (xs.drop (HT.sIx xs.length 0 lo)).take (HT.sIx xs.length xs.length hi - HT.sIx xs.length 0 lo)
def slice2 (lo hi : Option Int) : D → Option Vl
  | .list xs => some (.lst (cutL xs lo hi))
  | .tuple xs => some (.dat (.tuple (cutL xs lo hi)))
  | .str x => if sizeOk x.length then some (.dat (.str (L2.cutS x lo hi))) else none
  | _ => none
def rev1 : D → Option Vl
  | .list xs => some (.lst xs.reverse)
  | .tuple xs => some (.dat (.tuple xs.reverse))
  | _ => none
/-- a field of an f-string -/
def txtOf : Vl → Option Str
  | .dat (.str x) => if sizeOk x.length then some x else none
  | .dat (.int i) => if decide (i.natAbs.log2 < 1920) then some (toString i) else none
  | _ => none
def itemsL : D → Option (List D)
  | .list xs => some xs
  | .tuple xs => some xs
  | _ => none
def pickB {α : Type} (b : Int × Int × Int) (xs : List α) : List α := (sliceRange b.1 b.2.1 b.2.2).filterMap (fun i => xs[i]?)
def steps2 (k : Nat) : D → D → Option Vl
  | .list xs, .int i => if k = 0 then none else some (.lst (pickB (sliceBounds (some i) none (some (k : Int)) xs.length) xs))
  | _, _ => none
def nums (n : Nat) : List D := (List.range n).map fun (k : Nat) => .int (k : Int)
def enumD (n : Int) : List D → List D
  | [] => []
  | d :: ds => .tuple [.int n, d] :: enumD (n + 1) ds
def itemsOf : Wkd → D → Option (List D)
  | .seq, d => seqOf d
  | .rng, .int i => if decide (0 ≤ i ∧ i ≤ 16777216) then some (nums i.toNat) else none
  | .enum, .list xs => if sizeOk xs.length then some (enumD 0 xs) else none
  | _, _ => none
def isiD : Ty → D → Bool
  | .int, .int _ => true
  | .int, .bool _ => true
  | .bool, .bool _ => true
  | .str, .str _ => true
  | .tuple, .tuple _ => true
  | .list, .list _ => true
  | _, _ => false
def strsOf : List D → Option (List Str)
  | [] => some []
  | .str x :: r => (strsOf r).map (x :: ·)
  | _ :: _ => none
/-- the texts in order -/
def leS (x y : Str) : Bool := !Spec.ltCps y.cps.toList x.cps.toList
def join2 (a : Str) (x : D) : Option Str := (itemsL x).bind fun xs => (strsOf xs).bind fun ys => if decide ((ys.map (·.length)).sum + ys.length * a.length ≤ 16777216) then some (Txt.join a ys) else none
def sortS (xs : List Str) : List Str := xs.mergeSort leS
/-- pairs of a text and a whole number, in order -/
def ltSI (p q : Str × Int) : Bool := if p.1 = q.1 then decide (p.2 < q.2) else decide (p.1.cps.toList < q.1.cps.toList)
def leP (p q : Str × Int) : Bool := !ltSI q p
def pairsOf : List D → Option (List (Str × Int))
  | [] => some []
  | .tuple [.str x, .int i] :: r => (pairsOf r).map ((x, i) :: ·)
  | _ :: _ => none
def pairD (p : Str × Int) : D := .tuple [.str p.1, .int p.2]
def sortP (xs : List (Str × Int)) : List (Str × Int) := xs.mergeSort leP
def boolsOf : List D → Option (List Bool)
  | [] => some []
  | .bool x :: r => (boolsOf r).map (x :: ·)
  | _ :: _ => none
def blt1 : Blt → D → Option Vl
  | .len, .list xs => some (.dat (.int xs.length))
  | .len, .tuple xs => some (.dat (.int xs.length))
  | .len, .str x => if sizeOk x.length then some (.dat (.int x.length)) else none
  | .isi t, d => some (.dat (.bool (isiD t d)))
  | .int, .int i => some (.dat (.int i))
  | .list, .list xs => some (.lst xs)
  | .list, .tuple xs => some (.lst xs)
  | .tuple, .list xs => some (.dat (.tuple xs))
  | .tuple, .tuple xs => some (.dat (.tuple xs))
  | .all, .list xs => (boolsOf xs).map fun bs => .dat (.bool (bs.all id))
  | .sorted, .list xs => if decide (xs.length < 64) then (strsOf xs).map fun ys => .lst ((sortS ys).map .str) else none
  | .repr, d => if d.canLay0 && d.showable && sizeOk d.shown.length && decide (d.depth ≤ 60) then some (.dat (.str d.shown)) else none
  | .ord, .str x => if x.length = 1 then some (.dat (.int (x.cps.getD 0 0 : Nat))) else none
  | .str, .int i => if decide (i.natAbs.log2 < 1920) then some (.dat (.str (toString i))) else none
  | .str, .bool b => some (.dat (.str (if b then "True" else "False")))
  | .rngl, .int i => if decide (0 ≤ i ∧ i ≤ 16777216) then some (.lst (nums i.toNat)) else none
  | .rngt, .int i => if decide (0 ≤ i ∧ i ≤ 16777216) then some (.dat (.tuple (nums i.toNat))) else none
  | .upper, .str x => if decide (x.length ≤ 5592405) then some (.dat (.str (Txt.upper x))) else none
  | .sortp, .list xs => (pairsOf xs).map fun ps => .lst ((sortP ps).map pairD)
  | _, _ => none
/-! ### the env -/
def Env.put (ρ : Env) (i : Nat) (v : Vl) : Option Env := if decide (i < ρ.length) then some (ρ.set i (some v)) else none
def Env.puts : Env → List Nat → List D → Option Env
  | ρ, [], [] => some ρ
  | ρ, i :: is, d :: ds => (ρ.put i (.dat d)).bind fun ρ' => Env.puts ρ' is ds
  | _, _, _ => none
def Env.wipe (ρ : Env) : List Nat → Env
  | [] => ρ
  | i :: is => (Env.wipe ρ is).set i none
/-- the slots at is as they stand in ρ₀ -/
def keepV : Option (Option Vl) → Option Vl
  | some (some v) => some v
  | _ => none
def Env.back (ρ₀ ρ : Env) : List Nat → Env
  | [] => ρ
  | i :: is => (Env.back ρ₀ ρ is).set i (keepV ρ₀[i]?)
/-- a comprehension's own names may not hide what is held alone -/
def ownOk (ρ : Env) (own : List Nat) : Bool := own.all fun i => match ρ[i]? with
  | some (some v) => !v.own
  | _ => true
def store (tg : Tg) (d : D) (ρ : Env) : Option Env := match tg with
  | .nm i => ρ.put i (.dat d)
  | .tp is => match d with
    | .tuple ds => if ds.length = is.length then ρ.puts is ds else none
    | _ => none
/-- what is walked is locked -/
def lockO (o : Opn) (ρ : Env) : Env := match o with
  | .vl _ => ρ
  | .pk i => match ρ[i]? with
    | some (some (.lst ds)) => ρ.set i (some (.lck ds))
    | _ => ρ
def unlockO (ρ₀ : Env) (o : Opn) (ρ : Env) : Env := match o with
  | .vl _ => ρ
  | .pk i => match ρ₀[i]?, ρ[i]? with
    | some (some (.lst _)), some (some (.lck ds)) => ρ.set i (some (.lst ds))
    | _, _ => ρ
inductive Flow where
  | nx | brk | cnt
  | ret (v : Vl)
/-- what a call hands back: the value, its parameters' slots -/
abbrev Fun := Nat → List Vl → Res (Vl × List (Option Vl))
/-- an argument -/
inductive Arg where
  | vl (v : Vl)
  | lend (i : Nat)
def argVal : Vl → Option Vl
  | .fn k => some (.fn k)
  | .scr ns => some (.scr ns)
  | .dat d => some (.dat d)
  | .lst ds => some (.dat (.list ds))
  | .lck _ => none
  | .dct _ => none
def argOf (a : T) (k : Env → Res (Vl × Env)) (ρ : Env) : Res (Arg × Env) :=
  match a.isVar with
  | some i => match ρ[i]? with
    | some (some (.lst _)) => .ok (.lend i, ρ)
    | some (some (.dct _)) => .ok (.lend i, ρ)
    | _ => (k ρ).bind fun p => (get (argVal p.1)).bind fun v => .ok (.vl v, p.2)
  | none => (k ρ).bind fun p => (get (argVal p.1)).bind fun v => .ok (.vl v, p.2)
def lends : List Arg → List Nat
  | [] => []
  | .lend i :: r => i :: lends r
  | .vl _ :: r => lends r
def argV (ρ : Env) : Arg → Option Vl
  | .vl v => some v
  | .lend i => match ρ[i]? with
    | some (some (.lst ds)) => some (.lst ds)
    | some (some (.dct kvs)) => some (.dct kvs)
    | _ => none
def argVs (ρ : Env) : List Arg → Option (List Vl)
  | [] => some []
  | a :: r => (argV ρ a).bind fun v => (argVs ρ r).map (v :: ·)
def giveBack (ρ : Env) : List Arg → List (Option Vl) → Option Env
  | [], [] => some ρ
  | .vl _ :: r, _ :: s => giveBack ρ r s
  | .lend i :: r, some v :: s => giveBack (ρ.set i (some v)) r s
  | _, _ => none
def nodupB : List Nat → Bool
  | [] => true
  | i :: r => !r.contains i && nodupB r
/-- the call itself -/
def doCall (f : List Vl → Res (Vl × List (Option Vl))) (as : List Arg) (ρ : Env) : Res (Vl × Env) :=
  if nodupB (lends as) then
    (get (argVs ρ as)).bind fun vs => match f vs with
      | .ok (v, fin) => (get (giveBack ρ as fin)).bind fun ρ' => .ok (v, ρ')
      | .exc x fin => match giveBack ρ as fin with
        | some ρ' => .exc x ρ'
        | none => .stuck
      | .stuck => .stuck
  else .stuck
def truth : Vl → Option Bool
  | .dat (.bool b) => some b
  | _ => none
/-- a comprehension's turns -/
def compTurns (own : List Nat) (tg : Tg) (c : Env → Res (Bool × Env)) (f : Env → Res (Vl × Env)) : List D → List D → Env → Res (List D × Env)
  | [], acc, ρ => .ok (acc, ρ)
  | d :: ds, acc, ρ => (get (store tg d (ρ.wipe own))).bind fun ρ1 => (c ρ1).bind fun p => match p.1 with
    | true => (f p.2).bind fun q => (get q.1.frz).bind fun y => compTurns own tg c f ds (acc ++ [y]) q.2
    | false => compTurns own tg c f ds acc p.2
/-- a for's turns -/
def forTurns (tg : Tg) (f : Env → Res (Flow × Env)) : List D → Env → Res (Flow × Env)
  | [], ρ => .ok (.nx, ρ)
  | d :: ds, ρ => (get (store tg d ρ)).bind fun ρ1 => (f ρ1).bind fun p => match p.1 with
    | .nx => forTurns tg f ds p.2
    | .cnt => forTurns tg f ds p.2
    | .brk => .ok (.nx, p.2)
    | .ret v => .ok (.ret v, p.2)
section
variable (cl : Fun)
mutual
def evE : T → Env → Res (Vl × Env)
  | .var i, ρ => match ρ[i]? with
    | some (some (.dat d)) => .ok (.dat d, ρ)
    | some (some (.fn k)) => .ok (.fn k, ρ)
    | some (some (.scr k)) => .ok (.scr k, ρ)
    | some (some (.lst ds)) => .ok (.dat (.list ds), ρ.set i (some (.dat (.list ds))))
    | _ => .stuck
  | .cst d, ρ => .ok (.dat d, ρ)
  | .fn k, ρ => .ok (.fn k, ρ)
  | .tup es, ρ => (evDs es ρ).bind fun p => .ok (.dat (.tuple p.1), p.2)
  | .fstr es, ρ => (evFs es Str.empty ρ).bind fun p => .ok (.dat (.str p.1), p.2)
  | .join a e, ρ => (evE a ρ).bind fun p => (get (keyOf p.1)).bind fun s => (opnd e (evE e) p.2).bind fun q => (get (look q.2 q.1)).bind fun x => (get (join2 s x)).bind fun z => .ok (.dat (.str z), q.2)
  | .lst es, ρ => (evDs es ρ).bind fun p => .ok (.lst p.1, p.2)
  | .dct ks es, ρ => (evDs es ρ).bind fun p => .ok (.dct (ks.zip p.1), p.2)
  | .bin o a b, ρ => (opnd a (evE a) ρ).bind fun p => (opnd b (evE b) p.2).bind fun q =>
      (get (look q.2 p.1)).bind fun x => (get (look q.2 q.1)).bind fun y => (get (bin2 o x y)).bind fun v => .ok (v, q.2)
  | .neg a, ρ => (evE a ρ).bind fun p => match p.1 with
    | .dat (.int i) => .ok (.dat (.int (-i)), p.2)
    | _ => .stuck
  | .not a, ρ => (evE a ρ).bind fun p => (get (truth p.1)).bind fun b => .ok (.dat (.bool (!b)), p.2)
  | .and a b, ρ => (evE a ρ).bind fun p => (get (truth p.1)).bind fun c => match c with
    | true => evE b p.2
    | false => .ok (.dat (.bool false), p.2)
  | .or a b, ρ => (evE a ρ).bind fun p => (get (truth p.1)).bind fun c => match c with
    | true => .ok (.dat (.bool true), p.2)
    | false => evE b p.2
  | .ite c a b, ρ => (evT c ρ).bind fun p => match p.1 with
    | true => evE a p.2
    | false => evE b p.2
  | .cmp o a b, ρ => (opnd a (evE a) ρ).bind fun p => (opnd b (evE b) p.2).bind fun q =>
      (get (look q.2 p.1)).bind fun x => (get (look q.2 q.1)).bind fun y => (get (cmp2 o x y)).bind fun v => .ok (.dat (.bool v), q.2)
  | .chn o o' a b c, ρ => (opnd a (evE a) ρ).bind fun p => (opnd b (evE b) p.2).bind fun q =>
      (get (look q.2 p.1)).bind fun x => (get (look q.2 q.1)).bind fun y => (get (cmp2 o x y)).bind fun v => match v with
        | true => (opnd c (evE c) q.2).bind fun r => (get (look r.2 q.1)).bind fun y' => (get (look r.2 r.1)).bind fun z => (get (cmp2 o' y' z)).bind fun v' => .ok (.dat (.bool v'), r.2)
        | false => .ok (.dat (.bool false), q.2)
  | .ix a i, ρ => (opnd a (evE a) ρ).bind fun p => (opnd i (evE i) p.2).bind fun q =>
      (get (look q.2 p.1)).bind fun x => (get (look q.2 q.1)).bind fun y => (get (ix2 x y)).bind fun d => .ok (.dat d, q.2)
  | .ixd i k, ρ => match ρ[i]? with
    | some (some (.dct _)) => (evE k ρ).bind fun p => (get (lookD p.2 i p.1)).bind fun o => (get o).bind fun d => .ok (.dat d, p.2)
    | _ => .stuck
  | .ind n k i, ρ => (evE k ρ).bind fun p => (get (lookD p.2 i p.1)).bind fun o => .ok (.dat (.bool (n != o.isSome)), p.2)
  | .sl a lo hi, ρ => (opnd a (evE a) ρ).bind fun p => (evO lo p.2).bind fun q => (evO hi q.2).bind fun r =>
      (get (look r.2 p.1)).bind fun x => (get (slice2 q.1 r.1 x)).bind fun v => .ok (v, r.2)
  | .slb a, ρ => (opnd a (evE a) ρ).bind fun p => (get (look p.2 p.1)).bind fun x => (get (rev1 x)).bind fun v => .ok (v, p.2)
  | .sls a i k, ρ => (opnd a (evE a) ρ).bind fun p => (opnd i (evE i) p.2).bind fun q =>
      (get (look q.2 p.1)).bind fun x => (get (look q.2 q.1)).bind fun y => (get (steps2 k x y)).bind fun v => .ok (v, q.2)
  | .cut i n, ρ => match ρ[i]? with
    | some (some (.scr ns)) => .ok (.lst ((ns.take n).map .int), ρ)
    | _ => .stuck
  | .call k es, ρ => (evAs es ρ).bind fun p => doCall (cl k) p.1 p.2
  | .callv i es, ρ => match ρ[i]? with
    | some (some (.fn k)) => (evAs es ρ).bind fun p => doCall (cl k) p.1 p.2
    | _ => .stuck
  | .blt b e, ρ => (opnd e (evE e) ρ).bind fun p => (get (look p.2 p.1)).bind fun x => (get (blt1 b x)).bind fun v => .ok (v, p.2)
  | .comp elt own tg k it c, ρ => (opnd it (evE it) ρ).bind fun p => (get (look p.2 p.1)).bind fun x => (get (itemsOf k x)).bind fun ds => (get (need (ownOk p.2 own))).bind fun _ =>
      (compTurns own tg (evC c) (evE elt) ds [] (lockO p.1 p.2)).noX.bind fun q => .ok (.lst q.1, unlockO p.2 p.1 (Env.back p.2 q.2 own))
/-- a test -/
def evT : T → Env → Res (Bool × Env)
  | .not a, ρ => (evT a ρ).bind fun p => .ok (!p.1, p.2)
  | .and a b, ρ => (evT a ρ).bind fun p => match p.1 with
    | true => evT b p.2
    | false => .ok (false, p.2)
  | .or a b, ρ => (evT a ρ).bind fun p => match p.1 with
    | true => .ok (true, p.2)
    | false => evT b p.2
  | .cmp o a b, ρ => (opnd a (evE a) ρ).bind fun p => (opnd b (evE b) p.2).bind fun q =>
      (get (look q.2 p.1)).bind fun x => (get (look q.2 q.1)).bind fun y => (get (cmp2 o x y)).bind fun v => .ok (v, q.2)
  | .chn o o' a b c, ρ => (opnd a (evE a) ρ).bind fun p => (opnd b (evE b) p.2).bind fun q =>
      (get (look q.2 p.1)).bind fun x => (get (look q.2 q.1)).bind fun y => (get (cmp2 o x y)).bind fun v => match v with
        | true => (opnd c (evE c) q.2).bind fun r => (get (look r.2 q.1)).bind fun y' => (get (look r.2 r.1)).bind fun z => (get (cmp2 o' y' z)).bind fun v' => .ok (v', r.2)
        | false => .ok (false, q.2)
  | .call k es, ρ => (evAs es ρ).bind fun p => (doCall (cl k) p.1 p.2).bind fun q => (get (truth q.1)).bind fun b => .ok (b, q.2)
  | .callv i es, ρ => match ρ[i]? with
    | some (some (.fn k)) => (evAs es ρ).bind fun p => (doCall (cl k) p.1 p.2).bind fun q => (get (truth q.1)).bind fun b => .ok (b, q.2)
    | _ => .stuck
  | .blt b e, ρ => (opnd e (evE e) ρ).bind fun p => (get (look p.2 p.1)).bind fun x => (get (blt1 b x)).bind fun v => (get (truth v)).bind fun b => .ok (b, p.2)
  | .ind n k i, ρ => (evE k ρ).bind fun p => (get (lookD p.2 i p.1)).bind fun o => .ok (n != o.isSome, p.2)
  | .var i, ρ => match ρ[i]? with
    | some (some (.dat (.bool b))) => .ok (b, ρ)
    | _ => .stuck
  | .ix a i, ρ => (opnd a (evE a) ρ).bind fun p => (opnd i (evE i) p.2).bind fun q =>
      (get (look q.2 p.1)).bind fun x => (get (look q.2 q.1)).bind fun y => (get (ix2 x y)).bind fun d => (get (truth (.dat d))).bind fun b => .ok (b, q.2)
  | _, _ => .stuck
def evC : Option T → Env → Res (Bool × Env)
  | none, ρ => .ok (true, ρ)
  | some c, ρ => evT c ρ
def evO : Option T → Env → Res (Option Int × Env)
  | none, ρ => .ok (none, ρ)
  | some e, ρ => (evE e ρ).bind fun p => match p.1 with
    | .dat (.int i) => .ok (some i, p.2)
    | _ => .stuck
def evVs : List T → Env → Res (List Vl × Env)
  | [], ρ => .ok ([], ρ)
  | e :: es, ρ => (evE e ρ).bind fun p => (evVs es p.2).bind fun q => .ok (p.1 :: q.1, q.2)
def evDs : List T → Env → Res (List D × Env)
  | [], ρ => .ok ([], ρ)
  | e :: es, ρ => (evE e ρ).bind fun p => (get p.1.frz).bind fun d => (evDs es p.2).bind fun q => .ok (d :: q.1, q.2)
def evFs : List T → Str → Env → Res (Str × Env)
  | [], acc, ρ => .ok (acc, ρ)
  | e :: es, acc, ρ => (evE e ρ).bind fun p => (get (txtOf p.1)).bind fun y => if sizeOk (acc ++ y).length then evFs es (acc ++ y) p.2 else .stuck
def evAs : List T → Env → Res (List Arg × Env)
  | [], ρ => .ok ([], ρ)
  | e :: es, ρ => (argOf e (evE e) ρ).bind fun p => (evAs es p.2).bind fun q => .ok (p.1 :: q.1, q.2)
end
/-- a slot is written anew: lk tells the parameters that a caller lends, which may not be -/
def putS (lk : List Nat) (ρ : Env) (i : Nat) (v : Vl) : Option Env := if lk.contains i then none else ρ.put i v
def putsS (lk : List Nat) : Env → List Nat → List Vl → Option Env
  | ρ, [], [] => some ρ
  | ρ, i :: is, v :: vs => (putS lk ρ i v).bind fun ρ' => putsS lk ρ' is vs
  | _, _, _ => none
def tgOk (lk : List Nat) : Tg → Bool
  | .nm i => !lk.contains i
  | .tp is => is.all fun i => !lk.contains i
mutual
def evS (lk : List Nat) : S → Env → Res (Flow × Env)
  | .asg i e, ρ => (evE cl e ρ).bind fun p => (get (putS lk p.2 i p.1)).bind fun ρ' => .ok (.nx, ρ')
  | .asgs is es, ρ => (evVs cl es ρ).bind fun p => (get (putsS lk p.2 is p.1)).bind fun ρ' => .ok (.nx, ρ')
  | .unp is e, ρ => (evE cl e ρ).bind fun p => (get (if tgOk lk (.tp is) then p.1.frz else none)).bind fun d => (get (store (.tp is) d p.2)).bind fun ρ' => .ok (.nx, ρ')
  | .aug i o e, ρ => (get (look ρ (.pk i))).bind fun x => (opnd e (evE cl e) ρ).bind fun q => (get (look q.2 q.1)).bind fun y => match o, x, y with
    | .add, .int a, .int b => (get (putS lk q.2 i (.dat (.int (a + b))))).bind fun ρ' => .ok (.nx, ρ')
    | .sub, .int a, .int b => (get (putS lk q.2 i (.dat (.int (a - b))))).bind fun ρ' => .ok (.nx, ρ')
    | _, _, _ => .stuck
  | .putd i k e, ρ => (evE cl e ρ).bind fun p => (get p.1.frz).bind fun d => match p.2[i]? with
    | some (some (.dct _)) => (evE cl k p.2).bind fun r => (get (keyOf r.1)).bind fun k => match r.2[i]? with
      | some (some (.dct kvs)) => if decide (kvs.length < 16777216) then .ok (.nx, r.2.set i (some (.dct (putD kvs k d)))) else .stuck
      | _ => .stuck
    | _ => .stuck
  | .app i e, ρ => match ρ[i]? with
    | some (some (.lst _)) => (evE cl e ρ).bind fun p => (get p.1.frz).bind fun d => match p.2[i]? with
      | some (some (.lst ds)) => if decide (ds.length < 16777216) then .ok (.nx, p.2.set i (some (.lst (ds ++ [d])))) else .stuck
      | _ => .stuck
    | _ => .stuck
  | .ext i e, ρ => match ρ[i]? with
    | some (some (.lst _)) => (opnd e (evE cl e) ρ).bind fun q => (get (look q.2 q.1)).bind fun x => match x, q.2[i]? with
      | .list ys, some (some (.lst ds)) => if sizeOk (ds.length + ys.length) then .ok (.nx, q.2.set i (some (.lst (ds ++ ys)))) else .stuck
      | _, _ => .stuck
    | _ => .stuck
  | .expr e, ρ => (evE cl e ρ).bind fun p => .ok (.nx, p.2)
  | .ret e, ρ => match e with
    | .var i => match ρ[i]? with
      | some (some (.lst ds)) => if lk.contains i then .stuck else .ok (.ret (.lst ds), ρ.set i none)
      | some (some (.dct kvs)) => if lk.contains i then .stuck else .ok (.ret (.dct kvs), ρ.set i none)
      | some (some (.dat d)) => .ok (.ret (.dat d), ρ)
      | some (some (.fn k)) => .ok (.ret (.fn k), ρ)
      | _ => .stuck
    | e => (evE cl e ρ).bind fun p => .ok (.ret p.1, p.2)
  | .iff c a b, ρ => (evT cl c ρ).bind fun p => match p.1 with
    | true => evSs lk a p.2
    | false => evSs lk b p.2
  | .forl tg k it body, ρ => (opnd it (evE cl it) ρ).bind fun p => (get (look p.2 p.1)).bind fun x => (get (itemsOf k x)).bind fun ds =>
      if tgOk lk tg then (forTurns tg (evSs lk body) ds (lockO p.1 p.2)).bind fun q => .ok (q.1, unlockO p.2 p.1 q.2) else .stuck
  | .pass, ρ => .ok (.nx, ρ)
  | .brk, ρ => .ok (.brk, ρ)
  | .cnt, ρ => .ok (.cnt, ρ)
def evSs (lk : List Nat) : List S → Env → Res (Flow × Env)
  | [], ρ => .ok (.nx, ρ)
  | s :: ss, ρ => (evS lk s ρ).bind fun p => match p.1 with
    | .nx => evSs lk ss p.2
    | .brk => .ok (.brk, p.2)
    | .cnt => .ok (.cnt, p.2)
    | .ret v => .ok (.ret v, p.2)
end
end
/-- a def: how many parameters, how many slots, its body -/
structure Df where
  ps : Nat
  n : Nat
  body : List S
/-- the parameters that are lent -/
def lentOf : List Vl → Nat → List Nat
  | [], _ => []
  | v :: vs, i => if v.own then i :: lentOf vs (i + 1) else lentOf vs (i + 1)
def startE (n : Nat) (vs : List Vl) : Env := vs.map some ++ List.replicate (n - vs.length) none
def runF (cl : Fun) (d : Df) (vs : List Vl) : Res (Vl × List (Option Vl)) :=
  if vs.length = d.ps then
    match evSs cl (lentOf vs 0) d.body (startE d.n vs) with
    | .ok (.ret v, ρ) => .ok (v, ρ.take d.ps)
    | .ok (.nx, ρ) => .ok (.dat .none, ρ.take d.ps)
    | .ok _ => .stuck
    | .exc x ρ => .exc x (ρ.take d.ps)
    | .stuck => .stuck
  else .stuck
/-- the defs, called at most n deep -/
def evF (P : List Df) : Nat → Fun
  | 0 => fun _ _ => .stuck
  | n + 1 => fun k vs => match P[k]? with
    | some d => runF (evF P n) d vs
    | none => .stuck
end Pv
set_option Elab.async false
set_option linter.all false
set_option maxRecDepth 100000
/-! How slots and heap bear the data. -/
namespace Pv
open PySem L2
/-! ### data at a value: U, what somebody may still change -/
def Su (K : PySem.W.Frag) (H : Hp) (U : Addr → Prop) (a : Addr) (xs : List V) : Prop :=
  (Rd H a (.tup xs) ∧ ¬ U a) ∨ SqT K (fun _ => none) a xs
mutual
inductive Rp (K : PySem.W.Frag) (H : Hp) (U : Addr → Prop) : V → PyData → Prop
  | non : Rp K H U .non .none
  | bl (b : Bool) : Rp K H U (.bl b) (.bool b)
  | int (i : Int) : Rp K H U (.int i) (.int i)
  | str (x : Str) : Rp K H U (.str x) (.str x)
  | lst {a : Addr} {xs : List V} {ds : List PyData} : H a = some (.lst xs) → ¬ U a → Rps K H U xs ds → Rp K H U (.ref a) (.list ds)
  | tup {a : Addr} {xs : List V} {ds : List PyData} : Su K H U a xs → Rps K H U xs ds → Rp K H U (.ref a) (.tuple ds)
inductive Rps (K : PySem.W.Frag) (H : Hp) (U : Addr → Prop) : List V → List PyData → Prop
  | nil : Rps K H U [] []
  | cons {v : V} {vs : List V} {d : PyData} {ds : List PyData} : Rp K H U v d → Rps K H U vs ds → Rps K H U (v :: vs) (d :: ds)
end
section
variable {K : PySem.W.Frag} {H H' : Hp} {U U' : Addr → Prop}
theorem rd_nil {a : Addr} {u : HO} (h : Rd (fun _ => none) a u) : False := by
  rcases h with h | ⟨o, h⟩ <;> cases h
theorem Su.sq {a : Addr} {xs : List V} (h : Su K H U a xs) : SqT K H a xs := by
  rcases h with ⟨h, _⟩ | h
  · exact .inl h
  · rcases h with h | h
    · exact (rd_nil h).elim
    · exact .inr h
/-- what is known of the heap stays so: all but what somebody may change is kept, and nothing that stood becomes changeable -/
structure Sta (H : Hp) (U : Addr → Prop) (H' : Hp) (U' : Addr → Prop) : Prop where
  keep : ∀ a o, H a = some o → ¬ U a → H' a = some o
  no : ∀ a, U' a → U a ∨ H a = none
theorem rd_sta (s : Sta H U H' U') {a : Addr} {u : HO} (h : Rd H a u ∧ ¬ U a) : Rd H' a u ∧ ¬ U' a := by
  obtain ⟨h, n⟩ := h
  have f : ∀ o, H a = some o → ¬ U' a := fun o e q => by
    rcases s.no a q with q | q
    · exact n q
    · rw [e] at q; cases q
  rcases h with h | ⟨o, h⟩
  · exact ⟨.inl (s.keep a _ h n), f _ h⟩
  · exact ⟨.inr ⟨o, s.keep a _ h n⟩, f _ h⟩
theorem lst_sta (s : Sta H U H' U') {a : Addr} {u : HO} (h : H a = some u) (n : ¬ U a) : H' a = some u ∧ ¬ U' a := ⟨s.keep a _ h n, fun q => by
  rcases s.no a q with q | q
  · exact n q
  · rw [h] at q; cases q⟩
theorem Su.sta (s : Sta H U H' U') {a : Addr} {xs : List V} (h : Su K H U a xs) : Su K H' U' a xs := h.elim (fun h => .inl (rd_sta s h)) .inr
mutual
theorem Rp.sta (s : Sta H U H' U') : ∀ {v : V} {d : PyData}, Rp K H U v d → Rp K H' U' v d
  | _, _, .non => .non
  | _, _, .bl b => .bl b
  | _, _, .int i => .int i
  | _, _, .str x => .str x
  | _, _, .lst h n r => .lst (lst_sta s h n).1 (lst_sta s h n).2 (Rps.sta s r)
  | _, _, .tup h r => .tup (h.sta s) (Rps.sta s r)
theorem Rps.sta (s : Sta H U H' U') : ∀ {v : List V} {d : List PyData}, Rps K H U v d → Rps K H' U' v d
  | _, _, .nil => .nil
  | _, _, .cons h r => .cons (Rp.sta s h) (Rps.sta s r)
end
mutual
theorem Rp.dp : ∀ {v : V} {d : PyData}, Rp K H U v d → Dp K H v d
  | _, _, .non => .non
  | _, _, .bl b => .bl b
  | _, _, .int i => .int i
  | _, _, .str x => .str x
  | _, _, .lst h _ r => .lst (SqL.of h) (Rps.dp r)
  | _, _, .tup h r => .tup h.sq (Rps.dp r)
theorem Rps.dp : ∀ {v : List V} {d : List PyData}, Rps K H U v d → DpAll K H v d
  | _, _, .nil => .nil
  | _, _, .cons h r => .cons (Rp.dp h) (Rps.dp r)
end
theorem Rps.len : ∀ {v : List V} {d : List PyData}, Rps K H U v d → v.length = d.length
  | _, _, .nil => rfl
  | _, _, .cons _ r => by simp [Rps.len r]
theorem Rps.get : ∀ {v : List V} {d : List PyData} {i : Nat} {e : PyData}, Rps K H U v d → d[i]? = some e → ∃ x, v[i]? = some x ∧ Rp K H U x e
  | _, _, _, _, .nil, h => by simp at h
  | _, _, 0, _, .cons h _, e => by
    simp at e; subst e
    exact ⟨_, rfl, h⟩
  | _, _, i + 1, _, .cons _ r, e => by
    obtain ⟨x, h1, h2⟩ := Rps.get (i := i) r (by simpa using e)
    exact ⟨x, (by simpa using h1), h2⟩
theorem Rps.getV : ∀ {v : List V} {d : List PyData} {i : Nat} {x : V}, Rps K H U v d → v[i]? = some x → ∃ e, d[i]? = some e ∧ Rp K H U x e
  | _, _, _, _, .nil, h => by simp at h
  | _, _, 0, _, .cons h _, e => by
    simp at e; subst e
    exact ⟨_, rfl, h⟩
  | _, _, i + 1, _, .cons _ r, e => by
    obtain ⟨x, h1, h2⟩ := Rps.getV (i := i) r (by simpa using e)
    exact ⟨x, (by simpa using h1), h2⟩
theorem Rps.app : ∀ {v w : List V} {d e : List PyData}, Rps K H U v d → Rps K H U w e → Rps K H U (v ++ w) (d ++ e)
  | _, _, _, _, .nil, s => s
  | _, _, _, _, .cons h r, s => .cons h (Rps.app r s)
theorem Rps.take : ∀ {v : List V} {d : List PyData} (n : Nat), Rps K H U v d → Rps K H U (v.take n) (d.take n)
  | _, _, 0, _ => by simpa using .nil
  | _, _, _ + 1, .nil => .nil
  | _, _, n + 1, .cons h r => .cons h (Rps.take n r)
theorem Rps.drop : ∀ {v : List V} {d : List PyData} (n : Nat), Rps K H U v d → Rps K H U (v.drop n) (d.drop n)
  | _, _, 0, r => r
  | _, _, _ + 1, .nil => .nil
  | _, _, n + 1, .cons _ r => Rps.drop n r
theorem Rps.rev : ∀ {v : List V} {d : List PyData}, Rps K H U v d → Rps K H U v.reverse d.reverse
  | _, _, .nil => .nil
  | _, _, .cons h r => by
    simp only [List.reverse_cons]
    exact (Rps.rev r).app (.cons h .nil)
/-! ### a value of a slot -/
variable {fa : Nat → Option Addr}
inductive KvR (K : PySem.W.Frag) (H : Hp) (U : Addr → Prop) : List (Key × V) → List (Str × PyData) → Prop
  | nil : KvR K H U [] []
  | cons {k : Str} {v : V} {d : PyData} {r : List (Key × V)} {s : List (Str × PyData)} : Rp K H U v d → KvR K H U r s → KvR K H U ((.inr k, v) :: r) ((k, d) :: s)
theorem KvR.sta (s : Sta H U H' U') {r : List (Key × V)} {t : List (Str × PyData)} (h : KvR K H U r t) : KvR K H' U' r t := by
  induction h with
  | nil => exact .nil
  | cons h _ ih => exact .cons (h.sta s) ih
def RV (K : PySem.W.Frag) (fa : Nat → Option Addr) (H : Hp) (U : Addr → Prop) (x : V) : Vl → Prop
  | .dat d => Rp K H U x d
  | .fn k => ∃ a, fa k = some a ∧ x = .ref a
  | .lst ds => ∃ a vs, x = .ref a ∧ U a ∧ H a = some (.lst vs) ∧ Rps K H U vs ds
  | .lck ds => ∃ a vs, x = .ref a ∧ U a ∧ H a = some (.lst vs) ∧ Rps K H U vs ds
  | .dct kvs => ∃ a ws, x = .ref a ∧ U a ∧ H a = some (.dK ws) ∧ KvR K H U ws kvs
  | .scr ns => ∃ a, x = .ref a ∧ ((∃ o, H a = some (.frz o (.lst (ns.map V.int))) ∧ ¬ U a) ∨ SqL K (fun _ => none) a (ns.map V.int))
/-- .. which stays, if its own object does -/
theorem RV.sta {x : V} {v : Vl} (s : Sta H U H' U') (h : RV K fa H U x v) (k : v.own = true → ∀ a, x = .ref a → U a → (∀ o, H a = some o → H' a = some o) ∧ U' a) : RV K fa H' U' x v := by
  cases v with
  | dat d => exact Rp.sta s h
  | fn k => exact h
  | lst ds =>
    obtain ⟨a, vs, rfl, u, e, r⟩ := h
    obtain ⟨k1, k2⟩ := k rfl a rfl u
    exact ⟨a, vs, rfl, k2, k1 _ e, r.sta s⟩
  | lck ds =>
    obtain ⟨a, vs, rfl, u, e, r⟩ := h
    obtain ⟨k1, k2⟩ := k rfl a rfl u
    exact ⟨a, vs, rfl, k2, k1 _ e, r.sta s⟩
  | dct kvs =>
    obtain ⟨a, vs, rfl, u, e, r⟩ := h
    obtain ⟨k1, k2⟩ := k rfl a rfl u
    exact ⟨a, vs, rfl, k2, k1 _ e, r.sta s⟩
  | scr ns =>
    obtain ⟨a, rfl, h⟩ := h
    refine ⟨a, rfl, h.imp (fun ⟨o, e, n⟩ => ?_) id⟩
    obtain ⟨e', n'⟩ := lst_sta s e n
    exact ⟨o, e', n'⟩
theorem RV.ownU {x : V} {v : Vl} (h : RV K fa H U x v) (o : v.own = true) : ∃ a, x = .ref a ∧ U a := by
  cases v with
  | dat d => cases o
  | fn k => cases o
  | lst ds => obtain ⟨a, _, e, u, _⟩ := h; exact ⟨a, e, u⟩
  | lck ds => obtain ⟨a, _, e, u, _⟩ := h; exact ⟨a, e, u⟩
  | dct kvs => obtain ⟨a, _, e, u, _⟩ := h; exact ⟨a, e, u⟩
  | scr ns => cases o
/-! ### all slots -/
/-- the objects that the slots hold alone -/
def Hd (ρ : Env) (σ : L2.St) (a : Addr) : Prop := ∃ (i : Nat) (v : Vl), ρ[i]? = some (some v) ∧ v.own = true ∧ σ[i]? = some (some (V.ref a))
/-- .. and may change -/
def Ow (ρ : Env) (σ : L2.St) (a : Addr) : Prop := ∃ (i : Nat) (v : Vl), ρ[i]? = some (some v) ∧ v.mut = true ∧ σ[i]? = some (some (V.ref a))
theorem Ow.hd {ρ : Env} {σ : L2.St} {a : Addr} (h : Ow ρ σ a) : Hd ρ σ a := let ⟨i, v, h1, h2, h3⟩ := h; ⟨i, v, h1, mut_own h2, h3⟩
structure ER (K : PySem.W.Frag) (fa : Nat → Option Addr) (H : Hp) (U : Addr → Prop) (σ : L2.St) (ρ : Env) : Prop where
  len : σ.length = ρ.length
  val : ∀ (i : Nat) (v : Vl), ρ[i]? = some (some v) → ∃ x, σ[i]? = some (some x) ∧ RV K fa H U x v
  dj : ∀ (i j : Nat) (v w : Vl) (a : Addr), i ≠ j → ρ[i]? = some (some v) → ρ[j]? = some (some w) → v.own = true → w.own = true → σ[i]? = some (some (V.ref a)) → σ[j]? = some (some (V.ref a)) → False
  dom : ∀ a, U a → H a ≠ none
theorem ER.hd {σ : L2.St} {ρ : Env} (e : ER K fa H U σ ρ) {a : Addr} (h : Hd ρ σ a) : U a := by
  obtain ⟨i, v, h1, h2, h3⟩ := h
  obtain ⟨x, e1, r⟩ := e.val i v h1
  obtain ⟨b, rfl, u⟩ := r.ownU h2
  rw [h3] at e1
  cases e1
  exact u
theorem ER.ow {σ : L2.St} {ρ : Env} (e : ER K fa H U σ ρ) {a : Addr} (h : Ow ρ σ a) : U a := e.hd h.hd
/-- what happened: own: what might be changed -/
structure Go (own : Addr → Prop) (H : Hp) (U : Addr → Prop) (H' : Hp) (U' : Addr → Prop) : Prop where
  keep : ∀ a o, H a = some o → ¬ own a → H' a = some o
  u1 : ∀ a, U a → ¬ own a → U' a
  u2 : ∀ a, U' a → U a ∨ H a = none
  dom : ∀ a, H a ≠ none → H' a ≠ none
theorem Go.refl (own : Addr → Prop) (H : Hp) (U : Addr → Prop) : Go own H U H U := ⟨fun _ _ h _ => h, fun _ h _ => h, fun _ h => .inl h, fun _ h => h⟩
theorem Go.sta {own : Addr → Prop} (g : Go own H U H' U') (h : ∀ a, own a → U a) : Sta H U H' U' := ⟨fun a o e n => g.keep a o e fun q => n (h a q), g.u2⟩
theorem Go.trans {own own' : Addr → Prop} {H1 H2 : Hp} {U1 U2 : Addr → Prop} (g : Go own H U H1 U1) (k : Go own' H1 U1 H2 U2) (h : ∀ a, own' a → own a ∨ H a = none) (hd : ∀ a, U a → H a ≠ none) : Go own H U H2 U2 := by
  refine ⟨fun a o e n => k.keep a o (g.keep a o e n) fun q => ?_, fun a u n => k.u1 a (g.u1 a u n) fun q => ?_, fun a u => ?_, fun a e => k.dom a (g.dom a e)⟩
  · rcases h a q with q | q
    · exact n q
    · rw [e] at q; cases q
  · rcases h a q with q | q
    · exact n q
    · exact hd a u q
  · rcases k.u2 a u with q | q
    · exact g.u2 a q
    · cases z : H a with
      | none => exact .inr rfl
      | some o => exact (g.dom a (by rw [z]; simp) q).elim
theorem Go.mono {own own' : Addr → Prop} (g : Go own H U H' U') (h : ∀ a, own a → own' a) : Go own' H U H' U' :=
  ⟨fun a o e n => g.keep a o e fun q => n (h a q), fun a u n => g.u1 a u fun q => n (h a q), g.u2, g.dom⟩
/-- behind an expression -/
structure Pst (K : PySem.W.Frag) (fa : Nat → Option Addr) (σ : L2.St) (H : Hp) (U : Addr → Prop) (ρ : Env) (H' : Hp) (U' : Addr → Prop) (ρ' : Env) : Prop where
  er : ER K fa H' U' σ ρ'
  go : Go (Ow ρ σ) H U H' U'
  own : ∀ a, Ow ρ' σ a → Ow ρ σ a
  held : ∀ (i : Nat) (v : Vl), ρ'[i]? = some (some v) → v.own = true → ∃ u, ρ[i]? = some (some u) ∧ u.own = true
  set : ∀ (i : Nat) (v : Vl), ρ[i]? = some (some v) → ∃ v', ρ'[i]? = some (some v') ∧ (LL v = true → LL v' = true)
theorem Pst.hdd {K : PySem.W.Frag} {fa : Nat → Option Addr} {σ : L2.St} {H : Hp} {U : Addr → Prop} {ρ : Env} {H' : Hp} {U' : Addr → Prop} {ρ' : Env} (p : Pst K fa σ H U ρ H' U' ρ') (a : Addr) (h : Hd ρ' σ a) : Hd ρ σ a := by
  obtain ⟨i, v, h1, h2, h3⟩ := h
  obtain ⟨u, e1, e2⟩ := p.held i v h1 h2
  exact ⟨i, u, e1, e2, h3⟩
/-- a value that nobody else holds is held by no slot, and is new -/
def Frh (ρ' : Env) (σ : L2.St) (H : Hp) (x : V) (v : Vl) : Prop := v.own = true → ∀ a, x = .ref a → ¬ Hd ρ' σ a ∧ H a = none
variable {σ : L2.St} {ρ ρ1 ρ2 : Env} {H1 H2 : Hp} {U1 U2 : Addr → Prop}
theorem Pst.refl (e : ER K fa H U σ ρ) : Pst K fa σ H U ρ H U ρ := ⟨e, Go.refl _ _ _, fun _ h => h, fun _ v h o => ⟨v, h, o⟩, fun i v h => ⟨v, h, id⟩⟩
theorem Pst.sta (p : Pst K fa σ H U ρ H1 U1 ρ1) (e : ER K fa H U σ ρ) : Sta H U H1 U1 := p.go.sta fun _ h => e.ow h
theorem Pst.trans (e : ER K fa H U σ ρ) (p : Pst K fa σ H U ρ H1 U1 ρ1) (q : Pst K fa σ H1 U1 ρ1 H2 U2 ρ2) : Pst K fa σ H U ρ H2 U2 ρ2 :=
  ⟨q.er, p.go.trans q.go (fun a h => .inl (p.own a h)) e.dom, fun a h => p.own a (q.own a h), fun i v h o => let ⟨u, e1, e2⟩ := q.held i v h o; p.held i u e1 e2, fun i v h => let ⟨v', h', l⟩ := p.set i v h; let ⟨v2, h2, l2⟩ := q.set i v' h'; ⟨v2, h2, fun z => l2 (l z)⟩⟩
/-- a value goes on over a further step -/
theorem RV.on {x : V} {v : Vl} (p : Pst K fa σ H U ρ H1 U1 ρ1) (e : ER K fa H U σ ρ) (h : RV K fa H U x v) (f : v.own = true → ∀ a, x = .ref a → ¬ Hd ρ σ a) : RV K fa H1 U1 x v :=
  h.sta (p.sta e) fun o a q u => ⟨fun ob z => p.go.keep a ob z fun w => f o a q w.hd, p.go.u1 a u fun w => f o a q w.hd⟩
theorem Frh.on {x : V} {v : Vl} {H0 : Hp} (p : Pst K fa σ H U ρ H1 U1 ρ1) (f : Frh ρ σ H0 x v) : Frh ρ1 σ H0 x v := fun o a q => ⟨fun h => (f o a q).1 (p.hdd a h), (f o a q).2⟩
/-- data as an operation may look at it: a list's own object may be anybody's -/
def Vw (K : PySem.W.Frag) (H : Hp) (U : Addr → Prop) (x : V) : PyData → Prop
  | .list ds => ∃ a vs, x = .ref a ∧ H a = some (.lst vs) ∧ Rps K H U vs ds
  | d => Rp K H U x d
theorem Rp.vw {x : V} {d : PyData} (h : Rp K H U x d) : Vw K H U x d := by
  cases h with
  | lst h _ r => exact ⟨_, _, rfl, h, r⟩
  | non => exact .non
  | bl b => exact .bl b
  | int b => exact .int b
  | str b => exact .str b
  | tup h r => exact .tup h r
theorem Vw.dp {x : V} {d : PyData} (h : Vw K H U x d) : Dp K H x d := by
  cases d with
  | list ds =>
    obtain ⟨a, vs, rfl, s, r⟩ := h
    exact .lst (SqL.of s) r.dp
  | none => exact Rp.dp h
  | bool b => exact Rp.dp h
  | int b => exact Rp.dp h
  | str b => exact Rp.dp h
  | tuple b => exact Rp.dp h
  | dict b => exact Rp.dp h
theorem RV.vw {x : V} {v : Vl} {d : PyData} (h : RV K fa H U x v) (e : v.view = some d) : Vw K H U x d := by
  cases v with
  | dat d' => cases e; exact Rp.vw h
  | fn k => cases e
  | lst ds =>
    cases e
    obtain ⟨a, vs, rfl, u, e, r⟩ := h
    exact ⟨a, vs, rfl, e, r⟩
  | lck ds =>
    cases e
    obtain ⟨a, vs, rfl, u, e, r⟩ := h
    exact ⟨a, vs, rfl, e, r⟩
  | dct kvs => cases e
  | scr kvs => cases e
/-- an operand -/
def RO (K : PySem.W.Frag) (fa : Nat → Option Addr) (H : Hp) (U : Addr → Prop) (σ : L2.St) (ρ : Env) (x : V) : Opn → Prop
  | .vl v => RV K fa H U x v ∧ (v.own = true → ∀ a, x = .ref a → ¬ Hd ρ σ a)
  | .pk i => σ[i]? = some (some x) ∧ ∃ v, ρ[i]? = some (some v)
theorem RO.on {x : V} {o : Opn} (p : Pst K fa σ H U ρ H1 U1 ρ1) (e : ER K fa H U σ ρ) (h : RO K fa H U σ ρ x o) : RO K fa H1 U1 σ ρ1 x o := by
  cases o with
  | vl v => exact ⟨h.1.on p e h.2, fun q a z w => h.2 q a z (p.hdd a w)⟩
  | pk i =>
    obtain ⟨h1, v, h2⟩ := h
    obtain ⟨v', h3, _⟩ := p.set i v h2
    exact ⟨h1, v', h3⟩
theorem RO.vw {x : V} {o : Opn} {d : PyData} (er : ER K fa H U σ ρ) (h : RO K fa H U σ ρ x o) (e : look ρ o = some d) : Vw K H U x d := by
  cases o with
  | vl v => exact h.1.vw e
  | pk i =>
    obtain ⟨h1, v, h2⟩ := h
    obtain ⟨y, e1, r⟩ := er.val i v h2
    rw [h1] at e1
    cases e1
    refine r.vw (d := d) ?_
    simp only [look, h2] at e
    exact e
/-! ### new objects -/
/-- a new object that nobody may change -/
theorem Pst.new {p : Addr} {o : HO} (e : ER K fa H U σ ρ) (hp : H p = none) : Pst K fa σ H U ρ (upd H p o) U ρ := by
  have s : Sta H U (upd H p o) U := ⟨fun a ob h _ => by rw [upd_ne (ne_of_none h hp)]; exact h, fun a h => .inl h⟩
  refine ⟨⟨e.len, fun i v h => ?_, e.dj, fun a u => ?_⟩, ⟨fun a ob h _ => ?_, fun a u _ => u, fun a u => .inl u, fun a h => ?_⟩, fun _ h => h, fun _ v h o => ⟨v, h, o⟩, fun i v h => ⟨v, h, id⟩⟩
  · obtain ⟨x, e1, r⟩ := e.val i v h
    refine ⟨x, e1, r.sta s fun _ a _ u => ⟨fun ob q => ?_, u⟩⟩
    rw [upd_ne (ne_of_none q hp)]
    exact q
  · by_cases q : a = p
    · subst q; rw [upd_same]; simp
    · rw [upd_ne q]; exact e.dom a u
  · rw [upd_ne (ne_of_none h hp)]
    exact h
  · by_cases q : a = p
    · subst q; rw [upd_same]; simp
    · rw [upd_ne q]; exact h
/-- a new object, held by one alone -/
def addU (U : Addr → Prop) (p : Addr) : Addr → Prop := fun a => U a ∨ a = p
def subU (U : Addr → Prop) (p : Addr) : Addr → Prop := fun a => U a ∧ a ≠ p
theorem Sta.new {p : Addr} {o : HO} (hp : H p = none) : Sta H U (upd H p o) (addU U p) :=
  ⟨fun a ob h _ => by rw [upd_ne (ne_of_none h hp)]; exact h, fun a h => h.elim .inl fun q => .inr (by rw [q]; exact hp)⟩
theorem Pst.newU {p : Addr} {o : HO} (e : ER K fa H U σ ρ) (hp : H p = none) : Pst K fa σ H U ρ (upd H p o) (addU U p) ρ := by
  refine ⟨⟨e.len, fun i v h => ?_, e.dj, fun a u => ?_⟩, ⟨fun a ob h _ => ?_, fun a u _ => .inl u, fun a u => ?_, fun a h => ?_⟩, fun _ h => h, fun _ v h o => ⟨v, h, o⟩, fun i v h => ⟨v, h, id⟩⟩
  · obtain ⟨x, e1, r⟩ := e.val i v h
    refine ⟨x, e1, r.sta (Sta.new hp) fun _ a _ u => ⟨fun ob q => ?_, .inl u⟩⟩
    rw [upd_ne (ne_of_none q hp)]
    exact q
  · by_cases q : a = p
    · subst q; rw [upd_same]; simp
    · rw [upd_ne q]
      rcases u with u | u
      · exact e.dom a u
      · exact (q u).elim
  · rw [upd_ne (ne_of_none h hp)]
    exact h
  · rcases u with u | u
    · exact .inl u
    · exact .inr (by rw [u]; exact hp)
  · by_cases q : a = p
    · subst q; rw [upd_same]; simp
    · rw [upd_ne q]; exact h
theorem ow_none {p : Addr} (e : ER K fa H U σ ρ) (hp : H p = none) : ¬ Hd ρ σ p := fun h => e.dom p (e.hd h) hp
/-- what is held alone is given up -/
theorem Pst.give {a : Addr} (e : ER K fa H U σ ρ) (p : Pst K fa σ H U ρ H1 U1 ρ1) (n : ¬ Hd ρ1 σ a) (h0 : H a = none) : Pst K fa σ H U ρ H1 (subU U1 a) ρ1 := by
  have s : Sta H1 U1 H1 (subU U1 a) := ⟨fun _ _ h _ => h, fun _ h => .inl h.1⟩
  refine ⟨⟨p.er.len, fun i v h => ?_, p.er.dj, fun b u => p.er.dom b u.1⟩, ⟨p.go.keep, fun b u n' => ⟨p.go.u1 b u n', fun q => e.dom b u (by rw [q]; exact h0)⟩, fun b u => p.go.u2 b u.1, p.go.dom⟩, p.own, p.held, p.set⟩
  obtain ⟨x, e1, r⟩ := p.er.val i v h
  refine ⟨x, e1, r.sta s fun o b q u => ⟨fun _ z => z, u, fun z => n ⟨i, v, h, o, ?_⟩⟩⟩
  rw [← z, ← q]
  exact e1
theorem Rp.given {a : Addr} {vs : List V} {ds : List PyData} (h : H a = some (.lst vs)) (r : Rps K H U vs ds) : Rp K H (subU U a) (.ref a) (.list ds) :=
  .lst h (fun z => z.2 rfl) (r.sta ⟨fun _ _ h _ => h, fun _ h => .inl h.1⟩)
theorem get_set_some {α : Type} {l : List (Option α)} {i j : Nat} {o : Option α} {v : α} (h : (l.set i o)[j]? = some (some v)) : (j = i ∧ o = some v) ∨ (j ≠ i ∧ l[j]? = some (some v)) := by
  by_cases e : i = j
  · subst e
    rw [List.getElem?_set] at h
    simp at h
    exact .inl ⟨rfl, by
      obtain ⟨_, h⟩ := h
      exact h⟩
  · rw [List.getElem?_set_ne e] at h
    exact .inr ⟨fun q => e q.symm, h⟩
/-- a slot's own list is given up -/
theorem Pst.freeze {i : Nat} {a : Addr} {vs : List V} {ds : List PyData} (er : ER K fa H U σ ρ) (e : ρ[i]? = some (some (.lst ds))) (e1 : σ[i]? = some (some (.ref a))) (eh : H a = some (.lst vs)) (r : Rps K H U vs ds) :
    Pst K fa σ H U ρ H (subU U a) (ρ.set i (some (.dat (.list ds)))) := by
  have s : Sta H U H (subU U a) := ⟨fun _ _ h _ => h, fun _ h => .inl h.1⟩
  have hi : i < ρ.length := (List.getElem?_eq_some_iff.mp e).1
  have oa : Ow ρ σ a := ⟨i, _, e, rfl, e1⟩
  refine ⟨⟨by rw [List.length_set]; exact er.len, fun j v h => ?_, fun j k v w b n h1 h2 o1 o2 => ?_, fun b u => er.dom b u.1⟩, ⟨fun _ _ h _ => h, fun b u n => ⟨u, fun z => n (z ▸ oa)⟩, fun b u => .inl u.1, fun _ h => h⟩, fun b ⟨j, v, h, o, z⟩ => ?_, fun j v h o => ?_, fun j v h => ?_⟩
  · rcases get_set_some h with ⟨rfl, q⟩ | ⟨n, q⟩
    · cases q
      exact ⟨_, e1, Rp.given eh r⟩
    · obtain ⟨x, h1, h2⟩ := er.val j v q
      refine ⟨x, h1, h2.sta s fun o b z u => ⟨fun _ w => w, u, fun w => ?_⟩⟩
      subst w
      exact er.dj j i v _ _ n q e o rfl (by rw [h1, z]) e1
  · rcases get_set_some h1 with ⟨rfl, q⟩ | ⟨n1, q⟩
    · cases q; cases o1
    · rcases get_set_some h2 with ⟨rfl, q2⟩ | ⟨n2, q2⟩
      · cases q2; cases o2
      · exact er.dj j k v w b n q q2 o1 o2
  · rcases get_set_some h with ⟨rfl, q⟩ | ⟨n, q⟩
    · cases q; cases o
    · exact ⟨j, v, q, o, z⟩
  · rcases get_set_some h with ⟨rfl, q⟩ | ⟨n, q⟩
    · cases q; cases o
    · exact ⟨v, q, o⟩
  · by_cases q : j = i
    · subst q
      exact ⟨_, by rw [List.getElem?_set_self hi], fun _ => rfl⟩
    · exact ⟨v, by rw [List.getElem?_set_ne (Ne.symm q)]; exact h, id⟩
end
end Pv
set_option Elab.async false
set_option linter.all false
set_option maxRecDepth 100000
set_option maxHeartbeats 2100000
/-! The judgement: a piece of syntax does what its word says. -/
namespace Pv
open PySem L2
def Aft {α : Type} (r : Res (α × Env)) (ok : α → Env → Prop) (ex : Ex → Env → Prop) : Prop := match r with
  | .ok p => ok p.1 p.2
  | .exc x ρ => ex x ρ
  | .stuck => False
theorem Aft.bind {α β : Type} {r : Res (α × Env)} {k : α × Env → Res (β × Env)} {ok : β → Env → Prop} {ex : Ex → Env → Prop} (h : Aft (r.bind k) ok ex) : Aft r (fun a ρ => Aft (k (a, ρ)) ok ex) ex := by
  cases r with
  | ok a => exact h
  | exc x ρ => exact h
  | stuck => exact h
theorem Aft.get {α β : Type} {o : Option α} {k : α → Res (β × Env)} {ok : β → Env → Prop} {ex : Ex → Env → Prop} (h : Aft ((get o).bind k) ok ex) : ∃ a, o = some a ∧ Aft (k a) ok ex := by
  cases o with
  | none => exact h.elim
  | some a => exact ⟨a, rfl, h⟩
theorem Aft.mono {α : Type} {r : Res (α × Env)} {ok ok' : α → Env → Prop} {ex ex' : Ex → Env → Prop} (h : Aft r ok ex) (h1 : ∀ a ρ, ok a ρ → ok' a ρ) (h2 : ∀ a ρ, ex a ρ → ex' a ρ) : Aft r ok' ex' := by
  cases r with
  | ok a => exact h1 _ _ h
  | exc x ρ => exact h2 _ _ h
  | stuck => exact h
/-- how a raised error lies in the heap -/
def ExR (K : PySem.W.Frag) (ca : Nat → Addr) (H : Hp) (U : Addr → Prop) (x : Ex) (c : Value) (d : Option Addr) : Prop :=
  c = .ref (ca x.cls) ∧ ∃ dx fs, d = some dx ∧ H dx = some (.xd fs) ∧ (fs.map (·.1)) = x.fields.map (·.1) ∧ Rps K H U (fs.map (·.2)) (x.fields.map (·.2))
/-- what is fixed: where the defs and the error classes stand -/
structure Wd where
  fa : Nat → Option Addr
  ca : Nat → Addr
  fd : Nat → FuncData
  ps : Nat → List Str
/-- the context is an ordinary one -/
structure GC (X : Cx) (W : WX) : Prop where
  calm : X.calm = true
  nd : X.N.Nodup
  gd : X.A.guards = some []
  room : X.A.units + 190 < cLine
  tk : Takes X W
section
variable {X : Cx} {w : Wd} {cl : Fun} {W : WX}
/-- what is wanted of a value, of an error -/
def OkE (K : PySem.W.Frag) (w : Wd) (σ : L2.St) (H : Hp) (U : Addr → Prop) (ρ : Env) (Q : VK) (v : Vl) (ρ' : Env) : Prop :=
  ∀ x H' U', Pst K w.fa σ H U ρ H' U' ρ' → RV K w.fa H' U' x v → Frh ρ' σ H x v → Q x H'
def XcE (K : PySem.W.Frag) (w : Wd) (W : WX) (σ : L2.St) (H : Hp) (U : Addr → Prop) (ρ : Env) (ex : Ex) (ρ' : Env) : Prop :=
  ∀ c d H' U', Pst K w.fa σ H U ρ H' U' ρ' → ExR K w.ca H' U' ex c d → W c d σ H'
theorem XcE.on {K : PySem.W.Frag} {σ : L2.St} {H H1 : Hp} {U U1 : Addr → Prop} {ρ ρ1 ρ' : Env} {ex : Ex} (h : XcE K w W σ H U ρ ex ρ') (e : ER K w.fa H U σ ρ) (p : Pst K w.fa σ H U ρ H1 U1 ρ1) : XcE K w W σ H1 U1 ρ1 ex ρ' :=
  fun c d H' U' q r => h c d H' U' (p.trans e q) r
/-- an expression -/
def SE (X : Cx) (w : Wd) (cl : Fun) (W : WX) (e : Expr) (t : T) : Prop :=
  ∃ te : TE, PE X e te ∧ ∀ σ H U ρ Q, ER X.K w.fa H U σ ρ → Aft (evE cl t ρ) (OkE X.K w σ H U ρ Q) (XcE X.K w W σ H U ρ) → te σ H Q
/-- an operand -/
def SO (X : Cx) (w : Wd) (cl : Fun) (W : WX) (e : Expr) (t : T) : Prop :=
  ∃ te : TE, PE X e te ∧ ∀ σ H U ρ Q, ER X.K w.fa H U σ ρ →
    Aft (opnd t (evE cl t) ρ) (fun o ρ' => ∀ x H' U', Pst X.K w.fa σ H U ρ H' U' ρ' → RO X.K w.fa H' U' σ ρ' x o → Q x H') (XcE X.K w W σ H U ρ) → te σ H Q
/-- a test -/
def ST (X : Cx) (w : Wd) (cl : Fun) (W : WX) (e : Expr) (t : T) : Prop :=
  ∃ tt : TT, PT X e tt ∧ ∀ σ H U ρ Q, ER X.K w.fa H U σ ρ →
    Aft (evT cl t ρ) (fun b ρ' => ∀ H' U', Pst X.K w.fa σ H U ρ H' U' ρ' → Q b H') (XcE X.K w W σ H U ρ) → tt σ H Q
/-! ### names, constants -/
theorem se_var {i : Nat} {x : Str} {pos : Pos} (hN : X.N[i]? = some x) (hv : Vis X.env.scope x) (hd : (x == ("__debug__" : Str)) = false := by decide) (hcd : (x == ("__classdict__" : Str)) = false := by decide) :
    SE X w cl W (.Name x pos) (.var i) := by
  refine ⟨tVar i, pe_var hN hv hd hcd, fun σ H U ρ Q er h => ?_⟩
  unfold evE at h
  split at h
  · rename_i d e
    obtain ⟨x, e1, r⟩ := er.val i _ e
    exact ⟨x, e1, h x H U (Pst.refl er) r fun z => nomatch z⟩
  · rename_i d e
    obtain ⟨x, e1, r⟩ := er.val i _ e
    exact ⟨x, e1, h x H U (Pst.refl er) r fun z => nomatch z⟩
  · rename_i d e
    obtain ⟨x, e1, r⟩ := er.val i _ e
    exact ⟨x, e1, h x H U (Pst.refl er) r fun z => nomatch z⟩
  · rename_i ds e
    obtain ⟨x, e1, r⟩ := er.val i _ e
    obtain ⟨a, vs, rfl, u, eh, rr⟩ := id r
    refine ⟨_, e1, h _ H (subU U a) (Pst.freeze er e e1 eh rr) (Rp.given eh rr) fun z => nomatch z⟩
  · exact h.elim
theorem so_var {i : Nat} {x : Str} {pos : Pos} (hN : X.N[i]? = some x) (hv : Vis X.env.scope x) (hd : (x == ("__debug__" : Str)) = false := by decide) (hcd : (x == ("__classdict__" : Str)) = false := by decide) :
    SO X w cl W (.Name x pos) (.var i) := by
  refine ⟨tVar i, pe_var hN hv hd hcd, fun σ H U ρ Q er h => ?_⟩
  unfold opnd T.isVar at h
  simp only at h
  split at h
  · rename_i v e
    obtain ⟨x, e1, r⟩ := er.val i _ e
    exact ⟨x, e1, h x H U (Pst.refl er) ⟨e1, v, e⟩⟩
  · exact h.elim
theorem SE.so {e : Expr} {t : T} (hv : t.isVar = none) (h : SE X w cl W e t) : SO X w cl W e t := by
  obtain ⟨te, he, k⟩ := h
  refine ⟨te, he, fun σ H U ρ Q er h => k σ H U ρ Q er ?_⟩
  unfold opnd at h
  rw [hv] at h
  exact h.bind.mono (fun v ρ' h x H' U' p r f => h x H' U' p ⟨r, fun o a z => (f o a z).1⟩) fun _ _ h => h
theorem se_int {i : Int} {j : Nat} {pos : Pos} : SE X w cl W (.Constant (.int i) j pos) (.cst (.int i)) :=
  ⟨_, pe_int, fun σ H U ρ Q er h => h _ H U (Pst.refl er) (.int i) fun z => nomatch z⟩
theorem se_bl {i : Bool} {j : Nat} {pos : Pos} : SE X w cl W (.Constant (.bool i) j pos) (.cst (.bool i)) :=
  ⟨_, pe_bl, fun σ H U ρ Q er h => h _ H U (Pst.refl er) (.bl i) fun z => nomatch z⟩
theorem se_non {j : Nat} {pos : Pos} : SE X w cl W (.Constant .none j pos) (.cst .none) :=
  ⟨_, pe_non, fun σ H U ρ Q er h => h _ H U (Pst.refl er) .non fun z => nomatch z⟩
theorem se_str {x : Str} {j : Nat} {pos : Pos} : SE X w cl W (.Constant (.str x) j pos) (.cst (.str x)) :=
  ⟨_, pe_str, fun σ H U ρ Q er h => h _ H U (Pst.refl er) (.str x) fun z => nomatch z⟩
/-- an int of the module -/
theorem RV.dat {K : PySem.W.Frag} {fa : Nat → Option Addr} {H : Hp} {U : Addr → Prop} {x : V} {d : D} (h : Rp K H U x d) : RV K fa H U x (.dat d) := h
/-! ### operators -/
def BinOk (X : Cx) (w : Wd) (o : Bin) (op : Operator) : Prop := ∃ r : R2, OpR X (binaryOp op) r ∧ ∀ (σ : L2.St) (H : Hp) (U : Addr → Prop) (ρ : Env) (x y : V) (d e : D) (v : Vl) (Q : VK),
  ER X.K w.fa H U σ ρ → Vw X.K H U x d → Vw X.K H U y e → bin2 o d e = some v → OkE X.K w σ H U ρ Q v ρ → r x y H Q
theorem OkE.on {K : PySem.W.Frag} {σ : L2.St} {H H1 : Hp} {U U1 : Addr → Prop} {ρ ρ1 ρ' : Env} {Q : VK} {v : Vl} (h : OkE K w σ H U ρ Q v ρ') (e : ER K w.fa H U σ ρ) (p : Pst K w.fa σ H U ρ H1 U1 ρ1) : OkE K w σ H1 U1 ρ1 Q v ρ' :=
  fun x H' U' q r f => h x H' U' (p.trans e q) r fun o a z => ⟨(f o a z).1, by
    have n := (f o a z).2
    cases q0 : H a with
    | none => rfl
    | some u => exact (p.go.dom a (by rw [q0]; simp) n).elim⟩
theorem se_bin {a b : Expr} {ta tb : T} {o : Bin} {op : Operator} {pos : Pos} (ho : BinOk X w o op) (ha : SO X w cl W a ta) (hb : SO X w cl W b tb) : SE X w cl W (.BinOp a op b pos) (.bin o ta tb) := by
  obtain ⟨r, hr, hk⟩ := ho
  obtain ⟨ea, pa, ka⟩ := ha
  obtain ⟨eb, pb, kb⟩ := hb
  refine ⟨_, pe_op hr pa pb, fun σ H U ρ Q er h => ka σ H U ρ _ er ?_⟩
  unfold evE at h
  refine h.bind.mono (fun o1 ρ1 h x H1 U1 p1 r1 => kb σ H1 U1 ρ1 _ p1.er ?_) fun _ _ h => h
  refine h.bind.mono (fun o2 ρ2 h y H2 U2 p2 r2 => ?_) fun _ _ h => h.on er p1
  obtain ⟨d, e1, h⟩ := h.get
  obtain ⟨e, e2, h⟩ := h.get
  obtain ⟨v, e3, h⟩ := h.get
  exact hk σ H2 U2 ρ2 x y d e v Q p2.er ((r1.on p2 p1.er).vw p2.er e1) (r2.vw p2.er e2) e3 (OkE.on h er (p1.trans er p2))
end
end Pv
set_option Elab.async false
set_option linter.all false
set_option maxRecDepth 100000
set_option maxHeartbeats 2100000
namespace Pv
open PySem L2
section
variable {K : PySem.W.Frag} {w : Wd} {σ : L2.St} {H : Hp} {U : Addr → Prop} {ρ : Env} {Q : VK}
theorem size_le {n : Nat} (h : sizeOk n = true) : n ≤ sizeLine := by
  have := of_decide_eq_true h
  rw [sizeLine_eq]
  exact this
theorem rp_int {x : V} {i : Int} (h : Rp K H U x (.int i)) : x = .int i := by cases h; rfl
theorem rp_str {x : V} {i : Str} (h : Rp K H U x (.str i)) : x = .str i := by cases h; rfl
theorem rp_bl {x : V} {i : Bool} (h : Rp K H U x (.bool i)) : x = .bl i := by cases h; rfl
theorem rp_non {x : V} (h : Rp K H U x .none) : x = .non := by cases h; rfl
theorem rp_tup {x : V} {ds : List PyData} (h : Rp K H U x (.tuple ds)) : ∃ a vs, x = .ref a ∧ Su K H U a vs ∧ Rps K H U vs ds := by
  cases h with
  | tup h r => exact ⟨_, _, rfl, h, r⟩
theorem OkE.newL {vs : List V} {ds : List PyData} {p : Addr} (h : OkE K w σ H U ρ Q (.lst ds) ρ) (er : ER K w.fa H U σ ρ) (r : Rps K H U vs ds) (hp : H p = none) : Q (.ref p) (upd H p (.lst vs)) :=
  h _ _ (addU U p) (Pst.newU er hp) ⟨p, vs, rfl, .inr rfl, upd_same, r.sta (Sta.new hp)⟩ fun _ a e => by
    cases e
    exact ⟨ow_none er hp, hp⟩
theorem Sta.new' {p : Addr} {o : HO} (hp : H p = none) : Sta H U (upd H p o) U :=
  ⟨fun a ob h _ => by rw [upd_ne (ne_of_none h hp)]; exact h, fun a h => .inl h⟩
theorem OkE.newT {vs : List V} {ds : List PyData} {p : Addr} (h : OkE K w σ H U ρ Q (.dat (.tuple ds)) ρ) (er : ER K w.fa H U σ ρ) (r : Rps K H U vs ds) (hp : H p = none) : Q (.ref p) (upd H p (.tup vs)) :=
  h _ _ U (Pst.new er hp) (.tup (.inl ⟨.inl upd_same, fun u => er.dom p u hp⟩) (r.sta (Sta.new' hp))) fun z => nomatch z
theorem OkE.one {x : V} {d : PyData} (h : OkE K w σ H U ρ Q (.dat d) ρ) (er : ER K w.fa H U σ ρ) (r : Rp K H U x d) : Q x H :=
  h _ _ U (Pst.refl er) r fun z => nomatch z
/-! ### + - * // % ** -/
variable {X : Cx}
theorem op_addBI : OpR X (binaryOp .Add) (fun x y H Q => ∃ (b : Bool) (j : Int), x = .bl b ∧ y = .int j ∧ Q (.int ((if b = true then (1 : Int) else 0) + j)) H) := by
  intro pins s σ H x y v u Q I rx ry h'
  have h := h'
  obtain ⟨b, j, rfl, rfl, q⟩ := h
  obtain rfl : v = .bool b := rx
  obtain ⟨t, rfl⟩ := ry
  exact IntBool.add_bool_int ⟨.int _, H, I.tok _, ⟨_, rfl⟩, q⟩
theorem op_subBI : OpR X (binaryOp .Sub) (fun x y H Q => ∃ (b : Bool) (j : Int), x = .bl b ∧ y = .int j ∧ Q (.int ((if b = true then (1 : Int) else 0) - j)) H) := by
  intro pins s σ H x y v u Q I rx ry h'
  have h := h'
  obtain ⟨b, j, rfl, rfl, q⟩ := h
  obtain rfl : v = .bool b := rx
  obtain ⟨t, rfl⟩ := ry
  exact IntBool.sub_bool_int ⟨.int _, H, I.tok _, ⟨_, rfl⟩, q⟩
theorem op_subIB : OpR X (binaryOp .Sub) (fun x y H Q => ∃ (i : Int) (b : Bool), x = .int i ∧ y = .bl b ∧ Q (.int (i - if b = true then (1 : Int) else 0)) H) := by
  intro pins s σ H x y v u Q I rx ry h'
  have h := h'
  obtain ⟨i, b, rfl, rfl, q⟩ := h
  obtain ⟨t, rfl⟩ := rx
  obtain rfl : u = .bool b := ry
  exact IntBool.sub_int_bool ⟨.int _, H, I.tok _, ⟨_, rfl⟩, q⟩
theorem bin_sub : BinOk X w .sub .Sub := ⟨_, op_sub.or (op_subBI.or op_subIB), fun σ H U ρ x y d e v Q er hx hy hv h => by
  unfold bin2 at hv
  split at hv <;> try cases hv
  all_goals first | contradiction | skip
  · exact .inl ⟨_, _, rp_int hx, rp_int hy, h.one er (.int _)⟩
  · exact .inr (.inl ⟨_, _, rp_bl hx, rp_int hy, h.one er (.int _)⟩)
  · exact .inr (.inr ⟨_, _, rp_int hx, rp_bl hy, h.one er (.int _)⟩)⟩
theorem bin_fdiv : BinOk X w .fdiv .FloorDiv := ⟨_, op_fdiv, fun σ H U ρ x y d e v Q er hx hy hv h => by
  unfold bin2 at hv
  split at hv <;> try cases hv
  all_goals first | contradiction | skip
  split at hv <;> try cases hv
  rename_i c
  have c' := of_decide_eq_true c
  exact ⟨_, _, rp_int hx, rp_int hy, c', h.one er (.int _)⟩⟩
theorem bin_mod : BinOk X w .mod .Mod := ⟨_, op_mod, fun σ H U ρ x y d e v Q er hx hy hv h => by
  unfold bin2 at hv
  split at hv <;> try cases hv
  all_goals first | contradiction | skip
  split at hv <;> try cases hv
  rename_i c
  exact ⟨_, _, rp_int hx, rp_int hy, of_decide_eq_true c, h.one er (.int _)⟩⟩
theorem bin_pow : BinOk X w .pow .Pow := ⟨_, op_pow, fun σ H U ρ x y d e v Q er hx hy hv h => by
  unfold bin2 at hv
  split at hv <;> try cases hv
  all_goals first | contradiction | skip
  split at hv <;> try cases hv
  rename_i c
  have c' := of_decide_eq_true c
  exact ⟨_, _, rp_int hx, rp_int hy, c', h.one er (.int _)⟩⟩
theorem Rps.nil_iff {vs : List V} {ds : List PyData} (r : Rps K H U vs ds) : vs = [] ↔ ds = [] := by
  have := r.len
  constructor
  · intro e; subst e; exact List.eq_nil_of_length_eq_zero this.symm
  · intro e; subst e; exact List.eq_nil_of_length_eq_zero this
theorem bin_add : BinOk X w .add .Add := ⟨_, OpR.or (op_add.or (op_add_str.or (op_cat.or op_catA))) op_addBI, fun σ H U ρ x y d e v Q er hx hy hv h => by
  unfold bin2 at hv
  split at hv <;> try cases hv
  all_goals first | contradiction | skip
  · exact .inl (.inl ⟨_, _, rp_int hx, rp_int hy, h.one er (.int _)⟩)
  · split at hv <;> try cases hv
    rename_i c
    exact .inl (.inr (.inl ⟨_, _, rp_str hx, rp_str hy, size_le c, h.one er (.str _)⟩))
  · split at hv <;> try cases hv
    rename_i c
    obtain ⟨a, vs, rfl, h1, r1⟩ := hx
    obtain ⟨b, ws, rfl, h2, r2⟩ := hy
    exact .inl (.inr (.inr (.inl ⟨a, b, vs, ws, rfl, rfl, h1, h2, by rw [r1.len, r2.len]; exact size_le c, fun p hp => h.newL er (r1.app r2) hp⟩)))
  · split at hv <;> try cases hv
    rename_i c
    obtain ⟨a, vs, rfl, h1, r1⟩ := rp_tup hx
    obtain ⟨b, ws, rfl, h2, r2⟩ := rp_tup hy
    refine .inl (.inr (.inr (.inr ⟨a, b, vs, ws, rfl, rfl, h1.sq, h2.sq, by rw [r1.len, r2.len]; exact size_le c, fun e0 => ?_, fun _ e0 => ?_, fun _ _ p hp => h.newT er (r1.app r2) hp⟩)))
    · have := r1.nil_iff.mp e0
      subst this
      exact h.one er hy
    · have := r2.nil_iff.mp e0
      subst this
      rw [List.append_nil] at h
      exact h.one er hx
  · exact .inr ⟨_, _, rp_bl hx, rp_int hy, h.one er (.int _)⟩⟩
theorem size_fold (a : Array Nat) : ∀ (n : Nat) (b : Array Nat), ((List.replicate n a).foldl (fun p q => p ++ q) b).size = b.size + a.size * n
  | 0, b => by simp
  | n + 1, b => by
    rw [List.replicate_succ, List.foldl_cons, size_fold a n, Array.size_append, Nat.mul_succ]
    omega
/-- a text, repeated -/
theorem op_mul_str : OpR X (binaryOp .Mult) (fun x y H Q => ∃ z k, x = .str z ∧ y = .int k ∧ z.length ≠ 0 ∧ 2 ≤ k ∧ k ≤ 1000 ∧ z.length ≤ 1000 ∧ Q (.str ⟨(List.replicate k.toNat z.cps).foldl (fun p q => p ++ q) #[]⟩) H) := by
  intro pins s σ H x y v u Q I rx ry h'
  have h := h'
  obtain ⟨z, k, rfl, rfl, h0, h2, h3, h4, q⟩ := h
  obtain ⟨t, rfl⟩ := rx
  obtain ⟨t2, rfl⟩ := ry
  have hm : z.length * k.toNat ≤ 1000 * 1000 := Nat.mul_le_mul h4 (by omega)
  refine PySem.P.mul_str ?_ (fun _ _ => ?_) (fun _ _ => ?_) ?_
  · have a1 : decide (k < -(2 ^ 63)) = false := by apply decide_eq_false; omega
    have a2 : decide (k ≥ 2 ^ 63) = false := by apply decide_eq_false; omega
    rw [a1, a2]; rfl
  · intro c
    have h5 : (2 ^ 63 - 1) / (1000 : Int) ≤ (2 ^ 63 - 1) / k := by
      apply Int.le_ediv_of_mul_le (by omega)
      have : (2 ^ 63 - 1) / (1000 : Int) * k ≤ (2 ^ 63 - 1) / (1000 : Int) * 1000 := Int.mul_le_mul_of_nonneg_left h3 (by decide)
      omega
    omega
  · have h6 : ¬ z.length * k.toNat > sizeLine := by rw [sizeLine_eq]; omega
    exact decide_eq_false h6
  · have e1 : (k == 1) = false := beq_eq_false_iff_ne.mpr (by omega)
    have e2 : (z.length == 0) = false := beq_eq_false_iff_ne.mpr h0
    rw [if_neg (by omega), if_neg (by rw [e1, e2]; decide)]
    refine ⟨?_, .str _, H, I.tok _, ⟨_, rfl⟩, q⟩
    show ((List.replicate k.toNat z.cps).foldl (fun p q => p ++ q) #[]).size ≤ sizeLine
    rw [size_fold, sizeLine_eq]
    have h7 : z.cps.size * k.toNat ≤ 1000 * 1000 := hm
    have h8 : (#[] : Array Nat).size = 0 := rfl
    omega
theorem Rps.rep {vs : List V} {ds : List PyData} (r : Rps K H U vs ds) : ∀ n : Nat, Rps K H U (List.replicate n vs).flatten (List.replicate n ds).flatten
  | 0 => by simpa using .nil
  | n + 1 => by
    simp only [List.replicate_succ, List.flatten_cons]
    exact r.app (Rps.rep r n)
theorem bin_mul : BinOk X w .mul .Mult := ⟨_, op_mul.or (op_rep.or (op_repT.or op_mul_str)), fun σ H U ρ x y d e v Q er hx hy hv h => by
  unfold bin2 at hv
  split at hv <;> try cases hv
  all_goals first | contradiction | skip
  all_goals (split at hv <;> try cases hv)
  · rename_i c
    refine .inl ⟨_, _, rp_int hx, rp_int hy, ?_, h.one er (.int _)⟩
    rcases (Bool.or_eq_true _ _ ▸ c : _ ∨ _) with c | c
    · exact .inl (of_decide_eq_true c)
    · exact .inr (of_decide_eq_true c)
  · rename_i c
    obtain ⟨a, vs, rfl, h1, r1⟩ := rp_tup hx
    obtain ⟨c1, c2, c3, c4⟩ := of_decide_eq_true c
    refine .inr (.inr (.inl ⟨a, _, vs, rfl, rp_int hy, h1.sq, fun e0 => c1 (by rw [r1.nil_iff.mp e0]; rfl), c2, c3, by rw [r1.len]; exact c4, fun p hp => h.newT er (r1.rep _) hp⟩))
  · rename_i c
    obtain ⟨c1, c2, c3, c4⟩ := of_decide_eq_true c
    exact .inr (.inr (.inr ⟨_, _, rp_str hx, rp_int hy, c1, c2, c3, c4, h.one er (.str _)⟩))
  · rename_i c
    obtain ⟨a, vs, rfl, h1, r1⟩ := hx
    obtain ⟨c1, c2⟩ := (Bool.and_eq_true _ _).mp c
    obtain ⟨c3, c4⟩ := of_decide_eq_true c1
    refine .inr (.inl ⟨a, _, vs, rfl, rp_int hy, h1, by omega, by omega, by rw [r1.len]; exact size_le c2, fun p hp => h.newL er (r1.rep _) hp⟩)⟩
/-! ### comparisons -/
def CmpOk (X : Cx) (o : Cmp) (op : CmpOp) : Prop := ∃ r : R2, OpR X (compareOp op) r ∧ ∀ (H : Hp) (U : Addr → Prop) (x y : V) (d e : D) (b : Bool) (Q : VK),
  Vw X.K H U x d → Vw X.K H U y e → cmp2 o d e = some b → Q (.bl b) H → r x y H Q
theorem cmp_lt : CmpOk X .lt .Lt := ⟨_, op_lt, fun H U x y d e b Q hx hy hv h => by
  unfold cmp2 at hv
  split at hv <;> try cases hv
  all_goals first | contradiction | skip
  exact ⟨_, _, rp_int hx, rp_int hy, h⟩⟩
theorem cmp_le : CmpOk X .le .LtE := ⟨_, op_le, fun H U x y d e b Q hx hy hv h => by
  unfold cmp2 at hv
  split at hv <;> try cases hv
  all_goals first | contradiction | skip
  exact ⟨_, _, rp_int hx, rp_int hy, h⟩⟩
theorem cmp_gt : CmpOk X .gt .Gt := ⟨_, op_gt, fun H U x y d e b Q hx hy hv h => by
  unfold cmp2 at hv
  split at hv <;> try cases hv
  all_goals first | contradiction | skip
  exact ⟨_, _, rp_int hx, rp_int hy, h⟩⟩
theorem cmp_ge : CmpOk X .ge .GtE := ⟨_, op_ge, fun H U x y d e b Q hx hy hv h => by
  unfold cmp2 at hv
  split at hv <;> try cases hv
  all_goals first | contradiction | skip
  exact ⟨_, _, rp_int hx, rp_int hy, h⟩⟩
theorem cmp_eq (hu : X.A.units + 190 < cLine) : CmpOk X .eq .Eq := ⟨_, op_eqD (by omega), fun H U x y d e b Q hx hy hv h => by
  unfold cmp2 at hv
  split at hv <;> try cases hv
  all_goals first | contradiction | skip
  split at hv <;> cases hv
  rename_i c
  obtain ⟨c1, c2⟩ := (Bool.and_eq_true _ _).mp c
  exact ⟨_, _, hx.dp, hy.dp, c1, c2, h⟩⟩
theorem cmp_ne (hu : X.A.units + 190 < cLine) : CmpOk X .ne .NotEq := ⟨_, op_neD (by omega), fun H U x y d e b Q hx hy hv h => by
  unfold cmp2 at hv
  split at hv <;> try cases hv
  all_goals first | contradiction | skip
  split at hv <;> cases hv
  rename_i c
  obtain ⟨c1, c2⟩ := (Bool.and_eq_true _ _).mp c
  exact ⟨_, _, hx.dp, hy.dp, c1, c2, h⟩⟩
theorem room_t {A : Around} {d : D} {ds : List D} (hd : SeqAt.shaped d = true) (hu : A.units + 190 < cLine) : A.units + 1 + min (PyData.depthAll ds) d.depth < cLine := by
  have h1 := SeqAt.depth_of_shaped hd
  have h2 : min (PyData.depthAll ds) d.depth ≤ d.depth := Nat.min_le_right _ _
  omega
theorem op_inTup (hu : X.A.units + 190 < cLine) : OpR X (compareOp .In) (fun x y H Q => ∃ d ds, Dp X.K H x d ∧ Dp X.K H y (.tuple ds) ∧ SeqAt.shaped d = true ∧ SeqAt.shaped (.tuple ds) = true ∧ Q (.bl (ds.any fun z => PyData.eqv z d)) H) := by
  intro pins s σ H x y v u Q I rx ry h'
  have h := h'
  obtain ⟨d, ds, hd, he, sd, se, q⟩ := id h
  obtain ⟨as, r1⟩ := (Dp.reads I d x v hd rx)
  obtain ⟨bs, r2⟩ := Dp.reads I (.tuple ds) y u he ry
  have hl : PyData.canLayAll0 ds = true := SeqAt.canLay_of_shaped se
  exact SeqAt.in_tuple_reads r2 r1 hl (SeqAt.canLay_of_shaped sd) (room_t sd hu) ⟨.bl _, H, I, rfl, q⟩
theorem op_ninTup (hu : X.A.units + 190 < cLine) : OpR X (compareOp .NotIn) (fun x y H Q => ∃ d ds, Dp X.K H x d ∧ Dp X.K H y (.tuple ds) ∧ SeqAt.shaped d = true ∧ SeqAt.shaped (.tuple ds) = true ∧ Q (.bl (!ds.any fun z => PyData.eqv z d)) H) := by
  intro pins s σ H x y v u Q I rx ry h'
  have h := h'
  obtain ⟨d, ds, hd, he, sd, se, q⟩ := id h
  obtain ⟨as, r1⟩ := (Dp.reads I d x v hd rx)
  obtain ⟨bs, r2⟩ := Dp.reads I (.tuple ds) y u he ry
  have hl : PyData.canLayAll0 ds = true := SeqAt.canLay_of_shaped se
  exact SeqAt.notIn_tuple_reads r2 r1 hl (SeqAt.canLay_of_shaped sd) (room_t sd hu) ⟨.bl _, H, I, rfl, q⟩
theorem cmp_mem (hu : X.A.units + 190 < cLine) : CmpOk X .mem .In := ⟨_, op_in_str.or ((op_inD (by omega)).or (op_inTup hu)), fun H U x y d e b Q hx hy hv h => by
  unfold cmp2 at hv
  split at hv <;> try cases hv
  all_goals first | contradiction | skip
  · exact .inl ⟨_, _, rp_str hx, rp_str hy, h⟩
  · split at hv <;> try cases hv
    rename_i c
    obtain ⟨c1, c2⟩ := (Bool.and_eq_true _ _).mp c
    unfold memD at hv
    split at hv <;> cases hv
    · exact .inr (.inl ⟨_, _, hx.dp, hy.dp, c1, c2, h⟩)
    · exact .inr (.inr ⟨_, _, hx.dp, hy.dp, c1, c2, h⟩)⟩
theorem cmp_nmem (hu : X.A.units + 190 < cLine) : CmpOk X .nmem .NotIn := ⟨_, op_notin_str.or ((op_notInD (by omega)).or (op_ninTup hu)), fun H U x y d e b Q hx hy hv h => by
  unfold cmp2 at hv
  split at hv <;> try cases hv
  all_goals first | contradiction | skip
  · exact .inl ⟨_, _, rp_str hx, rp_str hy, h⟩
  · split at hv <;> try cases hv
    rename_i c
    obtain ⟨c1, c2⟩ := (Bool.and_eq_true _ _).mp c
    unfold memD at hv
    split at hv <;> cases hv
    · exact .inr (.inl ⟨_, _, hx.dp, hy.dp, c1, c2, h⟩)
    · exact .inr (.inr ⟨_, _, hx.dp, hy.dp, c1, c2, h⟩)⟩
variable {cl : Fun} {W : WX}
theorem se_cmp {a b : Expr} {ta tb : T} {o : Cmp} {op : CmpOp} {pos : Pos} (ho : CmpOk X o op) (ha : SO X w cl W a ta) (hb : SO X w cl W b tb) (hm : behindInMarks op b = false) : SE X w cl W (.Compare a [op] [b] pos) (.cmp o ta tb) := by
  obtain ⟨r, hr, hk⟩ := ho
  obtain ⟨ea, pa, ka⟩ := ha
  obtain ⟨eb, pb, kb⟩ := hb
  refine ⟨_, pe_cmpR hr pa pb hm, fun σ H U ρ Q er h => ka σ H U ρ _ er ?_⟩
  unfold evE at h
  refine h.bind.mono (fun o1 ρ1 h x H1 U1 p1 r1 => kb σ H1 U1 ρ1 _ p1.er ?_) fun _ _ h => h
  refine h.bind.mono (fun o2 ρ2 h y H2 U2 p2 r2 => ?_) fun _ _ h => h.on er p1
  obtain ⟨d, e1, h⟩ := h.get
  obtain ⟨e, e2, h⟩ := h.get
  obtain ⟨v, e3, h⟩ := h.get
  exact hk H2 U2 x y d e v Q ((r1.on p2 p1.er).vw p2.er e1) (r2.vw p2.er e2) e3 ((OkE.on h er (p1.trans er p2)).one p2.er (.bl v))
theorem st_cmp {a b : Expr} {ta tb : T} {o : Cmp} {op : CmpOp} {pos : Pos} (ho : CmpOk X o op) (ha : SO X w cl W a ta) (hb : SO X w cl W b tb) (hm : behindInMarks op b = false) : ST X w cl W (.Compare a [op] [b] pos) (.cmp o ta tb) := by
  obtain ⟨r, hr, hk⟩ := ho
  obtain ⟨ea, pa, ka⟩ := ha
  obtain ⟨eb, pb, kb⟩ := hb
  refine ⟨_, pt_cmpR hr pa pb hm, fun σ H U ρ Q er h => ka σ H U ρ _ er ?_⟩
  unfold evT at h
  refine h.bind.mono (fun o1 ρ1 h x H1 U1 p1 r1 => kb σ H1 U1 ρ1 _ p1.er ?_) fun _ _ h => h
  refine h.bind.mono (fun o2 ρ2 h y H2 U2 p2 r2 => ?_) fun _ _ h => h.on er p1
  obtain ⟨d, e1, h⟩ := h.get
  obtain ⟨e, e2, h⟩ := h.get
  obtain ⟨v, e3, h⟩ := h.get
  exact hk H2 U2 x y d e v _ ((r1.on p2 p1.er).vw p2.er e1) (r2.vw p2.er e2) e3 ⟨v, rfl, h H2 U2 (p1.trans er p2)⟩
theorem se_chn {a b c : Expr} {ta tb tc : T} {o o' : Cmp} {op op' : CmpOp} {pos : Pos} (ho : CmpOk X o op) (ho' : CmpOk X o' op') (ha : SO X w cl W a ta) (hb : SO X w cl W b tb) (hc : SO X w cl W c tc) (hm : lastMarks [op, op'] [b, c] = false) :
    SE X w cl W (.Compare a [op, op'] [b, c] pos) (.chn o o' ta tb tc) := by
  obtain ⟨r, hr, hk⟩ := ho
  obtain ⟨r', hr', hk'⟩ := ho'
  obtain ⟨ea, pa, ka⟩ := ha
  obtain ⟨eb, pb, kb⟩ := hb
  obtain ⟨ec, pc, kc⟩ := hc
  refine ⟨_, pe_chain hr hr' pa pb pc hm, fun σ H U ρ Q er h => ka σ H U ρ _ er ?_⟩
  unfold evE at h
  refine h.bind.mono (fun o1 ρ1 h x H1 U1 p1 r1 => kb σ H1 U1 ρ1 _ p1.er ?_) fun _ _ h => h
  refine h.bind.mono (fun o2 ρ2 h y H2 U2 p2 r2 => ?_) fun _ _ h => h.on er p1
  obtain ⟨d, e1, h⟩ := h.get
  obtain ⟨e, e2, h⟩ := h.get
  obtain ⟨v, e3, h⟩ := h.get
  refine hk H2 U2 x y d e v _ ((r1.on p2 p1.er).vw p2.er e1) (r2.vw p2.er e2) e3 ⟨v, rfl, ?_⟩
  have p := p1.trans er p2
  cases v with
  | false =>
    rw [if_neg (by decide)]
    exact (OkE.on h er p).one p2.er (.bl false)
  | true =>
    rw [if_pos rfl]
    refine kc σ H2 U2 ρ2 _ p2.er (h.bind.mono (fun o3 ρ3 h z H3 U3 p3 r3 => ?_) fun _ _ h => h.on er p)
    obtain ⟨e', e4, h⟩ := h.get
    obtain ⟨f, e5, h⟩ := h.get
    obtain ⟨v', e6, h⟩ := h.get
    exact hk' H3 U3 y z e' f v' Q ((r2.on p3 p2.er).vw p3.er e4) (r3.vw p3.er e5) e6 ((OkE.on h er (p.trans er p3)).one p3.er (.bl v'))
theorem st_chn {a b c : Expr} {ta tb tc : T} {o o' : Cmp} {op op' : CmpOp} {pos : Pos} (ho : CmpOk X o op) (ho' : CmpOk X o' op') (ha : SO X w cl W a ta) (hb : SO X w cl W b tb) (hc : SO X w cl W c tc) (hm : lastMarks [op, op'] [b, c] = false) :
    ST X w cl W (.Compare a [op, op'] [b, c] pos) (.chn o o' ta tb tc) := by
  obtain ⟨r, hr, hk⟩ := ho
  obtain ⟨r', hr', hk'⟩ := ho'
  obtain ⟨ea, pa, ka⟩ := ha
  obtain ⟨eb, pb, kb⟩ := hb
  obtain ⟨ec, pc, kc⟩ := hc
  refine ⟨_, pt_chain hr hr' pa pb pc hm, fun σ H U ρ Q er h => ka σ H U ρ _ er ?_⟩
  unfold evT at h
  refine h.bind.mono (fun o1 ρ1 h x H1 U1 p1 r1 => kb σ H1 U1 ρ1 _ p1.er ?_) fun _ _ h => h
  refine h.bind.mono (fun o2 ρ2 h y H2 U2 p2 r2 => ?_) fun _ _ h => h.on er p1
  obtain ⟨d, e1, h⟩ := h.get
  obtain ⟨e, e2, h⟩ := h.get
  obtain ⟨v, e3, h⟩ := h.get
  refine hk H2 U2 x y d e v _ ((r1.on p2 p1.er).vw p2.er e1) (r2.vw p2.er e2) e3 ⟨v, rfl, ?_⟩
  have p := p1.trans er p2
  cases v with
  | false =>
    rw [if_neg (by decide)]
    exact ⟨false, rfl, h H2 U2 p⟩
  | true =>
    rw [if_pos rfl]
    refine kc σ H2 U2 ρ2 _ p2.er (h.bind.mono (fun o3 ρ3 h z H3 U3 p3 r3 => ?_) fun _ _ h => h.on er p)
    obtain ⟨e', e4, h⟩ := h.get
    obtain ⟨f, e5, h⟩ := h.get
    obtain ⟨v', e6, h⟩ := h.get
    exact hk' H3 U3 y z e' f v' _ ((r2.on p3 p2.er).vw p3.er e4) (r3.vw p3.er e5) e6 ⟨v', rfl, h H3 U3 (p.trans er p3)⟩
/-! ### not, and, or, if-else, minus -/
theorem st_val {e : Expr} {t : T} (h : SE X w cl W e t) (hs : ∀ whole, isTrue e X.env whole = (do let v ← whole; standAt e.pos; holding [v] (truthy v)))
    (hv : ∀ ρ, evT cl t ρ = (evE cl t ρ).bind fun q => (get (truth q.1)).bind fun b => .ok (b, q.2)) : ST X w cl W e t := by
  obtain ⟨te, pe, k⟩ := h
  refine ⟨_, pt_val pe hs, fun σ H U ρ Q er h => k σ H U ρ _ er ?_⟩
  rw [hv] at h
  refine h.bind.mono (fun v ρ1 h x H1 U1 p1 r f => ?_) fun _ _ h => h
  obtain ⟨b, e1, h⟩ := h.get
  cases v with
  | dat d =>
    cases d with
    | bool c =>
      cases e1
      exact ⟨_, rp_bl r, h H1 U1 p1⟩
    | none => cases e1
    | int _ => cases e1
    | str _ => cases e1
    | list _ => cases e1
    | tuple _ => cases e1
    | dict _ => cases e1
  | fn _ => cases e1
  | lst _ => cases e1
  | lck _ => cases e1
  | dct _ => cases e1
  | scr _ => cases e1
theorem st_not {a : Expr} {ta : T} {pos : Pos} (ha : ST X w cl W a ta) : ST X w cl W (.UnaryOp .Not a pos) (.not ta) := by
  obtain ⟨ea, pa, ka⟩ := ha
  refine ⟨_, pt_not pa, fun σ H U ρ Q er h => ka σ H U ρ _ er ?_⟩
  unfold evT at h
  exact h.bind.mono (fun b ρ1 h H1 U1 p1 => h H1 U1 p1) fun _ _ h => h
/-- a chain of and, or -/
def SW (X : Cx) (w : Wd) (cl : Fun) (W : WX) (e : Expr) (t : T) : Prop :=
  ∃ tt : TT, PW X e tt ∧ ∀ σ H U ρ Q, ER X.K w.fa H U σ ρ →
    Aft (evT cl t ρ) (fun b ρ' => ∀ H' U', Pst X.K w.fa σ H U ρ H' U' ρ' → Q b H') (XcE X.K w W σ H U ρ) → tt σ H Q
theorem SW.st {e : Expr} {t : T} (h : SW X w cl W e t) : ST X w cl W e t := by
  obtain ⟨tt, p, k⟩ := h
  exact ⟨tt, p.pt, k⟩
theorem sw_and1 {a : Expr} {ta : T} {pos : Pos} (ha : ST X w cl W a ta) : SW X w cl W (.BoolOp .And [a] pos) ta := by
  obtain ⟨tt, p, k⟩ := ha
  exact ⟨tt, pw_and1 p, k⟩
theorem sw_or1 {a : Expr} {ta : T} {pos : Pos} (ha : ST X w cl W a ta) : SW X w cl W (.BoolOp .Or [a] pos) ta := by
  obtain ⟨tt, p, k⟩ := ha
  exact ⟨tt, pw_or1 p, k⟩
theorem sw_and {a b : Expr} {rest : List Expr} {ta tb : T} {pos : Pos} (ha : ST X w cl W a ta) (hb : SW X w cl W (.BoolOp .And (b :: rest) pos) tb) : SW X w cl W (.BoolOp .And (a :: b :: rest) pos) (.and ta tb) := by
  obtain ⟨ea, pa, ka⟩ := ha
  obtain ⟨eb, pb, kb⟩ := hb
  refine ⟨_, pw_and pa pb, fun σ H U ρ Q er h => ka σ H U ρ _ er ?_⟩
  unfold evT at h
  refine h.bind.mono (fun b ρ1 h H1 U1 p1 => ?_) fun _ _ h => h
  cases b with
  | false =>
    rw [if_neg (by decide)]
    exact h H1 U1 p1
  | true =>
    rw [if_pos rfl]
    exact kb σ H1 U1 ρ1 _ p1.er (Aft.mono h (fun b ρ2 h H2 U2 p2 => h H2 U2 (p1.trans er p2)) fun _ _ h => h.on er p1)
theorem sw_or {a b : Expr} {rest : List Expr} {ta tb : T} {pos : Pos} (ha : ST X w cl W a ta) (hb : SW X w cl W (.BoolOp .Or (b :: rest) pos) tb) : SW X w cl W (.BoolOp .Or (a :: b :: rest) pos) (.or ta tb) := by
  obtain ⟨ea, pa, ka⟩ := ha
  obtain ⟨eb, pb, kb⟩ := hb
  refine ⟨_, pw_or pa pb, fun σ H U ρ Q er h => ka σ H U ρ _ er ?_⟩
  unfold evT at h
  refine h.bind.mono (fun b ρ1 h H1 U1 p1 => ?_) fun _ _ h => h
  cases b with
  | true =>
    rw [if_pos rfl]
    exact h H1 U1 p1
  | false =>
    rw [if_neg (by decide)]
    exact kb σ H1 U1 ρ1 _ p1.er (Aft.mono h (fun b ρ2 h H2 U2 p2 => h H2 U2 (p1.trans er p2)) fun _ _ h => h.on er p1)
theorem truth_bl {K : PySem.W.Frag} {fa : Nat → Option Addr} {H : Hp} {U : Addr → Prop} {x : V} {v : Vl} {b : Bool} (e : truth v = some b) (r : RV K fa H U x v) : x = .bl b ∧ v = .dat (.bool b) := by
  unfold truth at e
  split at e <;> cases e
  exact ⟨rp_bl r, rfl⟩
theorem se_one {a : Expr} {ta : T} {op : PySem.BoolOp} {pos : Pos} (ha : SE X w cl W a ta) : SE X w cl W (.BoolOp op [a] pos) ta := by
  obtain ⟨tt, p, k⟩ := ha
  exact ⟨tt, pe_one p, k⟩
theorem se_and {a b : Expr} {rest : List Expr} {ta tb : T} {pos : Pos} (ha : SE X w cl W a ta) (hb : SE X w cl W (.BoolOp .And (b :: rest) pos) tb) : SE X w cl W (.BoolOp .And (a :: b :: rest) pos) (.and ta tb) := by
  obtain ⟨ea, pa, ka⟩ := ha
  obtain ⟨eb, pb, kb⟩ := hb
  refine ⟨_, pe_and pa pb, fun σ H U ρ Q er h => ka σ H U ρ _ er ?_⟩
  unfold evE at h
  refine h.bind.mono (fun v ρ1 h x H1 U1 p1 r f => ?_) fun _ _ h => h
  obtain ⟨c, e1, h⟩ := h.get
  obtain ⟨rfl, rfl⟩ := truth_bl e1 r
  refine ⟨c, rfl, ?_⟩
  cases c with
  | false =>
    rw [if_neg (by decide)]
    exact (OkE.on h er p1).one p1.er (.bl false)
  | true =>
    rw [if_pos rfl]
    exact kb σ H1 U1 ρ1 _ p1.er (Aft.mono h (fun b ρ2 h => OkE.on h er p1) fun _ _ h => h.on er p1)
theorem se_or {a b : Expr} {rest : List Expr} {ta tb : T} {pos : Pos} (ha : SE X w cl W a ta) (hb : SE X w cl W (.BoolOp .Or (b :: rest) pos) tb) : SE X w cl W (.BoolOp .Or (a :: b :: rest) pos) (.or ta tb) := by
  obtain ⟨ea, pa, ka⟩ := ha
  obtain ⟨eb, pb, kb⟩ := hb
  refine ⟨_, pe_or pa pb, fun σ H U ρ Q er h => ka σ H U ρ _ er ?_⟩
  unfold evE at h
  refine h.bind.mono (fun v ρ1 h x H1 U1 p1 r f => ?_) fun _ _ h => h
  obtain ⟨c, e1, h⟩ := h.get
  obtain ⟨rfl, rfl⟩ := truth_bl e1 r
  refine ⟨c, rfl, ?_⟩
  cases c with
  | true =>
    rw [if_pos rfl]
    exact (OkE.on h er p1).one p1.er (.bl true)
  | false =>
    rw [if_neg (by decide)]
    exact kb σ H1 U1 ρ1 _ p1.er (Aft.mono h (fun b ρ2 h => OkE.on h er p1) fun _ _ h => h.on er p1)
theorem se_not {a : Expr} {ta : T} {pos : Pos} (ha : SE X w cl W a ta) : SE X w cl W (.UnaryOp .Not a pos) (.not ta) := by
  obtain ⟨ea, pa, ka⟩ := ha
  refine ⟨_, pe_not pa, fun σ H U ρ Q er h => ka σ H U ρ _ er ?_⟩
  unfold evE at h
  refine h.bind.mono (fun v ρ1 h x H1 U1 p1 r f => ?_) fun _ _ h => h
  obtain ⟨c, e1, h⟩ := h.get
  obtain ⟨rfl, rfl⟩ := truth_bl e1 r
  exact ⟨c, rfl, (OkE.on h er p1).one p1.er (.bl _)⟩
theorem se_ite {c a b : Expr} {tc ta tb : T} {pos : Pos} (hc : ST X w cl W c tc) (ha : SE X w cl W a ta) (hb : SE X w cl W b tb) : SE X w cl W (.IfExp c a b pos) (.ite tc ta tb) := by
  obtain ⟨ec, pc, kc⟩ := hc
  obtain ⟨ea, pa, ka⟩ := ha
  obtain ⟨eb, pb, kb⟩ := hb
  refine ⟨_, pe_ifExp pc pa pb, fun σ H U ρ Q er h => kc σ H U ρ _ er ?_⟩
  unfold evE at h
  refine h.bind.mono (fun v ρ1 h H1 U1 p1 => ?_) fun _ _ h => h
  cases v with
  | true =>
    rw [if_pos rfl]
    exact ka σ H1 U1 ρ1 _ p1.er (Aft.mono h (fun b ρ2 h => OkE.on h er p1) fun _ _ h => h.on er p1)
  | false =>
    rw [if_neg (by decide)]
    exact kb σ H1 U1 ρ1 _ p1.er (Aft.mono h (fun b ρ2 h => OkE.on h er p1) fun _ _ h => h.on er p1)
theorem se_neg {a : Expr} {ta : T} {pos : Pos} (ha : SE X w cl W a ta) : SE X w cl W (.UnaryOp .USub a pos) (.neg ta) := by
  obtain ⟨ea, pa, ka⟩ := ha
  refine ⟨_, pe_un un_neg pa, fun σ H U ρ Q er h => ka σ H U ρ _ er ?_⟩
  unfold evE at h
  refine h.bind.mono (fun v ρ1 h x H1 U1 p1 r f => ?_) fun _ _ h => h
  split at h
  · rename_i i e
    subst e
    exact ⟨i, rp_int r, (OkE.on h er p1).one p1.er (.int _)⟩
  · exact h.elim
/-! ### displays -/
def SD (X : Cx) (w : Wd) (cl : Fun) (W : WX) (es : List Expr) (ts : List T) : Prop :=
  ∃ ta : TA, PA X es ta ∧ ∀ σ H U ρ Q, ER X.K w.fa H U σ ρ →
    Aft (evDs cl ts ρ) (fun ds ρ' => ∀ xs H' U', Pst X.K w.fa σ H U ρ H' U' ρ' → Rps X.K H' U' xs ds → Q xs H') (XcE X.K w W σ H U ρ) → ta σ H Q
theorem sd_nil : SD X w cl W [] [] := ⟨_, pa_nil, fun σ H U ρ Q er h => h [] H U (Pst.refl er) .nil⟩
/-- a value is given up -/
theorem give {K : PySem.W.Frag} {σ : L2.St} {H H1 : Hp} {U U1 : Addr → Prop} {ρ ρ1 : Env} {x : V} {v : Vl} {d : D} (er : ER K w.fa H U σ ρ) (p : Pst K w.fa σ H U ρ H1 U1 ρ1) (r : RV K w.fa H1 U1 x v) (f : Frh ρ1 σ H x v) (e : v.frz = some d) :
    ∃ U2, Pst K w.fa σ H U ρ H1 U2 ρ1 ∧ Rp K H1 U2 x d := by
  cases v with
  | dat d' => cases e; exact ⟨U1, p, r⟩
  | lst ds =>
    cases e
    obtain ⟨a, vs, rfl, u, eh, rr⟩ := r
    obtain ⟨n, h0⟩ := f rfl a rfl
    exact ⟨subU U1 a, p.give er n h0, Rp.given eh rr⟩
  | fn _ => cases e
  | lck _ => cases e
  | dct _ => cases e
  | scr _ => cases e
theorem sd_cons {e : Expr} {es : List Expr} {t : T} {ts : List T} (he : SE X w cl W e t) (hs : SD X w cl W es ts) (hst : starEach (e :: es) X.env = (false, eval e X.env) :: starEach es X.env) : SD X w cl W (e :: es) (t :: ts) := by
  obtain ⟨ea, pa, ka⟩ := he
  obtain ⟨eb, pb, kb⟩ := hs
  refine ⟨_, pa_cons pa pb hst, fun σ H U ρ Q er h => ka σ H U ρ _ er ?_⟩
  unfold evDs at h
  refine h.bind.mono (fun v ρ1 h x H1 U1 p1 r f => ?_) fun _ _ h => h
  obtain ⟨d, e1, h⟩ := h.get
  obtain ⟨U2, p2, r2⟩ := give er p1 r f e1
  refine kb σ H1 U2 ρ1 _ p2.er (h.bind.mono (fun ds ρ2 h xs H3 U3 p3 r3 => ?_) fun _ _ h => h.on er p2)
  exact h (x :: xs) H3 U3 (p2.trans er p3) (.cons (r2.sta (p3.sta p2.er)) r3)
theorem len_ev : ∀ (ts : List T) (ρ : Env) (ds : List D) (ρ' : Env), evDs cl ts ρ = .ok (ds, ρ') → ds.length = ts.length
  | [], ρ, ds, ρ', h => by
    unfold evDs at h
    cases h; rfl
  | t :: ts, ρ, ds, ρ', h => by
    unfold evDs at h
    cases e : evE cl t ρ with
    | stuck => rw [e] at h; cases h
    | exc x r => rw [e] at h; cases h
    | ok p =>
      rw [e] at h
      simp only [Res.bind_ok] at h
      cases e2 : p.1.frz with
      | none => rw [e2] at h; cases h
      | some d =>
        rw [e2] at h
        simp only [get_some, Res.bind_ok] at h
        cases e3 : evDs cl ts p.2 with
        | stuck => rw [e3] at h; cases h
        | exc x r => rw [e3] at h; cases h
        | ok q =>
          rw [e3] at h
          cases h
          simp [len_ev ts _ _ _ e3]
theorem Aft.and {α : Type} {r : Res (α × Env)} {ok : α → Env → Prop} {ex : Ex → Env → Prop} {P : α → Prop} (h : Aft r ok ex) (k : ∀ a ρ, r = .ok (a, ρ) → P a) : Aft r (fun a ρ => P a ∧ ok a ρ) ex := by
  cases r with
  | ok a => exact ⟨k _ _ rfl, h⟩
  | exc x ρ => exact h
  | stuck => exact h
theorem se_tup {es : List Expr} {ts : List T} {k : Nat} {pos : Pos} (h : SD X w cl W es ts) (hl : decide (ts.length ≤ 16777216) = true) : SE X w cl W (.Tuple es k pos) (.tup ts) := by
  obtain ⟨ea, pa, ka⟩ := h
  refine ⟨_, pe_tup pa, fun σ H U ρ Q er h => ka σ H U ρ _ er ?_⟩
  unfold evE at h
  refine (h.bind.and (P := fun ds => ds.length = ts.length) fun ds ρ' e => len_ev ts ρ ds ρ' e).mono (fun ds ρ1 ⟨hn, h⟩ xs H1 U1 p1 r => ?_) fun _ _ h => h
  exact ⟨by rw [r.len, hn]; exact size_le hl, fun p hp => (OkE.on h er p1).newT p1.er r hp⟩
theorem se_lst {es : List Expr} {ts : List T} {pos : Pos} (h : SD X w cl W es ts) (hl : decide (ts.length ≤ 16777216) = true) : SE X w cl W (.List es pos) (.lst ts) := by
  obtain ⟨ea, pa, ka⟩ := h
  refine ⟨_, pe_lst pa, fun σ H U ρ Q er h => ka σ H U ρ _ er ?_⟩
  unfold evE at h
  refine (h.bind.and (P := fun ds => ds.length = ts.length) fun ds ρ' e => len_ev ts ρ ds ρ' e).mono (fun ds ρ1 ⟨hn, h⟩ xs H1 U1 p1 r => ?_) fun _ _ h => h
  exact ⟨by rw [r.len, hn]; exact size_le hl, fun p hp => (OkE.on h er p1).newL p1.er r hp⟩
end
end Pv
set_option Elab.async false
set_option linter.all false
set_option maxRecDepth 100000
set_option maxHeartbeats 2100000
namespace Pv
open PySem L2 PyProof.Rows
section
variable {X : Cx} {w : Wd} {cl : Fun} {W : WX} {K : PySem.W.Frag} {σ : L2.St} {H : Hp} {U : Addr → Prop} {ρ : Env} {Q : VK}
/-! ### an item -/
theorem Rps.atI {vs : List V} {ds : List D} {i : Int} {d : D} (r : Rps K H U vs ds) (h : L2.atI ds i = some d) : ∃ v, L2.atI vs i = some v ∧ Rp K H U v d := by
  unfold L2.atI at h ⊢
  rw [r.len]
  cases e : ixN ds.length i with
  | none => (rw [e] at h; cases h)
  | some j =>
    rw [e] at h
    exact r.get h
theorem se_ix {a b : Expr} {ta tb : T} {pos : Pos} (ha : SO X w cl W a ta) (hb : SO X w cl W b tb) (hs : PlainIx b) : SE X w cl W (.Subscript a b pos) (.ix ta tb) := by
  obtain ⟨ea, pa, ka⟩ := ha
  obtain ⟨eb, pb, kb⟩ := hb
  refine ⟨_, pe_ix ix_seq pa pb hs, fun σ H U ρ Q er h => ka σ H U ρ _ er ?_⟩
  unfold evE at h
  refine h.bind.mono (fun o1 ρ1 h x H1 U1 p1 r1 => kb σ H1 U1 ρ1 _ p1.er ?_) fun _ _ h => h
  refine h.bind.mono (fun o2 ρ2 h y H2 U2 p2 r2 => ?_) fun _ _ h => h.on er p1
  obtain ⟨d, e1, h⟩ := h.get
  obtain ⟨e, e2, h⟩ := h.get
  obtain ⟨v, e3, h⟩ := h.get
  have h' := OkE.on h er (p1.trans er p2)
  have hx := (r1.on p2 p1.er).vw p2.er e1
  have hy := r2.vw p2.er e2
  unfold ix2 at e3
  split at e3
  · obtain ⟨q, vs, rfl, s, r⟩ := hx
    obtain ⟨z, e4, rz⟩ := r.atI e3
    exact .inl ⟨q, vs, _, z, rfl, rp_int hy, SqL.of s, e4, h'.one p2.er rz⟩
  · obtain ⟨q, vs, rfl, s, r⟩ := rp_tup hx
    obtain ⟨z, e4, rz⟩ := r.atI e3
    exact .inr (.inl ⟨q, vs, _, z, rfl, rp_int hy, s.sq, e4, h'.one p2.er rz⟩)
  · split at e3 <;> try cases e3
    rename_i c
    obtain ⟨c', e4, e5⟩ := Option.map_eq_some_iff.mp e3
    subst e5
    exact .inr (.inr ⟨_, _, c', rp_str hx, rp_int hy, size_le c, e4, h'.one p2.er (.str _)⟩)
  · cases e3
/-! ### slices -/
theorem Rps.cut {vs : List V} {ds : List D} (lo hi : Option Int) (r : Rps K H U vs ds) : Rps K H U (cutV vs lo hi) (cutL ds lo hi) := by
  unfold cutV cutL
  rw [r.len]
  exact (r.drop _).take _
def SP (X : Cx) (w : Wd) (cl : Fun) (W : WX) (e : Option Expr) (t : Option T) : Prop :=
  ∃ to : TO, PO X e to ∧ ∀ σ H U ρ Q, ER X.K w.fa H U σ ρ →
    Aft (evO cl t ρ) (fun o ρ' => ∀ H' U', Pst X.K w.fa σ H U ρ H' U' ρ' → Q o H') (XcE X.K w W σ H U ρ) → to σ H Q
theorem sp_none : SP X w cl W none none := ⟨_, po_none, fun σ H U ρ Q er h => h H U (Pst.refl er)⟩
theorem sp_some {e : Expr} {t : T} (he : SE X w cl W e t) : SP X w cl W (some e) (some t) := by
  obtain ⟨ea, pa, ka⟩ := he
  refine ⟨_, po_some pa, fun σ H U ρ Q er h => ka σ H U ρ _ er ?_⟩
  unfold evO at h
  refine h.bind.mono (fun v ρ1 h x H1 U1 p1 r f => ?_) fun _ _ h => h
  split at h
  · rename_i i e
    subst e
    exact ⟨i, rp_int r, h H1 U1 p1⟩
  · exact h.elim
theorem cut_all {α : Type} {xs : List α} {lo hi : Option Int} (h : HT.sIx xs.length 0 lo = 0 ∧ HT.sIx xs.length xs.length hi = xs.length) : cutL xs lo hi = xs := by
  unfold cutL
  rw [h.1, h.2]
  simp
theorem se_sl {a : Expr} {lo hi : Option Expr} {ta : T} {tl th : Option T} {p2 pos : Pos} (ha : SO X w cl W a ta) (hl : SP X w cl W lo tl) (hh : SP X w cl W hi th) : SE X w cl W (.Subscript a (.Slice lo hi none p2) pos) (.sl ta tl th) := by
  obtain ⟨ea, pa, ka⟩ := ha
  obtain ⟨el, pl, kl⟩ := hl
  obtain ⟨eh, ph, kh⟩ := hh
  refine ⟨_, pe_slice (sl_list.or (sl_tupA.or sl_str)) pa pl ph, fun σ H U ρ Q er h => ka σ H U ρ _ er ?_⟩
  unfold evE at h
  refine h.bind.mono (fun o1 ρ1 h x H1 U1 p1 r1 => kl σ H1 U1 ρ1 _ p1.er ?_) fun _ _ h => h
  refine h.bind.mono (fun l ρ2 h H2 U2 p2 => kh σ H2 U2 ρ2 _ p2.er ?_) fun _ _ h => h.on er p1
  have p12 := p1.trans er p2
  refine h.bind.mono (fun u ρ3 h H3 U3 p3 => ?_) fun _ _ h => h.on er p12
  obtain ⟨d, e1, h⟩ := h.get
  obtain ⟨v, e2, h⟩ := h.get
  have h' := OkE.on h er (p12.trans er p3)
  have hx := ((r1.on p2 p1.er).on p3 p2.er).vw p3.er e1
  unfold slice2 at e2
  split at e2 <;> try cases e2
  · obtain ⟨q, vs, rfl, s, r⟩ := hx
    exact .inl ⟨q, vs, rfl, SqL.of s, fun p hp => h'.newL p3.er (r.cut l u) hp⟩
  · obtain ⟨q, vs, rfl, s, r⟩ := rp_tup hx
    refine .inr (.inl ⟨q, vs, rfl, s.sq, fun hw => ?_, fun _ p hp => h'.newT p3.er (r.cut l u) hp⟩)
    rw [r.len] at hw
    have h2 : OkE X.K w σ H3 U3 ρ3 Q (.dat (.tuple _)) ρ3 := h'
    rw [cut_all hw] at h2
    exact h2.one p3.er hx
  · split at e2 <;> try cases e2
    rename_i c
    exact .inr (.inr ⟨_, rp_str hx, size_le c, h'.one p3.er (.str _)⟩)
/-! ### built-ins of one operand -/
theorem vals_cons {x : V} {xs : List V} : (x :: xs) = x :: xs := rfl
def BltOk (X : Cx) (w : Wd) (b : Blt) (f : Value) : Prop := ∃ r : List V → Hp → VK → Prop, CallR X f r ∧ ∀ (σ : L2.St) (H : Hp) (U : Addr → Prop) (ρ : Env) (x : V) (d : D) (v : Vl) (Q : VK),
  ER X.K w.fa H U σ ρ → Vw X.K H U x d → blt1 b d = some v → OkE X.K w σ H U ρ Q v ρ → r [x] H Q
theorem se_blt {a : Expr} {ta : T} {b : Blt} {id : String} {x : Str} {p pos : Pos} (ho : BltOk X w b (.builtin id)) (ha : SO X w cl W a ta) (hg : Gl X x) (hm : X.mg x = none) (hv : bootBuiltins x = some (.builtin id)) (hn : x ≠ "__name__" := by decide) (hdb : (x == ("__debug__" : Str)) = false := by decide)
    (he : starEach [a] X.env = (false, eval a X.env) :: starEach [] X.env := by rfl) (hpl : (backTo pos (starEach [] X.env)).any (·.1) = false := by rfl) : SE X w cl W (.Call (.Name x p) [a] [] pos) (.blt b ta) := by
  obtain ⟨r, hr, hk⟩ := ho
  obtain ⟨ea, pa, ka⟩ := ha
  refine ⟨_, pe_callB hr hg hm hv (pa_cons pa pa_nil he) hn hdb he hpl, fun σ H U ρ Q er h => ka σ H U ρ _ er ?_⟩
  unfold evE at h
  refine h.bind.mono (fun o1 ρ1 h x H1 U1 p1 r1 => ?_) fun _ _ h => h
  obtain ⟨d, e1, h⟩ := h.get
  obtain ⟨v, e2, h⟩ := h.get
  exact hk σ H1 U1 ρ1 x d v Q p1.er (r1.vw p1.er e1) e2 (OkE.on h er p1)
theorem se_bltT {a : Expr} {ta : T} {b : Blt} {id : String} {x : Str} {p pos : Pos} (ho : BltOk X w b (.type id)) (ha : SO X w cl W a ta) (hg : Gl X x) (hm : X.mg x = none) (hv : bootBuiltins x = some (.type id)) (hn : x ≠ "__name__" := by decide) (hdb : (x == ("__debug__" : Str)) = false := by decide)
    (he : starEach [a] X.env = (false, eval a X.env) :: starEach [] X.env := by rfl) (hpl : (backTo pos (starEach [] X.env)).any (·.1) = false := by rfl) : SE X w cl W (.Call (.Name x p) [a] [] pos) (.blt b ta) := by
  obtain ⟨r, hr, hk⟩ := ho
  obtain ⟨ea, pa, ka⟩ := ha
  refine ⟨_, pe_callTy hr hg hm hv (pa_cons pa pa_nil he) hn hdb he hpl, fun σ H U ρ Q er h => ka σ H U ρ _ er ?_⟩
  unfold evE at h
  refine h.bind.mono (fun o1 ρ1 h x H1 U1 p1 r1 => ?_) fun _ _ h => h
  obtain ⟨d, e1, h⟩ := h.get
  obtain ⟨v, e2, h⟩ := h.get
  exact hk σ H1 U1 ρ1 x d v Q p1.er (r1.vw p1.er e1) e2 (OkE.on h er p1)
theorem blt_len : BltOk X w .len (.builtin "len") := ⟨_, call_len, fun σ H U ρ x d v Q er hx hv h => by
  unfold blt1 at hv
  split at hv <;> try cases hv
  all_goals first | contradiction | skip
  · obtain ⟨a, vs, rfl, s, r⟩ := hx
    refine ⟨_, _, rfl, .inl ⟨vs, SqL.of s, rfl⟩, ?_⟩
    rw [r.len]
    exact h.one er (.int _)
  · obtain ⟨a, vs, rfl, s, r⟩ := rp_tup hx
    refine ⟨_, _, rfl, .inr ⟨vs, s.sq, rfl⟩, ?_⟩
    rw [r.len]
    exact h.one er (.int _)
  · split at hv <;> try cases hv
    rename_i c
    cases rp_str hx
    exact ⟨_, _, rfl, ⟨size_le c, rfl⟩, h.one er (.int _)⟩⟩
theorem blt_int : BltOk X w .int (.type "int") := ⟨_, call_int1, fun σ H U ρ x d v Q er hx hv h => by
  unfold blt1 at hv
  split at hv <;> try cases hv
  all_goals first | contradiction | skip
  cases rp_int hx
  exact .inl ⟨_, rfl, h.one er (.int _)⟩⟩
theorem blt_list : BltOk X w .list (.type "list") := ⟨_, call_list_of, fun σ H U ρ x d v Q er hx hv h => by
  unfold blt1 at hv
  split at hv <;> try cases hv
  all_goals first | contradiction | skip
  · obtain ⟨a, vs, rfl, s, r⟩ := hx
    exact ⟨a, vs, rfl, .inl (SqL.of s), fun p hp => h.newL er r hp⟩
  · obtain ⟨a, vs, rfl, s, r⟩ := rp_tup hx
    exact ⟨a, vs, rfl, .inr s.sq, fun p hp => h.newL er r hp⟩⟩
theorem blt_tuple : BltOk X w .tuple (.type "tuple") := ⟨_, call_tuple_of, fun σ H U ρ x d v Q er hx hv h => by
  unfold blt1 at hv
  split at hv <;> try cases hv
  all_goals first | contradiction | skip
  · obtain ⟨a, vs, rfl, s, r⟩ := hx
    exact ⟨a, vs, rfl, .inl ⟨SqL.of s, fun p hp => h.newT er r hp⟩⟩
  · obtain ⟨a, vs, rfl, s, r⟩ := rp_tup hx
    exact ⟨a, vs, rfl, .inr ⟨s.sq, h.one er hx⟩⟩⟩
theorem bools_of : ∀ {ds : List D} {bs : List Bool} {vs : List V}, boolsOf ds = some bs → Rps K H U vs ds → vs = bs.map V.bl
  | [], bs, vs, h, r => by
    cases r
    cases h
    rfl
  | d :: ds, bs, vs, h, r => by
    cases r with
    | cons r1 r2 =>
      unfold boolsOf at h
      split at h
      · rename_i heq
        cases heq
      · rename_i b r' heq
        cases heq
        obtain ⟨bs', e1, rfl⟩ := Option.map_eq_some_iff.mp h
        rw [rp_bl r1, bools_of e1 r2]
        rfl
      · cases h
theorem blt_all (hc : X.calm = true) : BltOk X w .all (.builtin "all") := ⟨_, cr_all hc, fun σ H U ρ x d v Q er hx hv h => by
  unfold blt1 at hv
  split at hv <;> try cases hv
  all_goals first | contradiction | skip
  obtain ⟨bs, e1, rfl⟩ := Option.map_eq_some_iff.mp hv
  obtain ⟨a, vs, rfl, s, r⟩ := hx
  have := bools_of e1 r
  subst this
  exact ⟨a, bs, rfl, SqL.of s, h.one er (.bl _)⟩⟩
theorem strs_of : ∀ {ds : List D} {bs : List Str} {vs : List V}, strsOf ds = some bs → Rps K H U vs ds → vs = bs.map V.str
  | [], bs, vs, h, r => by
    cases r
    cases h
    rfl
  | d :: ds, bs, vs, h, r => by
    cases r with
    | cons r1 r2 =>
      unfold strsOf at h
      split at h
      · rename_i heq
        cases heq
      · rename_i b r' heq
        cases heq
        obtain ⟨bs', e1, rfl⟩ := Option.map_eq_some_iff.mp h
        rw [rp_str r1, strs_of e1 r2]
        rfl
      · cases h
theorem rps_strs : ∀ bs : List Str, Rps K H U (bs.map V.str) (bs.map .str)
  | [] => .nil
  | b :: bs => .cons (.str b) (rps_strs bs)
theorem leS_total (x y : Str) : (leS x y || leS y x) = true := by
  unfold leS
  rw [ltCps_eq, ltCps_eq]
  by_cases h : y.cps.toList < x.cps.toList
  · have h2 : ¬ x.cps.toList < y.cps.toList := List.lt_asymm h
    simp [h2]
  · simp [h]
theorem leS_trans (x y z : Str) (h1 : leS x y = true) (h2 : leS y z = true) : leS x z = true := by
  unfold leS at *
  rw [ltCps_eq] at *
  simp only [Bool.not_eq_true', decide_eq_false_iff_not] at *
  exact fun q => h1 (List.lt_of_le_of_lt (List.not_lt.mp h2) q)
theorem leS_anti (x y : Str) (h1 : leS x y = true) (h2 : leS y x = true) : x = y := by
  unfold leS at *
  rw [ltCps_eq] at *
  simp only [Bool.not_eq_true', decide_eq_false_iff_not] at *
  have e := List.le_antisymm (List.not_lt.mp h1) (List.not_lt.mp h2)
  obtain ⟨⟨x⟩⟩ := x
  obtain ⟨⟨y⟩⟩ := y
  simp at e
  subst e
  rfl
theorem rising_pw : ∀ (l : List Str) (p : Str), risingS p l = true → (p :: l).Pairwise (fun a b => leS a b = true)
  | [], p, _ => List.pairwise_singleton _ _
  | x :: r, p, h => by
    have h' : (!Spec.ltCps x.cps.toList p.cps.toList && risingS x r) = true := h
    obtain ⟨h1, h2⟩ := (Bool.and_eq_true _ _).mp h'
    have ih := rising_pw r x h2
    refine List.pairwise_cons.mpr ⟨fun y hy => ?_, ih⟩
    rcases (List.mem_cons.mp hy) with rfl | hy
    · exact h1
    · exact leS_trans p x y h1 ((List.pairwise_cons.mp ih).1 y hy)
theorem sorted_pw (l : List Str) (h : sortedS l = true) : l.Pairwise (fun a b => leS a b = true) := by
  cases l with
  | nil => exact .nil
  | cons x r => exact rising_pw r x h
theorem sortS_eq {xs ys : List Str} (h : ys.Perm xs) (s : sortedS ys = true) : ys = sortS xs := by
  refine List.Perm.eq_of_pairwise (le := fun a b => leS a b = true) (fun a b _ _ h1 h2 => leS_anti a b h1 h2) (sorted_pw ys s) ?_ (h.trans (List.mergeSort_perm xs leS).symm)
  exact List.pairwise_mergeSort leS_trans leS_total xs
theorem blt_sorted : BltOk X w .sorted (.builtin "sorted") := ⟨_, cr_sortedS, fun σ H U ρ x d v Q er hx hv h => by
  unfold blt1 at hv
  split at hv <;> try cases hv
  all_goals first | contradiction | skip
  split at hv <;> try cases hv
  rename_i c
  obtain ⟨bs, e1, rfl⟩ := Option.map_eq_some_iff.mp hv
  obtain ⟨a, vs, rfl, s, r⟩ := hx
  have := strs_of e1 r
  subst this
  have hl : bs.length < 64 := by
    have := r.len
    rw [List.length_map] at this
    rw [this]
    exact of_decide_eq_true c
  refine ⟨a, bs, rfl, SqL.of s, hl, fun ys p hp hs hn => ?_⟩
  rw [sortS_eq hp hs]
  exact h.newL er (rps_strs _) hn⟩
theorem blt_ord : BltOk X w .ord (.builtin "ord") := ⟨_, call_ord, fun σ H U ρ x d v Q er hx hv h => by
  unfold blt1 at hv
  split at hv <;> try cases hv
  all_goals first | contradiction | skip
  split at hv <;> try cases hv
  rename_i c
  cases rp_str hx
  exact ⟨_, rfl, c, h.one er (.int _)⟩⟩
theorem call_str_bl : CallR X (.type "str") (fun xs H Q => ∃ b : Bool, xs = [.bl b] ∧ Q (.str (if b then "True" else "False")) H) := by
  intro pins s σ H xs us Q I r h'
  have h := h'
  obtain ⟨b, rfl, q⟩ := h
  have r' := vals1 r
  obtain ⟨u, rfl, rx⟩ := r'
  obtain rfl : u = .bool b := rx
  exact PySem.P.str_of_bool ⟨.str _, H, I.tok _, ⟨_, rfl⟩, q⟩
theorem blt_str : BltOk X w .str (.type "str") := ⟨_, call_str_int.or call_str_bl, fun σ H U ρ x d v Q er hx hv h => by
  unfold blt1 at hv
  split at hv <;> try cases hv
  all_goals first | contradiction | skip
  · split at hv <;> try cases hv
    rename_i c
    cases rp_int hx
    exact .inl ⟨_, rfl, of_decide_eq_true c, h.one er (.str _)⟩
  · cases rp_bl hx
    exact .inr ⟨_, rfl, h.one er (.str _)⟩⟩
/-- repr of data -/
theorem call_reprD (hg : X.A.guards = some []) (hu : X.A.units + 190 < cLine) : CallR X (.builtin "repr") (fun xs H Q => ∃ x d, xs = [x] ∧ Dp X.K H x d ∧ d.canLay0 = true ∧ d.showable = true ∧ d.shown.length ≤ sizeLine ∧ d.depth ≤ 60 ∧ Q (.str d.shown) H) := by
  intro pins s σ H xs us Q I r h'
  have h := h'
  obtain ⟨x, d, rfl, hd, hc, hs, hz, hp, q⟩ := h
  have r' := vals1 r
  obtain ⟨u, rfl, rx⟩ := r'
  obtain ⟨as, rd⟩ := Dp.reads I d x u hd rx
  have fin : ∀ h' t tk, (∀ b o, s.heap.get? b = some o → h'.get? b = some o) → EP X pins σ Q (.str d.shown t) { s with heap := h', toks := tk } := fun h' t tk k => ⟨.str d.shown, H, I.kept k, ⟨t, rfl⟩, q⟩
  cases d with
  | list ds =>
    cases hd with
    | lst h1 h2 =>
      cases rx
      exact repr_of_reads' rd hs (PyData.noDict_hsm (PyData.hasDict_of_canLay _ hc)) hg (by omega) (fun _ _ e => e) (fun h' t tk k => fin h' t tk k) hz
  | tuple ds =>
    cases hd with
    | tup h1 h2 =>
      cases rx
      exact repr_of_reads' rd hs (PyData.noDict_hsm (PyData.hasDict_of_canLay _ hc)) hg (by omega) (fun _ _ e => e) (fun h' t tk k => fin h' t tk k) hz
  | none =>
    cases hd
    cases rx
    exact P.repr_of_none ⟨.str (PyData.shown .none), H, I.tok _, ⟨_, by simp only [PyData.shown]; rfl⟩, q⟩
  | bool b =>
    cases hd
    cases rx
    exact P.repr_of_bool ⟨.str (PyData.shown (.bool b)), H, I.tok _, ⟨_, by simp only [PyData.shown]; rfl⟩, q⟩
  | int i =>
    cases hd
    obtain ⟨t, rfl⟩ := rx
    exact P.repr_of_int (of_decide_eq_true (by simpa only [PyData.showable] using hs)) ⟨.str (PyData.shown (.int i)), H, I.tok _, ⟨_, by simp only [PyData.shown]; rfl⟩, q⟩
  | str z =>
    cases hd
    obtain ⟨t, rfl⟩ := rx
    exact P.repr_of_str ⟨.str (PyData.shown (.str z)), H, I.tok _, ⟨_, by simp only [PyData.shown]; rfl⟩, q⟩ (by simpa only [PyData.shown] using hz)
  | dict b => cases hd
end
end Pv
set_option Elab.async false
set_option linter.all false
set_option maxRecDepth 100000
set_option maxHeartbeats 2100000
/-! sorted(xs), xs pairs of a text and a whole number. -/
namespace Pv
open PySem PyProof.Rows SrtO Srt
theorem str_eq {x y : Str} (h : x.cps.toList = y.cps.toList) : x = y := by
  obtain ⟨⟨x⟩⟩ := x
  obtain ⟨⟨y⟩⟩ := y
  simp at h
  subst h
  rfl
theorem ltSI_iff {p q : Str × Int} : ltSI p q = true ↔ p.1.cps.toList < q.1.cps.toList ∨ (p.1 = q.1 ∧ p.2 < q.2) := by
  unfold ltSI
  by_cases e : p.1 = q.1
  · rw [if_pos e, decide_eq_true_eq]
    exact ⟨fun h => .inr ⟨e, h⟩, fun h => h.elim (fun h => absurd (e ▸ h) (List.lt_irrefl _)) (·.2)⟩
  · rw [if_neg e, decide_eq_true_eq]
    exact ⟨.inl, fun h => h.elim id fun h => absurd h.1 e⟩
theorem ltSI_no {p q : Str × Int} : ltSI p q = false ↔ q.1.cps.toList < p.1.cps.toList ∨ (p.1 = q.1 ∧ q.2 ≤ p.2) := by
  have hb : ltSI p q = false ↔ ¬ (p.1.cps.toList < q.1.cps.toList ∨ (p.1 = q.1 ∧ p.2 < q.2)) := by
    rw [← ltSI_iff]
    cases ltSI p q <;> simp
  rw [hb]
  constructor
  · intro h
    by_cases e : p.1 = q.1
    · refine .inr ⟨e, ?_⟩
      have : ¬ p.2 < q.2 := fun z => h (.inr ⟨e, z⟩)
      omega
    · refine .inl ?_
      have h1 : ¬ p.1.cps.toList < q.1.cps.toList := fun z => h (.inl z)
      by_cases h2 : q.1.cps.toList < p.1.cps.toList
      · exact h2
      · exact absurd (str_eq (List.le_antisymm (List.not_lt.mp h2) (List.not_lt.mp h1))) e
  · rintro (h | ⟨e, h⟩) (k | ⟨e', k⟩)
    · exact List.lt_asymm h k
    · rw [e'] at h; exact List.lt_irrefl _ h
    · rw [e] at k; exact List.lt_irrefl _ k
    · omega
theorem swoSI {α : Type} (k : α → Str × Int) : Swo fun v u => ltSI (k v) (k u) := by
  refine ⟨fun x y h => ?_, fun x y z h1 h2 => ?_⟩
  · rcases ltSI_iff.mp h with a | ⟨e, a⟩
    · exact ltSI_no.mpr (.inl a)
    · exact ltSI_no.mpr (.inr ⟨e.symm, by omega⟩)
  · refine ltSI_no.mpr ?_
    rcases ltSI_no.mp h1 with a | ⟨e, a⟩ <;> rcases ltSI_no.mp h2 with b | ⟨e', b⟩
    · exact .inl (List.lt_trans a b)
    · exact .inl (by rw [e']; exact a)
    · exact .inl (by rw [← e]; exact b)
    · exact .inr ⟨e'.trans e, by omega⟩
def TupSI (h : Heap) (v : Value) (x : Str) (y : Int) : Prop := ∃ a o t u n, v = .ref a ∧ h.get? a = some o ∧ o.cls = .type "tuple" ∧ o.data = .seq #[.str x t, .int y u] n
theorem TupSI.on {h h' : Heap} {v : Value} {x : Str} {y : Int} (p : TupSI h v x y) (k : ∀ b o, h.get? b = some o → o.cls = .type "tuple" → h'.get? b = some o) : TupSI h' v x y :=
  p.elim fun a ⟨o, t, u, n, e, ho, hc, hd⟩ => ⟨a, o, t, u, n, e, k _ _ ho hc, hc, hd⟩
theorem heads_of {h : Heap} : ∀ {us : List Value}, (∀ v ∈ us, ∃ x y, TupSI h v x y) → ∃ gs : List Value, PySem.W.KatTups h us gs ∧ gs.length = us.length ∧ ∀ f ∈ gs, ∃ x t, f = Value.str x t
  | [], _ => ⟨[], .nil, rfl, fun _ hm => nomatch hm⟩
  | v :: us, hp => by
    obtain ⟨gs, k1, k2, k3⟩ := heads_of (us := us) fun v' hm => hp v' (.tail _ hm)
    obtain ⟨x, y, a, o, t, u, n, e, ho, hc, hd⟩ := hp v (.head _)
    subst e
    refine ⟨.str x t :: gs, .cons ho hc hd rfl k1, congrArg (· + 1) k2, fun f hm => ?_⟩
    rcases List.mem_cons.mp hm with e | hm
    · exact ⟨x, t, e⟩
    · exact k3 f hm
section
variable {prog : Program} {w : World} {A : Around} {E : Value → Shared → Prop} {s : Shared}
theorem cmpSI {us : List Value} {k : Value → Str × Int} (hp : ∀ v ∈ us, TupSI s.heap v (k v).1 (k v).2) : SrtO.Cmp prog w A s (tuples' true) (fun p => p.1 ∈ us) (lt2 fun v u => ltSI (k v) (k u)) := by
  intro p q hm hm'
  have g1 := hp _ hm
  have g2 := hp _ hm'
  show wpAny (model prog w) A (keyLt' (tuples' true) p.1 q.1) (fun r s' => s' = s ∧ r = ltSI (k p.1) (k q.1)) (fun _ _ => False) s
  unfold ltSI
  generalize (k p.1).1 = x at g1 ⊢
  generalize (k p.1).2 = y at g1 ⊢
  generalize (k q.1).1 = x' at g2 ⊢
  generalize (k q.1).2 = y' at g2 ⊢
  obtain ⟨a, o, t, u, n, e, ho, hc, hd⟩ := g1
  obtain ⟨a', o', t', u', n', e', ho', hc', hd'⟩ := g2
  rw [e, e']
  refine PySem.W.kat_lt ho hd ho' hd' ?_
  show PySem.W.KatLex prog w A true (decide (2 < 2)) _ [(.str x t, .str x' t'), (.int y u, .int y' u')] 0 s
  refine PySem.W.kat_cons (SeqAt.EqAt.str_str x t x' t' prog w _ _ ?_)
  refine PySem.W.kat_go (fun z => ?_) fun z => ?_
  · have ex : x = x' := by simpa using z
    refine PySem.W.kat_yes (PySem.W.kat_cons (SeqAt.EqAt.int_int y u y' u' prog w _ _ ?_))
    refine PySem.W.kat_go (fun z2 => ?_) fun z2 => ?_
    · have ey : y = y' := by simpa using z2
      exact PySem.W.kat_yes (PySem.W.kat_nil ⟨rfl, by rw [if_pos ex, ey]; exact (decide_eq_false (Int.lt_irrefl _)).symm⟩)
    · refine PySem.W.kat_no (PySem.W.kat_one _ _ (PyProof.Rows.lt_int ?_))
      exact (show s = s ∧ _ = _ from ⟨rfl, (if_pos ex).symm⟩)
  · have ex : ¬ x = x' := by simpa using z
    exact PySem.W.kat_no (oneLt_str ⟨rfl, (if_neg ex).symm⟩)
theorem ablSI {a : Addr} {us : List Value} {k : Value → Str × Int} (h0 : 0 < us.length) (hp : ∀ v ∈ us, TupSI s.heap v (k v).1 (k v).2) (ha : ∀ o, s.heap.get? a = some o → o.cls ≠ .type "tuple") : SortableO prog w A s a us fun v u => ltSI (k v) (k u) := by
  intro h' keep
  have hp' : ∀ v ∈ us, TupSI h' v (k v).1 (k v).2 := fun v hm => (hp v hm).on fun b o e c => keep b o (fun z => ha o (z ▸ e) c) e
  obtain ⟨gs, k1, k2, k3⟩ := heads_of fun v hm => ⟨_, _, hp' v hm⟩
  refine ⟨tuples' true, fun Q E hq => ?_, cmpSI hp'⟩
  refine PySem.W.kat_kind (T := .type "str") k1 (by omega) (fun f hm => ?_) (by rfl) ?_
  · obtain ⟨x, t, rfl⟩ := k3 f hm
    exact PySem.W.Looks.now
  · have e : (Value.type "str" != Value.type "tuple") = true := by first | decide +kernel | rfl | decide
    rw [e]
    exact hq
theorem sortedSI {l : Addr} {us : List Value} {k : Value → Str × Int} {Q : Value → Shared → Prop} (hl : s.heap.IsList l us.toArray) (hz : us.length ≤ sizeLine) (hp : ∀ v ∈ us, TupSI s.heap v (k v).1 (k v).2)
    (h : ∀ (h' : Heap) (d : Addr) (out : List Value), Srtd (fun v u => ltSI (k v) (k u)) out → Stb (fun v u => ltSI (k v) (k u)) out us → (∀ b o, s.heap.get? b = some o → h'.get? b = some o) → s.heap.objs.size ≤ d → (∃ n, h'.get? d = some (seqObj "list" out.toArray n)) → Q (.ref d) { s with heap := h' }) :
    wpAny (model prog w) A (call (.builtin "sorted") [.ref l]) Q E s := by
  refine sorted_ord (swoSI k) hl hz (fun h2 h₁ a ha kk => ablSI (s := { s with heap := h₁ }) (by omega) (fun v hm => (hp v hm).on fun b o e _ => (kk b o e).2) fun o e => ?_) fun out hs hb => h _ _ out hs hb (fun b o e => sortedAll_old e) (Nat.le_succ _) (sortedAll_at s.heap us out.toArray)
  have e' : some o = some (seqObj "list" us.toArray 0) := e.symm.trans ha
  cases e'
  exact fun c => absurd (Value.type.inj c) (by decide)
end
end Pv
namespace Pv
open PySem PySem.Spec PyProof.Rows L2
/-- a pair of a text and a whole number, wherever it stands -/
def PairV (K : PySem.W.Frag) (H : Hp) (x : V) (p : Str × Int) : Prop := ∃ t, x = V.ref t ∧ SqT K H t [.str p.1, .int p.2]
def rSI (K : PySem.W.Frag) : List V → Hp → VK → Prop := fun vs H Q => ∃ (a : Addr) (xs : List V), vs = [V.ref a] ∧ SqL K H a xs ∧ (∀ x ∈ xs, ∃ p, PairV K H x p) ∧
  ∀ ys p, ys.Pairwise (fun x y => ∀ px py, PairV K H x px → PairV K H y py → ltSI py px = false) → ys.Perm xs → H p = none → Q (.ref p) (upd H p (.lst ys))
section
variable {X : Cx}
theorem cr_SI : CallR X (.builtin "sorted") (rSI X.K) := by
  intro pins s σ H vs us Q I r h
  obtain ⟨a, xs, rfl, hs, hx, q⟩ := h
  obtain ⟨its, rv, hl, hz⟩ := I.list hs
  obtain ⟨u, rfl, ru⟩ := vals1 r
  obtain rfl : u = Value.ref a := ru
  obtain ⟨e1, e2⟩ := refs_back rv fun x m => (hx x m).elim fun p h => h.elim fun t h => ⟨t, h.1⟩
  have uniq : ∀ x p p', PairV X.K H x p → PairV X.K H x p' → p = p' := by
    rintro x p p' ⟨t, e, h⟩ ⟨t', e', h'⟩
    subst e
    cases e'
    have := I.tuple_inj h h'
    injection this with z1 z2
    injection z1 with z1
    injection z2 with z2 _
    injection z2 with z2
    exact Prod.ext z1 z2
  have ex : ∃ k : V → Str × Int, ∀ x ∈ xs, PairV X.K H x (k x) := by
    classical
    exact ⟨fun x => if h : ∃ p, PairV X.K H x p then h.choose else ("", 0), fun x hx' => by
      show PairV X.K H x (if h : ∃ p, PairV X.K H x p then h.choose else ("", 0))
      rw [dif_pos (hx x hx')]
      exact (hx x hx').choose_spec⟩
  obtain ⟨k, hk⟩ := ex
  refine sortedSI (k := fun u => k (backV u)) hl.isList (rv.length ▸ hz) (fun v hv => ?_) fun h' d out h1 h2 kp hd hn => ?_
  · obtain ⟨t, rfl⟩ := e2 v hv
    have hm : V.ref t ∈ xs := e1 ▸ List.mem_map.mpr ⟨_, hv, rfl⟩
    obtain ⟨t', e, ht⟩ := hk _ hm
    cases e
    obtain ⟨its2, r2, ⟨o, ho, hc, n, hd⟩, _⟩ := I.tuple ht
    obtain ⟨u1, u2, rfl, ri, rj⟩ := vals2 r2
    obtain ⟨t1, rfl⟩ := ri
    obtain ⟨t2, rfl⟩ := rj
    exact ⟨t, o, t1, t2, n, rfl, ho, hc, hd⟩
  · have h3 : ∀ u ∈ out, ∃ a, u = Value.ref a := fun u hu => e2 u (h2.perm.mem_iff.mp hu)
    obtain ⟨n, hn⟩ := hn
    have hp : (out.map backV).Perm xs := e1 ▸ h2.perm.map backV
    have h1' : (out.map backV).Pairwise (fun x y => ltSI (k y) (k x) = false) := List.pairwise_map.mpr h1
    refine ⟨.ref d, upd H d (.lst (out.map backV)), I.laid (t' := s.toks) kp hd ⟨?_, out, n, vals_back h3, hn⟩, rfl, q _ d (h1'.imp_of_mem fun {x y} mx my z px py hx' hy' => ?_) hp (I.hok.fresh hd)⟩
    · exact hp.length_eq ▸ hz
    · rw [uniq _ _ _ hx' (hk x (hp.mem_iff.mp mx)), uniq _ _ _ hy' (hk y (hp.mem_iff.mp my))]
      exact z
end
section
variable {K : PySem.W.Frag} {w : Wd} {H : Hp} {U : Addr → Prop}
theorem rps_perm {ys vs : List V} (h : ys.Perm vs) : ∀ {ds : List D}, Rps K H U vs ds → ∃ ds', Rps K H U ys ds' ∧ ds'.Perm ds := by
  induction h with
  | nil => intro ds r; exact ⟨ds, r, .refl _⟩
  | cons x _ ih =>
    intro ds r
    cases r with
    | cons r1 r2 =>
      obtain ⟨ds', a, b⟩ := ih r2
      exact ⟨_ :: ds', .cons r1 a, b.cons _⟩
  | swap x y l =>
    intro ds r
    cases r with
    | cons r1 r2 =>
      cases r2 with
      | cons r2 r3 => exact ⟨_, .cons r2 (.cons r1 r3), .swap _ _ _⟩
  | trans _ _ ih1 ih2 =>
    intro ds r
    obtain ⟨ds1, a, b⟩ := ih2 r
    obtain ⟨ds2, c, e⟩ := ih1 a
    exact ⟨ds2, c, e.trans b⟩
theorem pairs_map : ∀ {ds : List D} {ps : List (Str × Int)}, pairsOf ds = some ps → ds = ps.map pairD
  | [], ps, h => by cases h; rfl
  | d :: ds, ps, h => by
    unfold pairsOf at h
    split at h
    · rename_i heq; cases heq
    · rename_i x i r heq
      cases heq
      obtain ⟨ps', e1, rfl⟩ := Option.map_eq_some_iff.mp h
      rw [pairs_map e1]; rfl
    · cases h
theorem perm_pairs : ∀ {ps : List (Str × Int)} {ds : List D}, ds.Perm (ps.map pairD) → ∃ qs : List (Str × Int), ds = qs.map pairD ∧ qs.Perm ps := by
  intro ps ds h
  let un : D → Str × Int := fun d => match d with
    | .tuple [.str x, .int i] => (x, i)
    | _ => ("", 0)
  have e : ∀ qs : List (Str × Int), (qs.map pairD).map un = qs := fun qs => by
    rw [List.map_map]
    exact List.map_id'' (fun p => rfl) qs
  have hp := h.map un
  rw [e] at hp
  refine ⟨ds.map un, ?_, hp⟩
  rw [List.map_map]
  have : ∀ d ∈ ds, (pairD ∘ un) d = d := fun d hd => by
    obtain ⟨p, _, ep⟩ := List.mem_map.mp (h.mem_iff.mp hd)
    subst ep; rfl
  rw [List.map_congr_left this, List.map_id']
theorem leP_total (x y : Str × Int) : (leP x y || leP y x) = true := by
  unfold leP
  cases h : ltSI y x with
  | false => rfl
  | true => rw [(swoSI (fun p : Str × Int => p)).asym _ _ h]; rfl
theorem leP_trans (x y z : Str × Int) (h1 : leP x y = true) (h2 : leP y z = true) : leP x z = true := by
  unfold leP at *
  simp only [Bool.not_eq_true'] at *
  exact (swoSI (fun p : Str × Int => p)).tr _ _ _ h1 h2
theorem leP_anti (x y : Str × Int) (h1 : leP x y = true) (h2 : leP y x = true) : x = y := by
  unfold leP at *
  simp only [Bool.not_eq_true'] at *
  rcases ltSI_no.mp h1 with a | ⟨e, a⟩ <;> rcases ltSI_no.mp h2 with b | ⟨e', b⟩
  · exact absurd b (List.lt_asymm a)
  · rw [e'] at a; exact absurd a (List.lt_irrefl _)
  · rw [e] at b; exact absurd b (List.lt_irrefl _)
  · exact Prod.ext e' (by omega)
theorem pair_v {v : V} {p : Str × Int} (h : Rp K H U v (pairD p)) : PairV K H v p := by
  obtain ⟨a, vs, rfl, s, r⟩ := rp_tup h
  cases r with
  | cons r1 r2 =>
    cases r2 with
    | cons r2 r3 =>
      cases r3
      cases r1
      cases r2
      exact ⟨a, rfl, s.sq⟩
theorem rps_pair : ∀ {vs : List V} {ps : List (Str × Int)}, Rps K H U vs (ps.map pairD) → ∀ v ∈ vs, ∃ p, PairV K H v p
  | _, [], r => by cases r; exact fun v hv => nomatch hv
  | _, p :: ps, r => by
    cases r with
    | cons r1 r2 =>
      intro v hv
      rcases List.mem_cons.mp hv with e | hv
      · exact e ▸ ⟨p, pair_v r1⟩
      · exact rps_pair r2 v hv
theorem rps_pw : ∀ {vs : List V} {ps : List (Str × Int)}, Rps K H U vs (ps.map pairD) → vs.Pairwise (fun x y => ∀ px py, PairV K H x px → PairV K H y py → ltSI py px = false) → ps.Pairwise (fun a b => leP a b = true)
  | _, [], r, _ => .nil
  | _, p :: ps, r, h => by
    cases r with
    | cons r1 r2 =>
      obtain ⟨h1, h2⟩ := List.pairwise_cons.mp h
      refine List.pairwise_cons.mpr ⟨fun q hq => ?_, rps_pw r2 h2⟩
      obtain ⟨v, hv, hr⟩ := rps_mem r2 hq
      unfold leP
      rw [h1 v hv p q (pair_v r1) (pair_v hr)]; rfl
where
  rps_mem : ∀ {vs : List V} {ps : List (Str × Int)} {q : Str × Int}, Rps K H U vs (ps.map pairD) → q ∈ ps → ∃ v ∈ vs, Rp K H U v (pairD q)
  | _, [], q, r, hq => nomatch hq
  | _, p :: ps, q, r, hq => by
    cases r with
    | cons r1 r2 =>
      rcases List.mem_cons.mp hq with e | hq
      · exact ⟨_, .head _, e ▸ r1⟩
      · obtain ⟨v, hv, hr⟩ := rps_mem r2 hq
        exact ⟨v, .tail _ hv, hr⟩
end
section
variable {X : Cx} {w : Wd}
theorem blt_sortp : BltOk X w .sortp (.builtin "sorted") := ⟨_, cr_SI, fun σ H U ρ x d v Q er hx hv h => by
  unfold blt1 at hv
  split at hv <;> try cases hv
  all_goals first | contradiction | skip
  obtain ⟨ps, e1, rfl⟩ := Option.map_eq_some_iff.mp hv
  obtain ⟨a, vs, rfl, s, r⟩ := hx
  have e2 := pairs_map e1
  subst e2
  refine ⟨a, vs, rfl, SqL.of s, rps_pair r, fun ys p pw hp hn => ?_⟩
  obtain ⟨ds', r', hd⟩ := rps_perm hp r
  obtain ⟨qs, e3, hq⟩ := perm_pairs hd
  subst e3
  have e4 : qs = sortP ps := List.Perm.eq_of_pairwise (le := fun a b => leP a b = true) (fun a b _ _ h1 h2 => leP_anti a b h1 h2) (rps_pw r' pw) (List.pairwise_mergeSort leP_trans leP_total ps) (hq.trans (List.mergeSort_perm ps leP).symm)
  subst e4
  exact h.newL er r' hn⟩
end
end Pv
set_option Elab.async false
set_option linter.all false
set_option maxRecDepth 100000
set_option maxHeartbeats 2100000
namespace Pv
open PySem L2 PyProof.Rows
section
variable {X : Cx} {w : Wd} {cl : Fun} {W : WX} {K : PySem.W.Frag} {σ : L2.St} {H : Hp} {U : Addr → Prop} {ρ : Env} {Q : VK}
theorem blt_repr (hg : X.A.guards = some []) (hu : X.A.units + 190 < cLine) : BltOk X w .repr (.builtin "repr") := ⟨_, call_reprD hg hu, fun σ H U ρ x d v Q er hx hv h => by
  unfold blt1 at hv
  split at hv <;> try cases hv
  all_goals first | contradiction | skip
  split at hv <;> try cases hv
  rename_i c
  simp only [Bool.and_eq_true] at c
  obtain ⟨⟨⟨c1, c2⟩, c3⟩, c4⟩ := c
  exact ⟨x, _, rfl, hx.dp, c1, c2, size_le c3, of_decide_eq_true c4, h.one er (.str _)⟩⟩
/-! ### isinstance -/
def tyName : Ty → String
  | .int => "int"
  | .bool => "bool"
  | .str => "str"
  | .tuple => "tuple"
  | .list => "list"
theorem kit_D (t : Ty) : ∀ d : D, (∀ kvs, d ≠ .dict kvs) → ∃ s : String, kitB s (tyName t) = some (isiD t d) ∧ ∀ (x : V), Vw K H U x d → TyX K H x (.type s)
  | .none, _ => ⟨"NoneType", by cases t <;> first | (show kitB _ _ = some true; decide +kernel) | (show kitB _ _ = some false; decide +kernel), fun x h => by rw [rp_non h]; exact .base .non⟩
  | .bool b, _ => ⟨"bool", by cases t <;> first | (show kitB _ _ = some true; decide +kernel) | (show kitB _ _ = some false; decide +kernel), fun x h => by rw [rp_bl h]; exact .base (.bl _)⟩
  | .int i, _ => ⟨"int", by cases t <;> first | (show kitB _ _ = some true; decide +kernel) | (show kitB _ _ = some false; decide +kernel), fun x h => by rw [rp_int h]; exact .base (.int _)⟩
  | .str z, _ => ⟨"str", by cases t <;> first | (show kitB _ _ = some true; decide +kernel) | (show kitB _ _ = some false; decide +kernel), fun x h => by rw [rp_str h]; exact .base (.str _)⟩
  | .list ds, _ => ⟨"list", by cases t <;> first | (show kitB _ _ = some true; decide +kernel) | (show kitB _ _ = some false; decide +kernel), fun x h => by
      obtain ⟨a, vs, rfl, s, r⟩ := h
      exact .base (.lst s)⟩
  | .tuple ds, _ => ⟨"tuple", by cases t <;> first | (show kitB _ _ = some true; decide +kernel) | (show kitB _ _ = some false; decide +kernel), fun x h => by
      obtain ⟨a, vs, rfl, s, r⟩ := rp_tup h
      rcases s with ⟨s | ⟨o, s⟩, _⟩ | s | ⟨o, its, n, s, hc, _⟩
      · exact .base (.tup s)
      · exact .fTuple s
      · exact (rd_nil s).elim
      · exact .kTuple s hc⟩
  | .dict kvs, h => absurd rfl (h kvs)
theorem se_isi {a : Expr} {ta : T} {t : Ty} {p p2 pos : Pos} (ha : SO X w cl W a ta) (hg : Gl X "isinstance") (hm : X.mg "isinstance" = none) {y : Str} (hg2 : Gl X y) (hm2 : X.mg y = none) (hv2 : bootBuiltins y = some (.type (tyName t))) (hn2 : y ≠ "__name__" := by decide) (hdb2 : (y == ("__debug__" : Str)) = false := by decide)
    (he : starEach [a, .Name y p2] X.env = (false, eval a X.env) :: starEach [.Name y p2] X.env := by rfl) : SE X w cl W (.Call (.Name "isinstance" p) [a, .Name y p2] [] pos) (.blt (.isi t) ta) := by
  obtain ⟨ea, pa, ka⟩ := ha
  refine ⟨_, pe_callB call_isi hg hm (by decide +kernel) (pa_cons pa (pa_cons (pe_bltn (v := .ty (tyName t)) hg2 hm2 hv2 rfl hn2 hdb2) pa_nil) he) (by decide) (by decide) he, fun σ H U ρ Q er h => ka σ H U ρ _ er ?_⟩
  unfold evE at h
  refine h.bind.mono (fun o1 ρ1 h x H1 U1 p1 r1 => ?_) fun _ _ h => h
  obtain ⟨d, e1, h⟩ := h.get
  obtain ⟨v, e2, h⟩ := h.get
  have hx := r1.vw p1.er e1
  have hd : ∀ kvs, d ≠ .dict kvs := fun kvs e => by
    subst e
    have : Rp X.K H1 U1 x (.dict kvs) := hx
    cases this
  obtain ⟨s, k1, k2⟩ := kit_D (K := X.K) (H := H1) (U := U1) t d hd
  have h' := OkE.on h er p1
  cases e2
  exact ⟨x, .ty (tyName t), .type s, .type (tyName t), _, rfl, .ty _, k2 x hx, kit_ty k1, h'.one p1.er (.bl _)⟩
/-! ### list(range(n)) -/
theorem rps_nums : ∀ (f : Nat → V) (g : Nat → D) (l : List Nat), (∀ k, Rp K H U (f k) (g k)) → Rps K H U (l.map f) (l.map g)
  | _, _, [], _ => .nil
  | f, g, k :: l, h => .cons (h k) (rps_nums f g l h)
theorem se_rngl {a : Expr} {ta : T} {p p2 pos pos2 : Pos} (hc : X.calm = true) (ha : SO X w cl W a ta) (hg : Gl X "list") (hm : X.mg "list" = none) (hg2 : Gl X "range") (hm2 : X.mg "range" = none)
    (he : starEach [a] X.env = (false, eval a X.env) :: starEach [] X.env := by rfl) : SE X w cl W (.Call (.Name "list" p) [.Call (.Name "range" p2) [a] [] pos2] [] pos) (.blt .rngl ta) := by
  obtain ⟨ea, pa, ka⟩ := ha
  refine ⟨_, pe_listRg hc hg hm (prg_1 hg2 hm2 pa he), fun σ H U ρ Q er h => ka σ H U ρ _ er ?_⟩
  unfold evE at h
  refine h.bind.mono (fun o1 ρ1 h x H1 U1 p1 r1 => ?_) fun _ _ h => h
  obtain ⟨d, e1, h⟩ := h.get
  obtain ⟨v, e2, h⟩ := h.get
  have hx := r1.vw p1.er e1
  have h' := OkE.on h er p1
  unfold blt1 at e2
  split at e2 <;> try cases e2
  all_goals first | contradiction | skip
  split at e2 <;> try cases e2
  rename_i c
  obtain ⟨c1, c2⟩ := of_decide_eq_true c
  refine ⟨_, rp_int hx, RgOk.of_le (by omega) c2 (by omega) c1, fun p hp => ?_⟩
  refine h'.newL p1.er ?_ hp
  unfold rgV nums
  rw [Int.sub_zero]
  exact rps_nums _ _ _ fun k => by
    rw [Int.zero_add]
    exact .int _
/-! ### upper -/
theorem se_upper {a : Expr} {ta : T} {apos pos : Pos} (ha : SO X w cl W a ta) (hb : attributeBase a (Str.ofString "upper") X.env (eval a X.env) = eval a X.env := by rfl) (hl : (apos.endLine == pos.line) = true := by rfl) :
    SE X w cl W (.Call (.Attribute a "upper" apos) [] [] pos) (.blt .upper ta) := by
  obtain ⟨ea, pa, ka⟩ := ha
  refine ⟨_, pe_upper pa hb hl, fun σ H U ρ Q er h => ka σ H U ρ _ er ?_⟩
  unfold evE at h
  refine h.bind.mono (fun o1 ρ1 h x H1 U1 p1 r1 => ?_) fun _ _ h => h
  obtain ⟨d, e1, h⟩ := h.get
  obtain ⟨v, e2, h⟩ := h.get
  have hx := r1.vw p1.er e1
  have h' := OkE.on h er p1
  unfold blt1 at e2
  split at e2 <;> try cases e2
  all_goals first | contradiction | skip
  split at e2 <;> try cases e2
  rename_i c
  cases rp_str hx
  exact ⟨⟨_, rfl⟩, _, rfl, rfl, of_decide_eq_true c, h'.one p1.er (.str _)⟩
/-! ### the script's beginning -/
theorem rps_ints : ∀ ns : List Int, Rps K H U (ns.map V.int) (ns.map .int)
  | [] => .nil
  | b :: bs => .cons (.int b) (rps_ints bs)
theorem se_cut {i : Nat} {n : Nat} {x : Str} {j : Nat} {p p1 p2 pos : Pos} (hN : X.N[i]? = some x) (hv : Vis X.env.scope x) (hd : (x == ("__debug__" : Str)) = false := by decide) (hcd : (x == ("__classdict__" : Str)) = false := by decide) :
    SE X w cl W (.Subscript (.Name x p) (.Slice none (some (.Constant (.int n) j p1)) none p2) pos) (.cut i n) := by
  refine ⟨_, pe_slice sl_list (pe_var hN hv hd hcd) po_none (po_some pe_int), fun σ H U ρ Q er h => ?_⟩
  unfold evE at h
  split at h
  · rename_i ns e
    obtain ⟨x, e1, a, rfl, r⟩ := er.val i _ e
    refine ⟨_, e1, (n : Int), rfl, a, ns.map V.int, rfl, ?_, fun p hp => ?_⟩
    · rcases r with ⟨o, r, _⟩ | r
      · exact .inl (.inr ⟨o, r⟩)
      · rcases r with r | r
        · exact (rd_nil r).elim
        · exact .inr r
    · have h' : OkE X.K w σ H U ρ Q (.lst ((ns.take n).map .int)) ρ := h
      refine h'.newL er ?_ hp
      have e3 : cutV (ns.map V.int) none (some (n : Int)) = (ns.take n).map V.int := by
        unfold cutV
        show ((ns.map V.int).drop 0).take (HT.sIx (ns.map V.int).length (ns.map V.int).length (some (n : Int)) - 0) = _
        rw [HT.sIx_nat, List.drop_zero, Nat.sub_zero, List.map_take, List.length_map]
        by_cases hn : n ≤ ns.length
        · rw [Nat.min_eq_left hn]
        · rw [Nat.min_eq_right (by omega), List.take_of_length_le (by rw [List.length_map]; omega), List.take_of_length_le (by rw [List.length_map]; omega)]
      rw [e3]
      exact rps_ints _
  · exact h.elim
end
end Pv
set_option Elab.async false
set_option linter.all false
set_option maxRecDepth 100000
set_option maxHeartbeats 2100000
namespace Pv
open PySem L2 PyProof.Rows
/-! ### what a def promises, called where no repr is under way -/
structure FnG (P : Program) (wd : World) (K : PySem.W.Frag) (mg : Str → Option Value) (base : Heap) (n : Nat) (f : Addr) (fd : FuncData) (ps : List Str) (sp : Sp) : Prop where
  len : ∀ xs H Q E, sp xs H Q E → xs.length = ps.length
  run : ∀ (A : Around) (outer : List PySem.Env) (s : Shared) (H : Hp) (args : Args) (us : List Value) (vs : List V) (Q : VK) (E : XK), Room n A → A.guards = some [] → Env0 P wd K mg base A outer s H →
    BindsTo s fd args (ps.zip us) → Vals vs us → sp vs H Q E → codeAny (model P wd) A (.call (.ref f) args) (CR (L2.CX P wd) outer P wd H s Q E) s
/-- behind a call: the heap, the lent arguments -/
structure Fin (K : PySem.W.Frag) (w : Wd) (vs : List V) (ws : List Vl) (H : Hp) (U : Addr → Prop) (fin : List (Option Vl)) (H' : Hp) (U' : Addr → Prop) : Prop where
  go : Go (Ow (ws.map some) (vs.map some)) H U H' U'
  dom : ∀ a, U' a → H' a ≠ none
  lent : ∀ (i : Nat) (v : Vl) (x : V), ws[i]? = some v → v.own = true → vs[i]? = some x → ∃ v', fin[i]? = some (some v') ∧ RV K w.fa H' U' x v' ∧ LL v' = true
def spD (K : PySem.W.Frag) (w : Wd) (F : Fun) (k : Nat) : Sp := fun vs H Q E => ∃ (U : Addr → Prop) (ws : List Vl), ER K w.fa H U (vs.map some) (ws.map some) ∧
  match F k ws with
  | .ok (v, fin) => ∀ x H' U', Fin K w vs ws H U fin H' U' → RV K w.fa H' U' x v → (v.own = true → ∀ a, x = .ref a → H a = none) → Q x H'
  | .exc ex fin => ∀ c d H' U', Fin K w vs ws H U fin H' U' → ExR K w.ca H' U' ex c d → E c d H'
  | .stuck => False
section
variable {X : Cx} {w : Wd} {cl : Fun} {W : WX} {n : Nat}
theorem run_fnG {f : Addr} {fd : FuncData} {ps : List Str} {sp : Sp} {pins : List (Addr × Obj)} {σ : L2.St} {H : Hp} {s : Shared} {Q : VK} {us zs : List Value} {kw : List (Str × Value)} {vs : List V} (F : FnG X.prog X.w X.K X.mg X.base n f fd ps sp) (hr : Room n X.A) (gd : X.A.guards = some [])
    (hb : zs.length = ps.length → BindsTo s fd ⟨us, kw⟩ (ps.zip zs)) (tk : Takes X W) (I : Inv X pins σ H s) (r : Vals vs zs) (h : sp vs H Q (fun c d H' => W c d σ H')) : wpAny (model X.prog X.w) X.A (call (.ref f) us kw) (EP X pins σ Q) X.xe s := by
  have bd := hb (by rw [← r.length]; exact F.len _ _ _ _ h)
  refine wpAny_call (codeAny_mono (F.run X.A X.stack s H ⟨us, kw⟩ zs vs Q _ hr gd I.env0 bd r h) fun r s' hq => ?_)
  cases r with
  | error e => exact tk e s' (XE.of_call I (fun _ _ _ h => h) hq)
  | ok fl =>
    cases fl with
    | ret u => exact I.after hq
    | next => exact False.elim hq
    | brk => exact False.elim hq
    | cont => exact False.elim hq
/-- how a def's arguments bind: by place, by the keywords in their order -/
structure Bnd (K : PySem.W.Frag) (fd : FuncData) (ps : List Str) : Prop where
  pos : ∀ (s : Shared) (us : List Value), K.In s.heap → us.length = ps.length → BindsTo s fd ⟨us, []⟩ (ps.zip us)
  kw : ∀ (s : Shared) (us : List Value), K.In s.heap → us.length = ps.length → BindsTo s fd ⟨[], ps.zip us⟩ (ps.zip us)
/-- all defs, at a level -/
structure HasF (X : Cx) (w : Wd) (cl : Fun) (n : Nat) : Prop where
  fn : ∀ k f, w.fa k = some f → FnG X.prog X.w X.K X.mg X.base n f (w.fd k) (w.ps k) (spD X.K w cl k)
  keep : ∀ k f, w.fa k = some f → PySem.W.keepIn X.K (.ref f) = true
  binds : ∀ k f, w.fa k = some f → Bnd X.K (w.fd k) (w.ps k)
  room : Room n X.A
/-! ### arguments -/
def RA (K : PySem.W.Frag) (fa : Nat → Option Addr) (H : Hp) (U : Addr → Prop) (σ : L2.St) (ρ : Env) (x : V) : Arg → Prop
  | .vl v => RV K fa H U x v ∧ v.own = false
  | .lend i => σ[i]? = some (some x) ∧ ∃ v, ρ[i]? = some (some v)
inductive RAs (K : PySem.W.Frag) (fa : Nat → Option Addr) (H : Hp) (U : Addr → Prop) (σ : L2.St) (ρ : Env) : List V → List Arg → Prop
  | nil : RAs K fa H U σ ρ [] []
  | cons {x : V} {xs : List V} {a : Arg} {as : List Arg} : RA K fa H U σ ρ x a → RAs K fa H U σ ρ xs as → RAs K fa H U σ ρ (x :: xs) (a :: as)
theorem RA.on {K : PySem.W.Frag} {fa : Nat → Option Addr} {H H1 : Hp} {U U1 : Addr → Prop} {σ : L2.St} {ρ ρ1 : Env} {x : V} {a : Arg} (p : Pst K fa σ H U ρ H1 U1 ρ1) (e : ER K fa H U σ ρ) (h : RA K fa H U σ ρ x a) : RA K fa H1 U1 σ ρ1 x a := by
  cases a with
  | vl v => exact ⟨h.1.on p e fun o => (by rw [h.2] at o; cases o), h.2⟩
  | lend i =>
    obtain ⟨h1, v, h2⟩ := h
    obtain ⟨v', h3, _⟩ := p.set i v h2
    exact ⟨h1, v', h3⟩
def SA (X : Cx) (w : Wd) (cl : Fun) (W : WX) (es : List Expr) (ts : List T) : Prop :=
  ∃ ta : TA, PA X es ta ∧ ∀ σ H U ρ Q, ER X.K w.fa H U σ ρ →
    Aft (evAs cl ts ρ) (fun as ρ' => ∀ xs H' U', Pst X.K w.fa σ H U ρ H' U' ρ' → RAs X.K w.fa H' U' σ ρ' xs as → Q xs H') (XcE X.K w W σ H U ρ) → ta σ H Q
theorem sa_nil : SA X w cl W [] [] := ⟨_, pa_nil, fun σ H U ρ Q er h => h [] H U (Pst.refl er) .nil⟩
/-- one argument, as it is handed -/
def SG (X : Cx) (w : Wd) (cl : Fun) (W : WX) (e : Expr) (t : T) : Prop :=
  ∃ te : TE, PE X e te ∧ ∀ σ H U ρ Q, ER X.K w.fa H U σ ρ →
    Aft (argOf t (evE cl t) ρ) (fun a ρ' => ∀ x H' U', Pst X.K w.fa σ H U ρ H' U' ρ' → RA X.K w.fa H' U' σ ρ' x a → Q x H') (XcE X.K w W σ H U ρ) → te σ H Q
theorem arg_val {K : PySem.W.Frag} {σ : L2.St} {H H1 : Hp} {U U1 : Addr → Prop} {ρ ρ1 : Env} {x : V} {v v' : Vl} (er : ER K w.fa H U σ ρ) (p : Pst K w.fa σ H U ρ H1 U1 ρ1) (r : RV K w.fa H1 U1 x v) (f : Frh ρ1 σ H x v) (e : argVal v = some v') :
    ∃ U2, Pst K w.fa σ H U ρ H1 U2 ρ1 ∧ RA K w.fa H1 U2 σ ρ1 x (.vl v') := by
  cases v with
  | dat d => cases e; exact ⟨U1, p, r, rfl⟩
  | fn d => cases e; exact ⟨U1, p, r, rfl⟩
  | scr d => cases e; exact ⟨U1, p, r, rfl⟩
  | lst ds =>
    cases e
    obtain ⟨U2, p2, r2⟩ := give er p r f rfl
    exact ⟨U2, p2, r2, rfl⟩
  | lck _ => cases e
  | dct _ => cases e
theorem SE.sg {e : Expr} {t : T} (hv : t.isVar = none) (h : SE X w cl W e t) : SG X w cl W e t := by
  obtain ⟨te, he, k⟩ := h
  refine ⟨te, he, fun σ H U ρ Q er h => k σ H U ρ Q er ?_⟩
  unfold argOf at h
  rw [hv] at h
  refine h.bind.mono (fun v ρ1 h x H1 U1 p1 r f => ?_) fun _ _ h => h
  obtain ⟨v', e1, h⟩ := h.get
  obtain ⟨U2, p2, ra⟩ := arg_val er p1 r f e1
  exact h x H1 U2 p2 ra
theorem sg_var {i : Nat} {x : Str} {pos : Pos} (hN : X.N[i]? = some x) (hv : Vis X.env.scope x) (hd : (x == ("__debug__" : Str)) = false := by decide) (hcd : (x == ("__classdict__" : Str)) = false := by decide) :
    SG X w cl W (.Name x pos) (.var i) := by
  refine ⟨tVar i, pe_var hN hv hd hcd, fun σ H U ρ Q er h => ?_⟩
  unfold argOf T.isVar at h
  simp only at h
  split at h
  · rename_i v e
    obtain ⟨x, e1, r⟩ := er.val i _ e
    exact ⟨x, e1, h x H U (Pst.refl er) ⟨e1, _, e⟩⟩
  · rename_i v e
    obtain ⟨x, e1, r⟩ := er.val i _ e
    exact ⟨x, e1, h x H U (Pst.refl er) ⟨e1, _, e⟩⟩
  · unfold evE at h
    split at h
    · rename_i d e
      obtain ⟨x, e1, r⟩ := er.val i _ e
      exact ⟨x, e1, h x H U (Pst.refl er) ⟨r, rfl⟩⟩
    · rename_i d e
      obtain ⟨x, e1, r⟩ := er.val i _ e
      exact ⟨x, e1, h x H U (Pst.refl er) ⟨r, rfl⟩⟩
    · rename_i d e
      obtain ⟨x, e1, r⟩ := er.val i _ e
      exact ⟨x, e1, h x H U (Pst.refl er) ⟨r, rfl⟩⟩
    · rename_i ds e
      obtain ⟨x, e1, r⟩ := er.val i _ e
      obtain ⟨a, vs, rfl, u, eh, rr⟩ := id r
      refine ⟨_, e1, h _ H (subU U a) (Pst.freeze er e e1 eh rr) ⟨Rp.given eh rr, rfl⟩⟩
    · exact h.elim
theorem sa_cons {e : Expr} {es : List Expr} {t : T} {ts : List T} (he : SG X w cl W e t) (hs : SA X w cl W es ts) (hst : starEach (e :: es) X.env = (false, eval e X.env) :: starEach es X.env := by rfl) : SA X w cl W (e :: es) (t :: ts) := by
  obtain ⟨ea, pa, ka⟩ := he
  obtain ⟨eb, pb, kb⟩ := hs
  refine ⟨_, pa_cons pa pb hst, fun σ H U ρ Q er h => ka σ H U ρ _ er ?_⟩
  unfold evAs at h
  refine h.bind.mono (fun a ρ1 h x H1 U1 p1 r => ?_) fun _ _ h => h
  refine kb σ H1 U1 ρ1 _ p1.er (h.bind.mono (fun as ρ2 h xs H3 U3 p3 r3 => ?_) fun _ _ h => h.on er p1)
  exact h (x :: xs) H3 U3 (p1.trans er p3) (.cons (r.on p3 p1.er) r3)
/-! ### the call -/
theorem nodup_cons {i : Nat} {r : List Nat} (h : nodupB (i :: r) = true) : i ∉ r ∧ nodupB r = true := by
  unfold nodupB at h
  simp only [Bool.and_eq_true, Bool.not_eq_true', List.contains_eq_mem, decide_eq_false_iff_not] at h
  exact h
theorem lend_at : ∀ {as : List Arg} {m i : Nat}, as[m]? = some (.lend i) → i ∈ lends as
  | [], _, _, h => by simp at h
  | .lend j :: as, 0, i, h => by
    simp at h
    subst h
    exact List.mem_cons_self ..
  | .vl _ :: as, 0, i, h => by simp at h
  | .lend j :: as, m + 1, i, h => List.mem_cons_of_mem _ (lend_at (as := as) (m := m) (by simpa using h))
  | .vl _ :: as, m + 1, i, h => lend_at (as := as) (m := m) (by simpa using h)
theorem lend_inj : ∀ {as : List Arg} {m m' i : Nat}, nodupB (lends as) = true → as[m]? = some (.lend i) → as[m']? = some (.lend i) → m = m'
  | [], _, _, _, _, h, _ => (by simp at h)
  | .vl _ :: as, 0, _, _, _, h, _ => by simp at h
  | .vl _ :: as, _ + 1, 0, _, _, _, h => by simp at h
  | .vl _ :: as, m + 1, m' + 1, i, n, h, h' => by
    have := lend_inj (as := as) (m := m) (m' := m') n (by simpa using h) (by simpa using h')
    omega
  | .lend j :: as, 0, 0, _, _, _, _ => rfl
  | .lend j :: as, 0, m' + 1, i, n, h, h' => by
    simp at h
    subst h
    exact ((nodup_cons n).1 (lend_at (as := as) (m := m') (by simpa using h'))).elim
  | .lend j :: as, m + 1, 0, i, n, h, h' => by
    simp at h'
    subst h'
    exact ((nodup_cons n).1 (lend_at (as := as) (m := m) (by simpa using h))).elim
  | .lend j :: as, m + 1, m' + 1, i, n, h, h' => by
    have := lend_inj (as := as) (m := m) (m' := m') (nodup_cons n).2 (by simpa using h) (by simpa using h')
    omega
theorem giveBack_get : ∀ {as : List Arg} {fin : List (Option Vl)} {ρ ρ2 : Env}, nodupB (lends as) = true → giveBack ρ as fin = some ρ2 →
    (∀ i, i ∉ lends as → ρ2[i]? = ρ[i]?) ∧ (∀ (m i : Nat), as[m]? = some (.lend i) → i < ρ.length → ∃ v, fin[m]? = some (some v) ∧ ρ2[i]? = some (some v)) ∧ ρ2.length = ρ.length
  | [], [], ρ, ρ2, _, h => by
    unfold giveBack at h
    cases h
    exact ⟨fun _ _ => rfl, fun m i h => by simp at h, rfl⟩
  | [], _ :: _, _, _, _, h => by unfold giveBack at h; cases h
  | .vl _ :: r, [], _, _, _, h => by unfold giveBack at h; cases h
  | .lend _ :: r, [], _, _, _, h => by unfold giveBack at h; cases h
  | .vl _ :: r, f :: s, ρ, ρ2, n, h => by
    unfold giveBack at h
    obtain ⟨h1, h2, h3⟩ := giveBack_get (as := r) n h
    refine ⟨h1, fun m i e hi => ?_, h3⟩
    cases m with
    | zero => simp at e
    | succ m =>
      obtain ⟨v, e1, e2⟩ := h2 m i (by simpa using e) hi
      exact ⟨v, by simpa using e1, e2⟩
  | .lend j :: r, none :: s, ρ, ρ2, n, h => by unfold giveBack at h; cases h
  | .lend j :: r, some v :: s, ρ, ρ2, n, h => by
    unfold giveBack at h
    obtain ⟨n1, n2⟩ := nodup_cons n
    obtain ⟨h1, h2, h3⟩ := giveBack_get (as := r) n2 h
    rw [List.length_set] at h3
    refine ⟨fun i hi => ?_, fun m i e hi => ?_, h3⟩
    · have : ¬ (i = j ∨ i ∈ lends r) := fun z => hi (by
        unfold lends
        exact List.mem_cons.mpr z)
      rw [h1 i fun z => this (.inr z), List.getElem?_set_ne fun z => this (.inl z.symm)]
    · cases m with
      | zero =>
        simp at e
        subst e
        exact ⟨v, rfl, by rw [h1 _ n1, List.getElem?_set_self hi]⟩
      | succ m =>
        obtain ⟨v', e1, e2⟩ := h2 m i (by simpa using e) (by rw [List.length_set]; exact hi)
        exact ⟨v', by simpa using e1, e2⟩
theorem argVs_get : ∀ {as : List Arg} {ws : List Vl} {ρ : Env} {xs : List V} {K : PySem.W.Frag} {fa : Nat → Option Addr} {H : Hp} {U : Addr → Prop} {σ : L2.St}, argVs ρ as = some ws → RAs K fa H U σ ρ xs as → xs.length = ws.length ∧ ∀ (m : Nat) (v : Vl), ws[m]? = some v →
    ∃ x, xs[m]? = some x ∧ ((∃ v', as[m]? = some (.vl v') ∧ v = v' ∧ RV K fa H U x v ∧ v.own = false) ∨ ∃ i, as[m]? = some (.lend i) ∧ ρ[i]? = some (some v) ∧ v.mut = true ∧ σ[i]? = some (some x))
  | [], ws, ρ, xs, K, fa, H, U, σ, h, r => by
    unfold argVs at h
    cases h
    cases r
    exact ⟨rfl, fun m v h => by simp at h⟩
  | a :: as, ws, ρ, xs, K, fa, H, U, σ, h, r => by
    unfold argVs at h
    cases r with
    | cons r1 r2 =>
      rename_i x xs
      obtain ⟨v, e1, h⟩ := Option.bind_eq_some_iff.mp h
      obtain ⟨vs, e2, rfl⟩ := Option.map_eq_some_iff.mp h
      obtain ⟨l, k⟩ := argVs_get e2 r2
      refine ⟨by simp [l], fun m v' h => ?_⟩
      cases m with
      | zero =>
        simp at h
        subst h
        refine ⟨x, rfl, ?_⟩
        cases a with
        | vl u =>
          unfold argV at e1
          cases e1
          exact .inl ⟨_, rfl, rfl, r1.1, r1.2⟩
        | lend i =>
          unfold argV at e1
          simp only at e1
          split at e1
          · rename_i e3
            cases e1
            exact .inr ⟨i, rfl, e3, rfl, r1.1⟩
          · rename_i e3
            cases e1
            exact .inr ⟨i, rfl, e3, rfl, r1.1⟩
          · cases e1
      | succ m =>
        obtain ⟨y, e3, e4⟩ := k m v' (by simpa using h)
        exact ⟨y, by simpa using e3, by simpa using e4⟩
theorem map_some_get {α : Type} {l : List α} {i : Nat} {v : α} : (l.map some)[i]? = some (some v) ↔ l[i]? = some v := by
  rw [List.getElem?_map]
  cases l[i]? <;> simp
theorem lend_ex : ∀ {as : List Arg} {i : Nat}, i ∈ lends as → ∃ m : Nat, as[m]? = some (Arg.lend i)
  | [], _, h => by cases h
  | .lend j :: as, i, h => by
    rcases List.mem_cons.mp (show i ∈ j :: lends as from h) with rfl | h
    · exact ⟨0, rfl⟩
    · obtain ⟨m, e⟩ := lend_ex h
      exact ⟨m + 1, by simpa using e⟩
  | .vl _ :: as, i, h => by
    obtain ⟨m, e⟩ := lend_ex (as := as) h
    exact ⟨m + 1, by simpa using e⟩
theorem argVs_len : ∀ {as : List Arg} {ws : List Vl} {ρ : Env}, argVs ρ as = some ws → ws.length = as.length
  | [], ws, ρ, h => by unfold argVs at h; cases h; rfl
  | a :: as, ws, ρ, h => by
    unfold argVs at h
    obtain ⟨v, e1, h⟩ := Option.bind_eq_some_iff.mp h
    obtain ⟨vs, e2, rfl⟩ := Option.map_eq_some_iff.mp h
    simp [argVs_len e2]
/-- what the callee finds -/
theorem callee_er {K : PySem.W.Frag} {σ : L2.St} {H : Hp} {U : Addr → Prop} {ρ : Env} {as : List Arg} {ws : List Vl} {xs : List V} (er : ER K w.fa H U σ ρ) (n : nodupB (lends as) = true) (e : argVs ρ as = some ws) (r : RAs K w.fa H U σ ρ xs as) :
    ER K w.fa H U (xs.map some) (ws.map some) ∧ ∀ a, Ow (ws.map some) (xs.map some) a → Ow ρ σ a := by
  obtain ⟨l, k⟩ := argVs_get e r
  refine ⟨⟨by simp [l], fun i v h => ?_, fun i j v v' a ne h1 h2 o1 o2 z1 z2 => ?_, er.dom⟩, fun a ⟨i, v, h, o, z⟩ => ?_⟩
  · obtain ⟨x, e1, h'⟩ := k i v (map_some_get.mp h)
    refine ⟨x, map_some_get.mpr e1, ?_⟩
    rcases h' with ⟨v', _, rfl, r, _⟩ | ⟨j, _, e2, o, e3⟩
    · exact r
    · obtain ⟨y, e4, r⟩ := er.val j v e2
      rw [e3] at e4
      cases e4
      exact r
  · obtain ⟨x, e1, h'⟩ := k i v (map_some_get.mp h1)
    obtain ⟨y, e2, h''⟩ := k j v' (map_some_get.mp h2)
    have z1' := map_some_get.mp z1
    have z2' := map_some_get.mp z2
    rw [e1] at z1'
    rw [e2] at z2'
    cases z1'
    cases z2'
    rcases h' with ⟨_, _, _, _, q⟩ | ⟨s1, a1, b1, c1, d1⟩
    · rw [q] at o1; cases o1
    rcases h'' with ⟨_, _, _, _, q⟩ | ⟨s2, a2, b2, c2, d2⟩
    · rw [q] at o2; cases o2
    by_cases q : s1 = s2
    · subst q
      exact ne (lend_inj n a1 a2)
    · exact er.dj s1 s2 v v' a q b1 b2 o1 o2 d1 d2
  · obtain ⟨x, e1, h'⟩ := k i v (map_some_get.mp h)
    have z' := map_some_get.mp z
    rw [e1] at z'
    cases z'
    rcases h' with ⟨_, _, _, _, q⟩ | ⟨s1, a1, b1, c1, d1⟩
    · have o := mut_own o
      rw [q] at o; cases o
    · exact ⟨s1, v, b1, o, d1⟩
theorem fin_pst {K : PySem.W.Frag} {σ : L2.St} {H H' : Hp} {U U' : Addr → Prop} {ρ ρ2 : Env} {as : List Arg} {ws : List Vl} {xs : List V} {fin : List (Option Vl)} (er : ER K w.fa H U σ ρ) (n : nodupB (lends as) = true) (e : argVs ρ as = some ws)
    (r : RAs K w.fa H U σ ρ xs as) (f : Fin K w xs ws H U fin H' U') (g : giveBack ρ as fin = some ρ2) : Pst K w.fa σ H U ρ H' U' ρ2 := by
  obtain ⟨l, k⟩ := argVs_get e r
  obtain ⟨g1, g2, g3⟩ := giveBack_get n g
  obtain ⟨ce, co⟩ := callee_er er n e r
  have go : Go (Ow ρ σ) H U H' U' := f.go.mono co
  have st : Sta H U H' U' := f.go.sta fun a h => er.ow (co a h)
  have la := argVs_len e
  -- a lent slot's place among the arguments
  have lentAt : ∀ i, i ∈ lends as → ∃ (m : Nat) (v : Vl) (x : V), as[m]? = some (.lend i) ∧ ws[m]? = some v ∧ xs[m]? = some x ∧ ρ[i]? = some (some v) ∧ v.mut = true ∧ σ[i]? = some (some x) := by
    intro i hi
    obtain ⟨m, hm⟩ := lend_ex hi
    have hlt : m < ws.length := by
      rw [la]
      exact (List.getElem?_eq_some_iff.mp hm).1
    obtain ⟨x, e1, h'⟩ := k m ws[m] (List.getElem?_eq_getElem hlt)
    rcases h' with ⟨v', q, _⟩ | ⟨j, q, e2, o, e3⟩
    · rw [hm] at q; cases q
    · rw [hm] at q
      cases q
      exact ⟨m, ws[m], x, hm, List.getElem?_eq_getElem hlt, e1, e2, o, e3⟩
  have back : ∀ (i : Nat) (v' : Vl), ρ2[i]? = some (some v') → (∃ v x, ρ[i]? = some (some v) ∧ v.mut = true ∧ σ[i]? = some (some x) ∧ RV K w.fa H' U' x v') ∨ (i ∉ lends as ∧ ρ[i]? = some (some v')) := by
    intro i v' h
    by_cases hi : i ∈ lends as
    · obtain ⟨m, v, x, a1, a2, a3, a4, a5, a6⟩ := lentAt i hi
      obtain ⟨u, b1, b2, _⟩ := f.lent m v x a2 (mut_own a5) a3
      obtain ⟨u', c1, c2⟩ := g2 m i a1 (List.getElem?_eq_some_iff.mp a4).1
      rw [b1] at c1
      cases c1
      rw [h] at c2
      cases c2
      exact .inl ⟨v, x, a4, a5, a6, b2⟩
    · rw [g1 i hi] at h
      exact .inr ⟨hi, h⟩
  have own2 : ∀ (i : Nat) (v' : Vl), ρ2[i]? = some (some v') → v'.own = true → ∃ v, ρ[i]? = some (some v) ∧ v.own = true := by
    intro i v' h o
    rcases back i v' h with ⟨v, _, h1, h2, _⟩ | ⟨_, h1⟩
    · exact ⟨v, h1, mut_own h2⟩
    · exact ⟨v', h1, o⟩
  refine ⟨⟨by rw [g3]; exact er.len, fun i v' h => ?_, fun i j v v' a ne h1 h2 o1 o2 z1 z2 => ?_, f.dom⟩, go, fun a ⟨i, v, h, o, z⟩ => ?_, own2, fun i v h => ?_⟩
  · rcases back i v' h with ⟨v, x, h1, h2, h3, h4⟩ | ⟨hi, h1⟩
    · exact ⟨x, h3, h4⟩
    · obtain ⟨x, e1, r1⟩ := er.val i v' h1
      refine ⟨x, e1, r1.sta st fun o a q u => ?_⟩
      subst q
      have no : ¬ Ow (ws.map some) (xs.map some) a := fun ⟨m, v, b1, b2, b3⟩ => by
        obtain ⟨y, e2, h'⟩ := k m v (map_some_get.mp b1)
        have b3' := map_some_get.mp b3
        rw [e2] at b3'
        cases b3'
        rcases h' with ⟨_, _, _, _, q⟩ | ⟨s1, a1, c1, _, d1⟩
        · have b2 := mut_own b2
          rw [q] at b2; cases b2
        · exact er.dj i s1 v' v a (fun q => hi (q ▸ lend_at a1)) h1 c1 o (mut_own b2) e1 d1
      exact ⟨fun ob z => f.go.keep a ob z no, f.go.u1 a u no⟩
  · obtain ⟨v1, c1, d1⟩ := own2 i v h1 o1
    obtain ⟨v2, c2, d2⟩ := own2 j v' h2 o2
    exact er.dj i j v1 v2 a ne c1 c2 d1 d2 z1 z2
  · rcases back i v h with ⟨v1, _, h1, h2, _⟩ | ⟨_, h1⟩
    · exact ⟨i, v1, h1, h2, z⟩
    · exact ⟨i, v, h1, o, z⟩
  · by_cases hi : i ∈ lends as
    · obtain ⟨m, v, x, a1, a2, a3, a4, a5, a6⟩ := lentAt i hi
      obtain ⟨u', c1, c2⟩ := g2 m i a1 (List.getElem?_eq_some_iff.mp a4).1
      obtain ⟨u, b1, _, b3⟩ := f.lent m v x a2 (mut_own a5) a3
      rw [c1] at b1
      cases b1
      exact ⟨u', c2, fun _ => b3⟩
    · exact ⟨v, by rw [g1 i hi]; exact h, id⟩
/-- the call, behind its arguments -/
theorem call_go {K : PySem.W.Frag} {σ : L2.St} {H : Hp} {U : Addr → Prop} {ρ : Env} {as : List Arg} {xs : List V} {Q : VK} {k : Nat} (er : ER K w.fa H U σ ρ) (r : RAs K w.fa H U σ ρ xs as)
    (h : Aft (doCall (cl k) as ρ) (OkE K w σ H U ρ Q) (XcE K w W σ H U ρ)) : spD K w cl k xs H Q (fun c d H' => W c d σ H') := by
  unfold doCall at h
  split at h
  · rename_i n
    obtain ⟨ws, e, h⟩ := h.get
    obtain ⟨ce, co⟩ := callee_er er n e r
    refine ⟨U, ws, ce, ?_⟩
    cases q : cl k ws with
    | stuck => rw [q] at h; exact h
    | ok p =>
      obtain ⟨v, fin⟩ := p
      rw [q] at h
      obtain ⟨ρ2, e2, h⟩ := h.get
      exact fun x H' U' f rv fr => h x H' U' (fin_pst er n e r f e2) rv fun o a z => ⟨fun z2 => er.dom a (er.hd ((fin_pst er n e r f e2).hdd a z2)) (fr o a z), fr o a z⟩
    | exc ex fin =>
      rw [q] at h
      simp only at h
      split at h
      · rename_i ρ2 e2
        exact fun c d H' U' f rx => h c d H' U' (fin_pst er n e r f e2) rx
      · exact h.elim
  · exact h.elim
theorem se_call {e : Expr} {es : List Expr} {ts : List T} {k : Nat} {x : Str} {p pos : Pos} (G : GC X W) (F : HasF X w cl n) {f : Addr} (hk : w.fa k = some f) (hg : Gl X x) (hm : X.mg x = some (.ref f)) (ha : SA X w cl W (e :: es) ts) (hdb : (x == ("__debug__" : Str)) = false := by decide)
    (he : starEach (e :: es) X.env = (false, eval e X.env) :: starEach es X.env := by rfl) (hpl : (backTo pos (starEach es X.env)).any (·.1) = false := by rfl) : SE X w cl W (.Call (.Name x p) (e :: es) [] pos) (.call k ts) := by
  obtain ⟨ea, pa, ka⟩ := ha
  refine ⟨fun σ H Q => ea σ H fun vs H1 => spD X.K w cl k vs H1 Q (fun c d H' => W c d σ H'), ⟨fun pins s σ H Q I h => ?_⟩, fun σ H U ρ Q er h => ka σ H U ρ _ er ?_⟩
  · refine wpAny_Call_Name_kw (ld_glob I hg hm ?_ hdb)
    refine PySem.W.callWith_K (h₀ := X.base) I.ok.mod.kin (F.keep k f hk) (thn (pa.run pos pins s σ H _ I h) fun us s1 ⟨vs, H1, I1, r, q⟩ => ⟨I1.kIn, ?_⟩) he hpl
    exact run_fnG (F.fn k f hk) F.room G.gd ((F.binds k f hk).pos s1 us I1.kIn) G.tk I1 r q
  · unfold evE at h
    refine h.bind.mono (fun as ρ1 h xs H1 U1 p1 r => ?_) fun _ _ h => h
    exact call_go p1.er r (Aft.mono h (fun _ _ h => OkE.on h er p1) fun _ _ h => h.on er p1)
theorem se_call0 {k : Nat} {x : Str} {p pos : Pos} (G : GC X W) (F : HasF X w cl n) {f : Addr} (hk : w.fa k = some f) (hg : Gl X x) (hm : X.mg x = some (.ref f)) (hdb : (x == ("__debug__" : Str)) = false := by decide) : SE X w cl W (.Call (.Name x p) [] [] pos) (.call k []) := by
  refine ⟨fun σ H Q => spD X.K w cl k [] H Q (fun c d H' => W c d σ H'), ⟨fun pins s σ H Q I h => ?_⟩, fun σ H U ρ Q er h => ?_⟩
  · refine wpAny_Call_Name_kw (ld_glob I hg hm ?_ hdb)
    exact PySem.W.callWith_K0 I.kIn (F.keep k f hk) (run_fnG (us := []) (F.fn k f hk) F.room G.gd ((F.binds k f hk).pos s [] I.kIn) G.tk I .nil h)
  · unfold evE at h
    exact call_go er .nil h
theorem se_callv {e : Expr} {es : List Expr} {ts : List T} {i : Nat} {x : Str} {p pos : Pos} (G : GC X W) (F : HasF X w cl n) (hN : X.N[i]? = some x) (hv : Vis X.env.scope x) (ha : SA X w cl W (e :: es) ts) (hdb : (x == ("__debug__" : Str)) = false := by decide) (hcd : (x == ("__classdict__" : Str)) = false := by decide)
    (he : starEach (e :: es) X.env = (false, eval e X.env) :: starEach es X.env := by rfl) (hpl : (backTo pos (starEach es X.env)).any (·.1) = false := by rfl) : SE X w cl W (.Call (.Name x p) (e :: es) [] pos) (.callv i ts) := by
  obtain ⟨ea, pa, ka⟩ := ha
  refine ⟨fun σ H Q => ∃ k f, w.fa k = some f ∧ σ[i]? = some (some (.ref f)) ∧ ea σ H fun vs H1 => spD X.K w cl k vs H1 Q (fun c d H' => W c d σ H'), ⟨fun pins s σ H Q I h => ?_⟩, fun σ H U ρ Q er h => ?_⟩
  · obtain ⟨k, f, hk, hs, h⟩ := h
    refine wpAny_Call_Name_kw (thn ((pe_var (pos := p) hN hv hdb hcd).run pins s σ H (fun v H1 => v = .ref f ∧ H1 = H) I ⟨.ref f, hs, rfl, rfl⟩) fun u s1 z => ?_)
    obtain ⟨v, H1, I1, rr, q1⟩ := z
    have r1 := rr
    obtain ⟨rfl, rfl⟩ := q1
    cases r1
    refine PySem.W.callWith_K (h₀ := X.base) I.ok.mod.kin (F.keep k f hk) (thn (pa.run pos pins s1 σ _ _ I1 h) fun us s1 ⟨vs, H1, I1, r, q⟩ => ⟨I1.kIn, ?_⟩) he hpl
    exact run_fnG (F.fn k f hk) F.room G.gd ((F.binds k f hk).pos s1 us I1.kIn) G.tk I1 r q
  · unfold evE at h
    split at h
    · rename_i k e1
      obtain ⟨x, e2, r⟩ := er.val i _ e1
      obtain ⟨f, hk, rfl⟩ := r
      refine ⟨k, f, hk, e2, ka σ H U ρ _ er (h.bind.mono (fun as ρ1 h xs H1 U1 p1 r => ?_) fun _ _ h => h)⟩
      exact call_go p1.er r (Aft.mono h (fun _ _ h => OkE.on h er p1) fun _ _ h => h.on er p1)
    · exact h.elim
theorem tr_assoc {r : Res (List Arg × Env)} {f : List Arg × Env → Res (Vl × Env)} : (r.bind fun p => (f p).bind fun q => (get (truth q.1)).bind fun b => Res.ok (b, q.2)) = (r.bind f).bind fun q => (get (truth q.1)).bind fun b => .ok (b, q.2) := by
  cases r <;> rfl
theorem ev_call (k : Nat) (ts : List T) (ρ : Env) : evT cl (.call k ts) ρ = (evE cl (.call k ts) ρ).bind fun q => (get (truth q.1)).bind fun b => .ok (b, q.2) := by
  unfold evT evE
  exact tr_assoc
theorem ev_callv (i : Nat) (ts : List T) (ρ : Env) : evT cl (.callv i ts) ρ = (evE cl (.callv i ts) ρ).bind fun q => (get (truth q.1)).bind fun b => .ok (b, q.2) := by
  unfold evT evE
  split
  · exact tr_assoc
  · rfl
theorem ev_blt (b : Blt) (t : T) (ρ : Env) : evT cl (.blt b t) ρ = (evE cl (.blt b t) ρ).bind fun q => (get (truth q.1)).bind fun b => .ok (b, q.2) := by
  unfold evT evE
  cases opnd t (evE cl t) ρ with
  | ok p =>
    simp only [Res.bind_ok]
    cases look p.2 p.1 with
    | none => rfl
    | some x =>
      simp only [get_some, Res.bind_ok]
      cases blt1 b x <;> rfl
  | exc _ _ => rfl
  | stuck => rfl
/-- f(k = v, ..), the keywords in the parameters' order -/
def SK (X : Cx) (w : Wd) (cl : Fun) (W : WX) (es : List Keyword) (ts : List T) : Prop :=
  ∃ ta : TA, PK X es ta ∧ ∀ σ H U ρ Q, ER X.K w.fa H U σ ρ →
    Aft (evAs cl ts ρ) (fun as ρ' => ∀ xs H' U', Pst X.K w.fa σ H U ρ H' U' ρ' → RAs X.K w.fa H' U' σ ρ' xs as → Q xs H') (XcE X.K w W σ H U ρ) → ta σ H Q
theorem sk_nil : SK X w cl W [] [] := ⟨_, pk_nil, fun σ H U ρ Q er h => h [] H U (Pst.refl er) .nil⟩
theorem sk_cons {e : Expr} {nm : Option Str} {kpos : Pos} {es : List Keyword} {t : T} {ts : List T} (he : SG X w cl W e t) (hs : SK X w cl W es ts) : SK X w cl W (⟨nm, e, kpos⟩ :: es) (t :: ts) := by
  obtain ⟨ea, pa, ka⟩ := he
  obtain ⟨eb, pb, kb⟩ := hs
  refine ⟨_, pk_cons pa pb, fun σ H U ρ Q er h => ka σ H U ρ _ er ?_⟩
  unfold evAs at h
  refine h.bind.mono (fun a ρ1 h x H1 U1 p1 r => ?_) fun _ _ h => h
  refine kb σ H1 U1 ρ1 _ p1.er (h.bind.mono (fun as ρ2 h xs H3 U3 p3 r3 => ?_) fun _ _ h => h.on er p1)
  exact h (x :: xs) H3 U3 (p1.trans er p3) (.cons (r.on p3 p1.er) r3)
theorem se_callK {kws : List Keyword} {ts : List T} {k : Nat} {x : Str} {p pos : Pos} (G : GC X W) (F : HasF X w cl n) {f : Addr} (hk : w.fa k = some f) (hg : Gl X x) (hm : X.mg x = some (.ref f)) (ha : SK X w cl W kws ts)
    (hall : (backToKw pos (keywordEach kws X.env)).all (·.1.isSome) = true := by rfl) (hks : (backToKw pos (keywordEach kws X.env)).filterMap (·.1) = w.ps k := by rfl) (hdb : (x == ("__debug__" : Str)) = false := by decide)
    (hpl : ((backTo pos (starEach [] X.env)).any (·.1) || (backToKw pos (keywordEach kws X.env)).any (·.1.isNone)) = false := by rfl) : SE X w cl W (.Call (.Name x p) [] kws pos) (.call k ts) := by
  obtain ⟨ea, pa, ka⟩ := ha
  refine ⟨fun σ H Q => ea σ H fun vs H1 => spD X.K w cl k vs H1 Q (fun c d H' => W c d σ H'), ⟨fun pins s σ H Q I h => ?_⟩, fun σ H U ρ Q er h => ka σ H U ρ _ er ?_⟩
  · refine wpAny_Call_Name_kw (ld_glob I hg hm ?_ hdb)
    refine PySem.W.callWith_KW0 (h₀ := X.base) I.ok.mod.kin (F.keep k f hk) hall (thn (pa.run pos pins s σ H _ I h) fun us s1 ⟨vs, H1, I1, r, q⟩ => ⟨I1.kIn, ?_⟩) hpl
    rw [hks]
    exact run_fnG (us := []) (F.fn k f hk) F.room G.gd ((F.binds k f hk).kw s1 us I1.kIn) G.tk I1 r q
  · unfold evE at h
    refine h.bind.mono (fun as ρ1 h xs H1 U1 p1 r => ?_) fun _ _ h => h
    exact call_go p1.er r (Aft.mono h (fun _ _ h => OkE.on h er p1) fun _ _ h => h.on er p1)
end
end Pv
set_option Elab.async false
set_option linter.all false
set_option maxRecDepth 100000
set_option maxHeartbeats 2100000
namespace Pv
open PySem L2 PyProof.Rows
/-! ### readings that hang on the data alone -/
def tE (K : PySem.W.Frag) (w : Wd) (cl : Fun) (W : WX) (t : T) : TE := fun σ H Q => ∃ U ρ, ER K w.fa H U σ ρ ∧ Aft (evE cl t ρ) (OkE K w σ H U ρ Q) (XcE K w W σ H U ρ)
def tT (K : PySem.W.Frag) (w : Wd) (cl : Fun) (W : WX) (t : T) : TT := fun σ H Q => ∃ U ρ, ER K w.fa H U σ ρ ∧ Aft (evT cl t ρ) (fun b ρ' => ∀ H' U', Pst K w.fa σ H U ρ H' U' ρ' → Q b H') (XcE K w W σ H U ρ)
section
variable {X : Cx} {w : Wd} {cl : Fun} {W : WX}
theorem SE.can {e : Expr} {t : T} (h : SE X w cl W e t) : PE X e (tE X.K w cl W t) := by
  obtain ⟨te, p, k⟩ := h
  exact ⟨fun pins s σ H Q I ⟨U, ρ, er, h⟩ => p.run pins s σ H Q I (k σ H U ρ Q er h)⟩
theorem ST.can {e : Expr} {t : T} (h : ST X w cl W e t) : PT X e (tT X.K w cl W t) := by
  obtain ⟨te, p, k⟩ := h
  exact ⟨fun pins s σ H Q I ⟨U, ρ, er, h⟩ => p.run pins s σ H Q I (k σ H U ρ Q er h)⟩
/-! ### what is walked -/
/-- a turn may lay new objects -/
def Grow (H H' : Hp) : Prop := ∀ a o, H a = some o → H' a = some o
def Wk (K : PySem.W.Frag) (J : It) (src : Hp → (Addr → Prop) → Prop) (ds : List D) : Prop := ∀ (i : Nat) (H : Hp) (U : Addr → Prop), src H U → (∀ a, U a → H a ≠ none) →
  (i < ds.length → J.go i H ∧ ∀ x H', J.yld i H x H' → Grow H H' ∧ ∃ d, ds[i]? = some d ∧ Rp K H' U x d) ∧ (ds.length ≤ i → J.stop i H)
section
variable {K : PySem.W.Frag}
theorem wk_list {a : Addr} {ds : List D} : Wk K (Itl K a) (fun H U => ∃ vs, H a = some (.lst vs) ∧ Rps K H U vs ds) ds := fun i H U ⟨vs, h, r⟩ _ =>
  ⟨fun hi => by
    rw [← r.len] at hi
    exact ⟨⟨vs, vs[i], SqL.of h, List.getElem?_eq_getElem hi⟩, fun x H' ⟨e, k⟩ => by
      subst e
      obtain ⟨d, e1, e2⟩ := r.getV (k vs (SqL.of h))
      exact ⟨fun _ _ z => z, d, e1, e2⟩⟩, fun hi => ⟨vs, SqL.of h, by rw [r.len]; exact hi⟩⟩
theorem wk_tup {a : Addr} {ds : List D} : Wk K (Itt K a) (fun H U => ∃ vs, SqT K H a vs ∧ Rps K H U vs ds) ds := fun i H U ⟨vs, h, r⟩ _ =>
  ⟨fun hi => by
    rw [← r.len] at hi
    exact ⟨⟨vs, vs[i], h, List.getElem?_eq_getElem hi⟩, fun x H' ⟨e, k⟩ => by
      subst e
      obtain ⟨d, e1, e2⟩ := r.getV (k vs h)
      exact ⟨fun _ _ z => z, d, e1, e2⟩⟩, fun hi => ⟨vs, h, by rw [r.len]; exact hi⟩⟩
theorem wk_str {z : Str} : Wk K (Its z) (fun _ _ => True) (z.cps.toList.map fun c => PyData.str ⟨#[c]⟩) := fun i H U _ _ =>
  ⟨fun hi => ⟨by
    rw [List.length_map] at hi; rw [Array.length_toList] at hi
    exact hi, fun x H' ⟨e, c, h, k⟩ => by
    subst e k
    exact ⟨fun _ _ z => z, _, by rw [List.getElem?_map, Array.getElem?_toList, h]; rfl, .str _⟩⟩, fun hi => by
    rw [List.length_map] at hi; rw [Array.length_toList] at hi
    exact hi⟩
theorem wk_rng {n : Nat} : Wk K (Itr 0 n) (fun _ _ => True) (nums n) := fun i H U _ _ =>
  ⟨fun hi => by
    unfold nums at hi
    rw [List.length_map, List.length_range] at hi
    exact ⟨hi, fun x H' ⟨e, k⟩ => by
      subst e k
      refine ⟨fun _ _ z => z, _, by unfold nums; rw [List.getElem?_map, List.getElem?_range hi, Option.map_some], ?_⟩
      rw [Int.zero_add]
      exact .int _⟩, fun hi => by
    unfold nums at hi
    rw [List.length_map, List.length_range] at hi
    exact hi⟩
end
/-- a walked thing -/
def SI (X : Cx) (w : Wd) (cl : Fun) (W : WX) (tg e : Expr) (t : T) (k : Wkd) : Prop :=
  ∃ wi : TI, PI X tg e wi ∧ ∀ σ H U ρ R, ER X.K w.fa H U σ ρ →
    Aft (opnd t (evE cl t) ρ) (fun o ρ' => ∃ x ds, look ρ' o = some x ∧ itemsOf k x = some ds ∧ ∀ J src H' U', Pst X.K w.fa σ H U ρ H' U' ρ' → Wk X.K J src ds →
      (∀ H2 U2, Go (Ow (lockO o ρ') σ) H' U' H2 U2 → src H2 U2) → ds.length ≤ 16777216 → R J H') (XcE X.K w W σ H U ρ) → wi σ H R
theorem lock_len (o : Opn) (ρ : Env) : (lockO o ρ).length = ρ.length := by
  unfold lockO
  split
  · rfl
  · split
    · rw [List.length_set]
    · rfl
/-- a locked slot's list changes no more -/
theorem lock_no {K : PySem.W.Frag} {fa : Nat → Option Addr} {H : Hp} {U : Addr → Prop} {σ : L2.St} {ρ : Env} {o : Opn} {a : Addr} {ds : List D} (er : ER K fa H U σ ρ) (r : RO K fa H U σ ρ (.ref a) o) (e : look ρ o = some (.list ds)) : ¬ Ow (lockO o ρ) σ a := by
  cases o with
  | vl v =>
    obtain ⟨rv, f⟩ := r
    intro z
    have z' : Ow ρ σ a := z
    cases v with
    | dat d =>
      have e' : d = .list ds := Option.some.inj e
      subst e'
      cases rv with
      | lst h n _ => exact n (er.ow z')
    | lst l => exact f rfl a rfl z'.hd
    | lck l => exact f rfl a rfl z'.hd
    | fn _ => cases e
    | dct _ => cases e
    | scr _ => cases e
  | pk i =>
    obtain ⟨h1, v, h2⟩ := r
    obtain ⟨x, e1, rv⟩ := er.val i v h2
    rw [h1] at e1
    cases e1
    have e' : v.view = some (.list ds) := by
      simp only [look, h2] at e
      exact e
    rintro ⟨j, u, hj, hu, hs⟩
    cases v with
    | dat d =>
      have e2 : d = .list ds := Option.some.inj e'
      subst e2
      have hl : lockO (.pk i) ρ = ρ := by simp [lockO, h2]
      rw [hl] at hj
      cases rv with
      | lst h n _ => exact n (er.ow ⟨j, u, hj, hu, hs⟩)
    | lst l =>
      have hl : lockO (.pk i) ρ = ρ.set i (some (.lck l)) := by simp [lockO, h2]
      rw [hl] at hj
      rcases get_set_some hj with ⟨rfl, q⟩ | ⟨n, q⟩
      · cases q; cases hu
      · exact er.dj j i u _ a n q h2 (mut_own hu) rfl hs h1
    | lck l =>
      have hl : lockO (.pk i) ρ = ρ := by simp [lockO, h2]
      rw [hl] at hj
      by_cases n : j = i
      · subst n
        rw [h2] at hj
        cases hj
        cases hu
      · exact er.dj j i u _ a n hj h2 (mut_own hu) rfl hs h1
    | fn _ => cases e'
    | dct _ => cases e'
    | scr _ => cases e'
theorem lock_sub {σ : L2.St} {ρ : Env} {o : Opn} {a : Addr} (h : Ow (lockO o ρ) σ a) : Ow ρ σ a := by
  obtain ⟨j, u, hj, hu, hs⟩ := h
  unfold lockO at hj
  split at hj
  · exact ⟨j, u, hj, hu, hs⟩
  · split at hj
    · rcases get_set_some hj with ⟨rfl, q⟩ | ⟨n, q⟩
      · cases q; cases hu
      · exact ⟨j, u, q, hu, hs⟩
    · exact ⟨j, u, hj, hu, hs⟩
/-- a list, a tuple is walked, whose length lies within the line -/
theorem pi_listZ {tg l : Expr} {tl : TE} (hl : PE X l tl) : PI X tg l (fun σ H R => tl σ H fun x H1 => ∃ a xs, x = .ref a ∧ SqL X.K H1 a xs ∧ (xs.length ≤ sizeLine → R (Itl X.K a) H1)) := by
  refine ⟨fun pins s σ H R I h => thn (hl.run pins s σ H _ I h) fun v s1 q => ?_⟩
  obtain ⟨_, H1, J, r1, a, xs, rfl, hq, k⟩ := q
  obtain rfl : v = .ref a := r1
  obtain ⟨its, _, pl, hz⟩ := J.list hq
  have hn : H1 s1.heap.objs.size = none := J.hok.fresh (Nat.le_refl _)
  refine wpAny_pyIter_list pl.isList ⟨_, [_], _, _, H1, rfl, ?_, turn_list a _, ⟨_, Heap.get?_push_size _ rfl, rfl, rfl⟩, fun b hb => ?_, k hz⟩
  · exact J.kept (t' := s1.toks) fun _ _ e => Heap.get?_push_of_some _ e
  · obtain rfl : b = s1.heap.objs.size := List.mem_singleton.mp hb
    exact J.fpOk (Nat.le_refl _) hn
theorem pi_tupZ {tg l : Expr} {tl : TE} (hl : PE X l tl) : PI X tg l (fun σ H R => tl σ H fun x H1 => ∃ a xs, x = .ref a ∧ SqT X.K H1 a xs ∧ (xs.length ≤ sizeLine → R (Itt X.K a) H1)) := by
  refine ⟨fun pins s σ H R I h => thn (hl.run pins s σ H _ I h) fun v s1 q => ?_⟩
  obtain ⟨_, H1, J, r1, a, xs, rfl, hq, k⟩ := q
  obtain rfl : v = .ref a := r1
  obtain ⟨its, _, pl, hz⟩ := J.tuple hq
  have hn : H1 s1.heap.objs.size = none := J.hok.fresh (Nat.le_refl _)
  refine wpAny_pyIter_tuple (show s1.heap.IsTuple a its.toArray from pl) ⟨_, [_], _, _, H1, rfl, ?_, turn_tuple a _, ⟨_, Heap.get?_push_size _ rfl, rfl, rfl⟩, fun b hb => ?_, k hz⟩
  · exact J.kept (t' := s1.toks) fun _ _ e => Heap.get?_push_of_some _ e
  · obtain rfl : b = s1.heap.objs.size := List.mem_singleton.mp hb
    exact J.fpOk (Nat.le_refl _) hn
theorem line_le {n : Nat} (h : n ≤ sizeLine) : n ≤ 16777216 := by rw [sizeLine_eq] at h; exact h
/-- over data -/
theorem si_seq {tg e : Expr} {t : T} (h : SO X w cl W e t) : SI X w cl W tg e t .seq := by
  obtain ⟨te, p, k⟩ := h
  refine ⟨fun σ H R => (te σ H fun x H1 => ∃ a xs, x = .ref a ∧ SqL X.K H1 a xs ∧ (xs.length ≤ sizeLine → R (Itl X.K a) H1)) ∨ (te σ H fun x H1 => ∃ a xs, x = .ref a ∧ SqT X.K H1 a xs ∧ (xs.length ≤ sizeLine → R (Itt X.K a) H1)) ∨ iStr te σ H R, ⟨fun pins s σ H R I h => ?_⟩, fun σ H U ρ R er h => ?_⟩
  · rcases h with h | h | h
    · exact (pi_listZ p).run pins s σ H R I h
    · exact (pi_tupZ p).run pins s σ H R I h
    · exact (pi_str p).run pins s σ H R I h
  · cases q : opnd t (evE cl t) ρ with
    | stuck => rw [q] at h; exact h.elim
    | exc ex ρ' => exact .inl (k σ H U ρ _ er (by rw [q] at h ⊢; exact h))
    | ok r =>
      obtain ⟨o, ρ'⟩ := r
      rw [q] at h
      obtain ⟨x, ds, e1, e2, h⟩ := h
      have e2' : seqOf x = some ds := e2
      unfold seqOf at e2'
      split at e2' <;> try cases e2'
      · refine .inl (k σ H U ρ _ er ?_)
        rw [q]
        intro x H' U' p1 r
        have vw := r.vw p1.er e1
        obtain ⟨a, vs, rfl, s, rr⟩ := vw
        have no := lock_no p1.er r e1
        exact ⟨a, vs, rfl, SqL.of s, fun hz => h _ _ H' U' p1 wk_list (fun H2 U2 g => ⟨vs, g.keep a _ s no, rr.sta (g.sta fun b hb => p1.er.ow (lock_sub hb))⟩) (by rw [← rr.len]; exact line_le hz)⟩
      · refine .inr (.inl (k σ H U ρ _ er ?_))
        rw [q]
        intro x H' U' p1 r
        obtain ⟨a, vs, rfl, s, rr⟩ := rp_tup (r.vw p1.er e1)
        exact ⟨a, vs, rfl, s.sq, fun hz => h _ _ H' U' p1 wk_tup (fun H2 U2 g => ⟨vs, (s.sta (g.sta fun b hb => p1.er.ow (lock_sub hb))).sq, rr.sta (g.sta fun b hb => p1.er.ow (lock_sub hb))⟩) (by rw [← rr.len]; exact line_le hz)⟩
      · split at e2' <;> cases e2'
        rename_i c
        refine .inr (.inr (k σ H U ρ _ er ?_))
        rw [q]
        intro x H' U' p1 r
        have := rp_str (r.vw p1.er e1)
        subst this
        exact ⟨_, rfl, h _ _ H' U' p1 wk_str (fun _ _ _ => trivial) (by
          rw [List.length_map]; rw [Array.length_toList]
          exact line_le (size_le c))⟩
theorem si_rng {tg e : Expr} {t : T} {p pos : Pos} (hg : Gl X "range") (hm : X.mg "range" = none) (h : SO X w cl W e t) (hs : starEach [e] X.env = [(false, eval e X.env)] := by rfl) :
    SI X w cl W tg (.Call (.Name "range" p) [e] [] pos) t .rng := by
  obtain ⟨te, pe, k⟩ := h
  refine ⟨_, pi_range1 hg hm (pa_cons pe pa_nil hs) hs, fun σ H U ρ R er h => k σ H U ρ _ er ?_⟩
  refine h.mono (fun o ρ' h x H' U' p1 r => ?_) fun _ _ h => h
  obtain ⟨d, ds, e1, e2, h⟩ := h
  unfold itemsOf at e2
  split at e2 <;> try cases e2
  all_goals first | contradiction | skip
  split at e2 <;> cases e2
  rename_i c
  obtain ⟨c1, c2⟩ := of_decide_eq_true c
  have := rp_int (r.vw p1.er e1)
  subst this
  exact ⟨_, rfl, by omega, by omega, h _ _ H' U' p1 wk_rng (fun _ _ _ => trivial) (by unfold nums; rw [List.length_map, List.length_range]; omega)⟩
end
/-! ### targets -/
def gNames : List Nat → TGs
  | [] => gNil
  | i :: is => gCons (gName i) (gNames is)
def gOf (K : PySem.W.Frag) : Tg → TG
  | .nm i => gName i
  | .tp is => gTup K is.length (gNames is)
def tgIx : Tg → List Nat
  | .nm i => [i]
  | .tp is => is
structure StoreR (K : PySem.W.Frag) (w : Wd) (H : Hp) (U : Addr → Prop) (σ : L2.St) (ρ : Env) (is : List Nat) (σ1 : L2.St) (ρ1 : Env) : Prop where
  er : ER K w.fa H U σ1 ρ1
  off : ∀ j : Nat, j ∉ is → σ1[j]? = σ[j]?
  offE : ∀ j : Nat, j ∉ is → ρ1[j]? = ρ[j]?
  ow : ∀ a, Ow ρ1 σ1 a → Ow ρ σ a
  hd : ∀ (j : Nat) (v : Vl), ρ1[j]? = some (some v) → v.own = true → ρ[j]? = some (some v) ∧ σ1[j]? = σ[j]?
section
variable {K : PySem.W.Frag} {H : Hp} {U : Addr → Prop} {σ : L2.St} {ρ : Env}
/-- a slot takes a value -/
theorem er_set {fa : Nat → Option Addr} {i : Nat} {x : V} {v : Vl} (er : ER K fa H U σ ρ) (r : RV K fa H U x v) (f : v.own = true → ∀ a, x = .ref a → ¬ Hd ρ σ a) (hi : i < ρ.length) : ER K fa H U (σ.set i (some x)) (ρ.set i (some v)) := by
  have hs : i < σ.length := by rw [er.len]; exact hi
  refine ⟨by rw [List.length_set, List.length_set]; exact er.len, fun j u h => ?_, fun j k u u' a n h1 h2 o1 o2 z1 z2 => ?_, er.dom⟩
  · rcases get_set_some h with ⟨rfl, q⟩ | ⟨n, q⟩
    · cases q
      exact ⟨x, List.getElem?_set_self hs, r⟩
    · obtain ⟨y, e1, e2⟩ := er.val j u q
      exact ⟨y, by rw [List.getElem?_set_ne (Ne.symm n)]; exact e1, e2⟩
  · rcases get_set_some h1 with ⟨rfl, q⟩ | ⟨n1, q⟩
    · cases q
      rcases get_set_some h2 with ⟨rfl, q2⟩ | ⟨n2, q2⟩
      · exact n rfl
      · rw [List.getElem?_set_self hs] at z1
        cases z1
        rw [List.getElem?_set_ne (Ne.symm n2)] at z2
        exact f o1 a rfl ⟨k, u', q2, o2, z2⟩
    · rw [List.getElem?_set_ne (Ne.symm n1)] at z1
      rcases get_set_some h2 with ⟨rfl, q2⟩ | ⟨n2, q2⟩
      · cases q2
        rw [List.getElem?_set_self hs] at z2
        cases z2
        exact f o2 a rfl ⟨j, u, q, o1, z1⟩
      · rw [List.getElem?_set_ne (Ne.symm n2)] at z2
        exact er.dj j k u u' a n q q2 o1 o2 z1 z2
theorem set_ow {i : Nat} {x : V} {v : Vl} {a : Addr} (hs : i < σ.length) (h : Ow (ρ.set i (some v)) (σ.set i (some x)) a) : Ow ρ σ a ∨ (v.mut = true ∧ x = .ref a) := by
  obtain ⟨j, u, h1, h2, h3⟩ := h
  rcases get_set_some h1 with ⟨rfl, q⟩ | ⟨n, q⟩
  · cases q
    rw [List.getElem?_set_self hs] at h3
    cases h3
    exact .inr ⟨h2, rfl⟩
  · rw [List.getElem?_set_ne (Ne.symm n)] at h3
    exact .inl ⟨j, u, q, h2, h3⟩
theorem set_hd {i : Nat} {x : V} {v : Vl} {a : Addr} (hs : i < σ.length) (h : Hd (ρ.set i (some v)) (σ.set i (some x)) a) : Hd ρ σ a ∨ (v.own = true ∧ x = .ref a) := by
  obtain ⟨j, u, h1, h2, h3⟩ := h
  rcases get_set_some h1 with ⟨rfl, q⟩ | ⟨n, q⟩
  · cases q
    rw [List.getElem?_set_self hs] at h3
    cases h3
    exact .inr ⟨h2, rfl⟩
  · rw [List.getElem?_set_ne (Ne.symm n)] at h3
    exact .inl ⟨j, u, q, h2, h3⟩
theorem put_ok {ρ1 : Env} {i : Nat} {x : V} {d : D} (er : ER K w.fa H U σ ρ) (r : Rp K H U x d) (e : ρ.put i (.dat d) = some ρ1) : StoreR K w H U σ ρ [i] (σ.set i (some x)) ρ1 := by
  unfold Env.put at e
  split at e <;> cases e
  rename_i c
  have hi := of_decide_eq_true c
  have hs : i < σ.length := by rw [er.len]; exact hi
  refine ⟨er_set er r (fun o => nomatch o) hi, fun j n => List.getElem?_set_ne fun q => n (by rw [q]; exact List.mem_singleton_self _), fun j n => List.getElem?_set_ne fun q => n (by rw [q]; exact List.mem_singleton_self _), fun a h => ?_, fun j u h o => ?_⟩
  · rcases set_ow hs h with h | ⟨h, _⟩
    · exact h
    · cases h
  · rcases get_set_some h with ⟨rfl, q⟩ | ⟨n, q⟩
    · cases q; cases o
    · exact ⟨q, List.getElem?_set_ne (Ne.symm n)⟩
theorem StoreR.trans {σ1 σ2 : L2.St} {ρ1 ρ2 : Env} {is js : List Nat} (a : StoreR K w H U σ ρ is σ1 ρ1) (b : StoreR K w H U σ1 ρ1 js σ2 ρ2) : StoreR K w H U σ ρ (is ++ js) σ2 ρ2 :=
  ⟨b.er, fun j n => (b.off j fun q => n (List.mem_append_right _ q)).trans (a.off j fun q => n (List.mem_append_left _ q)), fun j n => (b.offE j fun q => n (List.mem_append_right _ q)).trans (a.offE j fun q => n (List.mem_append_left _ q)),
    fun c h => a.ow c (b.ow c h), fun j v h o => let ⟨e1, e2⟩ := b.hd j v h o; let ⟨e3, e4⟩ := a.hd j v e1 o; ⟨e3, e2.trans e4⟩⟩
theorem StoreR.refl (er : ER K w.fa H U σ ρ) : StoreR K w H U σ ρ [] σ ρ := ⟨er, fun _ _ => rfl, fun _ _ => rfl, fun _ h => h, fun _ _ h _ => ⟨h, rfl⟩⟩
theorem names_ok : ∀ {is : List Nat} {vs : List V} {ds : List D} {σ : L2.St} {ρ ρ1 : Env} {Q : L2.St → Hp → Prop}, ER K w.fa H U σ ρ → Rps K H U vs ds → Env.puts ρ is ds = some ρ1 → (∀ σ1, StoreR K w H U σ ρ is σ1 ρ1 → Q σ1 H) → gNames is vs σ H Q
  | [], vs, ds, σ, ρ, ρ1, Q, er, r, e, h => by
    cases r with
    | nil =>
      unfold Env.puts at e
      cases e
      exact ⟨rfl, h σ (StoreR.refl er)⟩
    | cons _ _ => unfold Env.puts at e; cases e
  | i :: is, vs, ds, σ, ρ, ρ1, Q, er, r, e, h => by
    cases r with
    | nil => unfold Env.puts at e; cases e
    | cons r1 r2 =>
      unfold Env.puts at e
      obtain ⟨ρ2, e1, e2⟩ := Option.bind_eq_some_iff.mp e
      have s1 := put_ok er r1 e1
      exact ⟨_, _, rfl, names_ok s1.er r2 e2 fun σ1 s2 => h σ1 (s1.trans s2)⟩
theorem gOf_ok {tg : Tg} {x : V} {d : D} {ρ1 : Env} {Q : L2.St → Hp → Prop} (er : ER K w.fa H U σ ρ) (r : Rp K H U x d) (e : store tg d ρ = some ρ1) (h : ∀ σ1, StoreR K w H U σ ρ (tgIx tg) σ1 ρ1 → Q σ1 H) : gOf K tg x σ H Q := by
  cases tg with
  | nm i => exact h _ (put_ok er r e)
  | tp is =>
    unfold store at e
    simp only at e
    split at e
    · split at e <;> try cases e
      rename_i c
      obtain ⟨a, vs, rfl, s, rr⟩ := rp_tup r
      exact ⟨a, vs, rfl, s.sq, by rw [rr.len]; exact c, names_ok er rr e h⟩
    · cases e
end
/-! ### comprehensions -/
section
variable {K : PySem.W.Frag} {H : Hp} {U : Addr → Prop} {σ : L2.St} {ρ : Env}
theorem ewipe_some {i : Nat} {v : Vl} : ∀ {vs : List Nat} {ρ : Env}, (ρ.wipe vs)[i]? = some (some v) → ρ[i]? = some (some v) ∧ i ∉ vs
  | [], ρ, h => ⟨h, by simp⟩
  | j :: vs, ρ, h => by
    unfold Env.wipe at h
    rcases get_set_some h with ⟨_, q⟩ | ⟨n, q⟩
    · cases q
    · obtain ⟨h1, h2⟩ := ewipe_some q
      exact ⟨h1, fun z => (List.mem_cons.mp z).elim n h2⟩
theorem ewipe_out {i : Nat} : ∀ {vs : List Nat} {ρ : Env}, i ∉ vs → (ρ.wipe vs)[i]? = ρ[i]?
  | [], ρ, h => rfl
  | j :: vs, ρ, h => by
    unfold Env.wipe
    rw [List.getElem?_set_ne fun q => h (by rw [q]; exact List.mem_cons_self ..)]
    exact ewipe_out fun z => h (List.mem_cons_of_mem _ z)
theorem ewipe_len : ∀ {vs : List Nat} {ρ : Env}, (ρ.wipe vs).length = ρ.length
  | [], ρ => rfl
  | j :: vs, ρ => by unfold Env.wipe; rw [List.length_set]; exact ewipe_len
theorem swipe_out {i : Nat} : ∀ {vs : List Nat} {σ : L2.St}, i ∉ vs → (L2.wipe σ vs)[i]? = σ[i]?
  | [], σ, h => rfl
  | j :: vs, σ, h => by
    unfold L2.wipe
    rw [List.getElem?_set_ne fun q => h (by rw [q]; exact List.mem_cons_self ..)]
    exact swipe_out fun z => h (List.mem_cons_of_mem _ z)
theorem er_wipe {fa : Nat → Option Addr} {vs : List Nat} (er : ER K fa H U σ ρ) : ER K fa H U (L2.wipe σ vs) (ρ.wipe vs) := by
  refine ⟨by rw [wipe_length, ewipe_len]; exact er.len, fun i v h => ?_, fun i j v u a n h1 h2 o1 o2 z1 z2 => ?_, er.dom⟩
  · obtain ⟨h, n⟩ := ewipe_some h
    obtain ⟨x, e, r⟩ := er.val i v h
    exact ⟨x, (swipe_out n).trans e, r⟩
  · obtain ⟨h1, n1⟩ := ewipe_some h1
    obtain ⟨h2, n2⟩ := ewipe_some h2
    rw [swipe_out n1] at z1
    rw [swipe_out n2] at z2
    exact er.dj i j v u a n h1 h2 o1 o2 z1 z2
theorem ow_wipe {vs : List Nat} {a : Addr} (h : Ow (ρ.wipe vs) (L2.wipe σ vs) a) : Ow ρ σ a := by
  obtain ⟨i, v, h1, h2, h3⟩ := h
  obtain ⟨h1, n⟩ := ewipe_some h1
  rw [swipe_out n] at h3
  exact ⟨i, v, h1, h2, h3⟩
theorem hd_wipe {vs : List Nat} {a : Addr} (h : Hd (ρ.wipe vs) (L2.wipe σ vs) a) : Hd ρ σ a := by
  obtain ⟨i, v, h1, h2, h3⟩ := h
  obtain ⟨h1, n⟩ := ewipe_some h1
  rw [swipe_out n] at h3
  exact ⟨i, v, h1, h2, h3⟩
theorem wipe_eq {σ σ1 : L2.St} {vs : List Nat} (hl : σ1.length = σ.length) (h : ∀ j : Nat, j ∉ vs → σ1[j]? = σ[j]?) : L2.wipe σ1 vs = L2.wipe σ vs := by
  refine List.ext_getElem? (fun j => ?_)
  by_cases hj : j ∈ vs
  · have key : ∀ (τ : L2.St) (us : List Nat), j ∈ us → (L2.wipe τ us)[j]? = if j < τ.length then some none else none := by
      intro τ us
      induction us with
      | nil => intro h; cases h
      | cons u us ih =>
        intro hm
        unfold L2.wipe
        by_cases q : u = j
        · subst q
          rw [List.getElem?_set]
          simp [wipe_length]
        · rw [List.getElem?_set_ne q]
          exact ih ((List.mem_cons.mp hm).resolve_left fun z => q z.symm)
    rw [key σ1 vs hj, key σ vs hj, hl]
  · rw [swipe_out hj, swipe_out hj, h j hj]
/-- between two turns -/
structure CI (K : PySem.W.Frag) (w : Wd) (σ : L2.St) (own : List Nat) (H0 : Hp) (U0 : Addr → Prop) (ρ0 : Env) (D : Addr) (H : Hp) (U : Addr → Prop) (ρ : Env) (acc : List V) (ys : List PyData) : Prop where
  er : ER K w.fa H U (L2.wipe σ own) (ρ.wipe own)
  go : Go (Ow ρ0 σ) H0 U0 H U
  ow : ∀ a, Ow (ρ.wipe own) (L2.wipe σ own) a → Ow ρ0 σ a
  hd : ∀ (j : Nat) (v : Vl), (ρ.wipe own)[j]? = some (some v) → v.own = true → ∃ u, ρ0[j]? = some (some u) ∧ u.own = true
  set : ∀ (j : Nat) (v : Vl), j ∉ own → ρ0[j]? = some (some v) → ∃ v', ρ[j]? = some (some v') ∧ (LL v = true → LL v' = true)
  lst : H D = some (.lst acc)
  els : Rps K H U acc ys
  u : U D
/-- a new object that only we hold is written -/
theorem er_upd {fa : Nat → Option Addr} {D : Addr} {o : HO} (er : ER K fa H U σ ρ) (u : U D) (n : ¬ Hd ρ σ D) : ER K fa (upd H D o) U σ ρ := by
  have s : Sta H U (upd H D o) U := ⟨fun a ob h z => by rw [upd_ne fun q => z (by rw [q]; exact u)]; exact h, fun a h => .inl h⟩
  refine ⟨er.len, fun i v h => ?_, er.dj, fun a z => ?_⟩
  · obtain ⟨x, e, r⟩ := er.val i v h
    refine ⟨x, e, r.sta s fun o a q z => ⟨fun ob y => ?_, z⟩⟩
    subst q
    rw [upd_ne fun q => n ⟨i, v, h, o, by rw [← q]; exact e⟩]
    exact y
  · by_cases q : a = D
    · subst q; rw [upd_same]; simp
    · rw [upd_ne q]; exact er.dom a z
theorem er_grow {fa : Nat → Option Addr} {H' : Hp} (er : ER K fa H U σ ρ) (g : Grow H H') : ER K fa H' U σ ρ := by
  have s : Sta H U H' U := ⟨fun a ob h _ => g a ob h, fun a h => .inl h⟩
  refine ⟨er.len, fun i v h => ?_, er.dj, fun a z => ?_⟩
  · obtain ⟨x, e, r⟩ := er.val i v h
    exact ⟨x, e, r.sta s fun o a q z => ⟨fun ob y => g a ob y, z⟩⟩
  · have := er.dom a z
    cases q : H a with
    | none => exact (this q).elim
    | some o => rw [g a o q]; simp
theorem Go.grow {own : Addr → Prop} {H' : Hp} (g : Grow H H') : Go own H U H' U := ⟨fun a o h _ => g a o h, fun _ h _ => h, fun _ h => .inl h, fun a h => by
  cases q : H a with
  | none => exact (h q).elim
  | some o => rw [g a o q]; simp⟩
theorem CI.noD {w : Wd} {own : List Nat} {H0 : Hp} {U0 : Addr → Prop} {ρ0 : Env} {D : Addr} {acc : List V} {ys : List PyData} (c : CI K w σ own H0 U0 ρ0 D H U ρ acc ys) (er0 : ER K w.fa H0 U0 σ ρ0) (hD : H0 D = none) : ¬ Hd (ρ.wipe own) (L2.wipe σ own) D :=
  fun h => by
    obtain ⟨i, v, h1, h2, h3⟩ := h
    obtain ⟨u, e1, e2⟩ := c.hd i v h1 h2
    rw [swipe_out (ewipe_some h1).2] at h3
    exact er0.dom D (er0.hd ⟨i, u, e1, e2, h3⟩) hD
/-- a turn's further way -/
theorem ci_step {w : Wd} {own is : List Nat} {H0 H' H3 : Hp} {U0 U4 : Addr → Prop} {ρ0 ρ1 ρ3 : Env} {σ1 : L2.St} {D : Addr} {acc : List V} {ys : List PyData} (c : CI K w σ own H0 U0 ρ0 D H U ρ acc ys) (er0 : ER K w.fa H0 U0 σ ρ0) (hD : H0 D = none)
    (g : Grow H H') (hin : ∀ i ∈ is, i ∈ own) (sr : StoreR K w H' U (L2.wipe σ own) (ρ.wipe own) is σ1 ρ1) (ew : L2.wipe σ1 own = L2.wipe σ own) (p : Pst K w.fa σ1 H' U ρ1 H3 U4 ρ3) : CI K w σ own H0 U0 ρ0 D H3 U4 ρ3 acc ys := by
  have noD : ¬ Ow ρ1 σ1 D := fun h => c.noD er0 hD (sr.ow D h).hd
  have st : Sta H U H3 U4 := ⟨fun a o h n => p.go.keep a o (g a o h) fun q => n (c.er.ow (sr.ow a q)), fun a h => (p.go.u2 a h).imp id fun q => by
    cases z : H a with
    | none => rfl
    | some o => rw [g a o z] at q; cases q⟩
  refine ⟨?_, ?_, fun a h => ?_, fun j v h o => ?_, fun j v n h => ?_, p.go.keep D _ (g D _ c.lst) noD, c.els.sta st, p.go.u1 D c.u noD⟩
  · rw [← ew]
    exact er_wipe p.er
  · exact (c.go.trans (Go.grow (own := fun _ => False) g) (fun _ h => h.elim) er0.dom).trans p.go (fun a h => .inl (c.ow a (sr.ow a h))) er0.dom
  · rw [← ew] at h
    exact c.ow a (sr.ow a (p.own a (ow_wipe h)))
  · obtain ⟨h, n⟩ := ewipe_some h
    obtain ⟨u, e1, e2⟩ := p.held j v h o
    obtain ⟨e3, _⟩ := sr.hd j u e1 e2
    exact c.hd j u e3 e2
  · obtain ⟨v', h', l1⟩ := c.set j v n h
    rw [← ewipe_out (vs := own) (ρ := ρ) n, ← sr.offE j fun q => n (hin j q)] at h'
    obtain ⟨v2, h2, l2⟩ := p.set j v' h'
    exact ⟨v2, h2, fun z => l2 (l1 z)⟩
theorem ci_app {w : Wd} {own : List Nat} {H0 : Hp} {U0 : Addr → Prop} {ρ0 : Env} {D : Addr} {acc : List V} {ys : List PyData} {y : V} {d : PyData} (c : CI K w σ own H0 U0 ρ0 D H U ρ acc ys) (er0 : ER K w.fa H0 U0 σ ρ0) (hD : H0 D = none) (r : Rp K H U y d) :
    CI K w σ own H0 U0 ρ0 D (upd H D (.lst (acc ++ [y]))) U ρ (acc ++ [y]) (ys ++ [d]) := by
  have s : Sta H U (upd H D (.lst (acc ++ [y]))) U := ⟨fun a ob h z => by rw [upd_ne fun q => z (by rw [q]; exact c.u)]; exact h, fun a h => .inl h⟩
  refine ⟨er_upd c.er c.u (c.noD er0 hD), c.go.trans (own' := fun a => a = D) ⟨fun a o h n => by rw [upd_ne n]; exact h, fun a h _ => h, fun a h => .inl h, fun a h => ?_⟩ (fun a h => .inr (by rw [h]; exact hD)) er0.dom, c.ow, c.hd, c.set, upd_same, (c.els.app (.cons r .nil)).sta s, c.u⟩
  by_cases q : a = D
  · subst q; rw [upd_same]; simp
  · rw [upd_ne q]; exact h
abbrev W0 : WX := fun _ _ _ _ => False
def tC (K : PySem.W.Frag) (w : Wd) (cl : Fun) : Option T → TT
  | none => tYes
  | some t => tT K w cl W0 t
theorem tC_ok {w : Wd} {cl : Fun} {tc : Option T} {Q : Bool → Hp → Prop} (er : ER K w.fa H U σ ρ) (h : Aft (evC cl tc ρ) (fun b ρ' => ∀ H' U', Pst K w.fa σ H U ρ H' U' ρ' → Q b H') (fun _ _ => False)) : tC K w cl tc σ H Q := by
  cases tc with
  | none =>
    unfold evC at h
    exact h H U (Pst.refl er)
  | some t =>
    unfold evC at h
    exact ⟨U, ρ, er, h.mono (fun _ _ h => h) fun _ _ h => h.elim⟩
theorem puts_len : ∀ {is : List Nat} {ds : List D} {ρ ρ1 : Env}, Env.puts ρ is ds = some ρ1 → ρ1.length = ρ.length
  | [], [], ρ, ρ1, h => by unfold Env.puts at h; cases h; rfl
  | [], _ :: _, _, _, h => by unfold Env.puts at h; cases h
  | _ :: _, [], _, _, h => by unfold Env.puts at h; cases h
  | i :: is, d :: ds, ρ, ρ1, h => by
    unfold Env.puts at h
    obtain ⟨ρ2, e1, e2⟩ := Option.bind_eq_some_iff.mp h
    unfold Env.put at e1
    split at e1 <;> cases e1
    rw [puts_len e2, List.length_set]
theorem store_len {tg : Tg} {d : D} {ρ ρ1 : Env} (h : store tg d ρ = some ρ1) : ρ1.length = ρ.length := by
  unfold store at h
  split at h
  · unfold Env.put at h
    split at h <;> cases h
    rw [List.length_set]
  · split at h
    · split at h
      · exact puts_len h
      · cases h
    · cases h
/-- one turn's reading, the whole loop's -/
theorem comp_read {w : Wd} {cl : Fun} {own : List Nat} {tg : Tg} {tc : Option T} {te : T} {σ : L2.St} {H0 : Hp} {U0 : Addr → Prop} {ρ0 : Env} {Q : VK} {J : It} {src : Hp → (Addr → Prop) → Prop} {ds : List D}
    (er0 : ER K w.fa H0 U0 σ ρ0) (hin : ∀ i ∈ tgIx tg, i ∈ own) (wk : Wk K J src ds) (hs : ∀ H2 U2, Go (Ow ρ0 σ) H0 U0 H2 U2 → src H2 U2) (hz : ds.length ≤ 16777216)
    (h : Aft (compTurns own tg (evC cl tc) (evE cl te) ds [] ρ0) (fun ys ρe => ∀ D H U acc, H0 D = none → CI K w σ own H0 U0 ρ0 D H U ρe acc ys → Q (.ref D) H) (fun _ _ => False)) :
    ∀ D, H0 D = none → ∃ Wi : Nat → Nat → Hp → Prop, (∃ m, Wi 0 m (upd H0 D (.lst []))) ∧ ∀ i m H, Wi i m H →
      (J.stop i H ∧ Q (.ref D) H) ∨ (J.go i H ∧ ∃ Nx : Hp → Prop, (∀ H', Nx H' → ∃ m', m' < m ∧ Wi (i + 1) m' H') ∧ ∀ x H', J.yld i H x H' → gOf K tg x (L2.wipe σ own) H' fun σ2 H2 => L2.wipe σ2 own = L2.wipe σ own ∧ tC K w cl tc σ2 H2 fun b H3 =>
        if b = true then tE K w cl W0 te σ2 H3 fun y H4 => ∃ acc, H4 D = some (.lst acc) ∧ acc.length < sizeLine ∧ Nx (upd H4 D (.lst (acc ++ [y]))) else Nx H3) := by
  intro D hD
  refine ⟨fun i m H => ∃ U ρi acc ys, m = ds.length - i ∧ i ≤ ds.length ∧ ys.length ≤ i ∧ CI K w σ own H0 U0 ρ0 D H U ρi acc ys ∧
    Aft (compTurns own tg (evC cl tc) (evE cl te) (ds.drop i) ys ρi) (fun ys ρe => ∀ D H U acc, H0 D = none → CI K w σ own H0 U0 ρ0 D H U ρe acc ys → Q (.ref D) H) (fun _ _ => False), ⟨ds.length, ?_⟩, ?_⟩
  · have p := Pst.newU (o := .lst []) er0 hD
    exact ⟨addU U0 D, ρ0, [], [], by omega, Nat.zero_le _, Nat.zero_le _, ⟨er_wipe p.er, p.go, fun a h => ow_wipe h, fun j v h o => ⟨v, (ewipe_some h).1, o⟩, fun j v _ h => ⟨v, h, id⟩, upd_same, .nil, .inr rfl⟩, by simpa using h⟩
  · rintro i m H ⟨U, ρi, acc, ys, rfl, hi, hy, ci, k⟩
    obtain ⟨w1, w2⟩ := wk i H U (hs H U ci.go) ci.er.dom
    by_cases hlt : i < ds.length
    · obtain ⟨go, yl⟩ := w1 hlt
      have ed : ds.drop i = ds[i] :: ds.drop (i + 1) := (List.drop_eq_getElem_cons hlt)
      refine .inr ⟨go, fun H' => ∃ U ρi acc ys, ys.length ≤ i + 1 ∧ CI K w σ own H0 U0 ρ0 D H' U ρi acc ys ∧
        Aft (compTurns own tg (evC cl tc) (evE cl te) (ds.drop (i + 1)) ys ρi) (fun ys ρe => ∀ D H U acc, H0 D = none → CI K w σ own H0 U0 ρ0 D H U ρe acc ys → Q (.ref D) H) (fun _ _ => False),
        fun H' ⟨U, ρi, acc, ys, h1, h2, h3⟩ => ⟨ds.length - (i + 1), by omega, U, ρi, acc, ys, rfl, hlt, h1, h2, h3⟩, fun x H' hx => ?_⟩
      obtain ⟨gr, d, e1, rx⟩ := yl x H' hx
      rw [List.getElem?_eq_getElem hlt] at e1
      cases e1
      rw [ed] at k
      unfold compTurns at k
      obtain ⟨ρ1, e2, k⟩ := k.get
      refine gOf_ok (er_grow ci.er gr) rx e2 fun σ1 sr => ?_
      have ew : L2.wipe σ1 own = L2.wipe σ own := by
        refine wipe_eq ?_ fun j n => (sr.off j fun q => n (hin j q)).trans (swipe_out n)
        have l1 := sr.er.len
        have l2 := ci.er.len
        have l3 : ρ1.length = (ρi.wipe own).length := store_len e2
        rw [l1, l3, ← l2, wipe_length]
      refine ⟨ew, tC_ok sr.er (k.bind.mono (fun b ρ2 k H2 U2 p2 => ?_) fun _ _ h => h)⟩
      cases b with
      | false =>
        rw [if_neg (by decide)]
        exact ⟨U2, ρ2, acc, ys, by omega, ci_step ci er0 hD gr hin sr ew p2, k⟩
      | true =>
        rw [if_pos rfl]
        refine ⟨U2, ρ2, p2.er, k.bind.mono (fun v ρ3 k y H3 U3 p3 rv f => ?_) fun _ _ h => h.elim⟩
        obtain ⟨dy, e3, k⟩ := k.get
        obtain ⟨U4, p4, ry⟩ := give p2.er p3 rv f e3
        have c4 := ci_step ci er0 hD gr hin sr ew (p2.trans sr.er p4)
        refine ⟨acc, c4.lst, ?_, U4, ρ3, acc ++ [y], ys ++ [dy], by simp; omega, ci_app c4 er0 hD ry, k⟩
        rw [c4.els.len, sizeLine_eq]
        omega
    · have e : i = ds.length := by omega
      refine .inl ⟨w2 (by omega), ?_⟩
      rw [e, List.drop_length] at k
      exact k D H U acc hD ci
theorem er_lock {fa : Nat → Option Addr} {o : Opn} (er : ER K fa H U σ ρ) : ER K fa H U σ (lockO o ρ) := by
  unfold lockO
  split
  · exact er
  · rename_i i
    split
    · rename_i ds e
      have hi : i < ρ.length := (List.getElem?_eq_some_iff.mp e).1
      refine ⟨by rw [List.length_set]; exact er.len, fun j v h => ?_, fun j k v u a n h1 h2 o1 o2 => ?_, er.dom⟩
      · rcases get_set_some h with ⟨rfl, q⟩ | ⟨n, q⟩
        · cases q
          obtain ⟨x, e1, r⟩ := er.val j _ e
          exact ⟨x, e1, r⟩
        · exact er.val j v q
      · rcases get_set_some h1 with ⟨rfl, q⟩ | ⟨n1, q⟩
        · cases q
          rcases get_set_some h2 with ⟨rfl, q2⟩ | ⟨n2, q2⟩
          · exact (n rfl).elim
          · exact er.dj j k _ u a n e q2 rfl o2
        · rcases get_set_some h2 with ⟨rfl, q2⟩ | ⟨n2, q2⟩
          · cases q2
            exact er.dj j k v _ a n q e o1 rfl
          · exact er.dj j k v u a n q q2 o1 o2
    · exact er
theorem own_lock {o : Opn} {j : Nat} {u : Vl} (h : (lockO o ρ)[j]? = some (some u)) (hu : u.own = true) : ∃ v, ρ[j]? = some (some v) ∧ v.own = true := by
  unfold lockO at h
  split at h
  · exact ⟨u, h, hu⟩
  · split at h
    · rename_i ds e
      rcases get_set_some h with ⟨rfl, q⟩ | ⟨n, q⟩
      · exact ⟨_, e, rfl⟩
      · exact ⟨u, q, hu⟩
    · exact ⟨u, h, hu⟩
theorem set_lock {o : Opn} {j : Nat} {v : Vl} (h : ρ[j]? = some (some v)) : ∃ v', (lockO o ρ)[j]? = some (some v') ∧ (LL v = true → LL v' = true) := by
  unfold lockO
  split
  · exact ⟨v, h, id⟩
  · rename_i i
    split
    · by_cases q : i = j
      · subst q
        exact ⟨_, List.getElem?_set_self (List.getElem?_eq_some_iff.mp h).1, fun _ => rfl⟩
      · exact ⟨v, by rw [List.getElem?_set_ne q]; exact h, id⟩
    · exact ⟨v, h, id⟩
theorem back_out {ρ0 : Env} {j : Nat} : ∀ {own : List Nat} {ρ : Env}, j ∉ own → (Env.back ρ0 ρ own)[j]? = ρ[j]?
  | [], ρ, _ => rfl
  | i :: is, ρ, h => by
    unfold Env.back
    rw [List.getElem?_set_ne fun q => h (by rw [q]; exact List.mem_cons_self ..)]
    exact back_out fun z => h (List.mem_cons_of_mem _ z)
theorem back_len {ρ0 : Env} : ∀ {own : List Nat} {ρ : Env}, (Env.back ρ0 ρ own).length = ρ.length
  | [], ρ => rfl
  | i :: is, ρ => by unfold Env.back; rw [List.length_set]; exact back_len
theorem back_in {ρ0 : Env} {j : Nat} : ∀ {own : List Nat} {ρ : Env}, j ∈ own → j < ρ.length → (Env.back ρ0 ρ own)[j]? = some (keepV ρ0[j]?)
  | [], ρ, h, _ => by cases h
  | i :: is, ρ, h, hl => by
    unfold Env.back
    by_cases q : i = j
    · subst q
      exact List.getElem?_set_self (by rw [back_len]; exact hl)
    · rw [List.getElem?_set_ne q]
      exact back_in ((List.mem_cons.mp h).resolve_left fun z => q z.symm) hl
theorem back_some {ρ0 : Env} {j : Nat} {own : List Nat} {ρ : Env} {v : Vl} (h : (Env.back ρ0 ρ own)[j]? = some (some v)) : (j ∉ own ∧ ρ[j]? = some (some v)) ∨ (j ∈ own ∧ ρ0[j]? = some (some v)) := by
  by_cases hj : j ∈ own
  · have hl : j < ρ.length := by
      have := (List.getElem?_eq_some_iff.mp h).1
      rw [back_len] at this
      exact this
    rw [back_in hj hl] at h
    refine .inr ⟨hj, ?_⟩
    have h' := Option.some.inj h
    unfold keepV at h'
    split at h'
    · rename_i v' e
      rw [e, h']
    · cases h'
  · rw [back_out hj] at h
    exact .inl ⟨hj, h⟩
theorem unlock_some {ρ0 ρ : Env} {o : Opn} {j : Nat} {v : Vl} (h : (unlockO ρ0 o ρ)[j]? = some (some v)) : ρ[j]? = some (some v) ∨ ∃ l ds, ρ0[j]? = some (some (.lst l)) ∧ ρ[j]? = some (some (.lck ds)) ∧ v = .lst ds := by
  unfold unlockO at h
  split at h
  · exact .inl h
  · rename_i i
    split at h
    · rename_i l ds e1 e2
      rcases get_set_some h with ⟨rfl, q⟩ | ⟨n, q⟩
      · cases q
        exact .inr ⟨_, _, e1, e2, rfl⟩
      · exact .inl q
    · exact .inl h
theorem unlock_len {ρ0 ρ : Env} {o : Opn} : (unlockO ρ0 o ρ).length = ρ.length := by
  unfold unlockO
  split
  · rfl
  · split
    · rw [List.length_set]
    · rfl
theorem unlock_set {ρ0 ρ : Env} {o : Opn} {j : Nat} {v : Vl} (h : ρ[j]? = some (some v)) : ∃ v', (unlockO ρ0 o ρ)[j]? = some (some v') ∧ (LL v = true → LL v' = true) := by
  unfold unlockO
  split
  · exact ⟨v, h, id⟩
  · rename_i i
    split
    · by_cases q : i = j
      · subst q
        exact ⟨_, List.getElem?_set_self (List.getElem?_eq_some_iff.mp h).1, fun _ => rfl⟩
      · exact ⟨v, by rw [List.getElem?_set_ne q]; exact h, id⟩
    · exact ⟨v, h, id⟩
/-- behind the comprehension -/
theorem ci_end {w : Wd} {own : List Nat} {o : Opn} {D : Addr} {ρe : Env} {He : Hp} {Ue : Addr → Prop} {acc : List V} {ys : List PyData} (er : ER K w.fa H U σ ρ) (ok : ownOk ρ own = true) (c : CI K w σ own H U (lockO o ρ) D He Ue ρe acc ys) : Pst K w.fa σ H U ρ He Ue (unlockO ρ o (Env.back ρ ρe own)) := by
  have st : Sta H U He Ue := c.go.sta fun a h => er.ow (lock_sub h)
  have notOwn : ∀ (j : Nat) (v : Vl), j ∈ own → ρ[j]? = some (some v) → v.own = false := by
    intro j v hj hv
    have := List.all_eq_true.mp ok j hj
    rw [hv] at this
    simpa using this
  -- where a held slot comes from
  have from_ : ∀ (j : Nat) (v : Vl), (unlockO ρ o (Env.back ρ ρe own))[j]? = some (some v) → (∃ u, j ∉ own ∧ ρe[j]? = some (some u) ∧ (u = v ∨ ∃ l ds, ρ[j]? = some (some (.lst l)) ∧ u = .lck ds ∧ v = .lst ds)) ∨ (j ∈ own ∧ ρ[j]? = some (some v) ∧ v.own = false) := by
    intro j v h
    rcases unlock_some h with h | ⟨l, ds, h1, h2, rfl⟩
    · rcases back_some h with ⟨n, q⟩ | ⟨n, q⟩
      · exact .inl ⟨v, n, q, .inl rfl⟩
      · exact .inr ⟨n, q, notOwn j v n q⟩
    · rcases back_some h2 with ⟨n, q⟩ | ⟨n, q⟩
      · exact .inl ⟨_, n, q, .inr ⟨l, ds, h1, rfl, rfl⟩⟩
      · rw [h1] at q; cases q
  have atE : ∀ (j : Nat) (u : Vl), j ∉ own → ρe[j]? = some (some u) → (ρe.wipe own)[j]? = some (some u) := fun j u n h => by rw [ewipe_out n]; exact h
  refine ⟨⟨?_, fun j v h => ?_, fun j k v v' a n h1 h2 o1 o2 z1 z2 => ?_, c.er.dom⟩, c.go.mono fun a h => lock_sub h, fun a ⟨j, v, h, o1, z⟩ => ?_, fun j v h o1 => ?_, fun j v h => ?_⟩
  · have := c.er.len
    rw [wipe_length, ewipe_len] at this
    rw [unlock_len, back_len, this]
  · rcases from_ j v h with ⟨u, n, q, k⟩ | ⟨n, q, no⟩
    · obtain ⟨x, e1, r⟩ := c.er.val j u (atE j u n q)
      rw [swipe_out n] at e1
      rcases k with rfl | ⟨l, ds, _, rfl, rfl⟩
      · exact ⟨x, e1, r⟩
      · exact ⟨x, e1, r⟩
    · obtain ⟨x, e1, r⟩ := er.val j v q
      exact ⟨x, e1, r.sta st fun o => by rw [no] at o; cases o⟩
  · rcases from_ j v h1 with ⟨u, m, q, kk⟩ | ⟨m, q, no⟩
    · rcases from_ k v' h2 with ⟨u', m', q', k'⟩ | ⟨m', q', no'⟩
      · refine c.er.dj j k u u' a n (atE j u m q) (atE k u' m' q') ?_ ?_ ((swipe_out m).trans z1) ((swipe_out m').trans z2)
        · rcases kk with rfl | ⟨_, _, _, rfl, _⟩
          · exact o1
          · rfl
        · rcases k' with rfl | ⟨_, _, _, rfl, _⟩
          · exact o2
          · rfl
      · rw [no'] at o2; cases o2
    · rw [no] at o1; cases o1
  · rcases from_ j v h with ⟨u, m, q, k⟩ | ⟨m, q, no⟩
    · rcases k with rfl | ⟨l, ds, h1, rfl, rfl⟩
      · exact lock_sub (c.ow a ⟨j, u, atE j u m q, o1, (swipe_out m).trans z⟩)
      · exact ⟨j, _, h1, rfl, z⟩
    · have := mut_own o1
      rw [no] at this; cases this
  · rcases from_ j v h with ⟨u, m, q, k⟩ | ⟨m, q, no⟩
    · rcases k with rfl | ⟨l, ds, h1, rfl, rfl⟩
      · obtain ⟨u', e1, e2⟩ := c.hd j u (atE j u m q) o1
        exact own_lock e1 e2
      · exact ⟨_, h1, rfl⟩
    · rw [no] at o1; cases o1
  · by_cases hj : j ∈ own
    · have hl : j < ρe.length := by
        have h1 := c.er.len
        rw [wipe_length, ewipe_len] at h1
        have h2 := er.len
        have h3 := (List.getElem?_eq_some_iff.mp h).1
        omega
      exact unlock_set (v := v) (by rw [back_in hj hl, h]; rfl)
    · obtain ⟨v1, e1, l1⟩ := set_lock (o := o) h
      obtain ⟨v2, e2, l2⟩ := c.set j v1 hj e1
      obtain ⟨v3, e3, l3⟩ := unlock_set (ρ0 := ρ) (o := o) (ρ := Env.back ρ ρe own) (v := v2) (by rw [back_out hj]; exact e2)
      exact ⟨v3, e3, fun z => l3 (l2 (l1 z))⟩
end
section
variable {X : Cx} {w : Wd} {cl : Fun} {W : WX}
/-- the tests of a comprehension -/
def SC (X : Cx) (w : Wd) (cl : Fun) (ifs : List Expr) (tc : Option T) : Prop := PTs X ifs (tC X.K w cl tc)
theorem sc_none : SC X w cl [] none := pts_nil
theorem sc_some {c : Expr} {t : T} (h : ST X w cl W0 c t) : SC X w cl [c] (some t) := pts_one h.can
theorem comp_at {tg iter : Expr} {own : List Nat} {tgT : Tg} {k : Wkd} {tit te : T} {tc : Option T} (hi : SI X w cl W tg iter tit k) (hin : (tgIx tgT).all own.contains = true) :
    ∃ wi, PI X tg iter wi ∧ ∀ σ H U ρ Q, ER X.K w.fa H U σ ρ → Aft (evE cl (.comp te own tgT k tit tc) ρ) (OkE X.K w σ H U ρ Q) (XcE X.K w W σ H U ρ) → tLc wi (gOf X.K tgT) (tC X.K w cl tc) (tE X.K w cl W0 te) own σ H Q := by
  obtain ⟨wi, p, ki⟩ := hi
  refine ⟨wi, p, fun σ H U ρ Q er h => ki σ H U ρ _ er ?_⟩
  unfold evE at h
  refine h.bind.mono (fun o ρ' h => ?_) fun _ _ h => h
  obtain ⟨x, e1, h⟩ := h.get
  obtain ⟨ds, e2, h⟩ := h.get
  obtain ⟨_, e3, h⟩ := h.get
  refine ⟨x, ds, e1, e2, fun J src H' U' p1 wk hs hz => ?_⟩
  have ok : ownOk ρ' own = true := by
    unfold need at e3
    split at e3
    · assumption
    · cases e3
  refine comp_read (er_lock p1.er) (fun i hi => ?_) wk hs hz ?_
  · have := List.all_eq_true.mp hin i hi
    simpa using this
  · cases q : compTurns own tgT (evC cl tc) (evE cl te) ds [] (lockO o ρ') with
    | stuck => rw [q] at h; exact h
    | exc _ _ => rw [q] at h; exact h
    | ok r =>
      obtain ⟨ys, ρe⟩ := r
      rw [q] at h
      intro D He Ue acc hD c
      have pe := ci_end p1.er ok c
      have h' : OkE X.K w σ H U ρ Q (.lst ys) (unlockO ρ' o (Env.back ρ' ρe own)) := h
      refine h' _ _ Ue (p1.trans er pe) ⟨D, acc, rfl, c.u, c.lst, c.els⟩ fun _ a z => ?_
      cases z
      refine ⟨fun z => p1.er.dom D (p1.er.hd (pe.hdd D z)) hD, ?_⟩
      cases q2 : H D with
      | none => rfl
      | some o2 => exact (p1.go.dom D (by rw [q2]; simp) hD).elim
theorem se_comp {elt tg iter : Expr} {ifs : List Expr} {scope : Scope} {own : List (Str × Nat)} {pos : Pos} {tgT : Tg} {k : Wkd} {tit te : T} {tc : Option T} (G : GC X W) (hi : SI X w cl W tg iter tit k) (ok : BlkOk X.N X.env.scope scope own)
    (hg : ∀ (s : Shared) (H : Hp) (C : Addr) (c : List (Str × Addr)) (fp : List Addr), PG (X.blk s H scope (compEnvC scope c C X.env) fp) tg (gOf X.K tgT)) (hin : (tgIx tgT).all (own.map (·.2)).contains = true)
    (ht : ∀ (s : Shared) (H : Hp) (C : Addr) (c : List (Str × Addr)) (fp : List Addr), SC (X.blk s H scope (compEnvC scope c C X.env) fp) w cl ifs tc)
    (he : ∀ (s : Shared) (H : Hp) (C : Addr) (c : List (Str × Addr)) (fp : List Addr), SE (X.blk s H scope (compEnvC scope c C X.env) fp) w cl W0 elt te) (hs : ∀ x, foldedSetIterable iter X.env x = pure x := by intro _; rfl) :
    SE X w cl W (.ListComp elt [⟨tg, iter, ifs, 0⟩] scope pos) (.comp te (own.map (·.2)) tgT k tit tc) := by
  obtain ⟨wi, p, k⟩ := comp_at (te := te) (tc := tc) hi hin
  exact ⟨_, pe_lc (tt := tC X.K w cl tc) G.calm G.nd p ok hg (fun s H C c fp => ht s H C c fp) (fun s H C c fp => (he s H C c fp).can) hs, k⟩
end
end Pv
set_option Elab.async false
set_option linter.all false
set_option maxRecDepth 100000
set_option maxHeartbeats 2100000
namespace Pv
open PySem L2 PyProof.Rows
/-- behind a statement -/
structure Pss (K : PySem.W.Frag) (w : Wd) (lk : List Nat) (σ : L2.St) (H : Hp) (U : Addr → Prop) (ρ : Env) (σ' : L2.St) (H' : Hp) (U' : Addr → Prop) (ρ' : Env) : Prop where
  er : ER K w.fa H' U' σ' ρ'
  go : Go (Ow ρ σ) H U H' U'
  own : ∀ a, Ow ρ' σ' a → Ow ρ σ a ∨ H a = none
  held : ∀ (i : Nat) (v : Vl) (a : Addr), ρ'[i]? = some (some v) → v.own = true → σ'[i]? = some (some (V.ref a)) → (∃ u, ρ[i]? = some (some u) ∧ u.own = true ∧ σ[i]? = some (some (V.ref a))) ∨ H a = none
  lk : ∀ i ∈ lk, σ'[i]? = σ[i]? ∧ ∀ v, ρ[i]? = some (some v) → LL v = true → ∃ v', ρ'[i]? = some (some v') ∧ LL v' = true
  len : ρ'.length = ρ.length
section
variable {K : PySem.W.Frag} {w : Wd} {lk : List Nat} {σ σ1 σ2 : L2.St} {H H1 H2 : Hp} {U U1 U2 : Addr → Prop} {ρ ρ1 ρ2 : Env}
theorem Pss.refl (er : ER K w.fa H U σ ρ) : Pss K w lk σ H U ρ σ H U ρ := ⟨er, Go.refl _ _ _, fun _ h => .inl h, fun _ v _ h o z => .inl ⟨v, h, o, z⟩, fun i _ => ⟨rfl, fun v h l => ⟨v, h, l⟩⟩, rfl⟩
theorem Pss.trans (er : ER K w.fa H U σ ρ) (p : Pss K w lk σ H U ρ σ1 H1 U1 ρ1) (q : Pss K w lk σ1 H1 U1 ρ1 σ2 H2 U2 ρ2) : Pss K w lk σ H U ρ σ2 H2 U2 ρ2 := by
  have none1 : ∀ a, H1 a = none → H a = none := fun a h => by
    cases z : H a with
    | none => rfl
    | some o => exact (p.go.dom a (by rw [z]; simp) h).elim
  refine ⟨q.er, p.go.trans q.go p.own er.dom, fun a h => ?_, fun i v a h o z => ?_, fun i hi => ⟨(q.lk i hi).1.trans (p.lk i hi).1, fun v h l => ?_⟩, q.len.trans p.len⟩
  · rcases q.own a h with h | h
    · exact p.own a h
    · exact .inr (none1 a h)
  · rcases q.held i v a h o z with ⟨u, h1, h2, h3⟩ | h
    · exact p.held i u a h1 h2 h3
    · exact .inr (none1 a h)
  · obtain ⟨v', h', l'⟩ := (p.lk i hi).2 v h l
    exact (q.lk i hi).2 v' h' l'
theorem Pss.hdd {σ' : L2.St} {H' : Hp} {U' : Addr → Prop} {ρ' : Env} (p : Pss K w lk σ H U ρ σ' H' U' ρ') (a : Addr) (h : Hd ρ' σ' a) : Hd ρ σ a ∨ H a = none := by
  obtain ⟨i, v, h1, h2, h3⟩ := h
  exact (p.held i v a h1 h2 h3).imp (fun ⟨u, e1, e2, e3⟩ => ⟨i, u, e1, e2, e3⟩) id
theorem Pst.pss (er : ER K w.fa H U σ ρ) (p : Pst K w.fa σ H U ρ H1 U1 ρ1) : Pss K w lk σ H U ρ σ H1 U1 ρ1 :=
  ⟨p.er, p.go, fun a h => .inl (p.own a h), fun i v a h o z => let ⟨u, e1, e2⟩ := p.held i v h o; .inl ⟨u, e1, e2, z⟩, fun i _ => ⟨rfl, fun v h l => let ⟨v', h', l'⟩ := p.set i v h; ⟨v', h', l' l⟩⟩, by rw [← p.er.len, er.len]⟩
def RetF (σ : L2.St) (H : Hp) (ρ : Env) (σ' : L2.St) (ρ' : Env) (x : V) (v : Vl) : Prop := v.own = true → ∀ a, x = .ref a → ¬ Hd ρ' σ' a ∧ (Hd ρ σ a ∨ H a = none)
def OkF (K : PySem.W.Frag) (w : Wd) (lk : List Nat) (σ : L2.St) (H : Hp) (U : Addr → Prop) (ρ : Env) (D : Ends) (f : Flow) (ρ' : Env) : Prop :=
  ∀ σ' H' U', Pss K w lk σ H U ρ σ' H' U' ρ' → match f with
    | .nx => D.nx σ' H'
    | .brk => D.bk σ' H'
    | .cnt => D.ct σ' H'
    | .ret v => ∀ x, RV K w.fa H' U' x v → RetF σ H ρ σ' ρ' x v → D.rt x H'
def XcF (K : PySem.W.Frag) (w : Wd) (W : WX) (lk : List Nat) (σ : L2.St) (H : Hp) (U : Addr → Prop) (ρ : Env) (ex : Ex) (ρ' : Env) : Prop :=
  ∀ c d σ' H' U', Pss K w lk σ H U ρ σ' H' U' ρ' → ExR K w.ca H' U' ex c d → W c d σ' H'
theorem XcF.on {W : WX} {ex : Ex} {ρ' : Env} (h : XcF K w W lk σ H U ρ ex ρ') (er : ER K w.fa H U σ ρ) (p : Pss K w lk σ H U ρ σ1 H1 U1 ρ1) : XcF K w W lk σ1 H1 U1 ρ1 ex ρ' :=
  fun c d σ' H' U' q r => h c d σ' H' U' (p.trans er q) r
theorem XcF.e {W : WX} {ex : Ex} {ρ' : Env} (h : XcF K w W lk σ H U ρ ex ρ') (er : ER K w.fa H U σ ρ) : XcE K w W σ H U ρ ex ρ' :=
  fun c d H' U' q r => h c d σ H' U' (q.pss er) r
theorem OkF.on {D : Ends} {f : Flow} {ρ' : Env} (h : OkF K w lk σ H U ρ D f ρ') (er : ER K w.fa H U σ ρ) (p : Pss K w lk σ H U ρ σ1 H1 U1 ρ1) : OkF K w lk σ1 H1 U1 ρ1 D f ρ' := by
  intro σ' H' U' q
  have h' := h σ' H' U' (p.trans er q)
  cases f with
  | nx => exact h'
  | brk => exact h'
  | cnt => exact h'
  | ret v =>
    refine fun x r k => h' x r fun o a z => ?_
    obtain ⟨k1, k2⟩ := k o a z
    refine ⟨k1, ?_⟩
    rcases k2 with k2 | k2
    · exact p.hdd a k2
    · refine .inr ?_
      cases y : H a with
      | none => rfl
      | some ob => exact (p.go.dom a (by rw [y]; simp) k2).elim
end
section
variable {X : Cx} {w : Wd} {cl : Fun} {W : WX} {lk : List Nat}
def SS (X : Cx) (w : Wd) (cl : Fun) (W : WX) (lk : List Nat) (st : Stmt) (s : S) : Prop :=
  ∃ ts : TS, PS X st ts ∧ ∀ D σ H U ρ, ER X.K w.fa H U σ ρ → Aft (evS cl lk s ρ) (OkF X.K w lk σ H U ρ D) (XcF X.K w W lk σ H U ρ) → ts D σ H
def SSs (X : Cx) (w : Wd) (cl : Fun) (W : WX) (lk : List Nat) (st : List Stmt) (s : List S) : Prop :=
  ∃ ts : TS, PSs X st ts ∧ ∀ D σ H U ρ, ER X.K w.fa H U σ ρ → Aft (evSs cl lk s ρ) (OkF X.K w lk σ H U ρ D) (XcF X.K w W lk σ H U ρ) → ts D σ H
theorem sss_nil : SSs X w cl W lk [] [] := ⟨_, pss_nil, fun D σ H U ρ er h => h σ H U (Pss.refl er)⟩
theorem sss_cons {st : Stmt} {sts : List Stmt} {s : S} {ss : List S} (h1 : SS X w cl W lk st s) (h2 : SSs X w cl W lk sts ss) : SSs X w cl W lk (st :: sts) (s :: ss) := by
  obtain ⟨t1, p1, k1⟩ := h1
  obtain ⟨t2, p2, k2⟩ := h2
  refine ⟨_, pss_cons p1 p2, fun D σ H U ρ er h => k1 _ σ H U ρ er ?_⟩
  unfold evSs at h
  refine h.bind.mono (fun f ρ1 h => ?_) fun _ _ h => h
  cases f with
  | nx => exact fun σ1 H1 U1 p => k2 D σ1 H1 U1 ρ1 p.er (Aft.mono h (fun f ρ2 h => h.on er p) fun _ _ h => h.on er p)
  | brk => exact fun σ1 H1 U1 p => h σ1 H1 U1 p
  | cnt => exact fun σ1 H1 U1 p => h σ1 H1 U1 p
  | ret v => exact fun σ1 H1 U1 p => h σ1 H1 U1 p
theorem ss_pass {pos : Pos} : SS X w cl W lk (.Pass pos) .pass := ⟨_, ps_pass, fun D σ H U ρ er h => h σ H U (Pss.refl er)⟩
theorem ss_brk {pos : Pos} : SS X w cl W lk (.Break pos) .brk := ⟨_, ps_break, fun D σ H U ρ er h => h σ H U (Pss.refl er)⟩
theorem ss_cnt {pos : Pos} : SS X w cl W lk (.Continue pos) .cnt := ⟨_, ps_continue, fun D σ H U ρ er h => h σ H U (Pss.refl er)⟩
theorem ss_if {c : Expr} {a b : List Stmt} {tc : T} {sa sb : List S} {pos : Pos} (hc : ST X w cl W c tc) (ha : SSs X w cl W lk a sa) (hb : SSs X w cl W lk b sb) : SS X w cl W lk (.If c a b pos) (.iff tc sa sb) := by
  obtain ⟨ec, pc, kc⟩ := hc
  obtain ⟨ea, pa, ka⟩ := ha
  obtain ⟨eb, pb, kb⟩ := hb
  refine ⟨_, ps_if pc pa pb, fun D σ H U ρ er h => kc σ H U ρ _ er ?_⟩
  unfold evS at h
  refine h.bind.mono (fun v ρ1 h H1 U1 p1 => ?_) fun _ _ h => h.e er
  have p := p1.pss (lk := lk) er
  cases v with
  | true =>
    rw [if_pos rfl]
    exact ka D σ H1 U1 ρ1 p1.er (Aft.mono h (fun f ρ2 h => h.on er p) fun _ _ h => h.on er p)
  | false =>
    rw [if_neg (by decide)]
    exact kb D σ H1 U1 ρ1 p1.er (Aft.mono h (fun f ρ2 h => h.on er p) fun _ _ h => h.on er p)
theorem ss_expr {e : Expr} {t : T} {pos : Pos} (he : SE X w cl W e t) (hs : swapsWith e none pos.line X.env = pure false := by rfl) : SS X w cl W lk (.Expr e pos) (.expr t) := by
  obtain ⟨te, p, k⟩ := he
  refine ⟨_, ps_expr p hs, fun D σ H U ρ er h => k σ H U ρ _ er ?_⟩
  unfold evS at h
  exact h.bind.mono (fun v ρ1 h x H1 U1 p1 r f => h σ H1 U1 (p1.pss er)) fun _ _ h => h.e er
theorem putS_some {lk : List Nat} {ρ ρ' : Env} {i : Nat} {v : Vl} (h : putS lk ρ i v = some ρ') : i ∉ lk ∧ i < ρ.length ∧ ρ' = ρ.set i (some v) := by
  unfold putS at h
  split at h
  · cases h
  · rename_i n
    unfold Env.put at h
    split at h <;> cases h
    rename_i c
    exact ⟨by simpa using n, of_decide_eq_true c, rfl⟩
theorem pss_set {K : PySem.W.Frag} {σ : L2.St} {H H1 : Hp} {U U1 : Addr → Prop} {ρ ρ1 : Env} {x : V} {v : Vl} {i : Nat} (er : ER K w.fa H U σ ρ) (p : Pst K w.fa σ H U ρ H1 U1 ρ1) (r : RV K w.fa H1 U1 x v) (f : Frh ρ1 σ H x v) (hn : i ∉ lk) (hi : i < ρ1.length) :
    Pss K w lk σ H U ρ (σ.set i (some x)) H1 U1 (ρ1.set i (some v)) := by
  have hs : i < σ.length := by rw [p.er.len]; exact hi
  refine ⟨er_set p.er r (fun o a z => (f o a z).1) hi, p.go, fun a h => ?_, fun j u a h o z => ?_, fun j hj => ⟨?_, fun u h l => ?_⟩, by rw [List.length_set, ← p.er.len, er.len]⟩
  · rcases set_ow hs h with h | ⟨m, z⟩
    · exact .inl (p.own a h)
    · exact .inr (f (mut_own m) a z).2
  · rcases get_set_some h with ⟨rfl, q⟩ | ⟨n, q⟩
    · cases q
      rw [List.getElem?_set_self hs] at z
      cases z
      exact .inr (f o a rfl).2
    · rw [List.getElem?_set_ne (Ne.symm n)] at z
      obtain ⟨u', e1, e2⟩ := p.held j u q o
      exact .inl ⟨u', e1, e2, z⟩
  · exact List.getElem?_set_ne fun q => hn (by rw [q]; exact hj)
  · obtain ⟨v', h', l'⟩ := p.set j u h
    exact ⟨v', by rw [List.getElem?_set_ne fun q => hn (by rw [q]; exact hj)]; exact h', l' l⟩
theorem asg_go {K : PySem.W.Frag} {t : T} {te : TE} {i : Nat} {D : Ends} {σ : L2.St} {H : Hp} {U : Addr → Prop} {ρ : Env} (er : ER K w.fa H U σ ρ) (k : ∀ Q, Aft (evE cl t ρ) (OkE K w σ H U ρ Q) (XcE K w W σ H U ρ) → te σ H Q)
    (h : Aft (evS cl lk (.asg i t) ρ) (OkF K w lk σ H U ρ D) (XcF K w W lk σ H U ρ)) : te σ H fun x H1 => gName i x σ H1 D.nx := by
  refine k _ ?_
  unfold evS at h
  refine h.bind.mono (fun v ρ1 h x H1 U1 p1 r f => ?_) fun _ _ h => h.e er
  obtain ⟨ρ2, e2, h⟩ := h.get
  obtain ⟨n, hi, rfl⟩ := putS_some e2
  exact h _ H1 U1 (pss_set er p1 r f n hi)
theorem ss_asg {i : Nat} {x : Str} {e : Expr} {t : T} {pos pos' : Pos} (G : GC X W) (hi : X.N[i]? = some x) (hx : Loc X.env.scope x) (he : SE X w cl W e t) (hs : swapsWith e (some (.Name x pos')) pos.line X.env = pure false := by rfl)
    (hf : X.fn x = true ∨ X.env.scope.names.lookup x = some .local := by first | exact .inl rfl | exact .inr rfl) : SS X w cl W lk (.Assign [.Name x pos'] e pos) (.asg i t) := by
  obtain ⟨te, p, k⟩ := he
  exact ⟨_, ps_set G.nd hi hx p hs hf, fun D σ H U ρ er h => asg_go er (fun Q => k σ H U ρ Q er) h⟩
theorem ss_asgC {i : Nat} {y : Str} {py : Pos} {elt tg iter : Expr} {ifs : List Expr} {scope : Scope} {own : List (Str × Nat)} {pos spos : Pos} {tgT : Tg} {k : Wkd} {tit te : T} {tc : Option T} (G : GC X W) (hy : X.N[i]? = some y) (hyl : X.env.scope.names.lookup y = some .local)
    (hsw : swapsWith (.ListComp elt [⟨tg, iter, ifs, 0⟩] scope pos) (some (.Name y py)) spos.line X.env = pure true) (hi : SI X w cl W tg iter tit k) (ok : BlkOk X.N X.env.scope scope own)
    (hg : ∀ (s : Shared) (H : Hp) (C : Addr) (c : List (Str × Addr)) (fp : List Addr), PG (X.blk s H scope (compEnvC scope c C X.env) fp) tg (gOf X.K tgT)) (hin : (tgIx tgT).all (own.map (·.2)).contains = true)
    (ht : ∀ (s : Shared) (H : Hp) (C : Addr) (c : List (Str × Addr)) (fp : List Addr), SC (X.blk s H scope (compEnvC scope c C X.env) fp) w cl ifs tc)
    (he : ∀ (s : Shared) (H : Hp) (C : Addr) (c : List (Str × Addr)) (fp : List Addr), SE (X.blk s H scope (compEnvC scope c C X.env) fp) w cl W0 elt te) (hs : ∀ x, foldedSetIterable iter X.env x = pure x := by intro _; rfl) :
    SS X w cl W lk (.Assign [.Name y py] (.ListComp elt [⟨tg, iter, ifs, 0⟩] scope pos) spos) (.asg i (.comp te (own.map (·.2)) tgT k tit tc)) := by
  obtain ⟨wi, p, kk⟩ := comp_at (te := te) (tc := tc) hi hin
  exact ⟨_, ps_setLc (tt := tC X.K w cl tc) G.calm G.nd hy hyl hsw p ok hg (fun s H C c fp => ht s H C c fp) (fun s H C c fp => (he s H C c fp).can) hs, fun D σ H U ρ er h => asg_go er (fun Q => kk σ H U ρ Q er) h⟩
/-! ### a, b = c, d -/
def NotIn (a : Addr) (xs : List V) (vs : List Vl) : Prop := ∀ (j : Nat) (v : Vl), vs[j]? = some v → v.own = true → xs[j]? ≠ some (.ref a)
inductive RVs (K : PySem.W.Frag) (fa : Nat → Option Addr) (H' : Hp) (U' : Addr → Prop) (σ : L2.St) (ρ' : Env) (H : Hp) : List V → List Vl → Prop
  | nil : RVs K fa H' U' σ ρ' H [] []
  | cons {x : V} {xs : List V} {v : Vl} {vs : List Vl} : RV K fa H' U' x v → Frh ρ' σ H x v → (v.own = true → ∀ a, x = .ref a → NotIn a xs vs) → RVs K fa H' U' σ ρ' H xs vs → RVs K fa H' U' σ ρ' H (x :: xs) (v :: vs)
theorem RVs.mono {K : PySem.W.Frag} {fa : Nat → Option Addr} {H' H H0 : Hp} {U' : Addr → Prop} {σ : L2.St} {ρ' : Env} {xs : List V} {vs : List Vl} (h : RVs K fa H' U' σ ρ' H xs vs) (k : ∀ a, H a = none → H0 a = none) : RVs K fa H' U' σ ρ' H0 xs vs := by
  induction h with
  | nil => exact .nil
  | cons r f n _ ih => exact .cons r (fun o a z => ⟨(f o a z).1, k a (f o a z).2⟩) n ih
theorem RVs.new {K : PySem.W.Frag} {fa : Nat → Option Addr} {H' H : Hp} {U' : Addr → Prop} {σ : L2.St} {ρ' : Env} {xs : List V} {vs : List Vl} (h : RVs K fa H' U' σ ρ' H xs vs) {a : Addr} (ha : H a ≠ none) : NotIn a xs vs := by
  induction h with
  | nil => intro j v e; simp at e
  | cons r f n _ ih =>
    intro j v e o q
    cases j with
    | zero =>
      simp at e q
      subst e q
      exact ha (f o a rfl).2
    | succ j => exact ih j v (by simpa using e) o (by simpa using q)
def SV (X : Cx) (w : Wd) (cl : Fun) (W : WX) (es : List Expr) (ts : List T) : Prop :=
  ∃ ta : TA, PA X es ta ∧ ∀ σ H U ρ Q, ER X.K w.fa H U σ ρ →
    Aft (evVs cl ts ρ) (fun vs ρ' => ∀ xs H' U', Pst X.K w.fa σ H U ρ H' U' ρ' → RVs X.K w.fa H' U' σ ρ' H xs vs → Q xs H') (XcE X.K w W σ H U ρ) → ta σ H Q
theorem sv_nil : SV X w cl W [] [] := ⟨_, pa_nil, fun σ H U ρ Q er h => h [] H U (Pst.refl er) .nil⟩
theorem none_of {K : PySem.W.Frag} {fa : Nat → Option Addr} {H H1 : Hp} {U U1 : Addr → Prop} {σ : L2.St} {ρ ρ1 : Env} (p : Pst K fa σ H U ρ H1 U1 ρ1) {a : Addr} (h : H1 a = none) : H a = none := by
  cases z : H a with
  | none => rfl
  | some o => exact (p.go.dom a (by rw [z]; simp) h).elim
theorem sv_cons {e : Expr} {es : List Expr} {t : T} {ts : List T} (he : SE X w cl W e t) (hs : SV X w cl W es ts) (hst : starEach (e :: es) X.env = (false, eval e X.env) :: starEach es X.env := by rfl) : SV X w cl W (e :: es) (t :: ts) := by
  obtain ⟨ea, pa, ka⟩ := he
  obtain ⟨eb, pb, kb⟩ := hs
  refine ⟨_, pa_cons pa pb hst, fun σ H U ρ Q er h => ka σ H U ρ _ er ?_⟩
  unfold evVs at h
  refine h.bind.mono (fun v ρ1 h x H1 U1 p1 r f => ?_) fun _ _ h => h
  refine kb σ H1 U1 ρ1 _ p1.er (h.bind.mono (fun vs ρ2 h xs H3 U3 p3 r3 => ?_) fun _ _ h => h.on er p1)
  refine h (x :: xs) H3 U3 (p1.trans er p3) (.cons (r.on p3 p1.er fun o a z => (f o a z).1) (f.on p3) (fun o a z => r3.new ?_) (r3.mono fun a z => none_of p1 z))
  obtain ⟨b, e1, u⟩ := r.ownU o
  rw [z] at e1
  cases e1
  exact p1.er.dom a u
structure PutR (K : PySem.W.Frag) (w : Wd) (lk : List Nat) (H1 : Hp) (U1 : Addr → Prop) (H : Hp) (σ : L2.St) (ρ : Env) (σ' : L2.St) (ρ' : Env) : Prop where
  er : ER K w.fa H1 U1 σ' ρ'
  own : ∀ a, Ow ρ' σ' a → Ow ρ σ a ∨ H a = none
  held : ∀ (i : Nat) (v : Vl) (a : Addr), ρ'[i]? = some (some v) → v.own = true → σ'[i]? = some (some (V.ref a)) → (∃ u, ρ[i]? = some (some u) ∧ u.own = true ∧ σ[i]? = some (some (V.ref a))) ∨ H a = none
  lk : ∀ j ∈ lk, σ'[j]? = σ[j]? ∧ ρ'[j]? = ρ[j]?
  len : ρ'.length = ρ.length
theorem RVs.set {K : PySem.W.Frag} {fa : Nat → Option Addr} {H H1 : Hp} {U1 : Addr → Prop} {σ : L2.St} {ρ : Env} {xs : List V} {vs : List Vl} {i : Nat} {x : V} {v : Vl} (hs : i < σ.length) (n : v.own = true → ∀ a, x = .ref a → NotIn a xs vs) (h : RVs K fa H1 U1 σ ρ H xs vs) : RVs K fa H1 U1 (σ.set i (some x)) (ρ.set i (some v)) H xs vs := by
  induction h with
  | nil => exact .nil
  | @cons y ys u us r f m _ ih =>
    refine .cons r (fun o a z => ⟨fun q => ?_, (f o a z).2⟩) m (ih fun o a z j v' e o' => n o a z (j + 1) v' (by simpa using e) o')
    rcases set_hd hs q with q | ⟨o2, q⟩
    · exact (f o a z).1 q
    · exact n o2 a q 0 u rfl o (by rw [z]; rfl)
theorem putsS_ok {K : PySem.W.Frag} {H H1 : Hp} {U1 : Addr → Prop} : ∀ {is : List Nat} {xs : List V} {vs : List Vl} {σ : L2.St} {ρ ρ' : Env} {Q : L2.St → Hp → Prop}, ER K w.fa H1 U1 σ ρ → RVs K w.fa H1 U1 σ ρ H xs vs → putsS lk ρ is vs = some ρ' →
    (∀ σ', PutR K w lk H1 U1 H σ ρ σ' ρ' → Q σ' H1) → gNames is xs σ H1 Q
  | [], xs, vs, σ, ρ, ρ', Q, er, r, e, h => by
    cases r with
    | nil =>
      unfold putsS at e
      cases e
      exact ⟨rfl, h σ ⟨er, fun _ z => .inl z, fun _ v _ h o z => .inl ⟨v, h, o, z⟩, fun _ _ => ⟨rfl, rfl⟩, rfl⟩⟩
    | cons _ _ _ _ => unfold putsS at e; cases e
  | i :: is, xs, vs, σ, ρ, ρ', Q, er, r, e, h => by
    cases r with
    | nil => unfold putsS at e; cases e
    | @cons x xs v vs r1 f n r2 =>
      unfold putsS at e
      obtain ⟨ρ2, e1, e2⟩ := Option.bind_eq_some_iff.mp e
      obtain ⟨hn, hi, rfl⟩ := putS_some e1
      have hs : i < σ.length := by rw [er.len]; exact hi
      have er2 := er_set er r1 (fun o a z => (f o a z).1) hi
      refine ⟨_, _, rfl, putsS_ok er2 (r2.set hs n) e2 fun σ' p => h σ' ⟨p.er, fun a z => ?_, fun j u a h o z => ?_, fun j hj => ?_, by rw [p.len, List.length_set]⟩⟩
      · rcases p.own a z with z | z
        · rcases set_ow hs z with z | ⟨m, q⟩
          · exact .inl z
          · exact .inr (f (mut_own m) a q).2
        · exact .inr z
      · rcases p.held j u a h o z with ⟨u', h1, h2, h3⟩ | z
        · rcases get_set_some h1 with ⟨rfl, q⟩ | ⟨n, q⟩
          · cases q
            rw [List.getElem?_set_self hs] at h3
            cases h3
            exact .inr (f h2 a rfl).2
          · rw [List.getElem?_set_ne (Ne.symm n)] at h3
            exact .inl ⟨u', q, h2, h3⟩
        · exact .inr z
      · obtain ⟨p1, p2⟩ := p.lk j hj
        have ne : i ≠ j := fun q => hn (by rw [q]; exact hj)
        exact ⟨p1.trans (List.getElem?_set_ne ne), p2.trans (List.getElem?_set_ne ne)⟩
theorem RVs.grow {K : PySem.W.Frag} {fa : Nat → Option Addr} {H H1 H2 : Hp} {U1 : Addr → Prop} {σ : L2.St} {ρ : Env} {xs : List V} {vs : List Vl} (g : Grow H1 H2) (h : RVs K fa H1 U1 σ ρ H xs vs) : RVs K fa H2 U1 σ ρ H xs vs := by
  induction h with
  | nil => exact .nil
  | cons r f n _ ih => exact .cons (r.sta ⟨fun a o z _ => g a o z, fun a z => .inl z⟩ fun _ a _ u => ⟨fun o z => g a o z, u⟩) f n ih
theorem PutR.pss {K : PySem.W.Frag} {H H1 H2 : Hp} {U U1 : Addr → Prop} {σ σ' : L2.St} {ρ ρ1 ρ' : Env} (er : ER K w.fa H U σ ρ) (p : Pst K w.fa σ H U ρ H1 U1 ρ1) (g : Grow H1 H2) (q : PutR K w lk H2 U1 H σ ρ1 σ' ρ') : Pss K w lk σ H U ρ σ' H2 U1 ρ' := by
  refine ⟨q.er, p.go.trans (Go.grow (own := fun _ => False) g) (fun _ h => h.elim) er.dom, fun a h => (q.own a h).imp (p.own a) id, fun i v a h o z => (q.held i v a h o z).imp (fun ⟨u, e1, e2, e3⟩ => let ⟨u', e4, e5⟩ := p.held i u e1 e2; ⟨u', e4, e5, e3⟩) id, fun j hj => ⟨(q.lk j hj).1, fun v h l => ?_⟩, ?_⟩
  · obtain ⟨v', h', l'⟩ := p.set j v h
    exact ⟨v', (q.lk j hj).2.trans h', l' l⟩
  · rw [q.len, ← p.er.len, er.len]
theorem len_evV : ∀ (ts : List T) (ρ : Env) (ds : List Vl) (ρ' : Env), evVs cl ts ρ = .ok (ds, ρ') → ds.length = ts.length
  | [], ρ, ds, ρ', h => by
    unfold evVs at h
    cases h; rfl
  | t :: ts, ρ, ds, ρ', h => by
    unfold evVs at h
    cases e : evE cl t ρ with
    | stuck => rw [e] at h; cases h
    | exc x r => rw [e] at h; cases h
    | ok p =>
      rw [e] at h
      simp only [Res.bind_ok] at h
      cases e3 : evVs cl ts p.2 with
      | stuck => rw [e3] at h; cases h
      | exc x r => rw [e3] at h; cases h
      | ok q =>
        rw [e3] at h
        cases h
        simp [len_evV ts _ _ _ e3]
theorem RVs.len {K : PySem.W.Frag} {fa : Nat → Option Addr} {H H1 : Hp} {U1 : Addr → Prop} {σ : L2.St} {ρ : Env} {xs : List V} {vs : List Vl} (h : RVs K fa H1 U1 σ ρ H xs vs) : xs.length = vs.length := by
  induction h with
  | nil => rfl
  | cons _ _ _ _ ih => simp [ih]
/-- a tuple is written and taken apart -/
theorem ss_asgs {es : List Expr} {tg : Expr} {ts : List T} {is : List Nat} {pos : Pos} {k2 : Nat} {pt2 : Pos} (h : SV X w cl W es ts)
    (hp : ∀ t, PA X es t → ∃ ps : TS, PS X (.Assign [tg] (.Tuple es k2 pt2) pos) ps ∧ ∀ D σ H, (t σ H fun xs H1 => ∀ H2, (H2 = H1 ∨ ∃ p, H1 p = none ∧ H2 = upd H1 p (.tup xs)) → xs.length = is.length ∧ gNames is xs σ H2 D.nx) → ps D σ H)
    (hl : ts.length = is.length) : SS X w cl W lk (.Assign [tg] (.Tuple es k2 pt2) pos) (.asgs is ts) := by
  obtain ⟨te, p, k⟩ := h
  obtain ⟨ps, hps, hr⟩ := hp te p
  refine ⟨ps, hps, fun D σ H U ρ er h => hr D σ H (k σ H U ρ _ er ?_)⟩
  unfold evS at h
  refine (h.bind.and (P := fun vs => vs.length = ts.length) fun vs ρ' e => len_evV ts ρ vs ρ' e).mono (fun vs ρ1 ⟨hn, h⟩ xs H1 U1 p1 r H2 hH => ?_) fun _ _ h => h.e er
  obtain ⟨ρ2, e2, h⟩ := h.get
  have g : Grow H1 H2 := by
    rcases hH with rfl | ⟨q, hq, rfl⟩
    · exact fun _ _ z => z
    · exact fun a o z => by rw [upd_ne (ne_of_none z hq)]; exact z
  refine ⟨?_, putsS_ok (lk := lk) (er_grow p1.er g) (r.grow g) e2 fun σ' q => h σ' H2 U1 (PutR.pss er p1 g q)⟩
  have hx := r.len
  omega
def upA (t : TA) : TA := fun σ H Q => ∃ Q' : List V → Hp → Prop, t σ H Q' ∧ ∀ xs H1, Q' xs H1 → Q xs H1
theorem paUp {es : List Expr} {t : TA} (h : PA X es t) : PA X es (upA t) := ⟨fun pos pins s σ H Q I ⟨Q', h1, h2⟩ => thn (h.run pos pins s σ H Q' I h1) fun _ _ ⟨vs, H1, I1, r, q⟩ => ⟨vs, H1, I1, r, h2 vs H1 q⟩⟩
/-- two, three names of the def, stored without a tuple; any names, by one -/
theorem par2 {i j : Nat} {x y : Str} {a b : Expr} {px py pt pos : Pos} {kt k2 : Nat} {pt2 : Pos} (G : GC X W) (hi : X.N[i]? = some x) (hj : X.N[j]? = some y) (hij : i ≠ j) (hx : X.env.scope.names.lookup x = some .local) (hy : X.env.scope.names.lookup y = some .local)
    (hw : swappedStores [.Tuple [.Name x px, .Name y py] kt pt] (.Tuple [a, b] k2 pt2) X.env = pure (some [x, y])) (hs : swapsWithSole [.Tuple [.Name x px, .Name y py] kt pt] (.Tuple [a, b] k2 pt2) pos.line X.env = pure false := by rfl) (t : TA) (ht : PA X [a, b] t) :
    ∃ ps : TS, PS X (.Assign [.Tuple [.Name x px, .Name y py] kt pt] (.Tuple [a, b] k2 pt2) pos) ps ∧ ∀ D σ H, (t σ H fun xs H1 => ∀ H2, (H2 = H1 ∨ ∃ p, H1 p = none ∧ H2 = upd H1 p (.tup xs)) → xs.length = [i, j].length ∧ gNames [i, j] xs σ H2 D.nx) → ps D σ H := by
  refine ⟨_, ps_par G.calm G.nd hi hj hij hx hy (paUp ht) hw hs, fun D σ H h => ⟨_, h, fun xs H1 q => ?_⟩⟩
  obtain ⟨_, v, r, rfl, w, r', rfl, rfl, q'⟩ := q H1 (.inl rfl)
  exact ⟨v, w, rfl, q'⟩
theorem par3 {i j l : Nat} {x y z : Str} {a b c : Expr} {px py pz pt pos : Pos} {kt k2 : Nat} {pt2 : Pos} (G : GC X W) (hi : X.N[i]? = some x) (hj : X.N[j]? = some y) (hk : X.N[l]? = some z) (hij : i ≠ j) (hil : i ≠ l) (hjl : j ≠ l) (hx : X.env.scope.names.lookup x = some .local) (hy : X.env.scope.names.lookup y = some .local) (hz : X.env.scope.names.lookup z = some .local)
    (hw : swappedStores [.Tuple [.Name x px, .Name y py, .Name z pz] kt pt] (.Tuple [a, b, c] k2 pt2) X.env = pure (some [x, y, z])) (hs : swapsWithSole [.Tuple [.Name x px, .Name y py, .Name z pz] kt pt] (.Tuple [a, b, c] k2 pt2) pos.line X.env = pure false := by rfl) (t : TA) (ht : PA X [a, b, c] t) :
    ∃ ps : TS, PS X (.Assign [.Tuple [.Name x px, .Name y py, .Name z pz] kt pt] (.Tuple [a, b, c] k2 pt2) pos) ps ∧ ∀ D σ H, (t σ H fun xs H1 => ∀ H2, (H2 = H1 ∨ ∃ p, H1 p = none ∧ H2 = upd H1 p (.tup xs)) → xs.length = [i, j, l].length ∧ gNames [i, j, l] xs σ H2 D.nx) → ps D σ H := by
  refine ⟨_, ps_par3 G.calm G.nd hi hj hk hij hil hjl hx hy hz (paUp ht) hw hs, fun D σ H h => ⟨_, h, fun xs H1 q => ?_⟩⟩
  obtain ⟨_, v, r, rfl, w, r', rfl, u, r2, rfl, rfl, q'⟩ := q H1 (.inl rfl)
  exact ⟨v, w, u, rfl, q'⟩
theorem parT {tg : Expr} {es : List Expr} {is : List Nat} {k2 : Nat} {pt2 pos : Pos} (hg : PG X tg (gOf X.K (.tp is))) (hz : decide (is.length ≤ 16777216) = true)
    (hs : swapsWithSole [tg] (.Tuple es k2 pt2) pos.line X.env = pure false := by rfl) (hw : swappedStores [tg] (.Tuple es k2 pt2) X.env = pure none := by rfl) (h1 : (assignEach [tg] X.env).map (·.2) = [assign tg X.env] := by rfl) (t : TA) (ht : PA X es t) :
    ∃ ps : TS, PS X (.Assign [tg] (.Tuple es k2 pt2) pos) ps ∧ ∀ D σ H, (t σ H fun xs H1 => ∀ H2, (H2 = H1 ∨ ∃ p, H1 p = none ∧ H2 = upd H1 p (.tup xs)) → xs.length = is.length ∧ gNames is xs σ H2 D.nx) → ps D σ H := by
  refine ⟨_, ps_asg (pe_tup (paUp ht)) hg hs hw h1, fun D σ H h => ⟨_, h, fun xs H1 q => ?_⟩⟩
  refine ⟨by rw [(q H1 (.inl rfl)).1]; exact size_le hz, fun p hp => ?_⟩
  obtain ⟨q1, q2⟩ := q _ (.inr ⟨p, hp, rfl⟩)
  exact ⟨p, xs, rfl, SqT.of upd_same, q1, q2⟩
theorem pgs_names_nil : PGs X [] (gNames []) := pgs_nil
theorem pgs_names_cons {e : Expr} {es : List Expr} {i : Nat} {is : List Nat} (h1 : PG X e (gName i)) (h2 : PGs X es (gNames is)) (hs : (assignEach (e :: es) X.env).map (·.2) = assign e X.env :: (assignEach es X.env).map (·.2) := by rfl) : PGs X (e :: es) (gNames (i :: is)) := pgs_cons h1 h2 hs
theorem pg_tp {es : List Expr} {k : Nat} {is : List Nat} {pos : Pos} (hc : X.calm = true) (h : PGs X es (gNames is)) (hn : (assignEach es X.env).length = is.length := by rfl) (hst : (assignEach es X.env).findIdx? (·.1) = none := by rfl) : PG X (.Tuple es k pos) (gOf X.K (.tp is)) :=
  pg_tup hc h hn hst
/-! ### a, b = e -/
theorem ss_unp {tg e : Expr} {t : T} {is : List Nat} {pos : Pos} (he : SE X w cl W e t) (hg : PG X tg (gOf X.K (.tp is))) (hs : swapsWithSole [tg] e pos.line X.env = pure false := by rfl) (hw : swappedStores [tg] e X.env = pure none := by rfl) (h1 : (assignEach [tg] X.env).map (·.2) = [assign tg X.env] := by rfl) : SS X w cl W lk (.Assign [tg] e pos) (.unp is t) := by
  obtain ⟨te, p, k⟩ := he
  refine ⟨_, ps_asg p hg hs hw h1, fun D σ H U ρ er h => k σ H U ρ _ er ?_⟩
  unfold evS at h
  refine h.bind.mono (fun v ρ1 h x H1 U1 p1 r f => ?_) fun _ _ h => h.e er
  obtain ⟨d, e1, h⟩ := h.get
  obtain ⟨ρ2, e2, h⟩ := h.get
  split at e1
  · rename_i ok
    obtain ⟨U2, p2, r2⟩ := give er p1 r f e1
    refine gOf_ok p2.er r2 e2 fun σ1 sr => h σ1 H1 U2 ?_
    refine ⟨sr.er, p2.go, fun a z => .inl (p2.own a (sr.ow a z)), fun j v a h o z => ?_, fun j hj => ?_, ?_⟩
    · obtain ⟨e3, e4⟩ := sr.hd j v h o
      obtain ⟨u, e5, e6⟩ := p2.held j v e3 o
      exact .inl ⟨u, e5, e6, e4.symm.trans z⟩
    · have hn : j ∉ is := fun q => by
        have := List.all_eq_true.mp ok j q
        simp only [Bool.not_eq_true', List.contains_eq_mem, decide_eq_false_iff_not] at this
        exact this hj
      refine ⟨sr.off j hn, fun v z l => ?_⟩
      obtain ⟨v', h', l'⟩ := p2.set j v z
      exact ⟨v', (sr.offE j hn).trans h', l' l⟩
    · rw [store_len e2, ← p2.er.len, er.len]
  · cases e1
end
end Pv
set_option Elab.async false
set_option linter.all false
set_option maxRecDepth 100000
set_option maxHeartbeats 2100000
namespace Pv
open PySem L2 PyProof.Rows
section
variable {X : Cx} {w : Wd} {cl : Fun} {W : WX} {lk : List Nat}
/-! ### return -/
theorem ret_eq {t : T} (h : t.isVar = none) (ρ : Env) : evS cl lk (.ret t) ρ = (evE cl t ρ).bind fun p => .ok (.ret p.1, p.2) := by
  cases t <;> first | (unfold evS; rfl) | cases h
theorem ss_ret {e : Expr} {t : T} {pos : Pos} (hv : t.isVar = none) (he : SE X w cl W e t) : SS X w cl W lk (.Return (some e) pos) (.ret t) := by
  obtain ⟨te, p, k⟩ := he
  refine ⟨_, ps_ret p, fun D σ H U ρ er h => k σ H U ρ _ er ?_⟩
  rw [ret_eq hv] at h
  exact h.bind.mono (fun v ρ1 h x H1 U1 p1 r f => h σ H1 U1 (p1.pss er) x r fun o a z => ⟨(f o a z).1, .inr (f o a z).2⟩) fun _ _ h => h.e er
theorem ss_retN {pos : Pos} : SS X w cl W lk (.Return none pos) (.ret (.cst .none)) := by
  refine ⟨_, ps_retN, fun D σ H U ρ er h => ?_⟩
  rw [ret_eq rfl] at h
  exact h σ H U (Pss.refl er) .non .non fun z => nomatch z
theorem pss_drop {K : PySem.W.Frag} {σ : L2.St} {H : Hp} {U : Addr → Prop} {ρ : Env} {i : Nat} (er : ER K w.fa H U σ ρ) (hn : i ∉ lk) : Pss K w lk σ H U ρ σ H U (ρ.set i none) := by
  have sub : ∀ (j : Nat) (v : Vl), (ρ.set i none)[j]? = some (some v) → ρ[j]? = some (some v) := fun j v h => by
    rcases get_set_some h with ⟨_, q⟩ | ⟨_, q⟩
    · cases q
    · exact q
  refine ⟨⟨by rw [List.length_set]; exact er.len, fun j v h => er.val j v (sub j v h), fun j k v u a n h1 h2 => er.dj j k v u a n (sub j v h1) (sub k u h2), er.dom⟩, Go.refl _ _ _, fun a ⟨j, v, h, o, z⟩ => .inl ⟨j, v, sub j v h, o, z⟩,
    fun j v a h o z => .inl ⟨v, sub j v h, o, z⟩, fun j hj => ⟨rfl, fun v h l => ⟨v, by rw [List.getElem?_set_ne fun q => hn (by rw [q]; exact hj)]; exact h, l⟩⟩, List.length_set ..⟩
theorem no_drop {K : PySem.W.Frag} {fa : Nat → Option Addr} {σ : L2.St} {H : Hp} {U : Addr → Prop} {ρ : Env} {i : Nat} {v : Vl} {a : Addr} (er : ER K fa H U σ ρ) (h : ρ[i]? = some (some v)) (o : v.own = true) (z : σ[i]? = some (some (V.ref a))) : ¬ Hd (ρ.set i none) σ a := by
  rintro ⟨j, u, h1, h2, h3⟩
  rcases get_set_some h1 with ⟨_, q⟩ | ⟨n, q⟩
  · cases q
  · exact er.dj j i u v a n q h h2 o h3 z
/-- a name's value is handed back: what it holds alone goes with it -/
theorem ss_retv {i : Nat} {x : Str} {pos pos' : Pos} (hN : X.N[i]? = some x) (hv : Vis X.env.scope x) (hd : (x == ("__debug__" : Str)) = false := by decide) (hcd : (x == ("__classdict__" : Str)) = false := by decide) :
    SS X w cl W lk (.Return (some (.Name x pos)) pos') (.ret (.var i)) := by
  refine ⟨_, ps_ret (pe_var hN hv hd hcd), fun D σ H U ρ er h => ?_⟩
  unfold evS at h
  simp only at h
  split at h
  · rename_i ds e
    obtain ⟨x, e1, r⟩ := er.val i _ e
    split at h
    · exact h.elim
    · rename_i n
      have n' : i ∉ lk := by simpa using n
      refine ⟨x, e1, h σ H U (pss_drop er n') x r fun o a z => ?_⟩
      subst z
      exact ⟨no_drop er e rfl e1, .inl ⟨i, _, e, rfl, e1⟩⟩
  · rename_i ds e
    obtain ⟨x, e1, r⟩ := er.val i _ e
    split at h
    · exact h.elim
    · rename_i n
      have n' : i ∉ lk := by simpa using n
      refine ⟨x, e1, h σ H U (pss_drop er n') x r fun o a z => ?_⟩
      subst z
      exact ⟨no_drop er e rfl e1, .inl ⟨i, _, e, rfl, e1⟩⟩
  · rename_i d e
    obtain ⟨x, e1, r⟩ := er.val i _ e
    exact ⟨x, e1, h σ H U (Pss.refl er) x r fun z => nomatch z⟩
  · rename_i d e
    obtain ⟨x, e1, r⟩ := er.val i _ e
    exact ⟨x, e1, h σ H U (Pss.refl er) x r fun z => nomatch z⟩
  · exact h.elim
/-! ### x += e over ints -/
theorem look_pk {ρ : Env} {i : Nat} {d : D} (h : look ρ (.pk i) = some d) : ∃ v, ρ[i]? = some (some v) ∧ v.view = some d := by
  unfold look at h
  simp only at h
  split at h
  · rename_i v e
    exact ⟨v, e, h⟩
  · cases h
theorem view_int {v : Vl} {a : Int} (h : v.view = some (.int a)) : v = .dat (.int a) := by
  cases v with
  | dat d => unfold Vl.view at h; cases h; rfl
  | _ => unfold Vl.view at h; cases h
theorem ss_aug {i : Nat} {x : Str} {e : Expr} {t : T} {o : Bin} {op : Operator} {pos pos' : Pos} (G : GC X W) (hi : X.N[i]? = some x) (hx : Loc X.env.scope x) (he : SO X w cl W e t) (ho : (o = .add ∧ op = .Add) ∨ (o = .sub ∧ op = .Sub))
    (hf : X.fn x = true ∨ X.env.scope.names.lookup x = some .local := by first | exact .inl rfl | exact .inr rfl) : SS X w cl W lk (.AugAssign (.Name x pos') op e pos) (.aug i o t) := by
  obtain ⟨te, p, k⟩ := he
  have fin : ∀ {D : Ends} {σ : L2.St} {H H1 : Hp} {U U1 : Addr → Prop} {ρ ρ1 : Env} {z : Int}, ER X.K w.fa H U σ ρ → Pst X.K w.fa σ H U ρ H1 U1 ρ1 →
      Aft ((get (putS lk ρ1 i (.dat (.int z)))).bind fun ρ' => Res.ok (Flow.nx, ρ')) (OkF X.K w lk σ H U ρ D) (XcF X.K w W lk σ H U ρ) → D.nx (σ.set i (some (.int z))) H1 := by
    intro D σ H H1 U U1 ρ ρ1 z er p1 h
    obtain ⟨ρ2, e2, h⟩ := h.get
    obtain ⟨n, hi, rfl⟩ := putS_some e2
    exact h _ H1 U1 (pss_set er p1 (.int _) (fun o => nomatch o) n hi)
  have val : ∀ {σ : L2.St} {H : Hp} {U : Addr → Prop} {ρ : Env} {x : D}, ER X.K w.fa H U σ ρ → look ρ (.pk i) = some x → ∃ y, σ[i]? = some (some y) ∧ ∀ a, x = .int a → y = .int a := by
    intro σ H U ρ x er h
    obtain ⟨v, e1, e2⟩ := look_pk h
    obtain ⟨y, e3, r⟩ := er.val i _ e1
    refine ⟨y, e3, fun a z => ?_⟩
    subst z
    rw [view_int e2] at r
    cases r
    rfl
  rcases ho with ⟨rfl, rfl⟩ | ⟨rfl, rfl⟩
  · refine ⟨_, ps_aug G.nd hi hx p ip_add hf, fun D σ H U ρ er h => ?_⟩
    unfold evS at h
    obtain ⟨x, e1, h⟩ := h.get
    obtain ⟨y0, e3, hy⟩ := val er e1
    refine ⟨_, e3, k σ H U ρ _ er (h.bind.mono (fun q ρ1 h y H1 U1 p1 r => ?_) fun _ _ h => h.e er)⟩
    obtain ⟨y', e2, h⟩ := h.get
    cases x with
    | int a =>
      cases y' with
      | int b =>
        have := rp_int (r.vw p1.er e2)
        subst this
        exact ⟨a, b, hy a rfl, rfl, fin er p1 h⟩
      | _ => exact h.elim
    | _ => exact h.elim
  · refine ⟨_, ps_aug G.nd hi hx p ip_sub hf, fun D σ H U ρ er h => ?_⟩
    unfold evS at h
    obtain ⟨x, e1, h⟩ := h.get
    obtain ⟨y0, e3, hy⟩ := val er e1
    refine ⟨_, e3, k σ H U ρ _ er (h.bind.mono (fun q ρ1 h y H1 U1 p1 r => ?_) fun _ _ h => h.e er)⟩
    obtain ⟨y', e2, h⟩ := h.get
    cases x with
    | int a =>
      cases y' with
      | int b =>
        have := rp_int (r.vw p1.er e2)
        subst this
        exact ⟨a, b, hy a rfl, rfl, fin er p1 h⟩
      | _ => exact h.elim
    | _ => exact h.elim
/-! ### what is held alone is changed -/
theorem pss_mut {K : PySem.W.Frag} {σ : L2.St} {H H1 : Hp} {U U1 : Addr → Prop} {ρ ρ1 : Env} {i : Nat} {v v' : Vl} {a : Addr} {o : HO} (er : ER K w.fa H U σ ρ) (p : Pst K w.fa σ H U ρ H1 U1 ρ1) (e : ρ1[i]? = some (some v)) (m : v.mut = true) (m' : v'.mut = true)
    (es : σ[i]? = some (some (V.ref a))) (r : RV K w.fa (upd H1 a o) U1 (.ref a) v') : Pss K w lk σ H U ρ σ (upd H1 a o) U1 (ρ1.set i (some v')) := by
  have oa : Ow ρ1 σ a := ⟨i, v, e, m, es⟩
  have ua : U1 a := p.er.ow oa
  have hi : i < ρ1.length := (List.getElem?_eq_some_iff.mp e).1
  have s : Sta H1 U1 (upd H1 a o) U1 := ⟨fun b ob h z => by rw [upd_ne fun q => z (by rw [q]; exact ua)]; exact h, fun b h => .inl h⟩
  have dom : ∀ b, H1 b ≠ none → upd H1 a o b ≠ none := fun b h => by
    by_cases q : b = a
    · subst q; rw [upd_same]; simp
    · rw [upd_ne q]; exact h
  have back : ∀ (j : Nat) (u : Vl), (ρ1.set i (some v'))[j]? = some (some u) → u.own = true → ∃ u', ρ1[j]? = some (some u') ∧ u'.own = true := fun j u h q => by
    rcases get_set_some h with ⟨rfl, z⟩ | ⟨n, z⟩
    · exact ⟨v, e, mut_own m⟩
    · exact ⟨u, z, q⟩
  refine ⟨⟨by rw [List.length_set]; exact p.er.len, fun j u h => ?_, fun j k u u' b n h1 h2 o1 o2 z1 z2 => ?_, fun b u => dom b (p.er.dom b u)⟩, ?_, fun b ⟨j, u, h, q, z⟩ => ?_, fun j u b h q z => ?_, fun j hj => ⟨rfl, fun u h l => ?_⟩, by rw [List.length_set, ← p.er.len, er.len]⟩
  · rcases get_set_some h with ⟨rfl, q⟩ | ⟨n, q⟩
    · cases q
      exact ⟨_, es, r⟩
    · obtain ⟨x, e1, r1⟩ := p.er.val j u q
      refine ⟨x, e1, r1.sta s fun ou b z ub => ⟨fun ob y => ?_, ub⟩⟩
      subst z
      rw [upd_ne fun z => ?_]
      · exact y
      · subst z
        exact p.er.dj j i u v _ n q e ou (mut_own m) e1 es
  · obtain ⟨w1, g1, g2⟩ := back j u h1 o1
    obtain ⟨w2, g3, g4⟩ := back k u' h2 o2
    exact p.er.dj j k w1 w2 b n g1 g3 g2 g4 z1 z2
  · refine p.go.trans (own' := Ow ρ1 σ) ⟨fun b ob h n => ?_, fun b u _ => u, fun b u => .inl u, dom⟩ (fun b h => .inl (p.own b h)) er.dom
    rw [upd_ne fun q => n (by rw [q]; exact oa)]
    exact h
  · rcases get_set_some h with ⟨rfl, y⟩ | ⟨n, y⟩
    · rw [es] at z
      cases z
      exact .inl (p.own a oa)
    · exact .inl (p.own b ⟨j, u, y, q, z⟩)
  · obtain ⟨w1, g1, g2⟩ := back j u h q
    obtain ⟨w2, g3, g4⟩ := p.held j w1 g1 g2
    exact .inl ⟨w2, g3, g4, z⟩
  · obtain ⟨u', h', l'⟩ := p.set j u h
    by_cases q : i = j
    · subst q
      exact ⟨v', List.getElem?_set_self hi, mut_LL m'⟩
    · exact ⟨u', by rw [List.getElem?_set_ne q]; exact h', l' l⟩
/-- l.append(e) -/
theorem ss_app {i : Nat} {x : Str} {e : Expr} {t : T} {apos cpos pos pos' : Pos} (hi : X.N[i]? = some x) (hv : Vis X.env.scope x) (he : SE X w cl W e t)
    (hbase : attributeBase (.Name x pos') "append" X.env (eval (.Name x pos') X.env) = eval (.Name x pos') X.env := by rfl)
    (hfew : ((backTo cpos (starEach [e] X.env)).all (fun x => !x.1) &&
      (backToKw cpos (keywordEach [] X.env)).all (fun x => x.1.isSome) && decide
        (([e] : List Expr).length + ([] : List Keyword).length + (if ([] : List Keyword).isEmpty then 0 else 1) < 30)) = true := by rfl)
    (hline : (apos.endLine == cpos.line) = true := by rfl) (hs : starEach [e] X.env = [(false, eval e X.env)] := by rfl) (hplain : (backTo cpos (starEach [] X.env)).any (·.1) = false := by rfl)
    (hsw : swapsWith (.Call (.Attribute (.Name x pos') "append" apos) [e] [] cpos) none pos.line X.env = pure false := by rfl)
    (hd : (x == ("__debug__" : Str)) = false := by decide)
    (hcd : (x == ("__classdict__" : Str)) = false := by decide) :
    SS X w cl W lk (.Expr (.Call (.Attribute (.Name x pos') "append" apos) [e] [] cpos) pos) (.app i t) := by
  obtain ⟨te, p, k⟩ := he
  refine ⟨_, ps_expr (pe_bm F.plainAttrs_list F.slot_list_append F.type_list_append mt_append (pe_var hi hv hd hcd) (pa_cons p pa_nil hs) hbase hfew hline hs hplain) hsw, fun D σ H U ρ er h => ?_⟩
  unfold evS at h
  split at h
  · rename_i l0 e0
    obtain ⟨y0, e1, r0⟩ := er.val i _ e0
    obtain ⟨a, vs0, rfl, u0, h0, rr0⟩ := r0
    refine ⟨_, e1, .inl ⟨rfl, vs0, SqL.of h0⟩, k σ H U ρ _ er (h.bind.mono (fun v ρ1 h y H1 U1 p1 r f => ?_) fun _ _ h => h.e er)⟩
    obtain ⟨d, e2, h⟩ := h.get
    obtain ⟨U2, p2, r2⟩ := give er p1 r f e2
    split at h
    · rename_i ds e3
      split at h
      · rename_i c
        obtain ⟨y1, e4, r1⟩ := p2.er.val i _ e3
        rw [e1] at e4
        cases e4
        obtain ⟨a', vs, q, u1, h1, rr⟩ := r1
        cases q
        refine ⟨a, vs, y, rfl, rfl, h1, by rw [rr.len, sizeLine_eq]; exact of_decide_eq_true c, h σ _ U2 (pss_mut er p2 e3 rfl rfl e1 ?_)⟩
        have s : Sta H1 U2 (upd H1 a (.lst (vs ++ [y]))) U2 := ⟨fun b ob h z => by rw [upd_ne fun q => z (by rw [q]; exact u1)]; exact h, fun b h => .inl h⟩
        exact ⟨a, _, rfl, u1, upd_same, (rr.app (.cons r2 .nil)).sta s⟩
      · exact h.elim
    · exact h.elim
  · exact h.elim
/-- l.extend(e) -/
theorem ss_ext {i : Nat} {x : Str} {e : Expr} {t : T} {apos cpos pos pos' : Pos} (hi : X.N[i]? = some x) (hv : Vis X.env.scope x) (he : SO X w cl W e t)
    (hbase : attributeBase (.Name x pos') "extend" X.env (eval (.Name x pos') X.env) = eval (.Name x pos') X.env := by rfl)
    (hfew : ((backTo cpos (starEach [e] X.env)).all (fun x => !x.1) &&
      (backToKw cpos (keywordEach [] X.env)).all (fun x => x.1.isSome) && decide
        (([e] : List Expr).length + ([] : List Keyword).length + (if ([] : List Keyword).isEmpty then 0 else 1) < 30)) = true := by rfl)
    (hline : (apos.endLine == cpos.line) = true := by rfl) (hs : starEach [e] X.env = [(false, eval e X.env)] := by rfl) (hplain : (backTo cpos (starEach [] X.env)).any (·.1) = false := by rfl)
    (hsw : swapsWith (.Call (.Attribute (.Name x pos') "extend" apos) [e] [] cpos) none pos.line X.env = pure false := by rfl)
    (hd : (x == ("__debug__" : Str)) = false := by decide)
    (hcd : (x == ("__classdict__" : Str)) = false := by decide) :
    SS X w cl W lk (.Expr (.Call (.Attribute (.Name x pos') "extend" apos) [e] [] cpos) pos) (.ext i t) := by
  obtain ⟨te, p, k⟩ := he
  refine ⟨_, ps_expr (pe_bm F.plainAttrs_list F.slot_list_extend F.type_list_extend mt_extend (pe_var hi hv hd hcd) (pa_cons p pa_nil hs) hbase hfew hline hs hplain) hsw, fun D σ H U ρ er h => ?_⟩
  unfold evS at h
  split at h
  · rename_i l0 e0
    obtain ⟨y0, e1, r0⟩ := er.val i _ e0
    obtain ⟨a, vs0, rfl, u0, h0, rr0⟩ := r0
    refine ⟨_, e1, .inl ⟨rfl, vs0, SqL.of h0⟩, k σ H U ρ _ er (h.bind.mono (fun q ρ1 h y H1 U1 p1 r => ?_) fun _ _ h => h.e er)⟩
    obtain ⟨d, e2, h⟩ := h.get
    have vw := r.vw p1.er e2
    split at h
    · rename_i _ _ ys ds e3
      split at h
      · rename_i c
        obtain ⟨y1, e4, r1⟩ := p1.er.val i _ e3
        rw [e1] at e4
        cases e4
        obtain ⟨a', vs, q, u1, h1, rr⟩ := r1
        cases q
        obtain ⟨b, zs, rfl, hb, rz⟩ := vw
        refine ⟨a, b, vs, zs, rfl, rfl, h1, hb, by rw [rr.len, rz.len]; exact size_le c, h σ _ U1 (pss_mut er p1 e3 rfl rfl e1 ?_)⟩
        have s : Sta H1 U1 (upd H1 a (.lst (vs ++ zs))) U1 := ⟨fun b ob h z => by rw [upd_ne fun q => z (by rw [q]; exact u1)]; exact h, fun b h => .inl h⟩
        exact ⟨a, _, rfl, u1, upd_same, (rr.app rz).sta s⟩
      · exact h.elim
    · exact h.elim
  · exact h.elim
/-! ### d[k] = e -/
theorem KvR.put {K : PySem.W.Frag} {H : Hp} {U : Addr → Prop} {ws : List (Key × V)} {kvs : List (Str × D)} {k : Str} {v : V} {d : D} (h : KvR K H U ws kvs) (r : Rp K H U v d) : KvR K H U (putK ws (.inr k) v) (putD kvs k d) := by
  have any : ∀ {ws : List (Key × V)} {kvs : List (Str × D)}, KvR K H U ws kvs → (ws.any fun kv => decide (kv.1 = .inr k)) = (kvs.any fun q => decide (q.1 = k)) := by
    intro ws kvs h
    induction h with
    | nil => rfl
    | cons _ _ ih => rw [List.any_cons, List.any_cons, ih]; simp
  have mp : ∀ {ws : List (Key × V)} {kvs : List (Str × D)}, KvR K H U ws kvs → KvR K H U (ws.map fun kv => if kv.1 = .inr k then (kv.1, v) else kv) (kvs.map fun q => if q.1 = k then (q.1, d) else q) := by
    intro ws kvs h
    induction h with
    | nil => exact .nil
    | @cons k' _ _ _ _ h _ ih =>
      simp only [List.map_cons]
      by_cases q : k' = k
      · subst q
        rw [if_pos rfl, if_pos rfl]
        exact .cons r ih
      · rw [if_neg (by simpa using q), if_neg (by simpa using q)]
        exact .cons h ih
  have app : ∀ {ws : List (Key × V)} {kvs : List (Str × D)}, KvR K H U ws kvs → KvR K H U (ws ++ [(.inr k, v)]) (kvs ++ [(k, d)]) := by
    intro ws kvs h
    induction h with
    | nil => exact .cons r .nil
    | cons h _ ih => exact .cons h ih
  unfold putK putD
  rw [any h]
  split
  · exact mp h
  · exact app h
theorem KvR.len {K : PySem.W.Frag} {H : Hp} {U : Addr → Prop} {ws : List (Key × V)} {kvs : List (Str × D)} (h : KvR K H U ws kvs) : ws.length = kvs.length := by
  induction h with
  | nil => rfl
  | cons _ _ ih => simp [ih]
theorem KvR.get {K : PySem.W.Frag} {H : Hp} {U : Addr → Prop} {ws : List (Key × V)} {kvs : List (Str × D)} {k : Str} (h : KvR K H U ws kvs) : match valD kvs k with
    | some d => ∃ v, valV ws (.inr k) = some v ∧ Rp K H U v d
    | none => valV ws (.inr k) = none := by
  induction h with
  | nil => exact rfl
  | @cons k' v d ws kvs h _ ih =>
    by_cases q : k' = k
    · subst q
      have e1 : valD ((k', d) :: kvs) k' = some d := by simp [valD, List.find?_cons]
      rw [e1]
      exact ⟨v, valV_pos rfl, h⟩
    · have e1 : valD ((k', d) :: kvs) k = valD kvs k := by simp [valD, List.find?_cons, q]
      have e2 : valV ((.inr k', v) :: ws) (.inr k : Key) = valV ws (.inr k) := valV_neg (by simpa using q)
      rw [e1, e2]
      exact ih
theorem keyOf_some {v : Vl} {k : Str} (h : keyOf v = some k) : v = .dat (.str k) := by
  unfold keyOf at h
  split at h
  · cases h; rfl
  · cases h
theorem ss_putd {i : Nat} {x : Str} {ke e : Expr} {tk t : T} {spos pos pos' : Pos} (G : GC X W) (hi : X.N[i]? = some x) (hv : Vis X.env.scope x) (hk : SE X w cl W ke tk) (he : SE X w cl W e t)
    (hs : swapsWith e (some (.Subscript (.Name x pos') ke spos)) pos.line X.env = pure false := by rfl)
    (hd : (x == ("__debug__" : Str)) = false := by decide)
    (hcd : (x == ("__classdict__" : Str)) = false := by decide) :
    SS X w cl W lk (.Assign [.Subscript (.Name x pos') ke spos] e pos) (.putd i tk t) := by
  obtain ⟨te, p, k⟩ := he
  obtain ⟨tke, pk, kk⟩ := hk
  refine ⟨_, ps_dput (by have := G.room; omega) (pe_var hi hv hd hcd) pk p hs, fun D σ H U ρ er h => k σ H U ρ _ er ?_⟩
  unfold evS at h
  refine h.bind.mono (fun v ρ1 h y H1 U1 p1 r f => ?_) fun _ _ h => h.e er
  obtain ⟨d, e2, h⟩ := h.get
  obtain ⟨U2, p2, r2⟩ := give er p1 r f e2
  split at h
  · rename_i kvs0 e0
    obtain ⟨y0, e1, r0⟩ := p2.er.val i _ e0
    obtain ⟨a, ws0, rfl, u0, h0, rr0⟩ := r0
    refine ⟨_, e1, kk σ H1 U2 ρ1 _ p2.er (h.bind.mono (fun kv ρ2 h ky H3 U3 p3 r3 f3 => ?_) fun _ _ h => h.e er |>.on er p2)⟩
    obtain ⟨ks, e3, h⟩ := h.get
    have e3' : keyOf kv = some ks := e3
    rw [keyOf_some e3'] at r3
    have hky : ky = .str ks := by cases r3; rfl
    subst hky
    split at h
    · rename_i kvs e4
      split at h
      · rename_i c
        obtain ⟨y1, e5, r1⟩ := p3.er.val i _ e4
        rw [e1] at e5
        cases e5
        obtain ⟨a', ws, q, u1, h1, rr⟩ := r1
        cases q
        refine ⟨a, _, rfl, DPut.k (k := .inr ks) h1 (by rw [rr.len, sizeLine_eq]; exact of_decide_eq_true c), h σ _ U3 (pss_mut er (p2.trans er p3) e4 rfl rfl e1 ?_)⟩
        have s : Sta H3 U3 (upd H3 a (.dK (putK ws (.inr ks) y))) U3 := ⟨fun b ob h z => by rw [upd_ne fun q => z (by rw [q]; exact u1)]; exact h, fun b h => .inl h⟩
        exact ⟨a, _, rfl, u1, upd_same, (rr.put (r2.sta (p3.sta p2.er))).sta s⟩
      · exact h.elim
    · exact h.elim
  · exact h.elim
/-! ### for -/
section
variable {K : PySem.W.Frag} {σ σ' σ1 : L2.St} {H H' H1 : Hp} {U U' U1 : Addr → Prop} {ρ ρ' ρ1 : Env} {o : Opn} {a : Addr}
theorem hd_unlock {ρ0 : Env} (h : Hd (unlockO ρ0 o ρ) σ a) : Hd ρ σ a := by
  obtain ⟨j, v, h1, h2, h3⟩ := h
  rcases unlock_some h1 with q | ⟨l, ds, _, q, rfl⟩
  · exact ⟨j, v, q, h2, h3⟩
  · exact ⟨j, _, q, rfl, h3⟩
theorem hd_lock (h : Hd (lockO o ρ) σ a) : Hd ρ σ a :=
  let ⟨j, _, h1, h2, h3⟩ := h
  let ⟨v, e1, e2⟩ := own_lock h1 h2
  ⟨j, v, e1, e2, h3⟩
theorem pss_lock (er : ER K w.fa H U σ ρ) : Pss K w lk σ H U ρ σ H U (lockO o ρ) :=
  ⟨er_lock er, Go.refl _ _ _, fun a h => .inl (lock_sub h), fun j v a h q z => let ⟨u, e1, e2⟩ := own_lock h q; .inl ⟨u, e1, e2, z⟩, fun j _ => ⟨rfl, fun v h l => let ⟨v', e1, e2⟩ := set_lock h; ⟨v', e1, e2 l⟩⟩, lock_len o ρ⟩
theorem pss_unlock (er : ER K w.fa H U σ ρ) (p1 : Pst K w.fa σ H U ρ H1 U1 ρ1) (p : Pss K w lk σ H1 U1 (lockO o ρ1) σ' H' U' ρ') : Pss K w lk σ H U ρ σ' H' U' (unlockO ρ1 o ρ') := by
  have from_ : ∀ (j : Nat) (v : Vl), (unlockO ρ1 o ρ')[j]? = some (some v) → v.own = true → ∃ u, ρ'[j]? = some (some u) ∧ u.own = true := fun j v h q => by
    rcases unlock_some h with z | ⟨l, ds, _, z, rfl⟩
    · exact ⟨v, z, q⟩
    · exact ⟨_, z, rfl⟩
  refine ⟨⟨by rw [unlock_len]; exact p.er.len, fun j v h => ?_, fun j k u u' b n h1 h2 o1 o2 z1 z2 => ?_, p.er.dom⟩, p1.go.trans (p.go.mono fun _ h => lock_sub h) (fun b h => .inl (p1.own b h)) er.dom, fun b ⟨j, v, h, m, z⟩ => ?_, fun j v b h q z => ?_, fun j hj => ⟨(p.lk j hj).1, fun v h l => ?_⟩, ?_⟩
  · rcases unlock_some h with z | ⟨l, ds, _, z, rfl⟩
    · exact p.er.val j v z
    · obtain ⟨x, e1, r⟩ := p.er.val j _ z
      exact ⟨x, e1, r⟩
  · obtain ⟨w1, g1, g2⟩ := from_ j u h1 o1
    obtain ⟨w2, g3, g4⟩ := from_ k u' h2 o2
    exact p.er.dj j k w1 w2 b n g1 g3 g2 g4 z1 z2
  · rcases unlock_some h with y | ⟨l, ds, h1, y, rfl⟩
    · rcases p.own b ⟨j, v, y, m, z⟩ with q | q
      · exact .inl (p1.own b (lock_sub q))
      · exact .inr (none_of p1 q)
    · rcases p.held j _ b y rfl z with ⟨u, _, _, e3⟩ | q
      · exact .inl (p1.own b ⟨j, _, h1, rfl, e3⟩)
      · exact .inr (none_of p1 q)
  · obtain ⟨u, e1, e2⟩ := from_ j v h q
    rcases p.held j u b e1 e2 z with ⟨u2, e3, e4, e5⟩ | q
    · obtain ⟨u3, e6, e7⟩ := own_lock e3 e4
      obtain ⟨u4, e8, e9⟩ := p1.held j u3 e6 e7
      exact .inl ⟨u4, e8, e9, e5⟩
    · exact .inr (none_of p1 q)
  · obtain ⟨v1, e1, l1⟩ := p1.set j v h
    obtain ⟨v2, e2, l2⟩ := set_lock (o := o) e1
    obtain ⟨v3, e3, l3⟩ := (p.lk j hj).2 v2 e2 (l2 (l1 l))
    obtain ⟨v4, e4, l4⟩ := unlock_set (ρ0 := ρ1) (o := o) e3
    exact ⟨v4, e4, l4 l3⟩
  · rw [unlock_len, p.len, lock_len, ← p1.er.len, er.len]
theorem pss_store {tg : Tg} {d : D} (g : Grow H H') (e : store tg d ρ = some ρ1) (ok : tgOk lk tg = true) (sr : StoreR K w H' U σ ρ (tgIx tg) σ1 ρ1) : Pss K w lk σ H U ρ σ1 H' U ρ1 := by
  have no : ∀ j ∈ lk, j ∉ tgIx tg := by
    intro j hj q
    cases tg with
    | nm i =>
      obtain rfl : j = i := List.mem_singleton.mp q
      unfold tgOk at ok
      simp at ok
      exact ok hj
    | tp is =>
      have := List.all_eq_true.mp ok j q
      simp at this
      exact this hj
  exact ⟨sr.er, Go.grow g, fun a z => .inl (sr.ow a z), fun j v a h o z => let ⟨e3, e4⟩ := sr.hd j v h o; .inl ⟨v, e3, o, e4.symm.trans z⟩, fun j hj => ⟨sr.off j (no j hj), fun v z l => ⟨v, (sr.offE j (no j hj)).trans z, l⟩⟩, store_len e⟩
end
theorem ss_for {tg iter : Expr} {body : List Stmt} {tgT : Tg} {k : Wkd} {tit : T} {sb : List S} {pos : Pos} (G : GC X W) (hpo : PassesOwn (model X.prog X.w) X.A X.env X.xe) (hi : SI X w cl W tg iter tit k) (hg : PG X tg (gOf X.K tgT)) (hb : SSs X w cl W lk body sb)
    (hs : ∀ x, foldedSetIterable iter X.env x = pure x := by intro _; rfl) : SS X w cl W lk (.For tg iter body [] pos) (.forl tgT k tit sb) := by
  obtain ⟨wi, pi, ki⟩ := hi
  obtain ⟨tb, pb, kb⟩ := hb
  refine ⟨_, ps_for hpo G.calm pi hg pb hs, fun D σ H U ρ er h => ki σ H U ρ _ er ?_⟩
  unfold evS at h
  refine h.bind.mono (fun o ρ1 h => ?_) fun _ _ h => h.e er
  obtain ⟨x, e1, h⟩ := h.get
  obtain ⟨ds, e2, h⟩ := h.get
  split at h
  · rename_i ok
    refine ⟨x, ds, e1, e2, fun J src H1 U1 p1 wk hsrc hz => ?_⟩
    have er1 := er_lock (o := o) p1.er
    have k0 : Aft (forTurns tgT (evSs cl lk sb) ds (lockO o ρ1)) (OkF X.K w lk σ H1 U1 (lockO o ρ1) D) (XcF X.K w W lk σ H1 U1 (lockO o ρ1)) := by
      refine h.bind.mono (fun f ρ' h σ' H' U' p => ?_) fun ex ρ' h => h.on er ((p1.pss er).trans er (pss_lock p1.er))
      have h' := h σ' H' U' (pss_unlock er p1 p)
      cases f with
      | nx => exact h'
      | brk => exact h'
      | cnt => exact h'
      | ret v =>
        refine fun x r f => h' x r fun q a z => ?_
        obtain ⟨f1, f2⟩ := f q a z
        refine ⟨fun y => f1 (hd_unlock y), f2.imp (fun y => p1.hdd a (hd_lock y)) fun y => none_of p1 y⟩
    refine ⟨fun i m σi Hi => ∃ Ui ρi, m = ds.length - i ∧ i ≤ ds.length ∧ Pss X.K w lk σ H1 U1 (lockO o ρ1) σi Hi Ui ρi ∧ Aft (forTurns tgT (evSs cl lk sb) (ds.drop i) ρi) (OkF X.K w lk σ H1 U1 (lockO o ρ1) D) (XcF X.K w W lk σ H1 U1 (lockO o ρ1)),
      ⟨ds.length, U1, lockO o ρ1, rfl, Nat.zero_le _, Pss.refl er1, by rw [List.drop_zero]; exact k0⟩, ?_⟩
    rintro i m σi Hi ⟨Ui, ρi, rfl, hi, pi, kk⟩
    obtain ⟨w1, w2⟩ := wk i Hi Ui (hsrc Hi Ui pi.go) pi.er.dom
    by_cases hlt : i < ds.length
    · obtain ⟨go, yl⟩ := w1 hlt
      refine .inr ⟨go, fun σ' H' => ∃ U' ρ', Pss X.K w lk σ H1 U1 (lockO o ρ1) σ' H' U' ρ' ∧ Aft (forTurns tgT (evSs cl lk sb) (ds.drop (i + 1)) ρ') (OkF X.K w lk σ H1 U1 (lockO o ρ1) D) (XcF X.K w W lk σ H1 U1 (lockO o ρ1)),
        fun σ' H' ⟨U', ρ', h1, h2⟩ => ⟨ds.length - (i + 1), by omega, U', ρ', rfl, hlt, h1, h2⟩, fun x H' hx => ?_⟩
      obtain ⟨gr, d, e3, rx⟩ := yl x H' hx
      rw [List.getElem?_eq_getElem hlt] at e3
      cases e3
      rw [List.drop_eq_getElem_cons hlt] at kk
      unfold forTurns at kk
      obtain ⟨ρ2, e4, kk⟩ := kk.get
      refine gOf_ok (er_grow pi.er gr) rx e4 fun σ2 sr => ?_
      have ps : Pss X.K w lk σ H1 U1 (lockO o ρ1) σ2 H' Ui ρ2 := pi.trans er1 (pss_store gr e4 ok sr)
      refine kb _ σ2 H' Ui ρ2 sr.er (kk.bind.mono (fun f ρ3 kk => ?_) fun ex ρ3 kk => kk.on er1 ps)
      cases f with
      | nx => exact fun σ3 H3 U3 p3 => ⟨U3, ρ3, ps.trans er1 p3, kk⟩
      | cnt => exact fun σ3 H3 U3 p3 => ⟨U3, ρ3, ps.trans er1 p3, kk⟩
      | brk => exact fun σ3 H3 U3 p3 => kk σ3 H3 U3 (ps.trans er1 p3)
      | ret v =>
        have kk' : OkF X.K w lk σ H1 U1 (lockO o ρ1) D (.ret v) ρ3 := kk
        exact fun σ3 H3 U3 p3 => kk'.on er1 ps σ3 H3 U3 p3
    · have e : i = ds.length := by omega
      refine .inl ⟨w2 (by omega), ?_⟩
      rw [e, List.drop_length] at kk
      exact kk σi Hi Ui pi
  · exact h.elim
end
end Pv
set_option Elab.async false
set_option linter.all false
set_option maxRecDepth 100000
set_option maxHeartbeats 2100000
namespace Pv
open PySem L2 PyProof.Rows
/-! ### a def's entry, a def's end -/
theorem lentOf_mem : ∀ {ws : List Vl} {j i : Nat}, i ∈ lentOf ws j ↔ ∃ m v, i = j + m ∧ ws[m]? = some v ∧ v.own = true
  | [], j, i => by
    unfold lentOf
    exact ⟨(fun h => by cases h), (fun h => by obtain ⟨m, v, _, h, _⟩ := h; simp at h)⟩
  | u :: us, j, i => by
    have ih := lentOf_mem (ws := us) (j := j + 1) (i := i)
    have tail : (∃ m v, i = j + 1 + m ∧ us[m]? = some v ∧ v.own = true) → ∃ m v, i = j + m ∧ (u :: us)[m]? = some v ∧ v.own = true := fun ⟨m, v, h1, h2, h3⟩ => ⟨m + 1, v, by omega, by simpa using h2, h3⟩
    unfold lentOf
    split
    · rename_i o
      rw [List.mem_cons, ih]
      constructor
      · rintro (rfl | h)
        · exact ⟨0, u, rfl, rfl, o⟩
        · exact tail h
      · rintro ⟨m, v, h1, h2, h3⟩
        cases m with
        | zero => exact .inl h1
        | succ m => exact .inr ⟨m, v, by omega, by simpa using h2, h3⟩
    · rename_i o
      rw [ih]
      constructor
      · exact tail
      · rintro ⟨m, v, h1, h2, h3⟩
        cases m with
        | zero =>
          simp at h2
          subst h2
          exact (o h3).elim
        | succ m => exact ⟨m, v, by omega, by simpa using h2, h3⟩
theorem start_get {α : Type} {vs : List α} {n i : Nat} {x : α} : (vs.map some ++ List.replicate n (none : Option α))[i]? = some (some x) ↔ vs[i]? = some x := by
  by_cases h : i < vs.length
  · rw [List.getElem?_append_left (by simpa using h)]
    exact map_some_get
  · rw [List.getElem?_append_right (by simpa using h), List.getElem?_replicate, List.getElem?_eq_none (by omega)]
    constructor
    · intro z
      split at z <;> cases z
    · intro z; cases z
section
variable {K : PySem.W.Frag} {w : Wd} {H : Hp} {U : Addr → Prop}
theorem er_start {vs : List V} {ws : List Vl} {n : Nat} (er : ER K w.fa H U (vs.map some) (ws.map some)) : ER K w.fa H U (vs.map some ++ List.replicate (n - vs.length) none) (startE n ws) := by
  have hl : vs.length = ws.length := by simpa using er.len
  unfold startE
  refine ⟨by simp [hl], fun i v h => ?_, fun i j v u a ne h1 h2 o1 o2 z1 z2 => ?_, er.dom⟩
  · obtain ⟨x, e1, r⟩ := er.val i v (map_some_get.mpr (start_get.mp h))
    exact ⟨x, start_get.mpr (map_some_get.mp e1), r⟩
  · exact er.dj i j v u a ne (map_some_get.mpr (start_get.mp h1)) (map_some_get.mpr (start_get.mp h2)) o1 o2 (map_some_get.mpr (start_get.mp z1)) (map_some_get.mpr (start_get.mp z2))
theorem ow_start {vs : List V} {ws : List Vl} {n m : Nat} {a : Addr} (h : Ow (startE n ws) (vs.map some ++ List.replicate m none) a) : Ow (ws.map some) (vs.map some) a := by
  obtain ⟨i, v, h1, h2, h3⟩ := h
  exact ⟨i, v, map_some_get.mpr (start_get.mp h1), h2, map_some_get.mpr (start_get.mp h3)⟩
theorem fin_of {vs : List V} {ws : List Vl} {n p : Nat} {σ' : L2.St} {H' : Hp} {U' : Addr → Prop} {ρ' : Env} (er : ER K w.fa H U (vs.map some) (ws.map some)) (hp : ws.length = p)
    (h : Pss K w (lentOf ws 0) (vs.map some ++ List.replicate (n - vs.length) none) H U (startE n ws) σ' H' U' ρ') : Fin K w vs ws H U (ρ'.take p) H' U' := by
  refine ⟨h.go.mono fun a z => ow_start z, h.er.dom, fun i v x h1 h2 h3 => ?_⟩
  have hi : i ∈ lentOf ws 0 := lentOf_mem.mpr ⟨i, v, by omega, h1, h2⟩
  obtain ⟨k1, k2⟩ := h.lk i hi
  obtain ⟨v', e1, l1⟩ := k2 v (start_get.mpr h1) (by cases v <;> first | rfl | cases h2)
  obtain ⟨y, e2, r⟩ := h.er.val i v' e1
  rw [k1, start_get.mpr h3] at e2
  cases e2
  have hlt : i < p := by
    rw [← hp]
    exact (List.getElem?_eq_some_iff.mp h1).1
  exact ⟨v', by rw [List.getElem?_take_of_lt hlt]; exact e1, r, l1⟩
/-- what is handed back is new -/
theorem ret_new {vs : List V} {ws : List Vl} {n : Nat} {σ' : L2.St} {H' : Hp} {U' : Addr → Prop} {ρ' : Env} {x : V} {v : Vl} (er : ER K w.fa H U (vs.map some) (ws.map some))
    (h : Pss K w (lentOf ws 0) (vs.map some ++ List.replicate (n - vs.length) none) H U (startE n ws) σ' H' U' ρ') (r : RV K w.fa H' U' x v) (f : RetF (vs.map some ++ List.replicate (n - vs.length) none) H (startE n ws) σ' ρ' x v) :
    v.own = true → ∀ a, x = .ref a → H a = none := by
  intro o a z
  obtain ⟨f1, f2⟩ := f o a z
  rcases f2 with ⟨i, u, h1, h2, h3⟩ | f2
  · refine (f1 ?_).elim
    have hi : i ∈ lentOf ws 0 := lentOf_mem.mpr ⟨i, u, by omega, start_get.mp h1, h2⟩
    obtain ⟨k1, k2⟩ := h.lk i hi
    obtain ⟨v', e1, l1⟩ := k2 u h1 (by cases u <;> first | rfl | cases h2)
    obtain ⟨y, e2, r'⟩ := h.er.val i v' e1
    rw [k1, h3] at e2
    cases e2
    by_cases q : v'.own = true
    · exact ⟨i, v', e1, q, by rw [k1]; exact h3⟩
    · exfalso
      subst z
      obtain ⟨b, e, ub⟩ := r.ownU o
      cases e
      cases v' with
      | dat d =>
        cases d with
        | list l =>
          cases r' with
          | lst _ n _ => exact n ub
        | _ => cases l1
      | _ => first | exact q rfl | cases l1
  · exact f2
end
section
variable {P : Program} {wd : World} {K : PySem.W.Frag} {mg : Str → Option Value} {base : Heap}
/-- the context of a def's body -/
abbrev bodyX (P : Program) (wd : World) (K : PySem.W.Frag) (mg : Str → Option Value) (base : Heap) (N : List Str) (qual : Str) (scope : Scope) (f : Addr) (cdv : Value) (A : Around) (outer : List PySem.Env) (s : Shared) (H : Hp) (E : XK) : Cx :=
  cxOf (L2.CX P wd) P wd K mg base N qual scope f cdv A outer s H E
theorem gc_of {N ps : List Str} {qual : Str} {scope : Scope} {f : Addr} {cdv : Value} {A : Around} {outer : List PySem.Env} {s : Shared} {H : Hp} {E : XK} {n : Nat} (S : FnScope N ps scope) (gd : A.guards = some []) (hr : Room n (A.deeper (envOfC qual scope s.heap.objs.size f cdv))) :
    GC (bodyX P wd K mg base N qual scope f cdv A outer s H E) (fun c d _ H' => E c d H') := by
  refine ⟨rfl, S.nd, gd, ?_, takes_of rfl rfl rfl rfl⟩
  have h := hr.un
  show (A.deeper (envOfC qual scope s.heap.objs.size f cdv)).units + 190 < cLine
  omega
theorem po_of {N : List Str} {qual : Str} {scope : Scope} {f : Addr} {cdv : Value} {A : Around} {outer : List PySem.Env} {s : Shared} {H : Hp} {E : XK} : PassesOwn (model (bodyX P wd K mg base N qual scope f cdv A outer s H E).prog (bodyX P wd K mg base N qual scope f cdv A outer s H E).w)
    (bodyX P wd K mg base N qual scope f cdv A outer s H E).A (bodyX P wd K mg base N qual scope f cdv A outer s H E).env (bodyX P wd K mg base N qual scope f cdv A outer s H E).xe := passes_of rfl
/-- a def whose body reads as its word does -/
theorem fn_df {n : Nat} {f : Addr} {name qual : Str} {params : Arguments} {body : List Stmt} {scope : Scope} {dV kV doc pm cdv ct oc : Value} {an od : Option Addr} {osl : Array (Option Value)} {N ps : List Str} {w : Wd} {Pr : List Df} {k : Nat} {d : Df}
    (hd : Pr[k]? = some d) (lk : K.lookup f = some ⟨oc, od, .func (PySem.W.fnOf name qual params body scope dV kV doc pm an cdv ct), osl⟩) (hcd : PySem.W.codeIn K cdv qual = true) (S : FnScope N ps scope) (h1 : d.ps = ps.length) (h2 : d.n = N.length)
    (hb : ∀ (A : Around) (outer : List PySem.Env) (s : Shared) (H : Hp) (E : XK) (lk : List Nat), Room n (A.deeper (envOfC qual scope s.heap.objs.size f cdv)) → A.guards = some [] →
      SSs (bodyX P wd K mg base N qual scope f cdv A outer s H E) w (evF Pr n) (fun c d _ H' => E c d H') lk body d.body) :
    FnG P wd K mg base (n + 1) f (PySem.W.fnOf name qual params body scope dV kV doc pm an cdv ct) ps (spD K w (evF Pr (n + 1)) k) := by
  have ev : ∀ ws, evF Pr (n + 1) k ws = runF (evF Pr n) d ws := fun ws => by
    show (match Pr[k]? with | some d => runF (evF Pr n) d ws | none => .stuck) = _
    rw [hd]
  have args : ∀ {vs H Q E}, spD K w (evF Pr (n + 1)) k vs H Q E → ∃ (U : Addr → Prop) (ws : List Vl), ER K w.fa H U (vs.map some) (ws.map some) ∧ ws.length = d.ps ∧ vs.length = d.ps ∧
      Aft (evSs (evF Pr n) (lentOf ws 0) d.body (startE d.n ws)) (OkF K w (lentOf ws 0) (start N vs) H U (startE d.n ws) { nx := fun _ H' => Q .non H', rt := Q }) (XcF K w (fun c d _ H' => E c d H') (lentOf ws 0) (start N vs) H U (startE d.n ws)) := by
    rintro vs H Q E ⟨U, ws, er, h⟩
    have hl : vs.length = ws.length := by simpa using er.len
    have hs : start N vs = vs.map some ++ List.replicate (d.n - vs.length) none := by rw [h2]; rfl
    rw [ev] at h
    unfold runF at h
    split at h
    · rename_i r he
      split at he
      · rename_i hw
        refine ⟨U, ws, er, hw, by omega, ?_⟩
        rw [hs]
        split at he
        · rename_i v ρ' e
          cases he
          rw [e]
          exact fun σ' H' U' p x r f => h x H' U' (fin_of er hw p) r (ret_new er p r f)
        · rename_i ρ' e
          cases he
          rw [e]
          exact fun σ' H' U' p => h .non H' U' (fin_of er hw p) .non fun o => nomatch o
        · cases he
        · cases he
        · cases he
      · cases he
    · rename_i ex fin he
      split at he
      · rename_i hw
        refine ⟨U, ws, er, hw, by omega, ?_⟩
        rw [hs]
        split at he
        · cases he
        · cases he
        · cases he
        · rename_i ex' ρ' e
          cases he
          rw [e]
          exact fun c d' σ' H' U' p rx => h c d' H' U' (fin_of er hw p) rx
        · cases he
      · cases he
    · exact h.elim
  refine ⟨fun vs H Q E q => ?_, fun A outer s H as us vs Q E hr gd e0 bd r q => ?_⟩
  · obtain ⟨_, _, _, _, h, _⟩ := args q
    omega
  · obtain ⟨U, ws, er, hw, hv, h⟩ := args q
    have hlen : vs.length = ps.length := by omega
    have inK : K.In s.heap := e0.mod.kin.keeps fun b o z => (e0.bs b o z).1
    have noL : s.heap.NoLimit := e0.mod.nolimit.keeps fun b o z => (e0.bs b o z).1
    refine codeAny_call_function hr.depth (inK _ _ lk) rfl S.co S.gen rfl
      (PySem.W.codeRec_of inK hcd) (bd _ _ _ _ ?_)
    refine wpAny_newFunctionEnv_cells S.kind (fun y hy => ?_) fun env he s1 x => ?_
    · rcases S.par y.1 (List.of_mem_zip (show (y.1, y.2) ∈ ps.zip us from hy)).1 with z | z
      · exact .inl z
      · exact .inr ⟨z, PySem.W.cellsFrom_some _ _ _ (.inl z)⟩
    subst he
    refine ⟨noL.keeps x.toInCall.keep, codeAny_func ?_⟩
    obtain ⟨t, ht, hq⟩ := hb A outer s H E (lentOf ws 0) (hr.deeper _) gd
    have I0 : Inv (bodyX P wd K mg base N qual scope f cdv A outer s H E) [] (start N vs) H s1 :=
      inv_start S hr.hd e0 hlen r x
    have er0 : ER K w.fa H U (start N vs) (startE d.n ws) := by
      have z := er_start (n := d.n) er
      rw [h2] at z ⊢
      exact z
    have go := ht.run [] s1 (start N vs) H _ I0 (hq _ (start N vs) H U (startE d.n ws) er0 h)
    refine wpAny_mono go (fun fl s' z => ?_) fun e s' z => z
    cases fl with
    | ret u =>
      obtain ⟨v, σ', H', J, rv, z⟩ := z
      exact ⟨v, H', J.os, J.bare, J.base, J.hok, rv, z⟩
    | next =>
      obtain ⟨σ', H', J, z⟩ := z
      exact ⟨.non, H', J.os, J.bare, J.base, J.hok, rfl, z⟩
    | brk =>
      obtain ⟨_, _, _, z⟩ := z
      exact z.elim
    | cont =>
      obtain ⟨_, _, _, z⟩ := z
      exact z.elim
end
end Pv
set_option Elab.async false
set_option linter.all false
set_option maxRecDepth 100000
set_option maxHeartbeats 2100000
namespace Pv
open PySem L2 PyProof.Rows PySem.Spec
/-! ### level by level -/
section
variable {P : Program} {wd : World} {K : PySem.W.Frag} {mg : Str → Option Value} {base : Heap}
/-- all defs keep their words, called at most n deep -/
def Lvl (P : Program) (wd : World) (K : PySem.W.Frag) (mg : Str → Option Value) (base : Heap) (w : Wd) (Pr : List Df) (n : Nat) : Prop :=
  ∀ k f, w.fa k = some f → FnG P wd K mg base n f (w.fd k) (w.ps k) (spD K w (evF Pr n) k)
theorem lvl_all {w : Wd} {Pr : List Df} (step : ∀ n, Lvl P wd K mg base w Pr n → Lvl P wd K mg base w Pr (n + 1)) : ∀ n, Lvl P wd K mg base w Pr n
  | 0 => fun k f _ => by
    have no : ∀ {vs H Q E}, spD K w (evF Pr 0) k vs H Q E → False := fun ⟨_, _, _, h⟩ => h
    exact ⟨fun _ _ _ _ h => (no h).elim, fun _ _ _ _ _ _ _ _ _ _ _ _ _ _ h => (no h).elim⟩
  | n + 1 => step n (lvl_all step n)
end
/-! ### the law's call -/
/-- a script's object known, nothing else tracked -/
def OneS (a : Addr) (o : Obj) (ns : List Int) : Hp := fun b => if b = a then some (.frz o (.lst (ns.map V.int))) else none
theorem law_go {P : Program} {wd : World} {K : PySem.W.Frag} {mg mb : Str → Option Value} {k : Nat} {fa a : Addr} {fd : FuncData} {x : Str} {sp : Sp} {s : Shared} {vs : List Value} {ns : List Int}
    (kin : K.In s.heap) (nm : s.heap.Ns mainGlobals mg) (nb : s.heap.Ns builtinsNs mb) (bb : ∀ x : Str, x ≠ "__name__" → mb x = bootBuiltins x) (lim : s.heap.NoLimit) (gens : s.gens = #[])
    (ha : s.heap.get? a = some { cls := .type "list", data := .seq vs.toArray }) (hi : IntsAre vs ns) (hl : ns.length ≤ sizeLine) (hr : Room k callerA)
    (F : ∀ base : Heap, K.In base → base.Ns mainGlobals mg → FnG P wd K mg base k fa fd [x] sp) (bd : ∀ (s : Shared) (u : Value), BindsTo s fd ⟨[u], []⟩ [(x, u)])
    (hsp : ∀ H : Hp, Only H → SqL K H a (ns.map V.int) → ((∃ o, H a = some (.frz o (.lst (ns.map V.int)))) ∨ SqL K (fun _ => none) a (ns.map V.int)) → sp [.ref a] H (fun v _ => v = .bl true) fun _ _ _ => False) :
    codeAny (model P wd) callerA (.call (.ref fa) ⟨[.ref a], []⟩) (fun r s' => r = .ok (.ret (.bool true)) ∧ OldK s.heap s'.heap ∧ s'.os = s.os ∧ AllBare s'.gens) s := by
  have vals := vals_ints hi
  -- whatever is tracked, it is the script at most
  suffices main : ∀ H : Hp, Only H → SqL K H a (ns.map V.int) → ((∃ o, H a = some (.frz o (.lst (ns.map V.int)))) ∨ SqL K (fun _ => none) a (ns.map V.int)) → HOk P wd H s.heap → (∀ b, H b ≠ none → b = a) → (H a ≠ none → K.lookup a = none) →
      codeAny (model P wd) callerA (.call (.ref fa) ⟨[.ref a], []⟩) (fun r s' => r = .ok (.ret (.bool true)) ∧ OldK s.heap s'.heap ∧ s'.os = s.os ∧ AllBare s'.gens) s by
    cases hk : K.lookup a with
    | some o =>
      have e := kin a o hk
      rw [ha] at e
      cases e
      have lv := hi.length
      have sq : SqL K (fun _ => none) a (ns.map V.int) :=
        .inr ⟨_, vs.toArray, _, hk, rfl, rfl, rfl, (by rw [List.size_toArray, lv]; exact hl), (by simpa using vals)⟩
      exact main (fun _ => none) (fun _ => .inl rfl) sq (.inr sq) (fun b u z => by cases (show (none : Option HO) = some u from z)) (fun b z => (z rfl).elim) fun z => (z rfl).elim
    | none =>
      have at_ : OneS a { cls := .type "list", data := .seq vs.toArray } ns a = some (.frz { cls := .type "list", data := .seq vs.toArray } (.lst (ns.map V.int))) := if_pos rfl
      have off : ∀ b, b ≠ a → OneS a { cls := .type "list", data := .seq vs.toArray } ns b = none := fun b n => if_neg n
      refine main (OneS a { cls := .type "list", data := .seq vs.toArray } ns) (fun b => ?_) (.inl (.inr ⟨_, at_⟩)) (.inl ⟨_, at_⟩) (fun b u z => ?_) (fun b z => ?_) fun _ => hk
      · by_cases q : b = a
        · subst q; exact .inr ⟨_, _, at_⟩
        · exact .inl (off b q)
      · by_cases q : b = a
        · subst q
          rw [at_] at z
          cases z
          exact ⟨ha, by rw [List.length_map]; exact hl, vs, _, vals, ha⟩
        · rw [off b q] at z; cases z
      · by_cases q : b = a
        · exact q
        · exact (z (off b q)).elim
  intro H only hS hS' hok one notK
  have free : ∀ {b : Addr} {o : Obj} {es : Array DictEntry} {n : Nat}, s.heap.get? b = some o → o.data = .dict es n → H b = none := by
    intro b o es n e d
    cases q : H b with
    | none => rfl
    | some u =>
      cases one b (by rw [q]; simp)
      rw [ha] at e
      cases e
      cases (show Data.seq vs.toArray _ = Data.dict es n from d)
  have ns_ : ∀ {b : Addr} {m : Str → Option Value}, s.heap.Ns b m → (hidT s.heap H).Ns b m :=
    fun ⟨o, es, n, e, d, r⟩ => ⟨o, es, n, hidT_get e (free e d), d, r⟩
  have kb : K.In (hidT s.heap H) := by
    intro b o e
    refine hidT_get (kin b o e) ?_
    cases q : H b with
    | none => rfl
    | some u =>
      have hb := one b (by rw [q]; simp)
      subst hb
      rw [notK (by rw [q]; simp)] at e
      cases e
  obtain ⟨mc, l1, l2⟩ := lim
  have env : Env0 P wd K mg (hidT s.heap H) callerA [] s H :=
    { frames := rfl
      mod := ⟨kb, ns_ nm, ⟨mb, ns_ nb, bb⟩, ⟨mc, ns_ l1, l2⟩⟩
      bs := fun b o e => of_hidT e
      bsz := Nat.le_of_eq (hidT_size _ _)
      funs := trivial
      frf := fun b hb => by cases hb
      hok := hok
      bare := .of_eq gens }
  refine codeAny_mono ((F _ kb (ns_ nm)).run callerA [] s H ⟨[.ref a], []⟩ [.ref a] [.ref a] _ _ hr rfl env (bd s (.ref a)) (.cons rfl .nil) (hsp H only hS hS')) fun r s' h => ?_
  cases r with
  | error e =>
    obtain ⟨_, _, _, _, _, _, _, _, _, _, _, _, no⟩ := h
    exact no.elim
  | ok fl =>
    cases fl with
    | next => exact False.elim h
    | brk => exact False.elim h
    | cont => exact False.elim h
    | ret u =>
      obtain ⟨v, H', os, bare, un, hok', r', q⟩ := id h
      obtain rfl : v = .bl true := q
      obtain rfl : u = .bool true := r'
      refine ⟨rfl, OldK.of_keep (fun b o e => ?_), os, bare⟩
      rcases only b with z | ⟨ob, xs, z⟩
      · exact un.keep b o e z (by intro z; cases z) (by simp)
      · obtain ⟨e1, _⟩ := hok b _ z
        obtain ⟨e2, _⟩ := hok' b _ (un.frzs b ob _ z)
        rw [e] at e1
        cases e1
        exact e2
/-- the law's def, over the script -/
theorem law_sp {K : PySem.W.Frag} {w : Wd} {Pr : List Df} {k n : Nat} (h : ∀ ns : List Int, ns.length ≤ 63 → ∃ fin, evF Pr n k [.scr ns] = .ok (.dat (.bool true), fin)) {H : Hp} {a : Addr} {ns : List Int} (hl : ns.length ≤ 63)
    (hs : (∃ o, H a = some (.frz o (.lst (ns.map V.int)))) ∨ SqL K (fun _ => none) a (ns.map V.int)) : spD K w (evF Pr n) k [.ref a] H (fun v _ => v = .bl true) fun _ _ _ => False := by
  obtain ⟨fin, e⟩ := h ns hl
  refine ⟨fun _ => False, [.scr ns], ⟨rfl, fun i v h => ?_, fun i j v u b n h1 h2 o1 _ _ _ => ?_, fun _ z => z.elim⟩, ?_⟩
  · cases i with
    | zero =>
      cases h
      exact ⟨_, rfl, a, rfl, hs.imp (fun ⟨o, z⟩ => ⟨o, z, fun q => q⟩) id⟩
    | succ i => simp at h
  · cases i with
    | zero => cases h1; cases o1
    | succ i => simp at h1
  · rw [e]
    intro x H' U' _ r _
    cases r
    rfl
/-- the goal that the head leaves, from the words -/
theorem walk_pv {l : PySem.W.OpenLaw} {k n : Nat} {q : Program} {loose : List Str} {XP : (Str → Option Value) → Heap → Prop} {YP : World → Heap → Prop} {d : DefRec} {K : Params → PySem.W.Frag} {x : Str} {Pr : List Df}
    (hn : l.most = some 63) (hdf : d.params.defaults = []) (hr : Room n callerA) (hY : ∀ (w : World) (h : Heap), YP w h → (K w.params).In h)
    (F : ∀ (wd : World) (mg : Str → Option Value) (fa : Addr) (h : Heap), (K wd.params).In h → h.Ns mainGlobals mg → mg d.name = some (.ref fa) →
      ∃ (fd : FuncData) (w : Wd), (∀ (s : Shared) (u : Value), BindsTo s fd ⟨[u], []⟩ [(x, u)]) ∧
        ∀ base : Heap, (K wd.params).In base → base.Ns mainGlobals mg → FnG l.prog wd (K wd.params) mg base n fa fd [x] (spD (K wd.params) w (evF Pr n) k))
    (hl : ∀ ns : List Int, ns.length ≤ 63 → ∃ fin, evF Pr n k [.scr ns] = .ok (.dat (.bool true), fin)) :
    PySem.W.WalkO q loose XP YP l.row.toRowW d [] (fun f us => PySem.call f us) := by
  refine Att.attach_call hn hdf fun w s₀ s₁ mg mb fa o pm cd doc a us ns G Y ho hd hcd hmg hobj hints hlen hg => ?_
  have kx := hY w _ Y
  obtain ⟨fd, wd, hb, hF⟩ := F w mg fa _ kx G.T.g hmg
  exact law_go kx G.T.g G.T.b G.T.builtins G.T.nolimit hg hobj hints (Nat.le_trans hlen (by decide)) hr hF hb fun H _ _ hs => law_sp hl hlen hs
end Pv
set_option Elab.async false
set_option linter.all false
set_option maxRecDepth 100000
set_option maxHeartbeats 2100000
namespace Pv
open PySem L2 PyProof.Rows
section
variable {X : Cx} {w : Wd} {cl : Fun} {W : WX}
/-! ### names of the module -/
theorem se_fnv {k : Nat} {f : Addr} {x : Str} {pos : Pos} (hk : w.fa k = some f) (hg : Gl X x) (hm : X.mg x = some (.ref f)) (hd : (x == ("__debug__" : Str)) = false := by decide) : SE X w cl W (.Name x pos) (.fn k) :=
  ⟨_, pe_glob (v := .ref f) hg hm rfl hd, fun σ H U ρ Q er h => h _ H U (Pst.refl er) ⟨f, hk, rfl⟩ fun z => nomatch z⟩
theorem se_glob {x : Str} {v : V} {u : Value} {d : D} {pos : Pos} (hg : Gl X x) (hm : X.mg x = some u) (r : RelV v u) (hr : ∀ H U, Rp X.K H U v d) (hd : (x == ("__debug__" : Str)) = false := by decide) : SE X w cl W (.Name x pos) (.cst d) :=
  ⟨_, pe_glob hg hm r hd, fun σ H U ρ Q er h => h _ H U (Pst.refl er) (hr H U) fun z => nomatch z⟩
/-! ### texts -/
theorem se_fmt {e : Expr} {t : T} {pos : Pos} (he : SE X w cl W e t) : ∃ te : TE, PE X (.FormattedValue e (-1) none pos) te ∧ ∀ σ H U ρ Q, ER X.K w.fa H U σ ρ →
    Aft ((evE cl t ρ).bind fun p => (get (txtOf p.1)).bind fun y => Res.ok (y, p.2)) (fun y ρ' => ∀ H' U', Pst X.K w.fa σ H U ρ H' U' ρ' → Q (.str y) H') (XcE X.K w W σ H U ρ) → te σ H Q := by
  obtain ⟨te, p, k⟩ := he
  refine ⟨_, pe_fmt p, fun σ H U ρ Q er h => k σ H U ρ _ er (h.bind.mono (fun v ρ1 h x H1 U1 p1 r f => ?_) fun _ _ h => h)⟩
  obtain ⟨y, e1, h⟩ := h.get
  unfold txtOf at e1
  simp only at e1
  split at e1
  · rename_i z
    split at e1 <;> cases e1
    rename_i c
    cases r
    exact .inl ⟨_, rfl, size_le c, h H1 U1 p1⟩
  · rename_i i
    split at e1 <;> cases e1
    rename_i c
    cases r
    exact .inr ⟨_, rfl, of_decide_eq_true c, h H1 U1 p1⟩
  · cases e1
/-- a part of an f-string: a constant text, or a field -/
def SF1 (X : Cx) (w : Wd) (cl : Fun) (W : WX) (e : Expr) (t : T) : Prop := ∃ te : TE, PE X e te ∧ ∀ σ H U ρ Q, ER X.K w.fa H U σ ρ →
  Aft ((evE cl t ρ).bind fun p => (get (txtOf p.1)).bind fun y => Res.ok (y, p.2)) (fun y ρ' => ∀ H' U', Pst X.K w.fa σ H U ρ H' U' ρ' → Q (.str y) H') (XcE X.K w W σ H U ρ) → te σ H Q
theorem sf_fmt {e : Expr} {t : T} {pos : Pos} (he : SE X w cl W e t) : SF1 X w cl W (.FormattedValue e (-1) none pos) t := se_fmt he
theorem sf_str {x : Str} {j : Nat} {pos : Pos} : SF1 X w cl W (.Constant (.str x) j pos) (.cst (.str x)) := by
  refine ⟨_, pe_str, fun σ H U ρ Q er h => ?_⟩
  unfold evE at h
  obtain ⟨y, e1, h⟩ := Aft.get (o := txtOf (.dat (.str x))) (k := fun y => Res.ok (y, ρ)) h
  unfold txtOf at e1
  simp only at e1
  split at e1 <;> cases e1
  exact h H U (Pst.refl er)
def SFs (X : Cx) (w : Wd) (cl : Fun) (W : WX) (es : List Expr) (ts : List T) : Prop := ∃ tes : List TE, PJ X es tes ∧ ∀ σ H U ρ acc Q, ER X.K w.fa H U σ ρ →
  Aft (evFs cl ts acc ρ) (fun y ρ' => ∀ H' U', Pst X.K w.fa σ H U ρ H' U' ρ' → Q y H') (XcE X.K w W σ H U ρ) → tJs tes acc σ H Q
theorem sf_nil : SFs X w cl W [] [] := ⟨[], .nil, fun σ H U ρ acc Q er h => by
  unfold evFs at h
  exact h H U (Pst.refl er)⟩
theorem sf_cons {e : Expr} {es : List Expr} {t : T} {ts : List T} (he : SF1 X w cl W e t) (hs : SFs X w cl W es ts) : SFs X w cl W (e :: es) (t :: ts) := by
  obtain ⟨te, p, k⟩ := he
  obtain ⟨tes, ps, ks⟩ := hs
  refine ⟨te :: tes, .cons p ps, fun σ H U ρ acc Q er h => ?_⟩
  unfold evFs at h
  refine k σ H U ρ _ er ?_
  cases q : evE cl t ρ with
  | stuck => rw [q] at h; exact h
  | exc ex ρ1 => rw [q] at h; exact h
  | ok r =>
    rw [q] at h
    obtain ⟨y, e1, h⟩ := Aft.get (k := fun y => if sizeOk (acc ++ y).length then evFs cl ts (acc ++ y) r.2 else .stuck) h
    simp only [Res.bind_ok]
    rw [e1]
    intro H1 U1 p1
    split at h
    · rename_i c
      exact ⟨y, rfl, size_le c, ks σ H1 U1 r.2 _ _ p1.er (Aft.mono h (fun z ρ2 h H2 U2 p2 => h H2 U2 (p1.trans er p2)) fun _ _ h => h.on er p1)⟩
    · exact h.elim
theorem se_fstr {e1 e2 : Expr} {es : List Expr} {ts : List T} {pos : Pos} (h : SFs X w cl W (e1 :: e2 :: es) ts) : SE X w cl W (.JoinedStr (e1 :: e2 :: es) pos) (.fstr ts) := by
  obtain ⟨tes, p, k⟩ := h
  refine ⟨_, pe_joined p, fun σ H U ρ Q er h => k σ H U ρ _ _ er ?_⟩
  unfold evE at h
  exact h.bind.mono (fun y ρ1 h H1 U1 p1 => h _ H1 U1 p1 (.str y) fun z => nomatch z) fun _ _ h => h
theorem vw_items {K : PySem.W.Frag} {H : Hp} {U : Addr → Prop} {x : V} {d : D} {ds : List D} (h : Vw K H U x d) (e : itemsL d = some ds) : ∃ a vs, x = .ref a ∧ (SqL K H a vs ∨ SqT K H a vs) ∧ Rps K H U vs ds := by
  cases d with
  | list xs =>
    cases e
    obtain ⟨a, vs, rfl, s, r⟩ := h
    exact ⟨a, vs, rfl, .inl (SqL.of s), r⟩
  | tuple xs =>
    cases e
    obtain ⟨a, vs, rfl, s, r⟩ := rp_tup h
    exact ⟨a, vs, rfl, .inr s.sq, r⟩
  | _ => cases e
theorem se_join {o e : Expr} {to t : T} {apos pos : Pos} (ho : SE X w cl W o to) (he : SO X w cl W e t) (hs : starEach [e] X.env = [(false, eval e X.env)] := by rfl) (hbase : attributeBase o "join" X.env (eval o X.env) = eval o X.env := by rfl) (hline : (apos.endLine == pos.line) = true := by rfl) :
    SE X w cl W (.Call (.Attribute o "join" apos) [e] [] pos) (.join to t) := by
  obtain ⟨eo, po, ko⟩ := ho
  obtain ⟨te, p, k⟩ := he
  refine ⟨_, pe_join po p hs hbase hline, fun σ H U ρ Q er h => ko σ H U ρ _ er ?_⟩
  unfold evE at h
  refine h.bind.mono (fun v ρ1 h x H1 U1 p1 r f => ?_) fun _ _ h => h
  obtain ⟨s, e1, h⟩ := h.get
  have e1' : keyOf v = some s := e1
  rw [keyOf_some e1'] at r
  cases r
  refine ⟨⟨s, rfl⟩, k σ H1 U1 ρ1 _ p1.er (h.bind.mono (fun q ρ2 h y H2 U2 p2 r2 => ?_) fun _ _ h => h.on er p1)⟩
  obtain ⟨d, e2, h⟩ := h.get
  obtain ⟨z, e3, h⟩ := h.get
  unfold join2 at e3
  obtain ⟨ds, e4, e3⟩ := Option.bind_eq_some_iff.mp e3
  obtain ⟨ys, e5, e3⟩ := Option.bind_eq_some_iff.mp e3
  split at e3
  case isFalse => cases e3
  rename_i c
  cases e3
  obtain ⟨a, vs, rfl, hq, rr⟩ := vw_items (r2.vw p2.er e2) e4
  have := strs_of e5 rr
  subst this
  exact ⟨s, a, ys, rfl, rfl, hq, of_decide_eq_true c, h _ H2 U2 (p1.trans er p2) (.str _) fun z => nomatch z⟩
/-! ### an own dict -/
theorem mergeK_app {κ : Type} [DecidableEq κ] : ∀ {more kvs : List (κ × V)}, (∀ p ∈ more, ∀ q ∈ kvs, q.1 ≠ p.1) → (more.map (·.1)).Nodup → more.foldl (fun acc kv => putK acc kv.1 kv.2) kvs = kvs ++ more
  | [], kvs, _, _ => by simp
  | p :: r, kvs, h, n => by
    have e : putK kvs p.1 p.2 = kvs ++ [p] := by
      unfold putK
      rw [if_neg]
      intro z
      obtain ⟨q, hq, e⟩ := List.any_eq_true.mp z
      exact h p (List.mem_cons_self ..) q hq (of_decide_eq_true e)
    rw [List.foldl_cons, e, mergeK_app (kvs := kvs ++ [p]) (fun u hu q hq => ?_) (List.nodup_cons.mp n).2, List.append_assoc]
    · rfl
    · rcases (List.mem_append.mp hq) with hq | hq
      · exact h u (List.mem_cons_of_mem _ hu) q hq
      · cases List.mem_singleton.mp hq
        intro z
        exact (List.nodup_cons.mp n).1 (List.mem_map.mpr ⟨u, hu, z.symm⟩)
def SQ (X : Cx) (w : Wd) (cl : Fun) (W : WX) (keys : List (Option Expr)) (es : List Expr) (ks : List Str) (ts : List T) : Prop := ks.length = ts.length ∧ ∃ trs, (∀ pos, PPs X pos keys es trs) ∧ ∀ σ H U ρ Q, ER X.K w.fa H U σ ρ →
  Aft (evDs cl ts ρ) (fun ds ρ' => ∀ xs H' U', Pst X.K w.fa σ H U ρ H' U' ρ' → Rps X.K H' U' xs ds → Q ((ks.map V.str).zip xs) H') (XcE X.K w W σ H U ρ) → tPairs trs σ H Q
theorem sq_nil : SQ X w cl W [] [] [] [] := ⟨rfl, [], fun _ => pps_nil, fun σ H U ρ Q er h => by
  unfold evDs at h
  exact h [] H U (Pst.refl er) .nil⟩
theorem sq_cons {k : Str} {e : Expr} {keys : List (Option Expr)} {es : List Expr} {ks : List Str} {t : T} {ts : List T} {j : Nat} {pos : Pos} (he : SE X w cl W e t) (hs : SQ X w cl W keys es ks ts) : SQ X w cl W (some (.Constant (.str k) j pos) :: keys) (e :: es) (k :: ks) (t :: ts) := by
  obtain ⟨ea, pa, ka⟩ := he
  obtain ⟨hl, trs, ps, kb⟩ := hs
  refine ⟨by simp [hl], _, fun p => pps_cons pe_str pa (ps p), fun σ H U ρ Q er h => ka σ H U ρ _ er ?_⟩
  unfold evDs at h
  refine h.bind.mono (fun v ρ1 h x H1 U1 p1 r f => ?_) fun _ _ h => h
  obtain ⟨d, e1, h⟩ := h.get
  obtain ⟨U2, p2, r2⟩ := give er p1 r f e1
  refine kb σ H1 U2 ρ1 _ p2.er (h.bind.mono (fun ds ρ2 h xs H3 U3 p3 r3 => ?_) fun _ _ h => h.on er p2)
  exact h (x :: xs) H3 U3 (p2.trans er p3) (.cons (r2.sta (p3.sta p2.er)) r3)
theorem kvr_zip {K : PySem.W.Frag} {H : Hp} {U : Addr → Prop} : ∀ {ks : List Str} {xs : List V} {ds : List D}, Rps K H U xs ds → KvR K H U ((ks.map (Sum.inr : Str → Key)).zip xs) (ks.zip ds)
  | [], _, _, _ => .nil
  | _ :: _, _, _, .nil => .nil
  | k :: ks, _, _, .cons h r => .cons h (kvr_zip r)
theorem zip_kV : ∀ (ks : List Str) (xs : List V), (ks.map V.str).zip xs = ((ks.map (Sum.inr : Str → Key)).zip xs).map fun kv => (kV kv.1, kv.2)
  | [], _ => rfl
  | _ :: _, [] => rfl
  | k :: ks, x :: xs => by simp [zip_kV ks xs, kV]
theorem zip_keys : ∀ (ks : List Str) (xs : List V), ks.length = xs.length → ((ks.map (Sum.inr : Str → Key)).zip xs).map (·.1) = ks.map Sum.inr
  | [], _, _ => rfl
  | _ :: _, [], h => (by simp at h)
  | k :: ks, x :: xs, h => by simp [zip_keys ks xs (by simpa using h)]
theorem pst_upd {K : PySem.W.Frag} {σ : L2.St} {H H1 : Hp} {U U1 : Addr → Prop} {ρ ρ1 : Env} {D : Addr} {o : HO} (er : ER K w.fa H U σ ρ) (p : Pst K w.fa σ H U ρ H1 U1 ρ1) (u : U1 D) (hD : H D = none) : Pst K w.fa σ H U ρ (upd H1 D o) U1 ρ1 := by
  have n : ¬ Hd ρ1 σ D := fun z => er.dom D (er.hd (p.hdd D z)) hD
  refine ⟨er_upd p.er u n, p.go.trans (own' := fun a => a = D) ⟨fun a o h n => by rw [upd_ne n]; exact h, fun a h _ => h, fun a h => .inl h, fun a h => ?_⟩ (fun a h => .inr (by rw [h]; exact hD)) er.dom, p.own, p.held, p.set⟩
  by_cases q : a = D
  · subst q; rw [upd_same]; simp
  · rw [upd_ne q]; exact h
theorem se_dct {keys : List (Option Expr)} {es : List Expr} {ks : List Str} {ts : List T} {pos : Pos} (h : SQ X w cl W keys es ks ts) (hn : ks.Nodup) (hall : keys.all (·.isSome) = true := by rfl) (hl : keys.length = es.length := by rfl) (h0 : keys ≠ [] := by simp) (h15 : keys.length ≤ 15 := by decide) (k15 : ks.length ≤ 15 := by decide) :
    SE X w cl W (.Dict keys es pos) (.dct ks ts) := by
  obtain ⟨hkl, trs, ps, k⟩ := h
  refine ⟨_, pe_disp (ps pos) hall hl h0 h15, fun σ H U ρ Q er h p hp => ?_⟩
  have p0 := Pst.newU (o := .dK []) er hp
  have no : ¬ Hd ρ σ p := ow_none er hp
  refine k σ _ _ ρ _ p0.er ?_
  unfold evE at h
  refine (h.bind.and (P := fun ds => ds.length = ts.length) fun ds ρ' e => len_ev ts ρ ds ρ' e).mono (fun ds ρ2 ⟨hlen, h⟩ xs H2 U2 pv r => ?_) fun _ _ h => h.on er p0
  have no' : ¬ Ow ρ σ p := fun z => no z.hd
  have kp := pv.go.keep p _ upd_same no'
  have up := pv.go.u1 p (.inr rfl) no'
  have pt := p0.trans er pv
  have lx : ks.length = xs.length := by rw [r.len, hlen, hkl]
  have mk : mergeK [] ((ks.map (Sum.inr : Str → Key)).zip xs) = (ks.map (Sum.inr : Str → Key)).zip xs := by
    unfold mergeK
    rw [mergeK_app (fun _ _ _ z => by cases z) (by rw [zip_keys ks xs lx]; exact List.Pairwise.map _ (fun a b n z => n (Sum.inr.inj z)) hn)]
    rfl
  refine ⟨kp, _, zip_kV ks xs, ?_, ?_⟩
  · rw [List.length_zip, List.length_map]
    omega
  · rw [mk]
    have pf := pst_upd (o := .dK ((ks.map (Sum.inr : Str → Key)).zip xs)) er pt up hp
    have s : Sta H2 U2 (upd H2 p (.dK ((ks.map (Sum.inr : Str → Key)).zip xs))) U2 := ⟨fun a ob z n => by rw [upd_ne fun q => n (by rw [q]; exact up)]; exact z, fun a z => .inl z⟩
    have h' : OkE X.K w σ H U ρ Q (.dct (ks.zip ds)) ρ2 := h
    exact h' _ _ U2 pf ⟨p, _, rfl, up, upd_same, (kvr_zip r).sta s⟩ fun _ a z => by
      cases z
      exact ⟨fun z => no (pt.hdd p z), hp⟩
theorem lookD_some {ρ : Env} {i : Nat} {v : Vl} {o : Option D} (h : lookD ρ i v = some o) : ∃ k kvs, v = .dat (.str k) ∧ ρ[i]? = some (some (.dct kvs)) ∧ o = valD kvs k := by
  unfold lookD at h
  split at h
  · rename_i k kvs e1 e2
    cases h
    exact ⟨k, kvs, keyOf_some e1, e2, rfl⟩
  · cases h
theorem se_ixd {i : Nat} {x : Str} {ke : Expr} {tk : T} {pos pos' : Pos} (G : GC X W) (hi : X.N[i]? = some x) (hv : Vis X.env.scope x) (hk : SE X w cl W ke tk) (hs : NoSl ke := by first | exact fun _ _ => rfl | rfl)
    (hd : (x == ("__debug__" : Str)) = false := by decide) (hcd : (x == ("__classdict__" : Str)) = false := by decide) : SE X w cl W (.Subscript (.Name x pos') ke pos) (.ixd i tk) := by
  obtain ⟨te, p, k⟩ := hk
  refine ⟨_, pe_dget (by have := G.room; omega) (pe_var hi hv hd hcd) p hs, fun σ H U ρ Q er h => ?_⟩
  unfold evE at h
  split at h
  · rename_i kvs0 e0
    obtain ⟨y0, e1, r0⟩ := er.val i _ e0
    refine ⟨_, e1, k σ H U ρ _ er (h.bind.mono (fun v ρ1 h y H1 U1 p1 r f => ?_) fun _ _ h => h)⟩
    obtain ⟨o, e2, h2⟩ := h.get
    obtain ⟨d, e3, h3⟩ := h2.get
    have hq : OkE X.K w σ H U ρ Q (.dat d) ρ1 := h3
    clear h3 h2
    obtain ⟨ks, kvs, rfl, e4, rfl⟩ := lookD_some e2
    cases r
    obtain ⟨y1, e5, r1⟩ := p1.er.val i _ e4
    rw [e1] at e5
    cases e5
    obtain ⟨a, ws, rfl, u, hw, rr⟩ := r1
    have g := rr.get (k := ks)
    rw [e3] at g
    obtain ⟨v', g1, g2⟩ := g
    refine ⟨a, v', rfl, ?_, hq _ H1 U1 p1 g2 fun z => nomatch z⟩
    rw [← g1]
    exact DGet.k (k := .inr ks) hw
  · exact h.elim
end
end Pv
set_option Elab.async false
set_option linter.all false
set_option maxRecDepth 100000
set_option maxHeartbeats 2100000
namespace Pv
open PySem L2 PyProof.Rows
section
variable {X : Cx} {w : Wd} {cl : Fun} {W : WX}
theorem se_rngt {a : Expr} {ta : T} {p p2 pos pos2 : Pos} (hc : X.calm = true) (ha : SO X w cl W a ta) (hg : Gl X "tuple") (hm : X.mg "tuple" = none) (hg2 : Gl X "range") (hm2 : X.mg "range" = none)
    (he : starEach [a] X.env = (false, eval a X.env) :: starEach [] X.env := by rfl) : SE X w cl W (.Call (.Name "tuple" p) [.Call (.Name "range" p2) [a] [] pos2] [] pos) (.blt .rngt ta) := by
  obtain ⟨ea, pa, ka⟩ := ha
  refine ⟨_, pe_tupRg hc hg hm (prg_1 hg2 hm2 pa he), fun σ H U ρ Q er h => ka σ H U ρ _ er ?_⟩
  unfold evE at h
  refine h.bind.mono (fun o1 ρ1 h x H1 U1 p1 r1 => ?_) fun _ _ h => h
  obtain ⟨d, e1, h⟩ := h.get
  obtain ⟨v, e2, h⟩ := h.get
  have hx := r1.vw p1.er e1
  have h' := OkE.on h er p1
  unfold blt1 at e2
  split at e2 <;> try cases e2
  all_goals first | contradiction | skip
  split at e2 <;> try cases e2
  rename_i c
  obtain ⟨c1, c2⟩ := of_decide_eq_true c
  refine ⟨_, rp_int hx, RgOk.of_le (by omega) c2 (by omega) c1, fun p hp => ?_⟩
  refine h'.newT p1.er ?_ hp
  unfold rgV nums
  rw [Int.sub_zero]
  exact rps_nums _ _ _ fun k => by
    rw [Int.zero_add]
    exact .int _
/-! ### xs[i::k] -/
theorem vals_pick {xs : List V} {us : List Value} (h : Vals xs us) : ∀ is : List Nat, Vals (is.filterMap fun i => xs[i]?) (is.filterMap fun i => us[i]?)
  | [] => .nil
  | i :: is => by
    rw [List.filterMap_cons, List.filterMap_cons]
    have hl := h.length
    by_cases q : i < xs.length
    · obtain ⟨u, e, r⟩ := h.get (List.getElem?_eq_getElem q)
      rw [List.getElem?_eq_getElem q, e]
      exact .cons r (vals_pick h is)
    · rw [List.getElem?_eq_none (by omega), List.getElem?_eq_none (by omega)]
      exact vals_pick h is
theorem rps_pick {K : PySem.W.Frag} {H : Hp} {U : Addr → Prop} {xs : List V} {ds : List D} (h : Rps K H U xs ds) : ∀ is : List Nat, Rps K H U (is.filterMap fun i => xs[i]?) (is.filterMap fun i => ds[i]?)
  | [] => .nil
  | i :: is => by
    rw [List.filterMap_cons, List.filterMap_cons]
    have hl := h.len
    by_cases q : i < xs.length
    · obtain ⟨u, e, r⟩ := h.getV (List.getElem?_eq_getElem q)
      rw [List.getElem?_eq_getElem q, e]
      exact .cons r (rps_pick h is)
    · rw [List.getElem?_eq_none (by omega), List.getElem?_eq_none (by omega)]
      exact rps_pick h is
theorem len_pick {α : Type} (b : Int × Int × Int) (xs : List α) : (pickB b xs).length ≤ (sliceRange b.1 b.2.1 b.2.2).length := List.length_filterMap_le ..
def tSls (K : PySem.W.Frag) (k : Nat) (te ti : TE) : TE := fun σ H Q => te σ H fun x H1 => ti σ H1 fun y H2 => ∃ a xs i, x = .ref a ∧ y = .int i ∧ SqL K H2 a xs ∧ k ≠ 0 ∧
  ∀ p, H2 p = none → Q (.ref p) (upd H2 p (.lst (pickB (sliceBounds (some i) none (some (k : Int)) xs.length) xs)))
theorem pe_sls {e ie : Expr} {te ti : TE} {j k : Nat} {p1 p3 pos : Pos} (he : PE X e te) (hi : PE X ie ti) : PE X (.Subscript e (.Slice (some ie) none (some (.Constant (.int (k : Nat)) j p1)) p3) pos) (tSls X.K k te ti) := by
  refine ⟨fun pins s σ H Q I hq0 => ?_⟩
  have h := hq0
  refine Subscript_ (thn (he.run pins s σ H _ I h) fun v s1 z => ?_)
  obtain ⟨x, H1, I1, r1, q1⟩ := z
  refine wpAny_Slice ?_
  rw [evalPart_some]
  refine thn (hi.run pins s1 σ H1 _ I1 q1) fun u0 s2 ⟨y, H2, I2, r2, a, xs, i, ex, ey, hx, k0, q⟩ => ?_
  subst ey
  obtain ⟨ti0, rfl⟩ := r2
  have pl : IsPart (.int i ti0) (some i) := .int i ti0
  subst ex
  cases r1
  refine thn (po_none.run pins s2 σ H2 (fun o J => o = none ∧ J = H2) I2 ⟨rfl, rfl⟩) fun vu s3 z => ?_
  obtain ⟨u, H3, I3, pu, eu, e3⟩ := z
  subst eu e3
  refine thn ((po_some (pe_int (i := (k : Int)))).run pins s3 σ H3 (fun o H4 => o = some (k : Int) ∧ H4 = H3) I3 ⟨k, rfl, rfl, rfl⟩) fun vs s4 ⟨o, H4, I4, ps, eo, e4⟩ => ?_
  subst eo e4
  have I5 : Inv X pins σ H4 { s4 with heap := s4.heap.push { cls := .type "slice", data := .fields #[.int i ti0, vu, vs] } } :=
    I4.kept (t' := s4.toks) fun b ob q => Heap.get?_push_of_some _ q
  obtain ⟨its, r, ht, hl⟩ := I5.list hx
  have hlen := r.length
  refine tail_any (ops := [.ref a, .ref s4.heap.objs.size]) ht.isList.typeIs
    (PySem.slot_list_getitem.lookup) ?_ (by with_unfolding_all rfl)
  refine wpAny_getItem_list_slice ht.isList (Heap.IsSliceOf.new _ (.int i ti0) vu vs) pl pu ps (by simpa using k0) ?_ (by rw [List.size_toArray]; omega)
  have e : slicePick its.toArray (some i) none (some (k : Int)) = (pickB (sliceBounds (some i) none (some (k : Int)) xs.length) its).toArray := by
    unfold slicePick pickB
    rw [List.size_toArray, hlen]
    congr 1
    refine congrArg (fun g => List.filterMap g _) (funext fun x => ?_)
    simp
  have vp := vals_pick r (sliceRange (sliceBounds (some i) none (some (k : Int)) xs.length).1 (sliceBounds (some i) none (some (k : Int)) xs.length).2.1 (sliceBounds (some i) none (some (k : Int)) xs.length).2.2)
  have hz : (pickB (sliceBounds (some i) none (some (k : Int)) xs.length) xs).length ≤ sizeLine := by
    have z := slicePick_size_le its.toArray (some i) none (some (k : Int))
    rw [e, List.size_toArray, List.size_toArray] at z
    have z2 : (pickB (sliceBounds (some i) none (some (k : Int)) xs.length) xs).length = (pickB (sliceBounds (some i) none (some (k : Int)) xs.length) its).length := vp.length
    omega
  refine ⟨.ref _, _, I5.laid (t' := s4.toks) (o := .lst (pickB (sliceBounds (some i) none (some (k : Int)) xs.length) xs)) (fun b ob q => Heap.get?_push_of_some _ q) (Nat.le_refl _) ?_, rfl, q _ (I5.hok.fresh (Nat.le_refl _))⟩
  refine ⟨hz, pickB (sliceBounds (some i) none (some (k : Int)) xs.length) its, 0, vp, ?_⟩
  rw [Heap.get?_push_size _ rfl, e]
theorem se_sls {e ie : Expr} {t ti : T} {j k : Nat} {p1 p3 pos : Pos} (he : SO X w cl W e t) (hi : SO X w cl W ie ti) : SE X w cl W (.Subscript e (.Slice (some ie) none (some (.Constant (.int (k : Nat)) j p1)) p3) pos) (.sls t ti k) := by
  obtain ⟨te, p, kk⟩ := he
  obtain ⟨tj, p', kk'⟩ := hi
  refine ⟨_, pe_sls p p', fun σ H U ρ Q er h => kk σ H U ρ _ er ?_⟩
  unfold evE at h
  refine h.bind.mono (fun o ρ1 h x H1 U1 p1 r => kk' σ H1 U1 ρ1 _ p1.er ?_) fun _ _ h => h
  refine h.bind.mono (fun o2 ρ2 h y H2 U2 p2 r2 => ?_) fun _ _ h => h.on er p1
  obtain ⟨d, e1, h⟩ := h.get
  obtain ⟨d2, e2, h⟩ := h.get
  obtain ⟨v, e3, h⟩ := h.get
  have v1 := (r.on p2 p1.er).vw p2.er e1
  have v2 := r2.vw p2.er e2
  cases d with
  | list ds =>
   cases d2 with
   | int i =>
    unfold steps2 at e3
    simp only at e3
    split at e3 <;> cases e3
    rename_i k0
    obtain ⟨a, vs, rfl, s, rr⟩ := v1
    refine ⟨a, vs, i, rfl, rp_int v2, SqL.of s, k0, fun p hp => ?_⟩
    have hl := rr.len
    refine (OkE.on h er (p1.trans er p2)).newL p2.er ?_ hp
    rw [← hl]
    exact rps_pick rr _
   | _ => cases e3
  | _ => cases e3
/-! ### enumerate(a list) -/
theorem enumD_get : ∀ (ds : List D) (n : Int) (i : Nat), (enumD n ds)[i]? = ds[i]?.map fun d => .tuple [.int (n + (i : Int)), d]
  | [], n, i => by simp [enumD]
  | d :: ds, n, 0 => by simp [enumD]
  | d :: ds, n, i + 1 => by
    have e : n + 1 + (i : Int) = n + ((i + 1 : Nat) : Int) := by omega
    unfold enumD
    rw [List.getElem?_cons_succ, List.getElem?_cons_succ, enumD_get ds (n + 1) i, e]
theorem enumD_len : ∀ (ds : List D) (n : Int), (enumD n ds).length = ds.length
  | [], _ => rfl
  | _ :: ds, n => by unfold enumD; rw [List.length_cons, List.length_cons, enumD_len ds]
theorem wk_enum {K : PySem.W.Frag} {a : Addr} {ds : List D} : Wk K (Ite K a) (fun H U => ∃ vs, H a = some (.lst vs) ∧ Rps K H U vs ds) (enumD 0 ds) := fun i H U ⟨vs, h, r⟩ dom => by
  have hl := r.len
  rw [enumD_len]
  refine ⟨fun hi => ?_, fun hi => ⟨vs, SqL.of h, by omega⟩⟩
  rw [← hl] at hi
  refine ⟨⟨vs, vs[i], SqL.of h, List.getElem?_eq_getElem hi⟩, fun x H' hy => ?_⟩
  obtain ⟨T, y, rfl, hT, rfl, k⟩ := hy
  obtain ⟨d, e1, e2⟩ := r.getV (k vs (SqL.of h))
  have g : Grow H (upd H T (.tup [.int (i : Nat), y])) := fun b o z => by rw [upd_ne (ne_of_none z hT)]; exact z
  refine ⟨g, .tuple [.int (0 + (i : Int)), d], by rw [enumD_get, e1]; rfl, ?_⟩
  have s : Sta H U (upd H T (.tup [.int (i : Nat), y])) U := ⟨fun b o z _ => g b o z, fun b z => .inl z⟩
  rw [Int.zero_add]
  exact .tup (.inl ⟨.inl upd_same, fun u => dom T u hT⟩) (.cons (.int _) (.cons (e2.sta s) .nil))
theorem si_enum {e : Expr} {t : T} {elts : List Expr} {kk : Nat} {p pos tpos : Pos} (hg : Gl X "enumerate") (hm : X.mg "enumerate" = none) (h : SO X w cl W e t) (hs : starEach [e] X.env = [(false, eval e X.env)] := by rfl) :
    SI X w cl W (.Tuple elts kk tpos) (.Call (.Name "enumerate" p) [e] [] pos) t .enum := by
  obtain ⟨te, pe, k⟩ := h
  refine ⟨_, pi_enum hg hm (pa_cons pe pa_nil hs) hs, fun σ H U ρ R er h => k σ H U ρ _ er ?_⟩
  refine h.mono (fun o ρ' h x H' U' p1 r => ?_) fun _ _ h => h
  obtain ⟨d, ds, e1, e2, h⟩ := h
  unfold itemsOf at e2
  split at e2 <;> try cases e2
  all_goals first | contradiction | skip
  split at e2 <;> cases e2
  rename_i c
  obtain ⟨a, vs, rfl, s, rr⟩ := r.vw p1.er e1
  have no := lock_no p1.er r e1
  exact ⟨a, vs, rfl, SqL.of s, h _ _ H' U' p1 wk_enum (fun H2 U2 g => ⟨vs, g.keep a _ s no, rr.sta (g.sta fun b hb => p1.er.ow (lock_sub hb))⟩) (by rw [enumD_len]; exact line_le (size_le c))⟩
end
end Pv
set_option Elab.async false
set_option linter.all false
set_option maxRecDepth 100000
set_option maxHeartbeats 2100000
/-! t[::-1] of a tuple -/
namespace Pv
open PySem L2 PyProof.Rows HT
section
variable {s : Shared} {A : Around} {pg : Program} {wo : World} {E : Value → Shared → Prop}
theorem applied_rev {sl : Addr} {vl vu vs : Value} {n : Nat} {Q : Int × Int × Nat → Shared → Prop} (hs : s.heap.IsSliceOf sl vl vu vs) (pl : IsPart vl none) (pu : IsPart vu none) (ps : IsPart vs (some (-1)))
    (h : Q ((n : Int) - 1, -1, n) s) : wpAny (model pg wo) A (Builtin.Slice.sliceApplied (.ref sl) (pure (n : Int))) Q E s := by
  obtain ⟨so, so1, so2, so3⟩ := id hs
  unfold Builtin.Slice.sliceApplied
  unfold Builtin.Slice.sliceFields
  refine wpAny_bind (wpAny_bind (wpAny_field so1 so3 (x := vl) rfl
    (wpAny_bind (wpAny_field so1 so3 (x := vu) rfl (wpAny_bind (wpAny_field so1 so3 (x := vs) rfl (wpAny_pure ?_)))))))
  refine wpAny_bind (slicePart_ ps ?_)
  show wpAny _ _ (if ((-1 : Int) == 0) = true then _ else _) _ _ s
  rw [if_neg (by decide)]
  refine wpAny_bind (slicePart_ pl
    (wpAny_bind (slicePart_ pu (wpAny_bind (wpAny_pure ?_)))))
  have e1 : Builtin.Slice.sliceAdjust none none (-1) (n : Int) = ((n : Int) - 1, -1) := rfl
  show wpAny _ _ (match Builtin.Slice.sliceAdjust none none (-1) (n : Int) with | (lo, hi) => pure (lo, (-1 : Int), Builtin.Slice.slicePlaces lo hi (-1))) _ _ s
  rw [e1]
  have e2 : Builtin.Slice.slicePlaces ((n : Int) - 1) (-1) (-1) = n := by
    unfold Builtin.Slice.slicePlaces; rw [if_neg (by omega)]
    split
    · have : ((n : Int) - 1 - -1 - 1) / - -1 + 1 = n := by
        rw [show (- -1 : Int) = 1 from rfl, Int.ediv_one]
        omega
      rw [this]
      exact Int.toNat_natCast n
    · omega
  show wpAny _ _ (pure ((n : Int) - 1, (-1 : Int), Builtin.Slice.slicePlaces ((n : Int) - 1) (-1) (-1))) _ _ s
  rw [e2]
  exact wpAny_pure h
theorem fm_congr {α β : Type} {f g : α → Option β} : ∀ {l : List α}, (∀ m ∈ l, f m = g m) → l.filterMap f = l.filterMap g
  | [], _ => rfl
  | a :: l, h => by
    rw [List.filterMap_cons, List.filterMap_cons, h a (List.mem_cons_self ..), fm_congr fun m hm => h m (List.mem_cons_of_mem _ hm)]
theorem pick_rev (xs : Array Value) : ((List.range xs.size).filterMap fun (m : Nat) => xs[((xs.size : Int) - 1 + (m : Int) * -1).toNat]?).toArray = xs.toList.reverse.toArray := by
  have e : ((List.range xs.size).filterMap fun (m : Nat) => xs[((xs.size : Int) - 1 + (m : Int) * -1).toNat]?) = ((List.range xs.size).map (fun k => xs.size - 1 - k)).filterMap (fun i => xs[i]?) := by
    rw [List.filterMap_map]
    refine fm_congr fun m hm => ?_
    have hm' := List.mem_range.mp hm
    show xs[((xs.size : Int) - 1 + (m : Int) * -1).toNat]? = xs[xs.size - 1 - m]?
    have : ((xs.size : Int) - 1 + (m : Int) * -1).toNat = xs.size - 1 - m := by omega
    rw [this]
  rw [e, PySem.W.krv_range, List.filterMap_reverse, PySem.W.krv_all]
theorem tuple_rev {t sl : Addr} {items : Array Value} {vl vu vs : Value} {Q : Value → Shared → Prop} (ht : IsTup s.heap t items) (hs : s.heap.IsSliceOf sl vl vu vs) (pl : IsPart vl none) (pu : IsPart vu none) (ps : IsPart vs (some (-1)))
    (h : Q (.ref s.heap.objs.size) { s with heap := s.heap.push { cls := .type "tuple", data := .seq items.toList.reverse.toArray } }) (hsz : items.size ≤ sizeLine) : wpAny (model pg wo) A (getItem (.ref t) (.ref sl)) Q E s := by
  have htake : PySem.sizeOk (.seq items.toList.reverse.toArray) := by
    show items.toList.reverse.toArray.size ≤ sizeLine
    rw [List.size_toArray, List.length_reverse, Array.length_toList]
    exact hsz
  obtain ⟨so, so1, so2, so3⟩ := id hs
  have isS : s.TypeIs (.ref sl) "slice" := ⟨so, so1, so2⟩
  unfold getItem
  try (with_reducible refine wpAny_holding ?_)
  try (refine wpAny_bind (wpAny_pure ?_))
  have tt := ht.typeIs (s := s)
  refine wpAny_bind (wpAny_sequenceKey tt (by decide) ?_)
  refine wpAny_bind (wpAny_callSpecial?_slot (name := Str.ofString "__getitem__") tt slot_tuple_getitem ?_)
  refine wpAny_call_entry slot_tuple_getitem tt entry_tuple_getitem ?_ (args_tuple_getitem _ _)
  show wpAny (model pg wo) _ (Builtin.Tuple.tupleItemsOf (.ref t) >>= _) _ _ s
  refine wpAny_bind (tupleItemsOf_ ht (wpAny_bind (wpAny_typeOf isS ?_)))
  rw [if_pos (by decide)]
  refine wpAny_bind (applied_rev hs pl pu ps ?_)
  have no : ¬ ((((items.size : Int) - 1) == 0 && (-1 : Int) == 1 && items.size == items.size) = true) := by
    intro q
    simp only [Bool.and_eq_true] at q
    exact absurd q.1.2 (by decide)
  show wpAny _ _ (if (((items.size : Int) - 1) == 0 && (-1 : Int) == 1 && items.size == items.size) = true then _ else _) _ _ s
  rw [if_neg no, pick_rev]
  refine wpAny_bind (m := Builtin.Tuple.tupleExact _) ?_
  refine wpAny_newObj_type ?_ htake
  exact (wpAny_pure ⟨_, rfl, (wpAny_pure h)⟩)
end
end Pv
namespace Pv
open PySem L2 PyProof.Rows
section
variable {X : Cx} {w : Wd} {cl : Fun} {W : WX}
def tRevT (K : PySem.W.Frag) (te : TE) : TE := fun σ H Q => te σ H fun x H1 => ∃ a xs, x = .ref a ∧ SqT K H1 a xs ∧ ∀ p, H1 p = none → Q (.ref p) (upd H1 p (.tup xs.reverse))
theorem pe_revT {e : Expr} {te : TE} {k : Nat} {p1 p2 p3 pos : Pos} (he : PE X e te) : PE X (.Subscript e (.Slice none none (some (.UnaryOp .USub (.Constant (.int 1) k p1) p2)) p3) pos) (tRevT X.K te) := by
  refine ⟨fun pins s σ H Q I hq0 => ?_⟩
  have h := hq0
  refine Subscript_ (thn (he.run pins s σ H _ I h) fun v s1 ⟨x, H1, I1, r1, a, xs, ex, hx, q⟩ => ?_)
  subst ex
  obtain rfl : v = .ref a := r1
  have pst : PO X (some (.UnaryOp .USub (.Constant (.int 1) k p1) p2)) (tPart (tUn (L2.rU fun i => .int (-i)) (L2.tC (.int 1)))) :=
    po_some (pe_un un_neg pe_int)
  refine wpAny_Slice (thn (po_none.run pins s1 σ H1 (fun o J => o = none ∧ J = H1) I1 ⟨rfl, rfl⟩) fun vl s2 ⟨_, H2, I2, pl, el, e2⟩ => ?_)
  cases el
  cases e2
  refine thn (po_none.run pins s2 σ H1 (fun o J => o = none ∧ J = H1) I2 ⟨rfl, rfl⟩) fun vu s3 ⟨_, H3, I3, pu, eu, e3⟩ => ?_
  cases eu
  cases e3
  refine thn (pst.run pins s3 σ H1 (fun o J => o = some (-1) ∧ J = H1) I3 ⟨1, rfl, -1, rfl, rfl, rfl⟩) fun vs s4 ⟨_, H4, I4, ps, eo, e4⟩ => ?_
  cases eo
  cases e4
  have I5 : L2.Inv X pins σ H1 { s4 with heap := s4.heap.push { cls := .type "slice", data := .fields #[vl, vu, vs] } } :=
    I4.kept (t' := s4.toks) fun b ob z => Heap.get?_push_of_some _ z
  obtain ⟨its, r, ht, hz⟩ := I5.tuple hx
  refine tail_any (ops := [.ref a, .ref s4.heap.objs.size]) ht.typeIs
    (PyProof.Rows.slot_tuple_getitem.lookup) ?_ (by with_unfolding_all rfl)
  refine tuple_rev ht (Heap.IsSliceOf.new _ vl vu vs) pl pu ps ?_ (by rw [List.size_toArray, ← r.length]; exact hz)
  refine ⟨.ref _, _, I5.laid (t' := s4.toks) (o := .tup xs.reverse) (fun b ob z => Heap.get?_push_of_some _ z) (Nat.le_refl _) ?_, rfl, q _ (I5.hok.fresh (Nat.le_refl _))⟩
  exact ⟨by rw [List.length_reverse]; exact hz, _, r.reverse, IsTup.new _ _⟩
/-- xs[::-1] -/
theorem se_slb {e : Expr} {t : T} {k : Nat} {p1 p2 p3 pos : Pos} (he : SO X w cl W e t) : SE X w cl W (.Subscript e (.Slice none none (some (.UnaryOp .USub (.Constant (.int 1) k p1) p2)) p3) pos) (.slb t) := by
  obtain ⟨te, p, kk⟩ := he
  refine ⟨fun σ H Q => tRevL X.K te σ H Q ∨ tRevT X.K te σ H Q, ⟨fun pins s σ H Q I h => h.elim ((pe_revL p).run pins s σ H Q I) ((pe_revT p).run pins s σ H Q I)⟩, fun σ H U ρ Q er h => ?_⟩
  unfold evE at h
  cases q : opnd t (evE cl t) ρ with
  | stuck => rw [q] at h; exact h.elim
  | exc ex ρ' => exact .inl (kk σ H U ρ _ er (by rw [q] at h ⊢; exact h))
  | ok r =>
    obtain ⟨o, ρ'⟩ := r
    rw [q] at h
    obtain ⟨d, e1, h1⟩ := Aft.get (o := look ρ' o) (k := fun x => (get (rev1 x)).bind fun v => Res.ok (v, ρ')) h
    obtain ⟨v, e2, h2⟩ := h1.get
    cases d with
    | list xs =>
      cases e2
      refine .inl (kk σ H U ρ _ er ?_)
      rw [q]
      intro x H' U' p1 r
      obtain ⟨a, vs, rfl, s, rr⟩ := r.vw p1.er e1
      exact ⟨a, vs, rfl, SqL.of s, fun p hp => (OkE.on h2 er p1).newL p1.er rr.rev hp⟩
    | tuple xs =>
      cases e2
      refine .inr (kk σ H U ρ _ er ?_)
      rw [q]
      intro x H' U' p1 r
      obtain ⟨a, vs, rfl, s, rr⟩ := rp_tup (r.vw p1.er e1)
      exact ⟨a, vs, rfl, s.sq, fun p hp => (OkE.on h2 er p1).newT p1.er rr.rev hp⟩
    | _ => cases e2
end
end Pv
set_option Elab.async false
set_option linter.all false
set_option maxRecDepth 100000
namespace Pv
open PySem L2 PyProof.Rows
section
variable {X : Cx} {w : Wd} {cl : Fun} {W : WX} {lk : List Nat}
theorem ev (i : Nat) {x : Str} {pos : Pos} (hN : X.N[i]? = some x := by rfl) (hv : Vis X.env.scope x := by first | exact Or.inl rfl | exact Or.inr (Or.inl rfl) | exact Or.inr (Or.inr rfl)) (hd : (x == ("__debug__" : Str)) = false := by decide) (hcd : (x == ("__classdict__" : Str)) = false := by decide) :
    SE X w cl W (.Name x pos) (.var i) := se_var hN hv hd hcd
theorem ov (i : Nat) {x : Str} {pos : Pos} (hN : X.N[i]? = some x := by rfl) (hv : Vis X.env.scope x := by first | exact Or.inl rfl | exact Or.inr (Or.inl rfl) | exact Or.inr (Or.inr rfl)) (hd : (x == ("__debug__" : Str)) = false := by decide) (hcd : (x == ("__classdict__" : Str)) = false := by decide) :
    SO X w cl W (.Name x pos) (.var i) := so_var hN hv hd hcd
theorem gv (i : Nat) {x : Str} {pos : Pos} (hN : X.N[i]? = some x := by rfl) (hv : Vis X.env.scope x := by first | exact Or.inl rfl | exact Or.inr (Or.inl rfl) | exact Or.inr (Or.inr rfl)) (hd : (x == ("__debug__" : Str)) = false := by decide) (hcd : (x == ("__classdict__" : Str)) = false := by decide) :
    SG X w cl W (.Name x pos) (.var i) := sg_var hN hv hd hcd
theorem rv (i : Nat) {x : Str} {pos pos' : Pos} (hN : X.N[i]? = some x := by rfl) (hv : Vis X.env.scope x := by first | exact Or.inl rfl | exact Or.inr (Or.inl rfl) | exact Or.inr (Or.inr rfl)) (hd : (x == ("__debug__" : Str)) = false := by decide) (hcd : (x == ("__classdict__" : Str)) = false := by decide) :
    SS X w cl W lk (.Return (some (.Name x pos)) pos') (.ret (.var i)) := ss_retv hN hv hd hcd
theorem cutv (i : Nat) {n : Nat} {x : Str} {j : Nat} {p p1 p2 pos : Pos} (hN : X.N[i]? = some x := by rfl) (hv : Vis X.env.scope x := by first | exact Or.inl rfl | exact Or.inr (Or.inl rfl) | exact Or.inr (Or.inr rfl)) (hd : (x == ("__debug__" : Str)) = false := by decide) (hcd : (x == ("__classdict__" : Str)) = false := by decide) :
    SE X w cl W (.Subscript (.Name x p) (.Slice none (some (.Constant (.int n) j p1)) none p2) pos) (.cut i n) := se_cut hN hv hd hcd
theorem xv (i : Nat) {x : Str} {ke : Expr} {tk : T} {pos pos' : Pos} (G : GC X W) (hk : SE X w cl W ke tk) (hN : X.N[i]? = some x := by rfl) (hv : Vis X.env.scope x := by first | exact Or.inl rfl | exact Or.inr (Or.inl rfl) | exact Or.inr (Or.inr rfl)) (hs : NoSl ke := by first | exact fun _ _ => rfl | rfl)
    (hd : (x == ("__debug__" : Str)) = false := by decide) (hcd : (x == ("__classdict__" : Str)) = false := by decide) : SE X w cl W (.Subscript (.Name x pos') ke pos) (.ixd i tk) := se_ixd G hN hv hk hs hd hcd
theorem GC.blk {s : Shared} {H : Hp} {scope : Scope} {env : PySem.Env} {fp : List Addr} (G : GC X W) : GC (X.blk s H scope env fp) W0 := ⟨G.calm, G.nd, G.gd, G.room, fun _ _ h => by
  obtain ⟨_, _, _, _, _, _, _, _, _, _, _, _, _, _, _, _, no⟩ := h
  exact no.elim⟩
theorem HasF.blk {n : Nat} {s : Shared} {H : Hp} {scope : Scope} {env : PySem.Env} {fp : List Addr} (F : HasF X w cl n) : HasF (X.blk s H scope env fp) w cl n := ⟨F.fn, F.keep, F.binds, F.room⟩
theorem ev_ix (a i : T) (ρ : Env) : evT cl (.ix a i) ρ = (evE cl (.ix a i) ρ).bind fun q => (get (truth q.1)).bind fun b => .ok (b, q.2) := by
  unfold evT evE
  cases opnd a (evE cl a) ρ with
  | ok p =>
    simp only [Res.bind_ok]
    cases opnd i (evE cl i) p.2 with
    | ok q =>
      simp only [Res.bind_ok]
      cases look q.2 p.1 with
      | none => rfl
      | some x =>
        simp only [get_some, Res.bind_ok]
        cases look q.2 q.1 with
        | none => rfl
        | some y =>
          simp only [get_some, Res.bind_ok]
          cases ix2 x y <;> rfl
    | exc _ _ => rfl
    | stuck => rfl
  | exc _ _ => rfl
  | stuck => rfl
/-- a name as a test -/
theorem st_var (i : Nat) {x : Str} {pos : Pos} (hN : X.N[i]? = some x := by rfl) (hv : Vis X.env.scope x := by first | exact Or.inl rfl | exact Or.inr (Or.inl rfl) | exact Or.inr (Or.inr rfl)) (hd : (x == ("__debug__" : Str)) = false := by decide) (hcd : (x == ("__classdict__" : Str)) = false := by decide)
    (hs : ∀ whole, isTrue (.Name x pos) X.env whole = (do let v ← whole; standAt (Expr.Name x pos).pos; holding [v] (truthy v)) := by intro _; rfl) : ST X w cl W (.Name x pos) (.var i) := by
  refine ⟨_, pt_val (pe_var hN hv hd hcd) hs, fun σ H U ρ Q er h => ?_⟩
  unfold evT at h
  split at h
  · rename_i b e
    obtain ⟨y, e1, r⟩ := er.val i _ e
    cases r
    exact ⟨_, e1, _, rfl, h H U (Pst.refl er)⟩
  · exact h.elim
end
end Pv
set_option Elab.async false
set_option linter.all false
set_option maxRecDepth 100000
set_option maxHeartbeats 2100000
namespace Pv
open PySem L2 PyProof.Rows
section
variable {P : Program} {wd : World} {K : PySem.W.Frag} {mg : Str → Option Value} {base : Heap} {w : Wd} {Pr : List Df}
/-- every def is kept, and binds its arguments -/
structure Ks (K : PySem.W.Frag) (w : Wd) : Prop where
  keep : ∀ k f, w.fa k = some f → PySem.W.keepIn K (.ref f) = true
  binds : ∀ k f, w.fa k = some f → Bnd K (w.fd k) (w.ps k)
theorem hasF_of {N : List Str} {qual : Str} {scope : Scope} {f : Addr} {cdv : Value} {A : Around} {outer : List PySem.Env} {s : Shared} {H : Hp} {E : XK} {n : Nat} (h : Lvl P wd K mg base w Pr n) (B : Ks K w) (hr : Room n (A.deeper (envOfC qual scope s.heap.objs.size f cdv))) :
    HasF (bodyX P wd K mg base N qual scope f cdv A outer s H E) w (evF Pr n) n := ⟨h, B.keep, B.binds, hr⟩
theorem fn_F {x qual : Str} {st : Stmt} {f : Addr} {fd : FuncData} {N ps : List Str} {n k : Nat} {d : Df} (F : L2.Fun K x qual st f fd) (hd : Pr[k]? = some d) (S : FnScope N ps (defScope st)) (h1 : d.ps = ps.length) (h2 : d.n = N.length)
    (hb : ∀ (cdv : Value) (A : Around) (outer : List PySem.Env) (s : Shared) (H : Hp) (E : XK) (lk : List Nat), Room n (A.deeper (envOfC qual (defScope st) s.heap.objs.size f cdv)) → A.guards = some [] →
      SSs (bodyX P wd K mg base N qual (defScope st) f cdv A outer s H E) w (evF Pr n) (fun c d _ H' => E c d H') lk (defBody st) d.body) : FnG P wd K mg base (n + 1) f fd ps (spD K w (evF Pr (n + 1)) k) := by
  have ex := F.ex
  obtain ⟨oc, od, kV, doc, pm, an, cdv, ct, osl, rfl, lk, hcd⟩ := ex
  exact fn_df hd lk hcd S h1 h2 fun A outer s H E lk => hb cdv A outer s H E lk
theorem bnd_of {x qual : Str} {st : Stmt} {f : Addr} {fd : FuncData} {ps : List Str} (F : L2.Fun K x qual st f fd)
    (h : ∀ (kV doc pm : Value) (an : Option Addr) (cdv ct : Value) (us : List Value), us.length = ps.length → bindArgs (PySem.W.fnOf x qual (defArgs st) (defBody st) (defScope st) .none kV doc pm an cdv ct) ⟨us, []⟩ = pure (ps.zip us))
    (h' : ∀ (kV doc pm : Value) (an : Option Addr) (cdv ct : Value) (us : List Value), us.length = ps.length → bindArgs (PySem.W.fnOf x qual (defArgs st) (defBody st) (defScope st) .none kV doc pm an cdv ct) ⟨[], ps.zip us⟩ = pure (ps.zip us)) : Bnd K fd ps := by
  have ex := F.ex
  obtain ⟨oc, od, kV, doc, pm, an, cdv, ct, osl, rfl, lk, hcd⟩ := ex
  exact ⟨fun s us _ hl => .of_eq (h kV doc pm an cdv ct us hl), fun s us _ hl => .of_eq (h' kV doc pm an cdv ct us hl)⟩
theorem rp_tupStrs {xs : List Str} {a : Addr} {od : Option Addr} {its : Array Value} {n : Nat} {sl : Array (Option Value)} (y : K.lookup a = some ⟨.type "tuple", od, .seq its n, sl⟩) (h : its.size ≤ sizeLine) (v : Vals (xs.map V.str) its.toList) (H : Hp) (U : Addr → Prop) : Rp K H U (.ref a) (.tuple (xs.map .str)) := by
  refine .tup (.inr (.inr ⟨_, its, n, y, rfl, rfl, h, v⟩)) ?_
  clear v y
  induction xs with
  | nil => exact .nil
  | cons x xs ih => exact .cons (.str x) ih
end
end Pv
set_option Elab.async false
set_option linter.all false
set_option maxRecDepth 100000
set_option maxHeartbeats 2100000
/-! What a run gives: told from its end. -/
namespace Pv
open PySem
def Res.sat {α : Type} (r : Res α) (P : α → Prop) : Prop := match r with
  | .ok a => P a
  | _ => False
section
variable {α β : Type} {P Q : α → Prop} {R : β → Prop}
theorem Res.sat_ok {a : α} : (Res.ok a).sat P ↔ P a := Iff.rfl
theorem Res.sat_bind {r : Res α} {k : α → Res β} : (r.bind k).sat R ↔ r.sat fun a => (k a).sat R := by
  cases r <;> rfl
theorem Res.sat_get {o : Option α} : (get o).sat P ↔ ∃ a, o = some a ∧ P a := by
  cases o with
  | none => exact ⟨fun h => h.elim, fun ⟨_, h, _⟩ => by cases h⟩
  | some a => exact ⟨fun h => ⟨a, rfl, h⟩, fun ⟨b, e, h⟩ => by cases e; exact h⟩
theorem Res.sat_noX {r : Res α} : r.noX.sat P ↔ r.sat P := by
  cases r <;> rfl
theorem Res.sat.mono {r : Res α} (h : r.sat P) (k : ∀ a, P a → Q a) : r.sat Q := by
  cases r with
  | ok a => exact k a h
  | exc _ _ => exact h
  | stuck => exact h
theorem Res.sat_iff {r : Res α} : r.sat P ↔ ∃ a, r = .ok a ∧ P a := by
  cases r with
  | ok a => exact ⟨fun h => ⟨a, rfl, h⟩, fun ⟨b, e, h⟩ => by cases e; exact h⟩
  | exc _ _ => exact ⟨fun h => h.elim, fun ⟨_, e, _⟩ => by cases e⟩
  | stuck => exact ⟨fun h => h.elim, fun ⟨_, e, _⟩ => by cases e⟩
end
/-- a for by an invariant over what is left -/
theorem forTurns_sat {tg : Tg} {f : Env → Res (Flow × Env)} {Q : Flow × Env → Prop} (I : List D → Env → Prop) (done : ∀ ρ, I [] ρ → Q (.nx, ρ))
    (turn : ∀ d ds ρ, I (d :: ds) ρ → ∃ ρ1, store tg d ρ = some ρ1 ∧ (f ρ1).sat fun p => match p.1 with
      | .nx => I ds p.2
      | .cnt => I ds p.2
      | .brk => Q (.nx, p.2)
      | .ret v => Q (.ret v, p.2)) : ∀ ds ρ, I ds ρ → (forTurns tg f ds ρ).sat Q
  | [], ρ, h => done ρ h
  | d :: ds, ρ, h => by
    obtain ⟨ρ1, e1, h1⟩ := turn d ds ρ h
    unfold forTurns
    rw [e1, get_some, Res.bind_ok, Res.sat_bind]
    refine h1.mono fun p hp => ?_
    obtain ⟨fl, ρ2⟩ := p
    cases fl with
    | nx => exact forTurns_sat I done turn ds ρ2 hp
    | cnt => exact forTurns_sat I done turn ds ρ2 hp
    | brk => exact hp
    | ret v => exact hp
theorem compTurns_sat {own : List Nat} {tg : Tg} {c : Env → Res (Bool × Env)} {f : Env → Res (Vl × Env)} {Q : List D × Env → Prop} (I : List D → List D → Env → Prop) (done : ∀ acc ρ, I [] acc ρ → Q (acc, ρ))
    (turn : ∀ d ds acc ρ, I (d :: ds) acc ρ → ∃ ρ1, store tg d (ρ.wipe own) = some ρ1 ∧ (c ρ1).sat fun p => match p.1 with
      | true => (f p.2).sat fun q => ∃ y, q.1.frz = some y ∧ I ds (acc ++ [y]) q.2
      | false => I ds acc p.2) : ∀ ds acc ρ, I ds acc ρ → (compTurns own tg c f ds acc ρ).sat Q
  | [], acc, ρ, h => done acc ρ h
  | d :: ds, acc, ρ, h => by
    obtain ⟨ρ1, e1, h1⟩ := turn d ds acc ρ h
    unfold compTurns
    rw [e1, get_some, Res.bind_ok, Res.sat_bind]
    refine h1.mono fun p hp => ?_
    obtain ⟨b, ρ2⟩ := p
    cases b with
    | true =>
      show (((f ρ2).bind _).sat Q)
      rw [Res.sat_bind]
      refine hp.mono fun q hq => ?_
      obtain ⟨y, e2, h2⟩ := hq
      rw [e2, get_some, Res.bind_ok]
      exact compTurns_sat I done turn ds _ _ h2
    | false => exact compTurns_sat I done turn ds acc ρ2 hp
theorem runF_sat {cl : Fun} {d : Df} {vs : List Vl} {P : Vl × List (Option Vl) → Prop} (hl : vs.length = d.ps)
    (h : (evSs cl (lentOf vs 0) d.body (startE d.n vs)).sat fun p => match p.1 with
      | .ret v => P (v, p.2.take d.ps)
      | .nx => P (.dat .none, p.2.take d.ps)
      | _ => False) : (runF cl d vs).sat P := by
  unfold runF
  rw [if_pos hl]
  cases q : evSs cl (lentOf vs 0) d.body (startE d.n vs) with
  | ok p =>
    obtain ⟨f, ρ⟩ := p
    rw [q] at h
    cases f with
    | nx => exact h
    | ret v => exact h
    | brk => exact h.elim
    | cnt => exact h.elim
  | exc _ _ => rw [q] at h; exact h
  | stuck => rw [q] at h; exact h
end Pv
set_option Elab.async false
set_option linter.all false
set_option maxRecDepth 100000
set_option maxHeartbeats 2100000
/-! Runs that leave the slots as they are: what an expression gives, what a test tells. -/
namespace Pv
open PySem
section
variable {cl : Fun} {ρ : Env}
def EV (cl : Fun) (e : T) (ρ : Env) (v : Vl) : Prop := evE cl e ρ = .ok (v, ρ)
def EB (cl : Fun) (e : T) (ρ : Env) (b : Bool) : Prop := evE cl e ρ = .ok (.dat (.bool b), ρ)
def TB (cl : Fun) (e : T) (ρ : Env) (b : Bool) : Prop := evT cl e ρ = .ok (b, ρ)
/-- an operand -/
def OP (cl : Fun) (e : T) (ρ : Env) (x : D) : Prop := ∃ o, opnd e (evE cl e) ρ = .ok (o, ρ) ∧ look ρ o = some x
/-- .. that is no own list -/
def OPL (cl : Fun) (e : T) (ρ : Env) (x : D) : Prop := ∃ o, opnd e (evE cl e) ρ = .ok (o, ρ) ∧ look ρ o = some x ∧ lockO o ρ = ρ ∧ ∀ ρ', unlockO ρ o ρ' = ρ'
def AR (cl : Fun) (e : T) (ρ : Env) (v : Vl) : Prop := argOf e (evE cl e) ρ = .ok (.vl v, ρ)
def AV (cl : Fun) (es : List T) (ρ : Env) (vs : List Vl) : Prop := evAs cl es ρ = .ok (vs.map .vl, ρ)
def DV (cl : Fun) (es : List T) (ρ : Env) (ds : List D) : Prop := evDs cl es ρ = .ok (ds, ρ)
theorem jv_var {i : Nat} {d : D} (h : ρ[i]? = some (some (.dat d))) : EV cl (.var i) ρ (.dat d) := by
  unfold EV evE; rw [h]
theorem jv_cst (d : D) : EV cl (.cst d) ρ (.dat d) := by unfold EV evE; rfl
theorem opl_var {i : Nat} {d : D} (h : ρ[i]? = some (some (.dat d))) : OPL cl (.var i) ρ d := by
  refine ⟨.pk i, ?_, ?_, ?_, fun ρ' => ?_⟩
  · unfold opnd T.isVar; simp only [h]
  · unfold look; simp only [h]; rfl
  · unfold lockO; simp only [h]
  · unfold unlockO; simp only [h]
theorem opl_ev {e : T} {v : Vl} {x : D} (h : EV cl e ρ v) (hv : e.isVar = none) (hx : v.view = some x) : OPL cl e ρ x := by
  refine ⟨.vl v, ?_, hx, rfl, fun ρ' => rfl⟩
  unfold opnd; rw [hv]
  show (evE cl e ρ).bind _ = _
  rw [show evE cl e ρ = .ok (v, ρ) from h, Res.bind_ok]
theorem OPL.op {e : T} {x : D} (h : OPL cl e ρ x) : OP cl e ρ x := h.elim fun o h => ⟨o, h.1, h.2.1⟩
theorem op_var {i : Nat} {d : D} (h : ρ[i]? = some (some (.dat d))) : OP cl (.var i) ρ d := (opl_var h).op
theorem op_lst {i : Nat} {ds : List D} (h : ρ[i]? = some (some (.lst ds))) : OP cl (.var i) ρ (.list ds) := by
  refine ⟨.pk i, ?_, ?_⟩
  · unfold opnd T.isVar; simp only [h]
  · unfold look; simp only [h]; rfl
theorem op_ev {e : T} {v : Vl} {x : D} (h : EV cl e ρ v) (hv : e.isVar = none) (hx : v.view = some x) : OP cl e ρ x := (opl_ev h hv hx).op
theorem op_cst (d : D) : OP cl (.cst d) ρ d := op_ev (jv_cst d) rfl rfl
theorem ar_var {i : Nat} {d : D} (h : ρ[i]? = some (some (.dat d))) : AR cl (.var i) ρ (.dat d) := by
  unfold AR argOf T.isVar
  simp only [h]
  rw [show evE cl (.var i) ρ = .ok (.dat d, ρ) from jv_var h, Res.bind_ok]; rfl
theorem ar_ev {e : T} {v v' : Vl} (h : EV cl e ρ v) (hv : e.isVar = none) (hx : argVal v = some v') : AR cl e ρ v' := by
  unfold AR argOf; rw [hv]
  show (evE cl e ρ).bind _ = _
  rw [show evE cl e ρ = .ok (v, ρ) from h, Res.bind_ok]
  show (get (argVal v)).bind _ = _
  rw [hx]; rfl
theorem av_nil : AV cl [] ρ [] := by unfold AV evAs; rfl
theorem av_cons {e : T} {es : List T} {v : Vl} {vs : List Vl} (h : AR cl e ρ v) (t : AV cl es ρ vs) : AV cl (e :: es) ρ (v :: vs) := by
  unfold AV evAs
  rw [show argOf e (evE cl e) ρ = .ok (.vl v, ρ) from h, Res.bind_ok]
  show (evAs cl es ρ).bind _ = _
  rw [show evAs cl es ρ = .ok (vs.map .vl, ρ) from t]; rfl
theorem dv_nil : DV cl [] ρ [] := by unfold DV evDs; rfl
theorem dv_cons {e : T} {es : List T} {v : Vl} {d : D} {ds : List D} (h : EV cl e ρ v) (f : v.frz = some d) (t : DV cl es ρ ds) : DV cl (e :: es) ρ (d :: ds) := by
  unfold DV evDs
  rw [show evE cl e ρ = .ok (v, ρ) from h, Res.bind_ok]
  show (get v.frz).bind _ = _
  rw [f, get_some, Res.bind_ok, show evDs cl es ρ = .ok (ds, ρ) from t]; rfl
theorem jv_tup {es : List T} {ds : List D} (h : DV cl es ρ ds) : EV cl (.tup es) ρ (.dat (.tuple ds)) := by
  unfold EV evE; rw [show evDs cl es ρ = .ok (ds, ρ) from h]; rfl
theorem jv_lst {es : List T} {ds : List D} (h : DV cl es ρ ds) : EV cl (.lst es) ρ (.lst ds) := by
  unfold EV evE; rw [show evDs cl es ρ = .ok (ds, ρ) from h]; rfl
theorem jv_blt {b : Blt} {e : T} {x : D} {v : Vl} (h : OP cl e ρ x) (hv : blt1 b x = some v) : EV cl (.blt b e) ρ v := by
  obtain ⟨o, h1, h2⟩ := h
  unfold EV evE; rw [h1, Res.bind_ok]
  show (get (look ρ o)).bind _ = _
  rw [h2, get_some, Res.bind_ok, hv]; rfl
theorem tb_blt {b : Blt} {e : T} {x : D} {c : Bool} (h : OP cl e ρ x) (hv : blt1 b x = some (.dat (.bool c))) : TB cl (.blt b e) ρ c := by
  obtain ⟨o, h1, h2⟩ := h
  unfold TB evT; rw [h1, Res.bind_ok]
  show (get (look ρ o)).bind _ = _
  rw [h2, get_some, Res.bind_ok, hv]; rfl
theorem eb_isi {t : Ty} {e : T} {x : D} (h : OP cl e ρ x) : EB cl (.blt (.isi t) e) ρ (isiD t x) := jv_blt h rfl
theorem tb_isi {t : Ty} {e : T} {x : D} (h : OP cl e ρ x) : TB cl (.blt (.isi t) e) ρ (isiD t x) := tb_blt h rfl
theorem jv_bin {o : Bin} {a b : T} {x y : D} {v : Vl} (h : OP cl a ρ x) (k : OP cl b ρ y) (hv : bin2 o x y = some v) : EV cl (.bin o a b) ρ v := by
  obtain ⟨p, h1, h2⟩ := h
  obtain ⟨q, k1, k2⟩ := k
  unfold EV evE; rw [h1, Res.bind_ok]
  show (opnd b (evE cl b) ρ).bind _ = _
  rw [k1, Res.bind_ok]
  show (get (look ρ p)).bind _ = _
  rw [h2, get_some, Res.bind_ok]
  show (get (look ρ q)).bind _ = _
  rw [k2, get_some, Res.bind_ok, hv]; rfl
theorem eb_cmp {o : Cmp} {a b : T} {x y : D} {v : Bool} (h : OP cl a ρ x) (k : OP cl b ρ y) (hv : cmp2 o x y = some v) : EB cl (.cmp o a b) ρ v := by
  obtain ⟨p, h1, h2⟩ := h
  obtain ⟨q, k1, k2⟩ := k
  unfold EB evE; rw [h1, Res.bind_ok]
  show (opnd b (evE cl b) ρ).bind _ = _
  rw [k1, Res.bind_ok]
  show (get (look ρ p)).bind _ = _
  rw [h2, get_some, Res.bind_ok]
  show (get (look ρ q)).bind _ = _
  rw [k2, get_some, Res.bind_ok, hv]; rfl
theorem tb_cmp {o : Cmp} {a b : T} {x y : D} {v : Bool} (h : OP cl a ρ x) (k : OP cl b ρ y) (hv : cmp2 o x y = some v) : TB cl (.cmp o a b) ρ v := by
  obtain ⟨p, h1, h2⟩ := h
  obtain ⟨q, k1, k2⟩ := k
  unfold TB evT; rw [h1, Res.bind_ok]
  show (opnd b (evE cl b) ρ).bind _ = _
  rw [k1, Res.bind_ok]
  show (get (look ρ p)).bind _ = _
  rw [h2, get_some, Res.bind_ok]
  show (get (look ρ q)).bind _ = _
  rw [k2, get_some, Res.bind_ok, hv]; rfl
theorem jv_ix {a b : T} {x y d : D} (h : OP cl a ρ x) (k : OP cl b ρ y) (hv : ix2 x y = some d) : EV cl (.ix a b) ρ (.dat d) := by
  obtain ⟨p, h1, h2⟩ := h
  obtain ⟨q, k1, k2⟩ := k
  unfold EV evE; rw [h1, Res.bind_ok]
  show (opnd b (evE cl b) ρ).bind _ = _
  rw [k1, Res.bind_ok]
  show (get (look ρ p)).bind _ = _
  rw [h2, get_some, Res.bind_ok]
  show (get (look ρ q)).bind _ = _
  rw [k2, get_some, Res.bind_ok, hv]; rfl
theorem op_ix {a b : T} {x y d : D} (h : OP cl a ρ x) (k : OP cl b ρ y) (hv : ix2 x y = some d) : OP cl (.ix a b) ρ d := op_ev (jv_ix h k hv) rfl rfl
theorem opl_ix {a b : T} {x y d : D} (h : OP cl a ρ x) (k : OP cl b ρ y) (hv : ix2 x y = some d) : OPL cl (.ix a b) ρ d := opl_ev (jv_ix h k hv) rfl rfl
theorem ar_ix {a b : T} {x y d : D} (h : OP cl a ρ x) (k : OP cl b ρ y) (hv : ix2 x y = some d) : AR cl (.ix a b) ρ (.dat d) := ar_ev (jv_ix h k hv) rfl rfl
theorem tb_chn {o o' : Cmp} {a b c : T} {x y z : D} {v v' : Bool} (h : OP cl a ρ x) (k : OP cl b ρ y) (m : OP cl c ρ z) (hv : cmp2 o x y = some v) (hv' : v = true → cmp2 o' y z = some v') : TB cl (.chn o o' a b c) ρ (v && v') := by
  obtain ⟨p, h1, h2⟩ := h
  obtain ⟨q, k1, k2⟩ := k
  obtain ⟨r, m1, m2⟩ := m
  unfold TB evT; rw [h1, Res.bind_ok]
  show (opnd b (evE cl b) ρ).bind _ = _
  rw [k1, Res.bind_ok]
  show (get (look ρ p)).bind _ = _
  rw [h2, get_some, Res.bind_ok]
  show (get (look ρ q)).bind _ = _
  rw [k2, get_some, Res.bind_ok, hv, get_some, Res.bind_ok]
  cases v with
  | false => rfl
  | true =>
    show (opnd c (evE cl c) ρ).bind _ = _
    rw [m1, Res.bind_ok]
    show (get (look ρ q)).bind _ = _
    rw [k2, get_some, Res.bind_ok]
    show (get (look ρ r)).bind _ = _
    rw [m2, get_some, Res.bind_ok, hv' rfl]; rfl
theorem eb_and {a b : T} {x y : Bool} (h : EB cl a ρ x) (k : x = true → EB cl b ρ y) : EB cl (.and a b) ρ (x && y) := by
  unfold EB evE; rw [show evE cl a ρ = .ok (.dat (.bool x), ρ) from h, Res.bind_ok]
  cases x with
  | false => rfl
  | true => exact k rfl
theorem eb_or {a b : T} {x y : Bool} (h : EB cl a ρ x) (k : x = false → EB cl b ρ y) : EB cl (.or a b) ρ (x || y) := by
  unfold EB evE; rw [show evE cl a ρ = .ok (.dat (.bool x), ρ) from h, Res.bind_ok]
  cases x with
  | true => rfl
  | false => exact k rfl
theorem eb_not {a : T} {x : Bool} (h : EB cl a ρ x) : EB cl (.not a) ρ (!x) := by
  unfold EB evE; rw [show evE cl a ρ = .ok (.dat (.bool x), ρ) from h]; rfl
theorem tb_and {a b : T} {x y : Bool} (h : TB cl a ρ x) (k : x = true → TB cl b ρ y) : TB cl (.and a b) ρ (x && y) := by
  unfold TB evT; rw [show evT cl a ρ = .ok (x, ρ) from h, Res.bind_ok]
  cases x with
  | false => rfl
  | true => exact k rfl
theorem tb_or {a b : T} {x y : Bool} (h : TB cl a ρ x) (k : x = false → TB cl b ρ y) : TB cl (.or a b) ρ (x || y) := by
  unfold TB evT; rw [show evT cl a ρ = .ok (x, ρ) from h, Res.bind_ok]
  cases x with
  | true => rfl
  | false => exact k rfl
theorem tb_not {a : T} {x : Bool} (h : TB cl a ρ x) : TB cl (.not a) ρ (!x) := by
  unfold TB evT; rw [show evT cl a ρ = .ok (x, ρ) from h]; rfl
theorem TB.of {a : T} {x y : Bool} (h : TB cl a ρ x) (e : x = y) : TB cl a ρ y := e ▸ h
theorem EB.of {a : T} {x y : Bool} (h : EB cl a ρ x) (e : x = y) : EB cl a ρ y := e ▸ h
theorem tb_ort {a b : T} (h : TB cl a ρ true) : TB cl (.or a b) ρ true := tb_or (y := false) h fun e => Bool.noConfusion e
theorem tb_orf {a b : T} {y : Bool} (h : TB cl a ρ false) (k : TB cl b ρ y) : TB cl (.or a b) ρ y := tb_or h fun _ => k
theorem tb_andt {a b : T} {y : Bool} (h : TB cl a ρ true) (k : TB cl b ρ y) : TB cl (.and a b) ρ y := tb_and h fun _ => k
theorem tb_andf {a b : T} (h : TB cl a ρ false) : TB cl (.and a b) ρ false := tb_and (y := false) h fun e => Bool.noConfusion e
theorem eb_ort {a b : T} (h : EB cl a ρ true) : EB cl (.or a b) ρ true := eb_or (y := false) h fun e => Bool.noConfusion e
theorem eb_orf {a b : T} {y : Bool} (h : EB cl a ρ false) (k : EB cl b ρ y) : EB cl (.or a b) ρ y := eb_or h fun _ => k
theorem eb_andt {a b : T} {y : Bool} (h : EB cl a ρ true) (k : EB cl b ρ y) : EB cl (.and a b) ρ y := eb_and h fun _ => k
theorem eb_andf {a b : T} (h : EB cl a ρ false) : EB cl (.and a b) ρ false := eb_and (y := false) h fun e => Bool.noConfusion e
theorem lends_vl : ∀ vs : List Vl, lends (vs.map .vl) = []
  | [] => rfl
  | v :: vs => by show lends (vs.map .vl) = []; exact lends_vl vs
theorem argVs_vl : ∀ vs : List Vl, argVs ρ (vs.map .vl) = some vs
  | [] => rfl
  | v :: vs => by
    show (argV ρ (.vl v)).bind _ = _
    show (argVs ρ (vs.map .vl)).map _ = _
    rw [argVs_vl vs]; rfl
theorem giveBack_vl : ∀ (vs : List Vl) (fin : List (Option Vl)), fin.length = vs.length → giveBack ρ (vs.map .vl) fin = some ρ
  | [], [], _ => rfl
  | v :: vs, f :: fs, h => by
    show giveBack ρ (vs.map .vl) fs = _
    exact giveBack_vl vs fs (Nat.succ.inj h)
theorem doCall_vl {f : List Vl → Res (Vl × List (Option Vl))} {vs : List Vl} {v : Vl} {fin : List (Option Vl)} (h : f vs = .ok (v, fin)) (hl : fin.length = vs.length) : doCall f (vs.map .vl) ρ = .ok (v, ρ) := by
  unfold doCall
  rw [lends_vl, if_pos (show nodupB [] = true from rfl), argVs_vl, get_some, Res.bind_ok, h]
  show (get (giveBack ρ (vs.map .vl) fin)).bind _ = _
  rw [giveBack_vl vs fin hl]; rfl
theorem jv_call {k : Nat} {es : List T} {vs : List Vl} {v : Vl} {fin : List (Option Vl)} (h : AV cl es ρ vs) (c : cl k vs = .ok (v, fin)) (hl : fin.length = vs.length) : EV cl (.call k es) ρ v := by
  unfold EV evE; rw [show evAs cl es ρ = .ok (vs.map .vl, ρ) from h, Res.bind_ok]
  exact doCall_vl c hl
theorem tb_call {k : Nat} {es : List T} {vs : List Vl} {b : Bool} {fin : List (Option Vl)} (h : AV cl es ρ vs) (c : cl k vs = .ok (.dat (.bool b), fin)) (hl : fin.length = vs.length) : TB cl (.call k es) ρ b := by
  unfold TB evT; rw [show evAs cl es ρ = .ok (vs.map .vl, ρ) from h, Res.bind_ok]
  show (doCall (cl k) (vs.map .vl) ρ).bind _ = _
  rw [doCall_vl c hl]; rfl
theorem jv_callv {i k : Nat} {es : List T} {vs : List Vl} {v : Vl} {fin : List (Option Vl)} (hi : ρ[i]? = some (some (.fn k))) (h : AV cl es ρ vs) (c : cl k vs = .ok (v, fin)) (hl : fin.length = vs.length) : EV cl (.callv i es) ρ v := by
  unfold EV evE; simp only [hi]
  rw [show evAs cl es ρ = .ok (vs.map .vl, ρ) from h, Res.bind_ok]
  exact doCall_vl c hl
/-- a def of one parameter that tells a truth value -/
def Told (cl : Fun) (k : Nat) (d : D) (b : Bool) : Prop := cl k [.dat d] = .ok (.dat (.bool b), [some (.dat d)])
theorem eb_told {k : Nat} {e : T} {d : D} {b : Bool} (h : AR cl e ρ (.dat d)) (c : Told cl k d b) : EB cl (.call k [e]) ρ b := jv_call (av_cons h av_nil) c rfl
theorem tb_told {k : Nat} {e : T} {d : D} {b : Bool} (h : AR cl e ρ (.dat d)) (c : Told cl k d b) : TB cl (.call k [e]) ρ b := tb_call (av_cons h av_nil) c rfl
theorem eb_toldv {i k : Nat} {e : T} {d : D} {b : Bool} (hi : ρ[i]? = some (some (.fn k))) (h : AR cl e ρ (.dat d)) (c : Told cl k d b) : EB cl (.callv i [e]) ρ b := jv_callv hi (av_cons h av_nil) c rfl
/-! ### comprehensions over one own name -/
theorem put_lt {i : Nat} {v : Vl} (h : i < ρ.length) : Env.put ρ i v = some (ρ.set i (some v)) := by
  unfold Env.put; rw [decide_eq_true h]; rfl
theorem set_get {j : Nat} {o : Option Vl} (h : ρ[j]? = some o) : ρ.set j o = ρ := by
  have hj : j < ρ.length := by
    cases Nat.lt_or_ge j ρ.length with
    | inl h => exact h
    | inr g => rw [List.getElem?_eq_none g] at h; cases h
  rw [List.getElem?_eq_getElem hj] at h
  have e := Option.some.inj h
  rw [← e]
  exact List.set_getElem_self hj
theorem compTurns_map {j : Nat} {c : Env → Res (Bool × Env)} {f : Env → Res (Vl × Env)} {p : D → Bool} {g : D → D} (hj : ρ[j]? = some none) : ∀ (ds acc : List D) (o : Option Vl),
    (∀ d ∈ ds, c (ρ.set j (some (.dat d))) = .ok (p d, ρ.set j (some (.dat d))) ∧ (p d = true → ∃ v, f (ρ.set j (some (.dat d))) = .ok (v, ρ.set j (some (.dat d))) ∧ v.frz = some (g d))) →
    ∃ o', compTurns [j] (.nm j) c f ds acc (ρ.set j o) = .ok (acc ++ (ds.filter p).map g, ρ.set j o')
  | [], acc, o, _ => ⟨o, by unfold compTurns; rw [List.filter_nil, List.map_nil, List.append_nil]⟩
  | d :: ds, acc, o, h => by
    have hlt : j < ρ.length := by
      cases Nat.lt_or_ge j ρ.length with
      | inl h => exact h
      | inr g => rw [List.getElem?_eq_none g] at hj; cases hj
    obtain ⟨h1, h2⟩ := h d (List.mem_cons_self ..)
    have ht : ∀ d' ∈ ds, _ := fun d' hd' => h d' (List.mem_cons_of_mem _ hd')
    have e1 : store (.nm j) d (Env.wipe (ρ.set j o) [j]) = some (ρ.set j (some (.dat d))) := by
      show Env.put ((ρ.set j o).set j none) j (.dat d) = _
      rw [put_lt (by rw [List.length_set, List.length_set]; exact hlt), List.set_set, List.set_set]
    unfold compTurns
    rw [e1, get_some, Res.bind_ok, h1, Res.bind_ok]
    cases hp : p d with
    | false =>
      obtain ⟨o', e⟩ := compTurns_map (p := p) (g := g) hj ds acc (some (.dat d)) ht
      refine ⟨o', ?_⟩
      rw [List.filter_cons_of_neg (by rw [hp]; exact Bool.false_ne_true)]
      exact e
    | true =>
      obtain ⟨v, e2, e3⟩ := h2 hp
      obtain ⟨o', e⟩ := compTurns_map (p := p) (g := g) hj ds (acc ++ [g d]) (some (.dat d)) ht
      refine ⟨o', ?_⟩
      rw [List.filter_cons_of_pos hp, List.map_cons]
      show (f _).bind _ = _
      rw [e2, Res.bind_ok]
      show (get v.frz).bind _ = _
      rw [e3, get_some, Res.bind_ok]
      rw [List.append_assoc] at e
      exact e
theorem jv_comp {j : Nat} {elt it : T} {wk : Wkd} {c : Option T} {x : D} {ds : List D} {p : D → Bool} {g : D → D} (hj : ρ[j]? = some none) (h : OPL cl it ρ x) (hi : itemsOf wk x = some ds)
    (hc : ∀ d ∈ ds, evC cl c (ρ.set j (some (.dat d))) = .ok (p d, ρ.set j (some (.dat d)))) (hf : ∀ d ∈ ds, p d = true → ∃ v, EV cl elt (ρ.set j (some (.dat d))) v ∧ v.frz = some (g d)) :
    EV cl (.comp elt [j] (.nm j) wk it c) ρ (.lst ((ds.filter p).map g)) := by
  obtain ⟨o, h1, h2, h3, h4⟩ := h
  obtain ⟨o', e⟩ := compTurns_map (c := evC cl c) (f := evE cl elt) (p := p) (g := g) hj ds [] none (fun d hd => ⟨hc d hd, fun hp => hf d hd hp⟩)
  rw [set_get hj] at e
  have hown : ownOk ρ [j] = true := by
    unfold ownOk
    show ((match ρ[j]? with | some (some v) => !v.own | _ => true) && true) = true
    rw [hj]; rfl
  unfold EV evE
  rw [h1, Res.bind_ok]
  show (get (look ρ o)).bind _ = _
  rw [h2, get_some, Res.bind_ok, hi, get_some, Res.bind_ok]
  show (get (need (ownOk ρ [j]))).bind _ = _
  rw [hown]
  show ((compTurns [j] (.nm j) (evC cl c) (evE cl elt) ds [] (lockO o ρ)).noX).bind _ = _
  rw [h3, e, Res.noX_ok, Res.bind_ok]
  show Res.ok (Vl.lst ([] ++ _), unlockO ρ o ((ρ.set j o').set j (keepV ρ[j]?))) = _
  rw [h4, hj, List.set_set, show keepV (some none) = none from rfl, set_get hj, List.nil_append]
/-- without a condition -/
theorem jv_compm {j : Nat} {elt it : T} {wk : Wkd} {x : D} {ds : List D} {g : D → D} (hj : ρ[j]? = some none) (h : OPL cl it ρ x) (hi : itemsOf wk x = some ds)
    (hf : ∀ d ∈ ds, ∃ v, EV cl elt (ρ.set j (some (.dat d))) v ∧ v.frz = some (g d)) :
    EV cl (.comp elt [j] (.nm j) wk it none) ρ (.lst (ds.map g)) := by
  have e := jv_comp (cl := cl) (c := none) (p := fun _ => true) hj h hi (fun d _ => by unfold evC; rfl) (fun d hd _ => hf d hd)
  rw [List.filter_eq_self.mpr (fun _ _ => rfl)] at e
  exact e
theorem set_at {j : Nat} {v : Option Vl} (hj : ρ[j]? = some none) : (ρ.set j v)[j]? = some v := by
  have hlt : j < ρ.length := by
    cases Nat.lt_or_ge j ρ.length with
    | inl h => exact h
    | inr g => rw [List.getElem?_eq_none g] at hj; cases hj
  rw [List.getElem?_set_self hlt]
theorem boolsOf_map (p : D → Bool) : ∀ ds : List D, boolsOf (ds.map fun d => .bool (p d)) = some (ds.map p)
  | [] => rfl
  | d :: ds => by
    show (boolsOf (ds.map fun d => .bool (p d))).map _ = _
    rw [boolsOf_map p ds]; rfl
/-- all([.. for x in xs]) -/
theorem all_told {j : Nat} {elt it : T} {x : D} {ds : List D} {p : D → Bool} (hj : ρ[j]? = some none) (h : OPL cl it ρ x) (hi : itemsOf .seq x = some ds)
    (hf : ∀ d ∈ ds, EB cl elt (ρ.set j (some (.dat d))) (p d)) : blt1 .all (.list (ds.map fun d => .bool (p d))) = some (.dat (.bool (ds.all p))) ∧ OP cl (.comp elt [j] (.nm j) .seq it none) ρ (.list (ds.map fun d => .bool (p d))) := by
  refine ⟨?_, op_ev (jv_compm (g := fun d => .bool (p d)) hj h hi fun d hd => ⟨_, hf d hd, rfl⟩) rfl rfl⟩
  show (boolsOf _).map _ = _
  rw [boolsOf_map]
  show some (Vl.dat (.bool ((ds.map p).all id))) = _
  rw [List.all_map]; rfl
theorem eb_all {j : Nat} {elt it : T} {x : D} {ds : List D} {p : D → Bool} (hj : ρ[j]? = some none) (h : OPL cl it ρ x) (hi : itemsOf .seq x = some ds)
    (hf : ∀ d ∈ ds, EB cl elt (ρ.set j (some (.dat d))) (p d)) : EB cl (.blt .all (.comp elt [j] (.nm j) .seq it none)) ρ (ds.all p) :=
  jv_blt (all_told hj h hi hf).2 (all_told hj h hi hf).1
theorem tb_all {j : Nat} {elt it : T} {x : D} {ds : List D} {p : D → Bool} (hj : ρ[j]? = some none) (h : OPL cl it ρ x) (hi : itemsOf .seq x = some ds)
    (hf : ∀ d ∈ ds, EB cl elt (ρ.set j (some (.dat d))) (p d)) : TB cl (.blt .all (.comp elt [j] (.nm j) .seq it none)) ρ (ds.all p) :=
  tb_blt (all_told hj h hi hf).2 (all_told hj h hi hf).1
/-- [x for x in xs if not ..]: those that are odd -/
def odd (p : D → Bool) (ds : List D) : List D := ds.filter fun d => !p d
theorem jv_odd {j : Nat} {it c : T} {x : D} {ds : List D} {p : D → Bool} (hj : ρ[j]? = some none) (h : OPL cl it ρ x) (hi : itemsOf .seq x = some ds)
    (hf : ∀ d ∈ ds, TB cl c (ρ.set j (some (.dat d))) (p d)) : EV cl (.comp (.var j) [j] (.nm j) .seq it (some (.not c))) ρ (.lst (odd p ds)) := by
  have e := jv_comp (cl := cl) (elt := .var j) (c := some (.not c)) (p := fun d => !p d) (g := fun d => d) hj h hi (fun d hd => by unfold evC; exact tb_not (hf d hd)) (fun d _ _ => ⟨_, jv_var (set_at hj), rfl⟩)
  rw [List.map_id'] at e
  exact e
theorem op_odd {j : Nat} {it c : T} {x : D} {ds : List D} {p : D → Bool} (hj : ρ[j]? = some none) (h : OPL cl it ρ x) (hi : itemsOf .seq x = some ds)
    (hf : ∀ d ∈ ds, TB cl c (ρ.set j (some (.dat d))) (p d)) : OP cl (.comp (.var j) [j] (.nm j) .seq it (some (.not c))) ρ (.list (odd p ds)) := op_ev (jv_odd hj h hi hf) rfl rfl
theorem odd_nil {p : D → Bool} {ds : List D} : (odd p ds).isEmpty = ds.all p := by
  unfold odd
  induction ds with
  | nil => rfl
  | cons d ds ih =>
    cases h : p d with
    | true => rw [List.filter_cons_of_neg (by rw [h]; decide), List.all_cons, h, Bool.true_and]; exact ih
    | false => rw [List.filter_cons_of_pos (by rw [h]; rfl), List.all_cons, h]; rfl
/-! ### statements -/
def JS (cl : Fun) (lk : List Nat) (ss : List S) (ρ : Env) (v : Vl) (ρ' : Env) : Prop := evSs cl lk ss ρ = .ok (.ret v, ρ')
variable {lk : List Nat}
theorem js_unp {is : List Nat} {e : T} {v : Vl} {d : D} {ρ1 ρ' : Env} {w : Vl} {r : List S} (h : EV cl e ρ v) (ht : tgOk lk (.tp is) = true) (hf : v.frz = some d) (hs : store (.tp is) d ρ = some ρ1) (k : JS cl lk r ρ1 w ρ') : JS cl lk (.unp is e :: r) ρ w ρ' := by
  unfold JS evSs
  have e : evS cl lk (.unp is e) ρ = .ok (.nx, ρ1) := by
    unfold evS; rw [show evE cl e ρ = .ok (v, ρ) from h, Res.bind_ok]
    show (get (if tgOk lk (.tp is) then v.frz else none)).bind _ = _
    rw [if_pos ht, hf, get_some, Res.bind_ok]
    show (get (store (.tp is) d ρ)).bind _ = _
    rw [hs]; rfl
  rw [e]; exact k
theorem js_augi {i : Nat} {e : T} {a b : Int} {w : Vl} {r : List S} {ρ' : Env} (ha : ρ[i]? = some (some (.dat (.int a)))) (h : OP cl e ρ (.int b)) (hl : lk.contains i = false) (hi : i < ρ.length) (k : JS cl lk r (ρ.set i (some (.dat (.int (a + b))))) w ρ') : JS cl lk (.aug i .add e :: r) ρ w ρ' := by
  unfold JS evSs
  obtain ⟨o, h1, h2⟩ := h
  have e : evS cl lk (.aug i .add e) ρ = .ok (.nx, ρ.set i (some (.dat (.int (a + b))))) := by
    unfold evS
    rw [show look ρ (.pk i) = some (.int a) by unfold look; simp only [ha]; rfl, get_some, Res.bind_ok, h1, Res.bind_ok]
    show (get (look ρ o)).bind _ = _
    rw [h2, get_some, Res.bind_ok]
    show (get (putS lk ρ i _)).bind _ = _
    rw [show putS lk ρ i (.dat (.int (a + b))) = some (ρ.set i (some (.dat (.int (a + b))))) by unfold putS; rw [hl]; exact put_lt hi]; rfl
  rw [e]; exact k
theorem js_ext {i : Nat} {e : T} {ds ys : List D} {w : Vl} {r : List S} {ρ' : Env} (ha : ρ[i]? = some (some (.lst ds))) (h : OP cl e ρ (.list ys)) (hz : ds.length + ys.length ≤ 16777216) (k : JS cl lk r (ρ.set i (some (.lst (ds ++ ys)))) w ρ') : JS cl lk (.ext i e :: r) ρ w ρ' := by
  unfold JS evSs
  obtain ⟨o, h1, h2⟩ := h
  have e : evS cl lk (.ext i e) ρ = .ok (.nx, ρ.set i (some (.lst (ds ++ ys)))) := by
    unfold evS
    simp only [ha, h1, Res.bind_ok, h2, get_some]
    rw [if_pos (show sizeOk (ds.length + ys.length) = true from decide_eq_true hz)]
  rw [e]; exact k
theorem js_app {i : Nat} {e : T} {ds : List D} {v w : Vl} {d : D} {r : List S} {ρ' : Env} (ha : ρ[i]? = some (some (.lst ds))) (h : EV cl e ρ v) (hf : v.frz = some d) (hz : ds.length < 16777216) (k : JS cl lk r (ρ.set i (some (.lst (ds ++ [d])))) w ρ') : JS cl lk (.app i e :: r) ρ w ρ' := by
  unfold JS evSs
  have e : evS cl lk (.app i e) ρ = .ok (.nx, ρ.set i (some (.lst (ds ++ [d])))) := by
    unfold evS
    simp only [ha, show evE cl e ρ = .ok (v, ρ) from h, Res.bind_ok, hf, get_some]
    rw [if_pos (decide_eq_true hz)]
  rw [e]; exact k
theorem js_ret {e : T} {v : Vl} {r : List S} (hv : e.isVar = none) (h : EV cl e ρ v) : JS cl lk (.ret e :: r) ρ v ρ := by
  unfold JS evSs
  have : evS cl lk (.ret e) ρ = .ok (.ret v, ρ) := by
    unfold evS
    cases e <;> first | (cases hv; done) | (show (evE cl _ ρ).bind _ = _; rw [show evE cl _ ρ = .ok (v, ρ) from h]; rfl)
  rw [this]; rfl
theorem js_if {c : T} {a r : List S} {x : Bool} {v : Vl} {ρ' : Env} (h : TB cl c ρ x) (ht : x = true → JS cl lk a ρ v ρ') (hf : x = false → JS cl lk r ρ v ρ') : JS cl lk (.iff c a [] :: r) ρ v ρ' := by
  unfold JS evSs evS
  rw [show evT cl c ρ = .ok (x, ρ) from h, Res.bind_ok]
  cases x with
  | true =>
    show (evSs cl lk a ρ).bind _ = _
    rw [show evSs cl lk a ρ = .ok (.ret v, ρ') from ht rfl]; rfl
  | false =>
    show (evSs cl lk [] ρ).bind _ = _
    rw [show evSs cl lk [] ρ = .ok (.nx, ρ) by unfold evSs; rfl]
    exact hf rfl
theorem js_asg {i : Nat} {e : T} {w v : Vl} {r : List S} {ρ' : Env} (h : EV cl e ρ w) (hl : lk.contains i = false) (hi : i < ρ.length) (k : JS cl lk r (ρ.set i (some w)) v ρ') : JS cl lk (.asg i e :: r) ρ v ρ' := by
  unfold JS evSs
  have e : evS cl lk (.asg i e) ρ = .ok (.nx, ρ.set i (some w)) := by
    unfold evS; rw [show evE cl e ρ = .ok (w, ρ) from h, Res.bind_ok]
    show (get (putS lk ρ i w)).bind _ = _
    rw [show putS lk ρ i w = some (ρ.set i (some w)) by unfold putS; rw [hl]; exact put_lt hi]; rfl
  rw [e]; exact k
theorem run_js {d : Df} {vs : List Vl} {v : Vl} {ρ' : Env} (hl : vs.length = d.ps) (h : JS cl (lentOf vs 0) d.body (startE d.n vs) v ρ') : runF cl d vs = .ok (v, ρ'.take d.ps) := by
  unfold runF
  rw [if_pos hl, show evSs cl (lentOf vs 0) d.body (startE d.n vs) = .ok (.ret v, ρ') from h]
end
end Pv
set_option Elab.async false
set_option linter.all false
set_option maxRecDepth 100000
set_option maxHeartbeats 2100000
/-! The text that repr gives has plain signs alone; where it fits. -/
namespace Pv
open PySem
def Pl (x : Str) : Prop := ∀ c ∈ x.cps.toList, c < 0x110000
theorem Pl.ok {x : Str} (h : Pl x) : PyData.strOk x = true := by
  unfold PyData.strOk
  rw [← Array.all_toList]
  exact List.all_eq_true.mpr fun c hc => decide_eq_true (h c hc)
theorem pl_of {x : Str} (h : PyData.strOk x = true) : Pl x := fun c hc => by
  unfold PyData.strOk at h
  rw [← Array.all_toList] at h
  exact of_decide_eq_true (List.all_eq_true.mp h c hc)
theorem Pl.app {x y : Str} (h : Pl x) (k : Pl y) : Pl (x ++ y) := fun c hc => by
  have e : (x ++ y).cps.toList = x.cps.toList ++ y.cps.toList := Array.toList_append
  rw [e] at hc
  exact (List.mem_append.mp hc).elim (h c) (k c)
theorem pl_lit (s : String) : Pl (Str.ofString s) := fun c hc => by
  rw [PyProof.Rows.signs_ofString] at hc
  obtain ⟨x, _, e⟩ := List.mem_map.mp hc
  subst e
  have h := x.valid
  simp only [UInt32.isValidChar, Nat.isValidChar] at h
  show x.val.toNat < 0x110000
  omega
theorem pl_digits (c : Nat) : ∀ d ∈ (Nat.toDigits 16 c).map Char.toNat, d < 0x110000 := fun d hd => by
  obtain ⟨x, _, e⟩ := List.mem_map.mp hd
  subst e
  have h := x.valid
  simp only [UInt32.isValidChar, Nat.isValidChar] at h
  show x.val.toNat < 0x110000
  omega
theorem pl_char {q c : Nat} (hc : c < 0x110000) : ∀ d ∈ Builtin.Str.reprChar q c, d < 0x110000 := fun d hd => by
  unfold Builtin.Str.reprChar at hd
  dsimp only at hd
  have hx : ∀ w : Nat, d ∈ List.replicate (w - ((Nat.toDigits 16 c).map Char.toNat).length) 48 ++ (Nat.toDigits 16 c).map Char.toNat → d < 0x110000 := fun w h => by
    rcases List.mem_append.mp h with h | h
    · rw [(List.mem_replicate.mp h).2]; decide
    · exact pl_digits c d h
  repeat' split at hd
  all_goals first
    | (rcases List.mem_append.mp hd with h | h; (simp only [List.mem_cons, List.not_mem_nil, or_false] at h; omega); exact hx _ h)
    | (simp only [List.mem_cons, List.not_mem_nil, or_false] at hd; omega)
theorem pl_fold {q : Nat} : ∀ (l : List Nat) (acc : Array Nat), (∀ c ∈ l, c < 0x110000) → (∀ c ∈ acc.toList, c < 0x110000) → ∀ c ∈ (l.foldl (fun out c => out ++ (Builtin.Str.reprChar q c).toArray) acc).toList, c < 0x110000
  | [], acc, _, ha => ha
  | x :: r, acc, h, ha => by
    rw [List.foldl_cons]
    refine pl_fold r _ (fun c hc => h c (List.mem_cons_of_mem _ hc)) fun c hc => ?_
    rw [Array.toList_append] at hc
    rcases List.mem_append.mp hc with hc | hc
    · exact ha c hc
    · exact pl_char (h x (List.mem_cons_self ..)) c hc
theorem pl_repr {x : Str} (h : Pl x) : Pl (reprText x) := by
  have hq : reprQuote x < 0x110000 := by unfold reprQuote; split <;> decide
  intro c hc
  unfold reprText at hc
  rw [show ∀ (a : Array Nat) (b : Nat), (Str.mk (a.push b)).cps.toList = a.toList ++ [b] from fun a b => Array.toList_push] at hc
  rcases List.mem_append.mp hc with hc | hc
  · rw [← Array.foldl_toList] at hc
    exact pl_fold _ _ h (fun c hc => by rw [List.mem_singleton.mp hc]; exact hq) c hc
  · rw [List.mem_singleton.mp hc]; exact hq
theorem pl_from : ∀ (ts : List Str) (k : Nat) (acc : Str), (∀ t ∈ ts, Pl t) → Pl acc → Pl (textFrom k acc ts)
  | [], _, _, _, ha => ha
  | t :: ts, k, acc, h, ha => by
    unfold textFrom
    refine pl_from ts _ _ (fun u hu => h u (List.mem_cons_of_mem _ hu)) ((ha.app ?_).app (h t (List.mem_cons_self ..)))
    exact pl_lit _
theorem pl_list {ts : List Str} (h : ∀ t ∈ ts, Pl t) : Pl (listText ts) := (pl_from ts 0 _ h (pl_lit _)).app (pl_lit _)
theorem pl_join {a : Str} (ha : Pl a) : ∀ ts : List Str, (∀ t ∈ ts, Pl t) → Pl (Str.join a ts)
  | [], _ => fun c hc => by cases hc
  | [x], h => h x (List.mem_cons_self ..)
  | x :: y :: r, h => ((h x (List.mem_cons_self ..)).app ha).app (pl_join ha (y :: r) fun u hu => h u (List.mem_cons_of_mem _ hu))
theorem pl_tuple {ts : List Str} (h : ∀ t ∈ ts, Pl t) : Pl (tupleText ts) := ((pl_lit _).app (pl_join (pl_lit _) ts h)).app (pl_lit _)
mutual
theorem pl_shown : ∀ d : D, d.canLay0 = true → Pl d.shown
  | .none, _ => by unfold PyData.shown; exact pl_lit _
  | .bool b, _ => by unfold PyData.shown; cases b <;> exact pl_lit _
  | .int i, _ => by unfold PyData.shown; exact pl_lit _
  | .str x, h => by
    unfold PyData.shown
    unfold PyData.canLay0 at h
    exact pl_repr (pl_of h)
  | .list xs, h => by
    unfold PyData.shown
    unfold PyData.canLay0 at h
    exact pl_list (pl_shownAll xs h)
  | .tuple xs, h => by
    unfold PyData.shown
    unfold PyData.canLay0 at h
    exact pl_tuple (pl_shownAll xs h)
  | .dict _, h => by unfold PyData.canLay0 at h; cases h
theorem pl_shownAll : ∀ xs : List D, PyData.canLayAll0 xs = true → ∀ t ∈ PyData.shownAll xs, Pl t
  | [], _ => fun t ht => by unfold PyData.shownAll at ht; cases ht
  | x :: xs, h => fun t ht => by
    unfold PyData.canLayAll0 at h
    rw [Bool.and_eq_true] at h
    unfold PyData.shownAll at ht
    rcases List.mem_cons.mp ht with e | e
    · rw [e]; exact pl_shown x h.1
    · exact pl_shownAll xs h.2 t e
end
theorem shp_shown {d : D} (h : d.canLay0 = true) : shp (.str d.shown) = true := by
  unfold shp SeqAt.shaped PyData.canLay0
  rw [(pl_shown d h).ok, Bool.true_and]
  exact decide_eq_true (by unfold PyData.depth; decide)
/-- what repr may be asked of -/
structure Rpr (d : D) : Prop where
  lay : d.canLay0 = true
  lvs : d.leavesShort 64 = true
  shw : d.showable = true
  dep : d.depth ≤ 60
  wgt : d.weight ≤ 250000
theorem Rpr.run {d : D} (h : Rpr d) : blt1 .repr d = some (.dat (.str d.shown)) := by
  have h1 := PyData.shown_le 64 (by decide) d h.lvs
  have h2 := h.wgt
  refine if_pos ?_
  rw [h.lay, h.shw, decide_eq_true h.dep]
  show (true && sizeOk d.shown.length && true) = true
  rw [show sizeOk d.shown.length = true from decide_eq_true (by omega)]; rfl
end Pv
set_option Elab.async false
set_option linter.all false
set_option maxRecDepth 100000
set_option maxHeartbeats 2100000
/-! Runs that change slots, told from their end. -/
namespace Pv
open PySem
section
variable {cl : Fun} {ρ : Env} {lk : List Nat}
structure XE (cl : Fun) (e : T) (ρ : Env) (Q : Vl × Env → Prop) : Prop where
  sat : (evE cl e ρ).sat Q
structure XT (cl : Fun) (e : T) (ρ : Env) (Q : Bool × Env → Prop) : Prop where
  sat : (evT cl e ρ).sat Q
structure XD (cl : Fun) (es : List T) (ρ : Env) (Q : List D × Env → Prop) : Prop where
  sat : (evDs cl es ρ).sat Q
structure XS (cl : Fun) (lk : List Nat) (ss : List S) (ρ : Env) (Q : Flow × Env → Prop) : Prop where
  sat : (evSs cl lk ss ρ).sat Q
theorem xe_ev {e : T} {v : Vl} {Q : Vl × Env → Prop} (h : EV cl e ρ v) (q : Q (v, ρ)) : XE cl e ρ Q := by
  refine ⟨?_⟩; rw [show evE cl e ρ = .ok (v, ρ) from h]; exact q
theorem xt_tb {e : T} {b : Bool} {Q : Bool × Env → Prop} (h : TB cl e ρ b) (q : Q (b, ρ)) : XT cl e ρ Q := by
  refine ⟨?_⟩; rw [show evT cl e ρ = .ok (b, ρ) from h]; exact q
theorem xt_and {a b : T} {Q : Bool × Env → Prop} (h : XT cl a ρ fun p => match p.1 with
    | true => XT cl b p.2 Q
    | false => Q (false, p.2)) : XT cl (.and a b) ρ Q := by
  refine ⟨?_⟩; unfold evT
  rw [Res.sat_bind]
  refine Res.sat.mono h.sat fun p hp => ?_
  obtain ⟨x, ρ'⟩ := p
  cases x with
  | true => exact XT.sat hp
  | false => exact hp
theorem opnd_nv {a : T} (h : a.isVar = none) : opnd a (evE cl a) ρ = (evE cl a ρ).bind fun p => .ok (.vl p.1, p.2) := by
  unfold opnd; rw [h]
theorem opnd_var {i : Nat} {v : Vl} (h : ρ[i]? = some (some v)) : opnd (.var i) (evE cl (.var i)) ρ = .ok (.pk i, ρ) := by
  unfold opnd T.isVar; simp only [h]
theorem opnd_ev {a : T} {v : Vl} (hv : a.isVar = none) (h : EV cl a ρ v) : opnd a (evE cl a) ρ = .ok (.vl v, ρ) := by
  rw [opnd_nv hv, show evE cl a ρ = .ok (v, ρ) from h]; rfl
/-- an operand that is no name, then one that leaves the slots -/
theorem xt_cmpl {o : Cmp} {a b : T} {Q : Bool × Env → Prop} (hv : a.isVar = none) (h : XE cl a ρ fun p => ∃ x y v, p.1.view = some x ∧ OP cl b p.2 y ∧ cmp2 o x y = some v ∧ Q (v, p.2)) : XT cl (.cmp o a b) ρ Q := by
  refine ⟨?_⟩; unfold evT
  rw [opnd_nv hv, Res.sat_bind, Res.sat_bind]
  refine Res.sat.mono h.sat fun p hp => ?_
  obtain ⟨w, ρ'⟩ := p
  obtain ⟨x, y, v, e1, ⟨o', h1, h2⟩, e2, q⟩ := hp
  show ((opnd b (evE cl b) ρ').bind _).sat Q
  rw [h1, Res.bind_ok]
  show ((get w.view).bind _).sat Q
  rw [e1, get_some, Res.bind_ok]
  show ((get (look ρ' o')).bind _).sat Q
  rw [h2, get_some, Res.bind_ok, e2]
  exact q
theorem xe_binr {o : Bin} {a b : T} {p : Opn} {Q : Vl × Env → Prop} (ha : opnd a (evE cl a) ρ = .ok (p, ρ)) (hv : b.isVar = none) (h : XE cl b ρ fun q => ∃ x y v, look q.2 p = some x ∧ q.1.view = some y ∧ bin2 o x y = some v ∧ Q (v, q.2)) : XE cl (.bin o a b) ρ Q := by
  refine ⟨?_⟩; unfold evE
  rw [ha, Res.bind_ok]
  show ((opnd b (evE cl b) ρ).bind _).sat Q
  rw [opnd_nv hv, Res.sat_bind, Res.sat_bind]
  refine Res.sat.mono h.sat fun q hq => ?_
  obtain ⟨w, ρ'⟩ := q
  obtain ⟨x, y, v, e1, e2, e3, q⟩ := hq
  show ((get (look ρ' p)).bind _).sat Q
  rw [show look ρ' p = some x from e1, get_some, Res.bind_ok]
  show ((get w.view).bind _).sat Q
  rw [e2, get_some, Res.bind_ok, e3]
  exact q
theorem xe_binl {o : Bin} {a b : T} {Q : Vl × Env → Prop} (hv : a.isVar = none) (h : XE cl a ρ fun p => ∃ x y v, p.1.view = some x ∧ OP cl b p.2 y ∧ bin2 o x y = some v ∧ Q (v, p.2)) : XE cl (.bin o a b) ρ Q := by
  refine ⟨?_⟩; unfold evE
  rw [opnd_nv hv, Res.sat_bind, Res.sat_bind]
  refine Res.sat.mono h.sat fun p hp => ?_
  obtain ⟨w, ρ'⟩ := p
  obtain ⟨x, y, v, e1, ⟨o', h1, h2⟩, e2, q⟩ := hp
  show ((opnd b (evE cl b) ρ').bind _).sat Q
  rw [h1, Res.bind_ok]
  show ((get w.view).bind _).sat Q
  rw [e1, get_some, Res.bind_ok]
  show ((get (look ρ' o')).bind _).sat Q
  rw [h2, get_some, Res.bind_ok, e2]
  exact q
theorem xe_ixr {a b : T} {p : Opn} {Q : Vl × Env → Prop} (ha : opnd a (evE cl a) ρ = .ok (p, ρ)) (hv : b.isVar = none) (h : XE cl b ρ fun q => ∃ x y d, look q.2 p = some x ∧ q.1.view = some y ∧ ix2 x y = some d ∧ Q (.dat d, q.2)) : XE cl (.ix a b) ρ Q := by
  refine ⟨?_⟩; unfold evE
  rw [ha, Res.bind_ok]
  show ((opnd b (evE cl b) ρ).bind _).sat Q
  rw [opnd_nv hv, Res.sat_bind, Res.sat_bind]
  refine Res.sat.mono h.sat fun q hq => ?_
  obtain ⟨w, ρ'⟩ := q
  obtain ⟨x, y, v, e1, e2, e3, q⟩ := hq
  show ((get (look ρ' p)).bind _).sat Q
  rw [show look ρ' p = some x from e1, get_some, Res.bind_ok]
  show ((get w.view).bind _).sat Q
  rw [e2, get_some, Res.bind_ok, e3]
  exact q
theorem xe_blt {b : Blt} {e : T} {Q : Vl × Env → Prop} (hv : e.isVar = none) (h : XE cl e ρ fun p => ∃ x v, p.1.view = some x ∧ blt1 b x = some v ∧ Q (v, p.2)) : XE cl (.blt b e) ρ Q := by
  refine ⟨?_⟩; unfold evE
  rw [opnd_nv hv, Res.sat_bind, Res.sat_bind]
  refine Res.sat.mono h.sat fun p hp => ?_
  obtain ⟨w, ρ'⟩ := p
  obtain ⟨x, v, e1, e2, q⟩ := hp
  show ((get w.view).bind _).sat Q
  rw [e1, get_some, Res.bind_ok, e2]
  exact q
theorem xd_nil {Q : List D × Env → Prop} (q : Q ([], ρ)) : XD cl [] ρ Q := by refine ⟨?_⟩; unfold evDs; exact q
theorem xd_cons {e : T} {es : List T} {Q : List D × Env → Prop} (h : XE cl e ρ fun p => ∃ d, p.1.frz = some d ∧ XD cl es p.2 fun q => Q (d :: q.1, q.2)) : XD cl (e :: es) ρ Q := by
  refine ⟨?_⟩; unfold evDs
  rw [Res.sat_bind]
  refine Res.sat.mono h.sat fun p hp => ?_
  obtain ⟨w, ρ'⟩ := p
  obtain ⟨d, e1, h2⟩ := hp
  show ((get w.frz).bind _).sat Q
  rw [e1, get_some, Res.bind_ok, Res.sat_bind]
  exact h2.sat
theorem xd_dv {es : List T} {ds : List D} {Q : List D × Env → Prop} (h : DV cl es ρ ds) (q : Q (ds, ρ)) : XD cl es ρ Q := by
  refine ⟨?_⟩; rw [show evDs cl es ρ = .ok (ds, ρ) from h]; exact q
theorem xe_tup {es : List T} {Q : Vl × Env → Prop} (h : XD cl es ρ fun p => Q (.dat (.tuple p.1), p.2)) : XE cl (.tup es) ρ Q := by
  refine ⟨?_⟩; unfold evE; rw [Res.sat_bind]; exact h.sat
theorem xe_lst {es : List T} {Q : Vl × Env → Prop} (h : XD cl es ρ fun p => Q (.lst p.1, p.2)) : XE cl (.lst es) ρ Q := by
  refine ⟨?_⟩; unfold evE; rw [Res.sat_bind]; exact h.sat
/-- a call that is lent the dict in slot 0 -/
theorem xe_lend {k : Nat} {es : List T} {kvs : List (Str × D)} {vs : List Vl} {Q : Vl × Env → Prop} (h0 : ρ[0]? = some (some (.dct kvs))) (hv : AV cl es ρ vs)
    (h : (cl k (.dct kvs :: vs)).sat fun p => ∃ kvs' fin, p.2 = some (.dct kvs') :: fin ∧ fin.length = vs.length ∧ Q (p.1, ρ.set 0 (some (.dct kvs')))) : XE cl (.call k (.var 0 :: es)) ρ Q := by
  refine ⟨?_⟩; unfold evE evAs
  have e1 : argOf (.var 0) (evE cl (.var 0)) ρ = .ok (.lend 0, ρ) := by
    unfold argOf T.isVar; simp only [h0]
  rw [e1, Res.bind_ok]
  show (((evAs cl es ρ).bind _).bind _).sat Q
  rw [show evAs cl es ρ = .ok (vs.map .vl, ρ) from hv, Res.bind_ok, Res.bind_ok]
  show (doCall (cl k) (.lend 0 :: vs.map .vl) ρ).sat Q
  unfold doCall
  have hn : nodupB (lends (.lend 0 :: vs.map .vl)) = true := by
    show nodupB (0 :: lends (vs.map .vl)) = true
    rw [lends_vl]; rfl
  have ha : argVs ρ (.lend 0 :: vs.map .vl) = some (.dct kvs :: vs) := by
    show (argV ρ (.lend 0)).bind _ = _
    have : argV ρ (.lend 0) = some (.dct kvs) := by unfold argV; simp only [h0]
    rw [this]
    show (argVs ρ (vs.map .vl)).map _ = _
    rw [argVs_vl]; rfl
  rw [if_pos hn, ha, get_some, Res.bind_ok]
  obtain ⟨p, e, kvs', fin, e2, hl, q⟩ := Res.sat_iff.mp h
  obtain ⟨v, fs⟩ := p
  rw [e]
  show ((get (giveBack ρ (.lend 0 :: vs.map .vl) fs)).bind _).sat Q
  rw [show fs = some (.dct kvs') :: fin from e2]
  show ((get (giveBack (ρ.set 0 (some (.dct kvs'))) (vs.map .vl) fin)).bind _).sat Q
  rw [giveBack_vl vs fin hl]
  exact q
/-! ### statements -/
theorem xs_nil {Q : Flow × Env → Prop} (q : Q (.nx, ρ)) : XS cl lk [] ρ Q := by refine ⟨?_⟩; unfold evSs; exact q
theorem putS_ok {i : Nat} {v : Vl} (hl : lk.contains i = false) (hi : i < ρ.length) : putS lk ρ i v = some (ρ.set i (some v)) := by
  unfold putS; rw [hl]; exact put_lt hi
theorem xs_asg {i : Nat} {e : T} {r : List S} {Q : Flow × Env → Prop} (hl : lk.contains i = false) (h : XE cl e ρ fun p => i < p.2.length ∧ XS cl lk r (p.2.set i (some p.1)) Q) : XS cl lk (.asg i e :: r) ρ Q := by
  refine ⟨?_⟩; unfold evSs evS
  rw [Res.sat_bind, Res.sat_bind]
  refine Res.sat.mono h.sat fun p hp => ?_
  obtain ⟨v, ρ'⟩ := p
  obtain ⟨hi, h2⟩ := hp
  show ((get (putS lk ρ' i v)).bind _).sat _
  rw [putS_ok hl hi, get_some, Res.bind_ok]
  exact h2.sat
theorem xs_if {c : T} {a b r : List S} {Q : Flow × Env → Prop} (h : XT cl c ρ fun p => match p.1 with
    | true => XS cl lk a p.2 fun q => match q.1 with
      | .nx => XS cl lk r q.2 Q
      | f => Q (f, q.2)
    | false => XS cl lk b p.2 fun q => match q.1 with
      | .nx => XS cl lk r q.2 Q
      | f => Q (f, q.2)) : XS cl lk (.iff c a b :: r) ρ Q := by
  have go : ∀ (s : Res (Flow × Env)), (s.sat fun q => match q.1 with
      | .nx => XS cl lk r q.2 Q
      | f => Q (f, q.2)) → (s.bind fun p => match p.1 with
      | .nx => evSs cl lk r p.2
      | .brk => .ok (.brk, p.2)
      | .cnt => .ok (.cnt, p.2)
      | .ret v => .ok (.ret v, p.2)).sat Q := by
    intro s hs
    rw [Res.sat_bind]
    refine Res.sat.mono hs fun q hq => ?_
    obtain ⟨f, ρ'⟩ := q
    cases f <;> first | exact hq | exact XS.sat hq
  refine ⟨?_⟩; unfold evSs evS
  obtain ⟨p, e, hp⟩ := Res.sat_iff.mp h.sat
  rw [show evT cl c ρ = .ok p from e, Res.bind_ok]
  obtain ⟨x, ρ'⟩ := p
  cases x with
  | true => exact go _ (XS.sat hp)
  | false => exact go _ (XS.sat hp)
theorem xs_ret {e : T} {r : List S} {Q : Flow × Env → Prop} (hv : e.isVar = none) (h : XE cl e ρ fun p => Q (.ret p.1, p.2)) : XS cl lk (.ret e :: r) ρ Q := by
  have e1 : evS cl lk (.ret e) ρ = (evE cl e ρ).bind fun p => .ok (.ret p.1, p.2) := by
    unfold evS
    cases e <;> first | rfl | (cases hv; done)
  refine ⟨?_⟩; unfold evSs
  rw [e1, Res.sat_bind, Res.sat_bind]
  exact Res.sat.mono h.sat fun p hp => hp
theorem xs_app {i : Nat} {e : T} {ds : List D} {r : List S} {Q : Flow × Env → Prop} (ha : ρ[i]? = some (some (.lst ds))) (h : XE cl e ρ fun p => ∃ d ds', p.1.frz = some d ∧ p.2[i]? = some (some (.lst ds')) ∧ ds'.length < 16777216 ∧ XS cl lk r (p.2.set i (some (.lst (ds' ++ [d])))) Q) : XS cl lk (.app i e :: r) ρ Q := by
  refine ⟨?_⟩; unfold evSs evS
  simp only [ha]
  rw [Res.sat_bind, Res.sat_bind]
  refine Res.sat.mono h.sat fun p hp => ?_
  obtain ⟨v, ρ'⟩ := p
  obtain ⟨d, ds', e1, e2, hz, h2⟩ := hp
  show ((get v.frz).bind _).sat _
  rw [e1, get_some, Res.bind_ok]
  simp only [show ρ'[i]? = some (some (.lst ds')) from e2]
  rw [if_pos (decide_eq_true hz)]
  exact h2.sat
theorem xs_ext {i : Nat} {e : T} {ds : List D} {r : List S} {Q : Flow × Env → Prop} (ha : ρ[i]? = some (some (.lst ds))) (hv : e.isVar = none) (h : XE cl e ρ fun p => ∃ ys ds', p.1.view = some (.list ys) ∧ p.2[i]? = some (some (.lst ds')) ∧ ds'.length + ys.length ≤ 16777216 ∧ XS cl lk r (p.2.set i (some (.lst (ds' ++ ys)))) Q) : XS cl lk (.ext i e :: r) ρ Q := by
  refine ⟨?_⟩; unfold evSs evS
  simp only [ha]
  rw [opnd_nv hv, Res.sat_bind, Res.sat_bind, Res.sat_bind]
  refine Res.sat.mono h.sat fun p hp => ?_
  obtain ⟨v, ρ'⟩ := p
  obtain ⟨ys, ds', e1, e2, hz, h2⟩ := hp
  show ((get v.view).bind _).sat _
  rw [e1, get_some, Res.bind_ok]
  simp only [show ρ'[i]? = some (some (.lst ds')) from e2]
  rw [if_pos (show sizeOk (ds'.length + ys.length) = true from decide_eq_true hz)]
  exact h2.sat
/-- a for over what is no name, by an invariant of what is left -/
theorem xs_for {tg : Tg} {k : Wkd} {it : T} {body r : List S} {Q : Flow × Env → Prop} (hv : it.isVar = none) (ht : tgOk lk tg = true)
    (h : XE cl it ρ fun p => ∃ x ds, p.1.view = some x ∧ itemsOf k x = some ds ∧ (forTurns tg (evSs cl lk body) ds p.2).sat fun q => match q.1 with
      | .nx => XS cl lk r q.2 Q
      | f => Q (f, q.2)) : XS cl lk (.forl tg k it body :: r) ρ Q := by
  refine ⟨?_⟩; unfold evSs evS
  rw [opnd_nv hv, Res.sat_bind, Res.sat_bind, Res.sat_bind]
  refine Res.sat.mono h.sat fun p hp => ?_
  obtain ⟨v, ρ'⟩ := p
  obtain ⟨x, ds, e1, e2, h2⟩ := hp
  show ((get v.view).bind _).sat _
  rw [e1, get_some, Res.bind_ok, e2, get_some, Res.bind_ok, if_pos ht, Res.sat_bind]
  refine Res.sat.mono h2 fun q hq => ?_
  obtain ⟨f, ρ2⟩ := q
  cases f <;> first | exact hq | exact XS.sat hq
/-- .. over plain data in a slot -/
theorem xs_forv {tg : Tg} {k : Wkd} {i : Nat} {x : D} {ds : List D} {body r : List S} {Q : Flow × Env → Prop} (hx : ρ[i]? = some (some (.dat x))) (ht : tgOk lk tg = true) (e2 : itemsOf k x = some ds)
    (h : (forTurns tg (evSs cl lk body) ds ρ).sat fun q => match q.1 with
      | .nx => XS cl lk r q.2 Q
      | f => Q (f, q.2)) : XS cl lk (.forl tg k (.var i) body :: r) ρ Q := by
  obtain ⟨o, h1, h2, h3, h4⟩ := opl_var (cl := cl) hx
  refine ⟨?_⟩; unfold evSs evS
  rw [h1, Res.bind_ok]
  show (((get (look ρ o)).bind _).bind _).sat Q
  rw [h2, get_some, Res.bind_ok, e2, get_some, Res.bind_ok, if_pos ht]
  show (((forTurns tg (evSs cl lk body) ds (lockO o ρ)).bind _).bind _).sat Q
  rw [h3, Res.sat_bind, Res.sat_bind]
  refine Res.sat.mono h fun q hq => ?_
  obtain ⟨f, ρ2⟩ := q
  show (Res.ok (f, unlockO ρ o ρ2)).sat _
  rw [h4]
  cases f <;> first | exact hq | exact XS.sat hq
/-- a comprehension over what is no name -/
theorem xe_comp {elt it : T} {own : List Nat} {tg : Tg} {k : Wkd} {c : Option T} {Q : Vl × Env → Prop} (hv : it.isVar = none)
    (h : XE cl it ρ fun p => ∃ x ds, p.1.view = some x ∧ itemsOf k x = some ds ∧ ownOk p.2 own = true ∧ (compTurns own tg (evC cl c) (evE cl elt) ds [] p.2).sat fun q => Q (.lst q.1, Env.back p.2 q.2 own)) : XE cl (.comp elt own tg k it c) ρ Q := by
  refine ⟨?_⟩; unfold evE
  rw [opnd_nv hv, Res.sat_bind, Res.sat_bind]
  refine Res.sat.mono h.sat fun p hp => ?_
  obtain ⟨v, ρ'⟩ := p
  obtain ⟨x, ds, e1, e2, e3, h2⟩ := hp
  show ((get v.view).bind _).sat _
  rw [e1, get_some, Res.bind_ok, e2, get_some, Res.bind_ok]
  show ((get (need (ownOk ρ' own))).bind _).sat Q
  rw [show ownOk ρ' own = true from e3]
  show ((compTurns own tg (evC cl c) (evE cl elt) ds [] ρ').noX.bind _).sat Q
  rw [Res.sat_bind, Res.sat_noX]
  exact Res.sat.mono h2 fun q hq => hq
/-- .. over plain data in a slot -/
theorem xe_compv {elt : T} {own : List Nat} {tg : Tg} {k : Wkd} {c : Option T} {i : Nat} {x : D} {ds : List D} {Q : Vl × Env → Prop} (hx : ρ[i]? = some (some (.dat x))) (e2 : itemsOf k x = some ds) (e3 : ownOk ρ own = true)
    (h : (compTurns own tg (evC cl c) (evE cl elt) ds [] ρ).sat fun q => Q (.lst q.1, Env.back ρ q.2 own)) : XE cl (.comp elt own tg k (.var i) c) ρ Q := by
  obtain ⟨o, h1, h2, h3, h4⟩ := opl_var (cl := cl) hx
  refine ⟨?_⟩; unfold evE
  rw [h1, Res.bind_ok]
  show ((get (look ρ o)).bind _).sat Q
  rw [h2, get_some, Res.bind_ok, e2, get_some, Res.bind_ok]
  show ((get (need (ownOk ρ own))).bind _).sat Q
  rw [e3]
  show ((compTurns own tg (evC cl c) (evE cl elt) ds [] (lockO o ρ)).noX.bind _).sat Q
  rw [h3, Res.sat_bind, Res.sat_noX]
  refine Res.sat.mono h fun q hq => ?_
  obtain ⟨ys, ρ2⟩ := q
  show Q (.lst ys, unlockO ρ o (Env.back ρ ρ2 own))
  rw [h4]; exact hq
theorem XS.of {ss : List S} {Q : Flow × Env → Prop} (h : (evSs cl lk ss ρ).sat Q) : XS cl lk ss ρ Q := ⟨h⟩
theorem XE.of {e : T} {Q : Vl × Env → Prop} (h : (evE cl e ρ).sat Q) : XE cl e ρ Q := ⟨h⟩
theorem XT.of {e : T} {Q : Bool × Env → Prop} (h : (evT cl e ρ).sat Q) : XT cl e ρ Q := ⟨h⟩
end
end Pv
set_option Elab.async false
set_option linter.all false
set_option maxRecDepth 100000
set_option maxHeartbeats 2100000
namespace Pv
open PySem
section
variable {cl : Fun} {ρ : Env} {lk : List Nat}
theorem lt_of_at {j : Nat} {o : Option Vl} (h : ρ[j]? = some o) : j < ρ.length := by
  cases Nat.lt_or_ge j ρ.length with
  | inl h => exact h
  | inr g => rw [List.getElem?_eq_none g] at h; cases h
theorem turns_map {j : Nat} {f : Env → Res (Vl × Env)} {g : D → D} (hlt : j < ρ.length) : ∀ (ds acc : List D) (o : Option Vl),
    (∀ d ∈ ds, ∃ v, f (ρ.set j (some (.dat d))) = .ok (v, ρ.set j (some (.dat d))) ∧ v.frz = some (g d)) →
    ∃ o', compTurns [j] (.nm j) (evC cl none) f ds acc (ρ.set j o) = .ok (acc ++ ds.map g, ρ.set j o')
  | [], acc, o, _ => ⟨o, by unfold compTurns; rw [List.map_nil, List.append_nil]⟩
  | d :: ds, acc, o, h => by
    obtain ⟨v, e2, e3⟩ := h d (List.mem_cons_self ..)
    have ht : ∀ d' ∈ ds, _ := fun d' hd' => h d' (List.mem_cons_of_mem _ hd')
    have e1 : store (.nm j) d (Env.wipe (ρ.set j o) [j]) = some (ρ.set j (some (.dat d))) := by
      show Env.put ((ρ.set j o).set j none) j (.dat d) = _
      rw [put_lt (by rw [List.length_set, List.length_set]; exact hlt), List.set_set, List.set_set]
    obtain ⟨o', e⟩ := turns_map (g := g) hlt ds (acc ++ [g d]) (some (.dat d)) ht
    refine ⟨o', ?_⟩
    unfold compTurns
    rw [e1, get_some, Res.bind_ok, show evC cl none (ρ.set j (some (.dat d))) = .ok (true, ρ.set j (some (.dat d))) by unfold evC; rfl, Res.bind_ok, List.map_cons]
    show (f _).bind _ = _
    rw [e2, Res.bind_ok]
    show (get v.frz).bind _ = _
    rw [e3, get_some, Res.bind_ok]
    rw [List.append_assoc] at e
    exact e
/-- a comprehension over an own list -/
theorem jv_compl {i j : Nat} {o : Option Vl} {elt : T} {ds : List D} {g : D → D} (hi : ρ[i]? = some (some (.lst ds))) (hj : ρ[j]? = some o) (ho : ∀ v, o = some v → v.own = false) (hij : i ≠ j)
    (hf : ∀ d ∈ ds, ∃ v, EV cl elt ((ρ.set i (some (.lck ds))).set j (some (.dat d))) v ∧ v.frz = some (g d)) : EV cl (.comp elt [j] (.nm j) .seq (.var i) none) ρ (.lst (ds.map g)) := by
  have hlt : j < (ρ.set i (some (.lck ds))).length := by rw [List.length_set]; exact lt_of_at hj
  have hj' : (ρ.set i (some (.lck ds)))[j]? = some o := by rw [List.getElem?_set_ne hij]; exact hj
  obtain ⟨o', e⟩ := turns_map (cl := cl) (f := evE cl elt) (g := g) hlt ds [] o hf
  rw [set_get hj'] at e
  have hown : ownOk ρ [j] = true := by
    unfold ownOk
    show ((match ρ[j]? with | some (some v) => !v.own | _ => true) && true) = true
    rw [hj]
    cases o with
    | none => rfl
    | some v => show ((!v.own) && true) = true; rw [ho v rfl]; rfl
  have hlk : lockO (.pk i) ρ = ρ.set i (some (.lck ds)) := by unfold lockO; simp only [hi]
  have hlook : look ρ (.pk i) = some (.list ds) := by unfold look; simp only [hi]; rfl
  unfold EV evE
  rw [opnd_var hi, Res.bind_ok]
  show (get (look ρ (.pk i))).bind _ = _
  rw [hlook, get_some, Res.bind_ok]
  show (get (some ds)).bind _ = _
  rw [get_some, Res.bind_ok]
  show (get (need (ownOk ρ [j]))).bind _ = _
  rw [hown]
  show ((compTurns [j] (.nm j) (evC cl none) (evE cl elt) ds [] (lockO (.pk i) ρ)).noX).bind _ = _
  rw [hlk, e, Res.noX_ok, Res.bind_ok]
  show Res.ok (Vl.lst ([] ++ ds.map g), unlockO ρ (.pk i) (((ρ.set i (some (.lck ds))).set j o').set j (keepV ρ[j]?))) = _
  have hk : keepV ρ[j]? = o := by rw [hj]; cases o <;> rfl
  rw [hk, List.set_set, set_get hj', List.nil_append]
  have hu : unlockO ρ (.pk i) (ρ.set i (some (.lck ds))) = ρ := by
    unfold unlockO
    simp only [hi, List.getElem?_set_self (lt_of_at hi)]
    rw [List.set_set]
    exact set_get hi
  rw [hu]
theorem xs_asgs2 {i j : Nat} {a b : T} {v w : Vl} {r : List S} {Q : Flow × Env → Prop} (h : EV cl a ρ v) (k : EV cl b ρ w) (hi : lk.contains i = false) (hj : lk.contains j = false) (li : i < ρ.length) (lj : j < ρ.length)
    (q : XS cl lk r ((ρ.set i (some v)).set j (some w)) Q) : XS cl lk (.asgs [i, j] [a, b] :: r) ρ Q := by
  refine XS.of ?_
  have e : evS cl lk (.asgs [i, j] [a, b]) ρ = .ok (.nx, (ρ.set i (some v)).set j (some w)) := by
    unfold evS evVs evVs evVs
    rw [show evE cl a ρ = .ok (v, ρ) from h, Res.bind_ok]
    show (((evE cl b ρ).bind _).bind _).bind _ = _
    rw [show evE cl b ρ = .ok (w, ρ) from k, Res.bind_ok]
    show (get (putsS lk ρ [i, j] [v, w])).bind _ = _
    have : putsS lk ρ [i, j] [v, w] = some ((ρ.set i (some v)).set j (some w)) := by
      unfold putsS
      rw [putS_ok hi li, Option.bind_some]
      unfold putsS
      rw [putS_ok hj (by rw [List.length_set]; exact lj), Option.bind_some]
      unfold putsS; rfl
    rw [this]; rfl
  unfold evSs
  rw [e]
  exact q.sat
/-- what a call gives -/
structure CS (r : Res (Vl × List (Option Vl))) (P : Vl × List (Option Vl) → Prop) : Prop where
  sat : r.sat P
theorem CS.of {r : Res (Vl × List (Option Vl))} {P : Vl × List (Option Vl) → Prop} (h : r.sat P) : CS r P := ⟨h⟩
theorem CS.mono {r : Res (Vl × List (Option Vl))} {P R : Vl × List (Option Vl) → Prop} (h : CS r P) (k : ∀ p, P p → R p) : CS r R := ⟨Res.sat.mono h.sat k⟩
theorem cs_run {Ps : List Df} {n k : Nat} {d : Df} {vs : List Vl} {P : Vl × List (Option Vl) → Prop} (hd : Ps[k]? = some d) (hl : vs.length = d.ps)
    (h : XS (evF Ps n) (lentOf vs 0) d.body (startE d.n vs) fun p => match p.1 with
      | .ret v => P (v, p.2.take d.ps)
      | _ => False) : CS (evF Ps (n + 1) k vs) P := by
  have e : evF Ps (n + 1) k vs = runF (evF Ps n) d vs := by
    show (match Ps[k]? with | some d => runF (evF Ps n) d vs | none => .stuck) = _
    rw [hd]
  refine CS.of ?_
  rw [e]
  refine runF_sat hl (Res.sat.mono h.sat fun p hp => ?_)
  obtain ⟨f, ρ'⟩ := p
  cases f with
  | ret v => exact hp
  | nx => exact hp.elim
  | brk => exact hp.elim
  | cnt => exact hp.elim
theorem xe_lendc {k : Nat} {es : List T} {kvs : List (Str × D)} {vs : List Vl} {Q : Vl × Env → Prop} (h0 : ρ[0]? = some (some (.dct kvs))) (hv : AV cl es ρ vs)
    (h : CS (cl k (.dct kvs :: vs)) fun p => ∃ kvs' fin, p.2 = some (.dct kvs') :: fin ∧ fin.length = vs.length ∧ Q (p.1, ρ.set 0 (some (.dct kvs')))) : XE cl (.call k (.var 0 :: es)) ρ Q := xe_lend h0 hv h.sat
end
end Pv
set_option Elab.async false
set_option linter.all false
set_option maxRecDepth 100000
set_option maxHeartbeats 2100000
namespace Pv
open PySem
section
variable {cl : Fun} {ρ : Env} {lk : List Nat}
/-- a call that is lent the dict in any slot -/
theorem xe_lendi {i k : Nat} {es : List T} {kvs : List (Str × D)} {vs : List Vl} {Q : Vl × Env → Prop} (h0 : ρ[i]? = some (some (.dct kvs))) (hv : AV cl es ρ vs)
    (h : CS (cl k (.dct kvs :: vs)) fun p => ∃ kvs' fin, p.2 = some (.dct kvs') :: fin ∧ fin.length = vs.length ∧ Q (p.1, ρ.set i (some (.dct kvs')))) : XE cl (.call k (.var i :: es)) ρ Q := by
  refine XE.of ?_
  obtain ⟨p, e, kvs', fin, e2, hl, q⟩ := Res.sat_iff.mp h.sat
  obtain ⟨v, fs⟩ := p
  unfold evE evAs
  have e1 : argOf (.var i) (evE cl (.var i)) ρ = .ok (.lend i, ρ) := by
    unfold argOf T.isVar; simp only [h0]
  rw [e1, Res.bind_ok]
  show (((evAs cl es ρ).bind _).bind _).sat Q
  rw [show evAs cl es ρ = .ok (vs.map .vl, ρ) from hv, Res.bind_ok, Res.bind_ok]
  show (doCall (cl k) (.lend i :: vs.map .vl) ρ).sat Q
  unfold doCall
  have hn : nodupB (lends (.lend i :: vs.map .vl)) = true := by
    show nodupB (i :: lends (vs.map .vl)) = true
    rw [lends_vl]; rfl
  have ha : argVs ρ (.lend i :: vs.map .vl) = some (.dct kvs :: vs) := by
    show (argV ρ (.lend i)).bind _ = _
    have : argV ρ (.lend i) = some (.dct kvs) := by unfold argV; simp only [h0]
    rw [this]
    show (argVs ρ (vs.map .vl)).map _ = _
    rw [argVs_vl]; rfl
  rw [if_pos hn, ha, get_some, Res.bind_ok, e]
  show ((get (giveBack ρ (.lend i :: vs.map .vl) fs)).bind _).sat Q
  rw [show fs = some (.dct kvs') :: fin from e2]
  show ((get (giveBack (ρ.set i (some (.dct kvs'))) (vs.map .vl) fin)).bind _).sat Q
  rw [giveBack_vl vs fin hl]
  exact q
theorem jv_scr {i : Nat} {ns : List Int} (h : ρ[i]? = some (some (.scr ns))) : EV cl (.var i) ρ (.scr ns) := by
  unfold EV evE; rw [h]
theorem ar_scr {i : Nat} {ns : List Int} (h : ρ[i]? = some (some (.scr ns))) : AR cl (.var i) ρ (.scr ns) := by
  unfold AR argOf T.isVar
  simp only [h]
  rw [show evE cl (.var i) ρ = .ok (.scr ns, ρ) from jv_scr h, Res.bind_ok]; rfl
theorem jv_cut {i n : Nat} {ns : List Int} (h : ρ[i]? = some (some (.scr ns))) : EV cl (.cut i n) ρ (.lst ((ns.take n).map .int)) := by
  unfold EV evE; rw [h]
theorem jv_dct {ks : List Str} {es : List T} {ds : List D} (h : DV cl es ρ ds) : EV cl (.dct ks es) ρ (.dct (ks.zip ds)) := by
  unfold EV evE; rw [show evDs cl es ρ = .ok (ds, ρ) from h]; rfl
theorem jv_sls {a b : T} {k : Nat} {x y : D} {v : Vl} (h : OP cl a ρ x) (m : OP cl b ρ y) (hv : steps2 k x y = some v) : EV cl (.sls a b k) ρ v := by
  obtain ⟨p, h1, h2⟩ := h
  obtain ⟨q, k1, k2⟩ := m
  unfold EV evE; rw [h1, Res.bind_ok]
  show (opnd b (evE cl b) ρ).bind _ = _
  rw [k1, Res.bind_ok]
  show (get (look ρ p)).bind _ = _
  rw [h2, get_some, Res.bind_ok]
  show (get (look ρ q)).bind _ = _
  rw [k2, get_some, Res.bind_ok, hv]; rfl
theorem turns_none {j : Nat} {c : Env → Res (Bool × Env)} {f : Env → Res (Vl × Env)} (hlt : j < ρ.length) : ∀ (ds acc : List D) (o : Option Vl),
    (∀ d ∈ ds, c (ρ.set j (some (.dat d))) = .ok (false, ρ.set j (some (.dat d)))) →
    ∃ o', compTurns [j] (.nm j) c f ds acc (ρ.set j o) = .ok (acc, ρ.set j o')
  | [], acc, o, _ => ⟨o, by unfold compTurns; rfl⟩
  | d :: ds, acc, o, h => by
    have e2 := h d (List.mem_cons_self ..)
    have ht : ∀ d' ∈ ds, _ := fun d' hd' => h d' (List.mem_cons_of_mem _ hd')
    have e1 : store (.nm j) d (Env.wipe (ρ.set j o) [j]) = some (ρ.set j (some (.dat d))) := by
      show Env.put ((ρ.set j o).set j none) j (.dat d) = _
      rw [put_lt (by rw [List.length_set, List.length_set]; exact hlt), List.set_set, List.set_set]
    obtain ⟨o', e⟩ := turns_none (c := c) (f := f) hlt ds acc (some (.dat d)) ht
    refine ⟨o', ?_⟩
    unfold compTurns
    rw [e1, get_some, Res.bind_ok, e2, Res.bind_ok]
    exact e
/-- [x for x in own if not ..], where all are as they should be -/
theorem jv_allr {i j : Nat} {o : Option Vl} {elt c : T} {ds : List D} (hi : ρ[i]? = some (some (.lst ds))) (hj : ρ[j]? = some o) (ho : ∀ v, o = some v → v.own = false) (hij : i ≠ j)
    (hf : ∀ d ∈ ds, TB cl c ((ρ.set i (some (.lck ds))).set j (some (.dat d))) true) : EV cl (.comp elt [j] (.nm j) .seq (.var i) (some (.not c))) ρ (.lst []) := by
  have hlt : j < (ρ.set i (some (.lck ds))).length := by rw [List.length_set]; exact lt_of_at hj
  have hj' : (ρ.set i (some (.lck ds)))[j]? = some o := by rw [List.getElem?_set_ne hij]; exact hj
  obtain ⟨o', e⟩ := turns_none (c := evC cl (some (.not c))) (f := evE cl elt) hlt ds [] o (fun d hd => by unfold evC; exact tb_not (hf d hd))
  rw [set_get hj'] at e
  have hown : ownOk ρ [j] = true := by
    unfold ownOk
    show ((match ρ[j]? with | some (some v) => !v.own | _ => true) && true) = true
    rw [hj]
    cases o with
    | none => rfl
    | some v => show ((!v.own) && true) = true; rw [ho v rfl]; rfl
  have hlk : lockO (.pk i) ρ = ρ.set i (some (.lck ds)) := by unfold lockO; simp only [hi]
  have hlook : look ρ (.pk i) = some (.list ds) := by unfold look; simp only [hi]; rfl
  unfold EV evE
  rw [opnd_var hi, Res.bind_ok]
  show (get (look ρ (.pk i))).bind _ = _
  rw [hlook, get_some, Res.bind_ok]
  show (get (some ds)).bind _ = _
  rw [get_some, Res.bind_ok]
  show (get (need (ownOk ρ [j]))).bind _ = _
  rw [hown]
  show ((compTurns [j] (.nm j) (evC cl (some (.not c))) (evE cl elt) ds [] (lockO (.pk i) ρ)).noX).bind _ = _
  rw [hlk, e, Res.noX_ok, Res.bind_ok]
  show Res.ok (Vl.lst [], unlockO ρ (.pk i) (((ρ.set i (some (.lck ds))).set j o').set j (keepV ρ[j]?))) = _
  have hk : keepV ρ[j]? = o := by rw [hj]; cases o <;> rfl
  rw [hk, List.set_set, set_get hj']
  have hu : unlockO ρ (.pk i) (ρ.set i (some (.lck ds))) = ρ := by
    unfold unlockO
    simp only [hi, List.getElem?_set_self (lt_of_at hi)]
    rw [List.set_set]
    exact set_get hi
  rw [hu]
end
end Pv
set_option Elab.async false
set_option linter.all false
set_option maxRecDepth 100000
set_option maxHeartbeats 2100000
namespace Pv
open PySem
section
variable {cl : Fun} {ρ : Env} {lk : List Nat}
def FV (cl : Fun) (es : List T) (acc : Str) (ρ : Env) (z : Str) : Prop := evFs cl es acc ρ = .ok (z, ρ)
theorem fv_nil {acc : Str} : FV cl [] acc ρ acc := by unfold FV evFs; rfl
theorem fv_cons {e : T} {es : List T} {acc y z : Str} {v : Vl} (h : EV cl e ρ v) (hy : txtOf v = some y) (hz : (acc ++ y).length ≤ 16777216) (k : FV cl es (acc ++ y) ρ z) : FV cl (e :: es) acc ρ z := by
  unfold FV evFs
  rw [show evE cl e ρ = .ok (v, ρ) from h, Res.bind_ok]
  show (get (txtOf v)).bind _ = _
  rw [hy, get_some, Res.bind_ok, if_pos (show sizeOk (acc ++ y).length = true from decide_eq_true hz)]
  exact k
theorem jv_fstr {es : List T} {z : Str} (h : FV cl es Str.empty ρ z) : EV cl (.fstr es) ρ (.dat (.str z)) := by
  unfold EV evE; rw [show evFs cl es Str.empty ρ = .ok (z, ρ) from h]; rfl
theorem jv_join {a e : T} {s z : Str} {x : D} (h : EV cl a ρ (.dat (.str s))) (k : OP cl e ρ x) (hz : join2 s x = some z) : EV cl (.join a e) ρ (.dat (.str z)) := by
  obtain ⟨o, h1, h2⟩ := k
  unfold EV evE; rw [show evE cl a ρ = .ok (.dat (.str s), ρ) from h, Res.bind_ok]
  show (get (some s)).bind _ = _
  rw [get_some, Res.bind_ok]
  show (opnd e (evE cl e) ρ).bind _ = _
  rw [h1, Res.bind_ok]
  show (get (look ρ o)).bind _ = _
  rw [h2, get_some, Res.bind_ok, hz]; rfl
theorem jv_ite {c a b : T} {x : Bool} {v : Vl} (h : TB cl c ρ x) (ht : x = true → EV cl a ρ v) (hf : x = false → EV cl b ρ v) : EV cl (.ite c a b) ρ v := by
  unfold EV evE; rw [show evT cl c ρ = .ok (x, ρ) from h, Res.bind_ok]
  cases x with
  | true => exact ht rfl
  | false => exact hf rfl
theorem xe_ite {c a b : T} {x : Bool} {Q : Vl × Env → Prop} (h : TB cl c ρ x) (ht : x = true → XE cl a ρ Q) (hf : x = false → XE cl b ρ Q) : XE cl (.ite c a b) ρ Q := by
  refine ⟨?_⟩
  unfold evE; rw [show evT cl c ρ = .ok (x, ρ) from h, Res.bind_ok]
  cases x with
  | true => exact (ht rfl).sat
  | false => exact (hf rfl).sat
/-- the two slots of a pair -/
def two (ρ : Env) (a b : Nat) (o o' : Option Vl) : Env := (ρ.set a o).set b o'
theorem two_wipe {a b : Nat} {o o' : Option Vl} (ha : ρ[a]? = some none) (hb : ρ[b]? = some none) (hab : a ≠ b) : Env.wipe (two ρ a b o o') [a, b] = ρ := by
  show ((((ρ.set a o).set b o').set b none).set a none) = ρ
  rw [List.set_set, List.set_comm _ _ (Ne.symm hab), List.set_set, set_get ha, set_get hb]
theorem turns_two {a b : Nat} {f : Env → Res (Vl × Env)} {g : D → D} (ha : ρ[a]? = some none) (hb : ρ[b]? = some none) (hab : a ≠ b) : ∀ (ds acc : List D) (o o' : Option Vl),
    (∀ d ∈ ds, ∃ x y v, d = .tuple [x, y] ∧ f (two ρ a b (some (.dat x)) (some (.dat y))) = .ok (v, two ρ a b (some (.dat x)) (some (.dat y))) ∧ v.frz = some (g d)) →
    ∃ p p', compTurns [a, b] (.tp [a, b]) (evC cl none) f ds acc (two ρ a b o o') = .ok (acc ++ ds.map g, two ρ a b p p')
  | [], acc, o, o', _ => ⟨o, o', by unfold compTurns; rw [List.map_nil, List.append_nil]⟩
  | d :: ds, acc, o, o', h => by
    obtain ⟨x, y, v, ed, e2, e3⟩ := h d (List.mem_cons_self ..)
    have ht : ∀ d' ∈ ds, _ := fun d' hd' => h d' (List.mem_cons_of_mem _ hd')
    have e1 : store (.tp [a, b]) d (Env.wipe (two ρ a b o o') [a, b]) = some (two ρ a b (some (.dat x)) (some (.dat y))) := by
      rw [two_wipe ha hb hab, ed]
      show (Env.put ρ a (.dat x)).bind _ = _
      rw [put_lt (lt_of_at ha), Option.bind_some]
      show (Env.put (ρ.set a (some (.dat x))) b (.dat y)).bind _ = _
      rw [put_lt (by rw [List.length_set]; exact lt_of_at hb)]; rfl
    obtain ⟨p, p', e⟩ := turns_two (g := g) ha hb hab ds (acc ++ [g d]) (some (.dat x)) (some (.dat y)) ht
    refine ⟨p, p', ?_⟩
    unfold compTurns
    rw [e1, get_some, Res.bind_ok, show evC cl none (two ρ a b (some (.dat x)) (some (.dat y))) = .ok (true, two ρ a b (some (.dat x)) (some (.dat y))) by unfold evC; rfl, Res.bind_ok, List.map_cons]
    show (f _).bind _ = _
    rw [e2, Res.bind_ok]
    show (get v.frz).bind _ = _
    rw [e3, get_some, Res.bind_ok]
    rw [List.append_assoc] at e
    exact e
theorem jv_comp2 {a b : Nat} {elt it : T} {x : D} {ds : List D} {g : D → D} (ha : ρ[a]? = some none) (hb : ρ[b]? = some none) (hab : a ≠ b) (h : OPL cl it ρ x) (hi : itemsOf .seq x = some ds)
    (hf : ∀ d ∈ ds, ∃ x y v, d = .tuple [x, y] ∧ EV cl elt (two ρ a b (some (.dat x)) (some (.dat y))) v ∧ v.frz = some (g d)) :
    EV cl (.comp elt [a, b] (.tp [a, b]) .seq it none) ρ (.lst (ds.map g)) := by
  obtain ⟨o, h1, h2, h3, h4⟩ := h
  obtain ⟨p, p', e⟩ := turns_two (cl := cl) (f := evE cl elt) (g := g) ha hb hab ds [] none none hf
  have e0 : two ρ a b none none = ρ := by unfold two; rw [set_get ha, set_get hb]
  rw [e0] at e
  have hown : ownOk ρ [a, b] = true := by
    unfold ownOk
    show ((match ρ[a]? with | some (some v) => !v.own | _ => true) && ((match ρ[b]? with | some (some v) => !v.own | _ => true) && true)) = true
    rw [ha, hb]; rfl
  unfold EV evE
  rw [h1, Res.bind_ok]
  show (get (look ρ o)).bind _ = _
  rw [h2, get_some, Res.bind_ok, hi, get_some, Res.bind_ok]
  show (get (need (ownOk ρ [a, b]))).bind _ = _
  rw [hown]
  show ((compTurns [a, b] (.tp [a, b]) (evC cl none) (evE cl elt) ds [] (lockO o ρ)).noX).bind _ = _
  rw [h3, e, Res.noX_ok, Res.bind_ok]
  have hback : Env.back ρ (two ρ a b p p') [a, b] = ρ := by
    show (((two ρ a b p p').set b (keepV ρ[b]?)).set a (keepV ρ[a]?)) = ρ
    rw [ha, hb]
    exact two_wipe ha hb hab
  show Res.ok (Vl.lst ([] ++ ds.map g), unlockO ρ o (Env.back ρ (two ρ a b p p') [a, b])) = _
  rw [h4, hback, List.nil_append]
theorem strsOf_mapS : ∀ ts : List Str, strsOf (ts.map .str) = some ts
  | [] => rfl
  | t :: ts => by
    show (strsOf (ts.map .str)).map _ = _
    rw [strsOf_mapS ts]; rfl
/-- what join gives of a list of texts, each of at most n signs -/
theorem join_run {s : Str} {ts : List Str} {n m : Nat} (h : ∀ t ∈ ts, t.length ≤ n) (hl : ts.length ≤ m) (hz : m * (n + s.length) ≤ 16777216) : join2 s (.list (ts.map .str)) = some (Txt.join s ts) := by
  have hs : ∀ us : List Str, (∀ t ∈ us, t.length ≤ n) → (us.map (·.length)).sum + us.length * s.length ≤ us.length * (n + s.length) := by
    intro us
    induction us with
    | nil => intro _; simp
    | cons u us ih =>
      intro hu
      have h1 := hu u (List.mem_cons_self ..)
      have h2 := ih fun t ht => hu t (List.mem_cons_of_mem _ ht)
      rw [List.map_cons, List.sum_cons, List.length_cons, Nat.add_mul, Nat.add_mul]
      omega
  have hb := hs ts h
  have hb2 : ts.length * (n + s.length) ≤ m * (n + s.length) := Nat.mul_le_mul_right _ hl
  show ((strsOf (ts.map .str)).bind _) = _
  rw [strsOf_mapS, Option.bind_some, if_pos (decide_eq_true (by omega))]
theorem join_runT {s : Str} {ts : List Str} {n m : Nat} (h : ∀ t ∈ ts, t.length ≤ n) (hl : ts.length ≤ m) (hz : m * (n + s.length) ≤ 16777216) : join2 s (.tuple (ts.map .str)) = some (Txt.join s ts) := join_run h hl hz
/-- repr of a text -/
theorem repr_str {x : Str} (h : Pl x) (hl : x.length ≤ 1000000) : blt1 .repr (.str x) = some (.dat (.str (PyData.str x).shown)) := by
  have h1 : (PyData.str x).shown.length ≤ 10 * x.length + 2 := by
    unfold PyData.shown
    exact StrLaws.reprText_len x fun c hc => by have := h c hc; omega
  refine if_pos ?_
  have h2 : (PyData.str x).canLay0 = true := by unfold PyData.canLay0; exact h.ok
  have h3 : (PyData.str x).showable = true := by unfold PyData.showable; rfl
  have h4 : (PyData.str x).depth = 0 := by unfold PyData.depth; rfl
  rw [h2, h3, h4]
  show (true && sizeOk (PyData.str x).shown.length && true) = true
  rw [show sizeOk (PyData.str x).shown.length = true from decide_eq_true (by omega)]; rfl
end
end Pv
set_option Elab.async false
set_option linter.all false
set_option maxRecDepth 100000
set_option maxHeartbeats 0
namespace K08
open PySem L2 Pv PyProof.Rows
def top (i : Nat) : Stmt := PySem.Challenge.pw_outandover_k08_texts_written.main.body.getD i (.Pass ⟨0, 0, 0, 0⟩)
/-- is_integer -/
def w0 : Df := ⟨1, 1, [(.ret (.and (.blt (.isi .int) (.var 0)) (.not (.blt (.isi .bool) (.var 0)))))]⟩
/-- is_number -/
def w1 : Df := ⟨1, 1, [(.ret (.and (.call 0 [(.var 0)]) (.cmp .ge (.var 0) (.cst (.int 0)))))]⟩
/-- program_text -/
def w2 : Df := ⟨1, 5, [(.asg 1 (.lst [])), (.forl (.tp [2, 3]) .seq (.var 0) [(.app 1 (.fstr [(.cst (.str "function ")), (.var 2)])), (.ext 1 (.comp (.call 3 [(.var 4)]) [4] (.nm 4) .seq (.var 3) none))]), (.ret (.join (.cst (.str "
")) (.var 1)))]⟩
/-- line_text -/
def w3 : Df := ⟨1, 9, [(.unp [2, 3, 4] (.var 0)), (.asg 1 (.tup [(.join (.cst (.str ",")) (.comp (.ite (.cmp .ne (.var 5) (.cst (.str ""))) (.var 5) (.cst (.str "-"))) [5] (.nm 5) .seq (.var 2) none)), (.join (.cst (.str ",")) (.comp (.call 4 [(.var 6)]) [6] (.nm 6) .seq (.var 3) none)), (.ite (.cmp .ne (.var 4) (.tup [])) (.join (.cst (.str ",")) (.comp (.call 5 [(.var 7), (.var 8)]) [7, 8] (.tp [7, 8]) .seq (.var 4) none)) (.cst (.str "-")))])), (.ret (.join (.cst (.str " ")) (.var 1)))]⟩
/-- way_word -/
def w4 : Df := ⟨1, 1, [(.iff (.call 1 [(.var 0)]) [(.ret (.blt .str (.var 0)))] []), (.ret (.ite (.cmp .eq (.var 0) (.cst (.tuple [(.str "back")]))) (.cst (.str "back")) (.fstr [(.cst (.str "fail:")), (.ix (.var 0) (.cst (.int 1)))])))]⟩
/-- handler_word -/
def w5 : Df := ⟨2, 2, [(.ret (.ite (.cmp .ne (.var 0) (.cst (.str ""))) (.fstr [(.var 0), (.cst (.str ">")), (.var 1)]) (.fstr [(.cst (.str "*>")), (.var 1)])))]⟩
/-- spots_text -/
def w6 : Df := ⟨1, 2, [(.ret (.ite (.cmp .gt (.blt .len (.var 0)) (.cst (.int 0))) (.join (.cst (.str " ")) (.comp (.call 7 [(.var 1)]) [1] (.nm 1) .seq (.var 0) none)) (.cst (.str "-"))))]⟩
/-- spot_word -/
def w7 : Df := ⟨1, 3, [(.unp [1, 2] (.var 0)), (.ret (.fstr [(.var 1), (.cst (.str ":")), (.var 2)]))]⟩
/-- _law_feed -/
def w8 : Df := ⟨1, 1, [(.ret (.dct ["cells", "at", "left", "count"] [(.blt .list (.cut 0 63)), (.cst (.int 0)), (.cst (.int 0)), (.cst (.int 0))]))]⟩
/-- _law_draw -/
def w9 : Df := ⟨2, 6, [(.putd 0 (.cst (.str "count")) (.bin .add (.ixd 0 (.cst (.str "count"))) (.cst (.int 1)))), (.iff (.cmp .gt (.ixd 0 (.cst (.str "left"))) (.cst (.int 0))) [(.asg 5 (.bin .mod (.blt .int (.ixd 0 (.cst (.str "left")))) (.var 1))), (.putd 0 (.cst (.str "left")) (.bin .fdiv (.ixd 0 (.cst (.str "left"))) (.var 1))), (.ret (.var 5))] []), (.asg 2 (.ixd 0 (.cst (.str "at")))), (.putd 0 (.cst (.str "at")) (.bin .add (.var 2) (.cst (.int 1)))), (.asg 3 (.ite (.cmp .ne (.ixd 0 (.cst (.str "cells"))) (.lst [])) (.ix (.ixd 0 (.cst (.str "cells"))) (.bin .mod (.blt .int (.var 2)) (.blt .len (.ixd 0 (.cst (.str "cells")))))) (.cst (.int 47)))), (.iff (.and (.cmp .ge (.var 3) (.bin .pow (.cst (.int 10)) (.cst (.int 18)))) (.cmp .lt (.var 2) (.blt .len (.ixd 0 (.cst (.str "cells")))))) [(.putd 0 (.cst (.str "left")) (.bin .fdiv (.var 3) (.var 1))), (.ret (.bin .mod (.blt .int (.var 3)) (.var 1)))] []), (.asg 4 (.bin .mod (.blt .int (.bin .add (.bin .add (.bin .mod (.blt .int (.var 3)) (.cst (.int 1000000531))) (.bin .mul (.cst (.int 230017)) (.ixd 0 (.cst (.str "count"))))) (.cst (.int 101)))) (.cst (.int 2147482951)))), (.asg 4 (.bin .mod (.blt .int (.bin .add (.bin .add (.bin .mul (.var 4) (.var 4)) (.bin .mul (.cst (.int 5100007)) (.ixd 0 (.cst (.str "count"))))) (.cst (.int 59)))) (.cst (.int 2147482949)))), (.ret (.bin .mod (.blt .int (.bin .fdiv (.bin .mod (.blt .int (.bin .add (.bin .mul (.var 4) (.var 4)) (.bin .mul (.cst (.int 103)) (.var 4)))) (.cst (.int 2147482873))) (.cst (.int 16)))) (.var 1)))]⟩
/-- _law_row -/
def w10 : Df := ⟨3, 10, [(.asg 3 (.comp (.var 8) [8] (.nm 8) .seq (.blt .sorted (.bin .add (.lst [(.cst (.str ""))]) (.var 1))) (some (.cmp .eq (.call 9 [(.var 0), (.cst (.int 2))]) (.cst (.int 0)))))), (.iff (.cmp .eq (.var 3) (.lst [])) [(.asg 3 (.lst [(.ix (.bin .add (.lst [(.cst (.str ""))]) (.var 1)) (.call 9 [(.var 0), (.bin .add (.cst (.int 1)) (.blt .len (.var 1)))]))]))] []), (.asg 4 (.bin .add (.blt .rngl (.var 2)) (.lst [(.tup [(.cst (.str "back"))]), (.tup [(.cst (.str "fail")), (.cst (.str "bad"))]), (.tup [(.cst (.str "fail")), (.cst (.str "back"))])]))), (.asgs [6, 7] [(.lst []), (.lst [])]), (.forl (.nm 5) .rng (.bin .add (.cst (.int 1)) (.call 9 [(.var 0), (.cst (.int 4))])) [(.asg 8 (.ix (.var 4) (.call 9 [(.var 0), (.blt .len (.var 4))]))), (.iff (.cmp .nmem (.var 8) (.var 6)) [(.app 6 (.var 8))] [])]), (.forl (.nm 5) .rng (.call 9 [(.var 0), (.cst (.int 4))]) [(.asg 9 (.ix (.lst [(.cst (.str "")), (.cst (.str "bad")), (.cst (.str "back")), (.cst (.str "zz"))]) (.call 9 [(.var 0), (.cst (.int 4))]))), (.iff (.cmp .nmem (.var 9) (.comp (.ix (.var 8) (.cst (.int 0))) [8] (.nm 8) .seq (.var 7) none)) [(.app 7 (.tup [(.var 9), (.call 9 [(.var 0), (.var 2)])]))] [])]), (.ret (.tup [(.blt .tuple (.var 3)), (.blt .tuple (.var 6)), (.blt .tuple (.var 7))]))]⟩
/-- _law_drawn -/
def w11 : Df := ⟨1, 7, [(.asg 1 (.lst [(.lst [(.cst (.str "main")), (.cst (.str "f")), (.cst (.str "g"))]), (.lst [(.cst (.str "a"))]), (.lst [(.cst (.str "function")), (.cst (.str "back")), (.cst (.str "fail")), (.cst (.str "zzzzzzzz"))])])), (.asg 1 (.bin .add (.var 1) (.lst [(.lst [(.cst (.str "b")), (.cst (.str "ab")), (.cst (.str "abc")), (.cst (.str "a"))]), (.lst [(.cst (.str "g")), (.cst (.str "f"))])]))), (.asgs [3, 4] [(.ix (.var 1) (.call 9 [(.var 0), (.cst (.int 5))])), (.lst [])]), (.forl (.nm 2) .seq (.var 3) [(.asg 5 (.bin .add (.cst (.int 1)) (.call 9 [(.var 0), (.cst (.int 4))]))), (.app 4 (.tup [(.var 2), (.blt .tuple (.comp (.call 10 [(.var 0), (.var 3), (.var 5)]) [6] (.nm 6) .rng (.var 5) none))]))]), (.ret (.blt .tuple (.var 4)))]⟩
/-- _law_first -/
def w12 : Df := ⟨0, 3, [(.asg 0 (.tup [(.tup [(.cst (.str "")), (.cst (.str "g"))]), (.tup [(.tup [(.cst (.str "back"))])]), (.tup [])])), (.asg 1 (.tup [(.tup [(.tup [(.cst (.str "f"))]), (.tup [(.cst (.int 1))]), (.tup [(.tup [(.cst (.str "")), (.cst (.int 2))])])]), (.tup [(.tup [(.cst (.str ""))]), (.tup [(.tup [(.cst (.str "back"))]), (.cst (.int 0))]), (.tup [])]), (.var 0)])), (.asg 2 (.tup [(.tup [(.tup [(.cst (.str ""))]), (.tup [(.cst (.int 1)), (.tup [(.cst (.str "fail")), (.cst (.str "bad"))])]), (.tup [])]), (.var 0)])), (.ret (.tup [(.tup [(.cst (.str "main")), (.var 1)]), (.tup [(.cst (.str "f")), (.var 2)]), (.tup [(.cst (.str "g")), (.tup [(.tup [(.tup [(.cst (.str ""))]), (.tup [(.tup [(.cst (.str "back"))])]), (.tup [])])])])]))]⟩
/-- _law_great -/
def w13 : Df := ⟨0, 12, [(.asg 0 (.lst [(.cst (.str "main")), (.cst (.str "h")), (.cst (.str "abcdefgh")), (.cst (.str "g")), (.cst (.str "ga")), (.cst (.str "zz")), (.cst (.str "a")), (.cst (.str "fail"))])), (.asg 1 (.lst [(.cst (.int 12)), (.cst (.int 12)), (.cst (.int 10)), (.cst (.int 2)), (.cst (.int 1)), (.cst (.int 1)), (.cst (.int 1)), (.cst (.int 1))])), (.asgs [4, 5] [(.lst [(.cst (.str "k")), (.cst (.str "bad")), (.cst (.str "kk")), (.cst (.str "zz")), (.cst (.str "back")), (.cst (.str "a"))]), (.lst [])]), (.asg 2 (.blt .len (.var 4))), (.forl (.nm 3) .rng (.cst (.int 8)) [(.asg 6 (.lst [])), (.forl (.nm 7) .rng (.ix (.var 1) (.var 3)) [(.asg 8 (.blt .sorted (.bin .add (.lst [(.cst (.str ""))]) (.sl (.var 0) (some (.bin .mod (.blt .int (.bin .add (.var 3) (.var 7))) (.cst (.int 8)))) none)))), (.asg 9 (.comp (.bin .mod (.blt .int (.bin .add (.var 7) (.var 11))) (.ix (.var 1) (.var 3))) [11] (.nm 11) .rng (.ix (.var 1) (.var 3)) none)), (.asg 9 (.bin .add (.var 9) (.lst [(.tup [(.cst (.str "back"))]), (.tup [(.cst (.str "fail")), (.ix (.var 4) (.bin .mod (.blt .int (.var 3)) (.var 2)))])]))), (.asg 10 (.comp (.tup [(.ix (.var 4) (.bin .mod (.blt .int (.bin .add (.var 3) (.var 11))) (.var 2))), (.bin .mod (.blt .int (.bin .add (.var 7) (.var 11))) (.ix (.var 1) (.var 3)))]) [11] (.nm 11) .rng (.cst (.int 3)) none)), (.app 6 (.tup [(.blt .tuple (.var 8)), (.blt .tuple (.var 9)), (.blt .tuple (.bin .add (.var 10) (.lst [(.tup [(.cst (.str "")), (.cst (.int 0))])])))]))]), (.app 5 (.tup [(.ix (.var 0) (.var 3)), (.blt .tuple (.var 6))]))]), (.ret (.blt .tuple (.var 5)))]⟩
/-- _law_call_text -/
def w14 : Df := ⟨1, 1, [(.ret (.ite (.cmp .eq (.var 0) (.cst (.str ""))) (.cst (.str "-")) (.var 0)))]⟩
/-- _law_way_text -/
def w15 : Df := ⟨1, 1, [(.ret (.ite (.blt (.isi .int) (.var 0)) (.blt .str (.var 0)) (.join (.cst (.str ":")) (.var 0))))]⟩
/-- _law_handler_text -/
def w16 : Df := ⟨1, 1, [(.ret (.bin .add (.bin .add (.ite (.cmp .eq (.ix (.var 0) (.cst (.int 0))) (.cst (.str ""))) (.cst (.str "*")) (.ix (.var 0) (.cst (.int 0)))) (.cst (.str ">"))) (.blt .str (.ix (.var 0) (.cst (.int 1))))))]⟩
/-- _law_row_text -/
def w17 : Df := ⟨1, 5, [(.asg 1 (.join (.cst (.str ",")) (.comp (.call 14 [(.var 4)]) [4] (.nm 4) .seq (.ix (.var 0) (.cst (.int 0))) none))), (.asg 2 (.join (.cst (.str ",")) (.comp (.call 15 [(.var 4)]) [4] (.nm 4) .seq (.ix (.var 0) (.cst (.int 1))) none))), (.asg 3 (.join (.cst (.str ",")) (.comp (.call 16 [(.var 4)]) [4] (.nm 4) .seq (.ix (.var 0) (.cst (.int 2))) none))), (.ret (.join (.cst (.str " ")) (.lst [(.var 1), (.var 2), (.ite (.cmp .ne (.ix (.var 0) (.cst (.int 2))) (.tup [])) (.var 3) (.cst (.str "-")))])))]⟩
/-- _law_page -/
def w18 : Df := ⟨1, 5, [(.asg 1 (.lst [])), (.forl (.tp [2, 3]) .seq (.var 0) [(.app 1 (.bin .add (.cst (.str "function ")) (.var 2))), (.ext 1 (.comp (.call 17 [(.var 4)]) [4] (.nm 4) .seq (.var 3) none))]), (.ret (.join (.cst (.str "
")) (.var 1)))]⟩
/-- _law_spots_page -/
def w19 : Df := ⟨1, 2, [(.ret (.ite (.cmp .ne (.var 0) (.tup [])) (.join (.cst (.str " ")) (.comp (.bin .add (.bin .add (.ix (.var 1) (.cst (.int 0))) (.cst (.str ":"))) (.blt .str (.ix (.var 1) (.cst (.int 1))))) [1] (.nm 1) .seq (.var 0) none)) (.cst (.str "-"))))]⟩
/-- _law_odd_rows -/
def w20 : Df := ⟨0, 2, [(.asg 0 (.bin .pow (.cst (.int 10)) (.cst (.int 59)))), (.asg 1 (.lst [(.tup [(.tup [(.cst (.str "f")), (.cst (.str ""))]), (.tup [(.cst (.int 3)), (.tup [(.cst (.str "fail")), (.cst (.str "bad"))])]), (.tup [(.tup [(.cst (.str "bad")), (.cst (.int 0))]), (.tup [(.cst (.str "")), (.cst (.int 1))])])])])), (.ext 1 (.lst [(.tup [(.tup [(.cst (.str "")), (.cst (.str ""))]), (.tup [(.var 0), (.cst (.int 0)), (.var 0)]), (.tup [(.tup [(.cst (.str "")), (.var 0)]), (.tup [(.cst (.str "")), (.cst (.int 0))])])])])), (.ext 1 (.lst [(.tup [(.tup [(.cst (.str "b")), (.cst (.str "a")), (.cst (.str "b")), (.cst (.str ""))]), (.tup [(.tup [(.cst (.str "back"))]), (.tup [(.cst (.str "back"))])]), (.tup [])])])), (.ext 1 (.lst [(.tup [(.tup [(.cst (.str "function"))]), (.tup [(.tup [(.cst (.str "fail")), (.cst (.str "fail"))]), (.cst (.int 10)), (.cst (.int 9))]), (.tup [])])])), (.ext 1 (.lst [(.tup [(.tup [(.cst (.str "back")), (.cst (.str "fail"))]), (.tup [(.tup [(.cst (.str "fail")), (.cst (.str "back"))])]), (.tup [(.tup [(.cst (.str "fail")), (.cst (.int 10))]), (.tup [(.cst (.str "back")), (.cst (.int 9))]), (.tup [(.cst (.str "function")), (.cst (.int 0))])])])])), (.app 1 (.tup [(.tup [(.cst (.str ""))]), (.tup [(.tup [(.cst (.str "fail")), (.cst (.str "zzzzzzzz"))]), (.tup [(.cst (.str "fail")), (.cst (.str "abcdefg"))])]), (.tup [(.tup [(.cst (.str "abcdefgh")), (.cst (.int 0))])])])), (.ret (.bin .add (.var 1) (.lst [(.tup [(.bin .mul (.tup [(.cst (.str "abcdefgh"))]) (.cst (.int 9))), (.blt .rngt (.cst (.int 14))), (.bin .mul (.tup [(.tup [(.cst (.str "zzzzzzzz")), (.cst (.int 11))])]) (.cst (.int 4)))])])))]⟩
/-- _law_spots -/
def w21 : Df := ⟨1, 5, [(.asg 1 (.lst [])), (.forl (.tp [2, 3]) .seq (.var 0) [(.ext 1 (.comp (.tup [(.var 2), (.var 4)]) [4] (.nm 4) .rng (.blt .len (.var 3)) none))]), (.ret (.blt .sortp (.var 1)))]⟩
/-- _law_rows_right -/
def w22 : Df := ⟨1, 2, [(.ret (.cmp .eq (.comp (.var 1) [1] (.nm 1) .seq (.var 0) (some (.cmp .ne (.blt .repr (.call 3 [(.var 1)])) (.blt .repr (.call 17 [(.var 1)]))))) (.lst [])))]⟩
/-- law -/
def w23 : Df := ⟨1, 12, [(.asg 1 (.call 8 [(.var 0)])), (.asg 2 (.call 20 [])), (.asg 3 (.call 9 [(.var 1), (.blt .len (.var 2))])), (.asg 4 (.tup [(.tup [(.cst (.str "f")), (.blt .tuple (.sl (.var 2) (some (.var 3)) none))]), (.tup [(.cst (.str "f")), (.blt .tuple (.var 2))]), (.tup [(.cst (.str "function")), (.tup [(.ix (.var 2) (.var 3))])])])), (.asg 4 (.bin .add (.var 4) (.tup [(.tup [(.cst (.str "a")), (.blt .tuple (.bin .mul (.sl (.var 2) none (some (.cst (.int 1)))) (.cst (.int 9))))])]))), (.forl (.nm 5) .seq (.tup [(.call 11 [(.var 1)]), (.call 12 []), (.var 4), (.call 13 [])]) [(.asgs [7, 8] [(.blt .repr (.var 5)), (.call 21 [(.var 5)])]), (.iff (.cmp .ne (.blt .repr (.call 2 [(.var 5)])) (.blt .repr (.call 18 [(.var 5)]))) [(.ret (.cst (.bool false)))] []), (.forl (.tp [9, 10]) .seq (.var 5) [(.iff (.not (.call 22 [(.var 10)])) [(.ret (.cst (.bool false)))] [])]), (.asg 6 (.lst [(.blt .tuple (.var 8)), (.blt .tuple (.slb (.var 8))), (.tup []), (.blt .tuple (.sl (.var 8) none (some (.cst (.int 1))))), (.blt .tuple (.bin .add (.var 8) (.sl (.var 8) none (some (.cst (.int 2))))))])), (.app 6 (.tup [(.tup [(.ix (.ix (.var 5) (.cst (.int 0))) (.cst (.int 0))), (.bin .pow (.cst (.int 10)) (.cst (.int 59)))]), (.tup [(.cst (.str "z")), (.cst (.int 10))]), (.tup [(.cst (.str "z")), (.cst (.int 9))]), (.tup [(.cst (.str "a")), (.cst (.int 0))])])), (.iff (.cmp .ne (.comp (.var 11) [11] (.nm 11) .seq (.var 6) (some (.cmp .ne (.blt .repr (.call 6 [(.var 11)])) (.blt .repr (.call 19 [(.var 11)]))))) (.lst [])) [(.ret (.cst (.bool false)))] []), (.iff (.cmp .ne (.blt .repr (.var 5)) (.var 7)) [(.ret (.cst (.bool false)))] [])]), (.iff (.cmp .ne (.call 2 [(.tup [(.tup [(.cst (.str "g")), (.tup [(.tup [(.tup [(.cst (.str ""))]), (.tup [(.tup [(.cst (.str "back"))])]), (.tup [])])])])])]) (.cst (.str "function g
- back -"))) [(.ret (.cst (.bool false)))] []), (.iff (.cmp .ne (.call 3 [(.ix (.ix (.ix (.call 12 []) (.cst (.int 0))) (.cst (.int 1))) (.cst (.int 0)))]) (.cst (.str "f 1 *>2"))) [(.ret (.cst (.bool false)))] []), (.ret (.cmp .eq (.call 6 [(.tup [(.tup [(.cst (.str "f")), (.cst (.int 1))]), (.tup [(.cst (.str "g")), (.cst (.int 0))])])]) (.cst (.str "f:1 g:0"))))]⟩
def Pr : List Df := [w0, w1, w2, w3, w4, w5, w6, w7, w8, w9, w10, w11, w12, w13, w14, w15, w16, w17, w18, w19, w20, w21, w22, w23]
/-- what stands behind the top -/
structure Tx (K : PySem.W.Frag) (mg : Str → Option Value) (w : Wd) where
  a0 : Addr
  h0 : w.fa 0 = some a0
  m0 : mg "is_integer" = some (.ref a0)
  p0 : w.ps 0 = (["thing"] : List Str)
  a1 : Addr
  h1 : w.fa 1 = some a1
  m1 : mg "is_number" = some (.ref a1)
  p1 : w.ps 1 = (["thing"] : List Str)
  a2 : Addr
  h2 : w.fa 2 = some a2
  m2 : mg "program_text" = some (.ref a2)
  p2 : w.ps 2 = (["program"] : List Str)
  a3 : Addr
  h3 : w.fa 3 = some a3
  m3 : mg "line_text" = some (.ref a3)
  p3 : w.ps 3 = (["line"] : List Str)
  a4 : Addr
  h4 : w.fa 4 = some a4
  m4 : mg "way_word" = some (.ref a4)
  p4 : w.ps 4 = (["way"] : List Str)
  a5 : Addr
  h5 : w.fa 5 = some a5
  m5 : mg "handler_word" = some (.ref a5)
  p5 : w.ps 5 = (["kind", "index"] : List Str)
  a6 : Addr
  h6 : w.fa 6 = some a6
  m6 : mg "spots_text" = some (.ref a6)
  p6 : w.ps 6 = (["spots"] : List Str)
  a7 : Addr
  h7 : w.fa 7 = some a7
  m7 : mg "spot_word" = some (.ref a7)
  p7 : w.ps 7 = (["spot"] : List Str)
  a8 : Addr
  h8 : w.fa 8 = some a8
  m8 : mg "_law_feed" = some (.ref a8)
  p8 : w.ps 8 = (["_law_script"] : List Str)
  a9 : Addr
  h9 : w.fa 9 = some a9
  m9 : mg "_law_draw" = some (.ref a9)
  p9 : w.ps 9 = (["_law_feed_here", "_law_many"] : List Str)
  a10 : Addr
  h10 : w.fa 10 = some a10
  m10 : mg "_law_row" = some (.ref a10)
  p10 : w.ps 10 = (["_law_feed_here", "_law_titles", "_law_size"] : List Str)
  a11 : Addr
  h11 : w.fa 11 = some a11
  m11 : mg "_law_drawn" = some (.ref a11)
  p11 : w.ps 11 = (["_law_feed_here"] : List Str)
  a12 : Addr
  h12 : w.fa 12 = some a12
  m12 : mg "_law_first" = some (.ref a12)
  p12 : w.ps 12 = ([] : List Str)
  a13 : Addr
  h13 : w.fa 13 = some a13
  m13 : mg "_law_great" = some (.ref a13)
  p13 : w.ps 13 = ([] : List Str)
  a14 : Addr
  h14 : w.fa 14 = some a14
  m14 : mg "_law_call_text" = some (.ref a14)
  p14 : w.ps 14 = (["_law_own"] : List Str)
  a15 : Addr
  h15 : w.fa 15 = some a15
  m15 : mg "_law_way_text" = some (.ref a15)
  p15 : w.ps 15 = (["_law_own"] : List Str)
  a16 : Addr
  h16 : w.fa 16 = some a16
  m16 : mg "_law_handler_text" = some (.ref a16)
  p16 : w.ps 16 = (["_law_own"] : List Str)
  a17 : Addr
  h17 : w.fa 17 = some a17
  m17 : mg "_law_row_text" = some (.ref a17)
  p17 : w.ps 17 = (["_law_row_here"] : List Str)
  a18 : Addr
  h18 : w.fa 18 = some a18
  m18 : mg "_law_page" = some (.ref a18)
  p18 : w.ps 18 = (["_law_whole"] : List Str)
  a19 : Addr
  h19 : w.fa 19 = some a19
  m19 : mg "_law_spots_page" = some (.ref a19)
  p19 : w.ps 19 = (["_law_some"] : List Str)
  a20 : Addr
  h20 : w.fa 20 = some a20
  m20 : mg "_law_odd_rows" = some (.ref a20)
  p20 : w.ps 20 = ([] : List Str)
  a21 : Addr
  h21 : w.fa 21 = some a21
  m21 : mg "_law_spots" = some (.ref a21)
  p21 : w.ps 21 = (["_law_whole"] : List Str)
  a22 : Addr
  h22 : w.fa 22 = some a22
  m22 : mg "_law_rows_right" = some (.ref a22)
  p22 : w.ps 22 = (["_law_lot"] : List Str)
  a23 : Addr
  h23 : w.fa 23 = some a23
  m23 : mg "law" = some (.ref a23)
  p23 : w.ps 23 = (["_law_script"] : List Str)
  z_bool : mg "bool" = none
  z_int : mg "int" = none
  z_isinstance : mg "isinstance" = none
  z_len : mg "len" = none
  z_list : mg "list" = none
  z_range : mg "range" = none
  z_repr : mg "repr" = none
  z_sorted : mg "sorted" = none
  z_str : mg "str" = none
  z_tuple : mg "tuple" = none
  u_BACK : Value
  v_BACK : V
  c_BACK : mg "BACK" = some u_BACK
  r_BACK : RelV v_BACK u_BACK
  d_BACK : ∀ H U, Rp K H U v_BACK (.tuple [(.str "back")])
section
variable {P : Program} {wd : World} {K : PySem.W.Frag} {mg : Str → Option Value} {base : Heap} {w : Wd} {cl : Fun} {n : Nat} {f : Addr} {cdv : Value} {A : Around} {outer : List PySem.Env} {s : Shared} {H : Hp} {E : XK} {lk : List Nat}
abbrev N0 : List Str := ["thing"]
theorem sc0 : FnScope N0 ["thing"] (defScope (top 2)) := ⟨rfl, rfl, rfl, by decide +kernel, rfl, by decide +kernel, by decide +kernel⟩
theorem b0 (T : Tx K mg w) (G : GC (bodyX P wd K mg base N0 "is_integer" (defScope (top 2)) f cdv A outer s H E) (fun c d _ H' => E c d H')) (F : HasF (bodyX P wd K mg base N0 "is_integer" (defScope (top 2)) f cdv A outer s H E) w cl n) : SSs (bodyX P wd K mg base N0 "is_integer" (defScope (top 2)) f cdv A outer s H E) w cl (fun c d _ H' => E c d H') lk (defBody (top 2)) w0.body :=
  (sss_cons (ss_ret (by rfl) (se_and (se_isi (t := .int) (ov 0) (by rfl) T.z_isinstance (by rfl) T.z_int (by decide +kernel)) (se_one (se_not (se_isi (t := .bool) (ov 0) (by rfl) T.z_isinstance (by rfl) T.z_bool (by decide +kernel)))))) sss_nil)
abbrev N1 : List Str := ["thing"]
theorem sc1 : FnScope N1 ["thing"] (defScope (top 3)) := ⟨rfl, rfl, rfl, by decide +kernel, rfl, by decide +kernel, by decide +kernel⟩
theorem b1 (T : Tx K mg w) (G : GC (bodyX P wd K mg base N1 "is_number" (defScope (top 3)) f cdv A outer s H E) (fun c d _ H' => E c d H')) (F : HasF (bodyX P wd K mg base N1 "is_number" (defScope (top 3)) f cdv A outer s H E) w cl n) : SSs (bodyX P wd K mg base N1 "is_number" (defScope (top 3)) f cdv A outer s H E) w cl (fun c d _ H' => E c d H') lk (defBody (top 3)) w1.body :=
  (sss_cons (ss_ret (by rfl) (se_and (se_call G F T.h0 (by rfl) T.m0 (sa_cons (gv 0) sa_nil)) (se_one (se_cmp cmp_ge (ov 0) (SE.so (by rfl) se_int) (by rfl))))) sss_nil)
abbrev N2 : List Str := ["program", "rows", "name", "lines", "line"]
theorem sc2 : FnScope N2 ["program"] (defScope (top 5)) := ⟨rfl, rfl, rfl, by decide +kernel, rfl, by decide +kernel, by decide +kernel⟩
theorem b2 (T : Tx K mg w) (G : GC (bodyX P wd K mg base N2 "program_text" (defScope (top 5)) f cdv A outer s H E) (fun c d _ H' => E c d H')) (F : HasF (bodyX P wd K mg base N2 "program_text" (defScope (top 5)) f cdv A outer s H E) w cl n) : SSs (bodyX P wd K mg base N2 "program_text" (defScope (top 5)) f cdv A outer s H E) w cl (fun c d _ H' => E c d H') lk (defBody (top 5)) w2.body :=
  (sss_cons (ss_asg G (i := 1) (by rfl) (by first | exact Or.inl rfl | exact Or.inr rfl) (se_lst sd_nil (by decide))) (sss_cons (ss_for G po_of (si_seq (ov 0)) (pg_tp G.calm (pgs_names_cons (pg_name (i := 2) G.nd (by rfl) (by first | exact Or.inl rfl | exact Or.inr rfl)) (pgs_names_cons (pg_name (i := 3) G.nd (by rfl) (by first | exact Or.inl rfl | exact Or.inr rfl)) pgs_names_nil))) (sss_cons (ss_app (i := 1) (by rfl) (by first | exact Or.inl rfl | exact Or.inr (Or.inl rfl) | exact Or.inr (Or.inr rfl)) (se_fstr (sf_cons sf_str (sf_cons (sf_fmt (ev 2)) sf_nil)))) (sss_cons (ss_ext (i := 1) (by rfl) (by first | exact Or.inl rfl | exact Or.inr (Or.inl rfl) | exact Or.inr (Or.inr rfl)) (SE.so (by rfl) (se_comp G (si_seq (ov 3)) (own := [("line", 4)]) (blkOk_by (N := N2) (sc := defScope (top 5)) (by decide +kernel)) (fun _ _ _ _ _ => (pg_name (i := 4) G.nd (by rfl) (by first | exact Or.inl rfl | exact Or.inr rfl))) (by rfl) (fun _ _ _ _ _ => sc_none) (fun _ _ _ _ _ => (se_call (GC.blk G) (HasF.blk F) T.h3 (by rfl) T.m3 (sa_cons (gv 4) sa_nil)))))) sss_nil))) (sss_cons (ss_ret (by rfl) (se_join se_str (ov 1))) sss_nil)))
abbrev N3 : List Str := ["line", "words", "calls", "ways", "handlers", "call", "way", "kind", "index"]
theorem sc3 : FnScope N3 ["line"] (defScope (top 6)) := ⟨rfl, rfl, rfl, by decide +kernel, rfl, by decide +kernel, by decide +kernel⟩
theorem b3 (T : Tx K mg w) (G : GC (bodyX P wd K mg base N3 "line_text" (defScope (top 6)) f cdv A outer s H E) (fun c d _ H' => E c d H')) (F : HasF (bodyX P wd K mg base N3 "line_text" (defScope (top 6)) f cdv A outer s H E) w cl n) : SSs (bodyX P wd K mg base N3 "line_text" (defScope (top 6)) f cdv A outer s H E) w cl (fun c d _ H' => E c d H') lk (defBody (top 6)) w3.body :=
  (sss_cons (ss_unp (ev 0) (pg_tp G.calm (pgs_names_cons (pg_name (i := 2) G.nd (by rfl) (by first | exact Or.inl rfl | exact Or.inr rfl)) (pgs_names_cons (pg_name (i := 3) G.nd (by rfl) (by first | exact Or.inl rfl | exact Or.inr rfl)) (pgs_names_cons (pg_name (i := 4) G.nd (by rfl) (by first | exact Or.inl rfl | exact Or.inr rfl)) pgs_names_nil))))) (sss_cons (ss_asg G (i := 1) (by rfl) (by first | exact Or.inl rfl | exact Or.inr rfl) (se_tup (sd_cons (se_join se_str (SE.so (by rfl) (se_comp G (si_seq (ov 2)) (own := [("call", 5)]) (blkOk_by (N := N3) (sc := defScope (top 6)) (by decide +kernel)) (fun _ _ _ _ _ => (pg_name (i := 5) G.nd (by rfl) (by first | exact Or.inl rfl | exact Or.inr rfl))) (by rfl) (fun _ _ _ _ _ => sc_none) (fun _ _ _ _ _ => (se_ite (st_cmp (cmp_ne (GC.blk G).room) (ov 5) (SE.so (by rfl) se_str) (by rfl)) (ev 5) se_str))))) (sd_cons (se_join se_str (SE.so (by rfl) (se_comp G (si_seq (ov 3)) (own := [("way", 6)]) (blkOk_by (N := N3) (sc := defScope (top 6)) (by decide +kernel)) (fun _ _ _ _ _ => (pg_name (i := 6) G.nd (by rfl) (by first | exact Or.inl rfl | exact Or.inr rfl))) (by rfl) (fun _ _ _ _ _ => sc_none) (fun _ _ _ _ _ => (se_call (GC.blk G) (HasF.blk F) T.h4 (by rfl) T.m4 (sa_cons (gv 6) sa_nil)))))) (sd_cons (se_ite (st_cmp (cmp_ne G.room) (ov 4) (SE.so (by rfl) (se_tup sd_nil (by decide))) (by rfl)) (se_join se_str (SE.so (by rfl) (se_comp G (si_seq (ov 4)) (own := [("kind", 7), ("index", 8)]) (blkOk_by (N := N3) (sc := defScope (top 6)) (by decide +kernel)) (fun _ _ _ _ _ => (pg_tp G.calm (pgs_names_cons (pg_name (i := 7) G.nd (by rfl) (by first | exact Or.inl rfl | exact Or.inr rfl)) (pgs_names_cons (pg_name (i := 8) G.nd (by rfl) (by first | exact Or.inl rfl | exact Or.inr rfl)) pgs_names_nil)))) (by rfl) (fun _ _ _ _ _ => sc_none) (fun _ _ _ _ _ => (se_call (GC.blk G) (HasF.blk F) T.h5 (by rfl) T.m5 (sa_cons (gv 7) (sa_cons (gv 8) sa_nil))))))) se_str) sd_nil (by rfl)) (by rfl)) (by rfl)) (by decide))) (sss_cons (ss_ret (by rfl) (se_join se_str (ov 1))) sss_nil)))
abbrev N4 : List Str := ["way"]
theorem sc4 : FnScope N4 ["way"] (defScope (top 7)) := ⟨rfl, rfl, rfl, by decide +kernel, rfl, by decide +kernel, by decide +kernel⟩
theorem b4 (T : Tx K mg w) (G : GC (bodyX P wd K mg base N4 "way_word" (defScope (top 7)) f cdv A outer s H E) (fun c d _ H' => E c d H')) (F : HasF (bodyX P wd K mg base N4 "way_word" (defScope (top 7)) f cdv A outer s H E) w cl n) : SSs (bodyX P wd K mg base N4 "way_word" (defScope (top 7)) f cdv A outer s H E) w cl (fun c d _ H' => E c d H') lk (defBody (top 7)) w4.body :=
  (sss_cons (ss_if (st_val (se_call G F T.h1 (by rfl) T.m1 (sa_cons (gv 0) sa_nil)) (fun _ => rfl) (ev_call _ _)) (sss_cons (ss_ret (by rfl) (se_bltT blt_str (ov 0) (by rfl) T.z_str (by decide +kernel))) sss_nil) sss_nil) (sss_cons (ss_ret (by rfl) (se_ite (st_cmp (cmp_eq G.room) (ov 0) (SE.so (by rfl) (se_glob (by rfl) T.c_BACK T.r_BACK T.d_BACK)) (by rfl)) se_str (se_fstr (sf_cons sf_str (sf_cons (sf_fmt (se_ix (ov 0) (SE.so (by rfl) se_int) (fun _ _ => rfl))) sf_nil))))) sss_nil))
abbrev N5 : List Str := ["kind", "index"]
theorem sc5 : FnScope N5 ["kind", "index"] (defScope (top 8)) := ⟨rfl, rfl, rfl, by decide +kernel, rfl, by decide +kernel, by decide +kernel⟩
theorem b5 (T : Tx K mg w) (G : GC (bodyX P wd K mg base N5 "handler_word" (defScope (top 8)) f cdv A outer s H E) (fun c d _ H' => E c d H')) (F : HasF (bodyX P wd K mg base N5 "handler_word" (defScope (top 8)) f cdv A outer s H E) w cl n) : SSs (bodyX P wd K mg base N5 "handler_word" (defScope (top 8)) f cdv A outer s H E) w cl (fun c d _ H' => E c d H') lk (defBody (top 8)) w5.body :=
  (sss_cons (ss_ret (by rfl) (se_ite (st_cmp (cmp_ne G.room) (ov 0) (SE.so (by rfl) se_str) (by rfl)) (se_fstr (sf_cons (sf_fmt (ev 0)) (sf_cons sf_str (sf_cons (sf_fmt (ev 1)) sf_nil)))) (se_fstr (sf_cons sf_str (sf_cons (sf_fmt (ev 1)) sf_nil))))) sss_nil)
abbrev N6 : List Str := ["spots", "spot"]
theorem sc6 : FnScope N6 ["spots"] (defScope (top 9)) := ⟨rfl, rfl, rfl, by decide +kernel, rfl, by decide +kernel, by decide +kernel⟩
theorem b6 (T : Tx K mg w) (G : GC (bodyX P wd K mg base N6 "spots_text" (defScope (top 9)) f cdv A outer s H E) (fun c d _ H' => E c d H')) (F : HasF (bodyX P wd K mg base N6 "spots_text" (defScope (top 9)) f cdv A outer s H E) w cl n) : SSs (bodyX P wd K mg base N6 "spots_text" (defScope (top 9)) f cdv A outer s H E) w cl (fun c d _ H' => E c d H') lk (defBody (top 9)) w6.body :=
  (sss_cons (ss_ret (by rfl) (se_ite (st_cmp cmp_gt (SE.so (by rfl) (se_blt blt_len (ov 0) (by rfl) T.z_len (by decide +kernel))) (SE.so (by rfl) se_int) (by rfl)) (se_join se_str (SE.so (by rfl) (se_comp G (si_seq (ov 0)) (own := [("spot", 1)]) (blkOk_by (N := N6) (sc := defScope (top 9)) (by decide +kernel)) (fun _ _ _ _ _ => (pg_name (i := 1) G.nd (by rfl) (by first | exact Or.inl rfl | exact Or.inr rfl))) (by rfl) (fun _ _ _ _ _ => sc_none) (fun _ _ _ _ _ => (se_call (GC.blk G) (HasF.blk F) T.h7 (by rfl) T.m7 (sa_cons (gv 1) sa_nil)))))) se_str)) sss_nil)
abbrev N7 : List Str := ["spot", "name", "index"]
theorem sc7 : FnScope N7 ["spot"] (defScope (top 10)) := ⟨rfl, rfl, rfl, by decide +kernel, rfl, by decide +kernel, by decide +kernel⟩
theorem b7 (T : Tx K mg w) (G : GC (bodyX P wd K mg base N7 "spot_word" (defScope (top 10)) f cdv A outer s H E) (fun c d _ H' => E c d H')) (F : HasF (bodyX P wd K mg base N7 "spot_word" (defScope (top 10)) f cdv A outer s H E) w cl n) : SSs (bodyX P wd K mg base N7 "spot_word" (defScope (top 10)) f cdv A outer s H E) w cl (fun c d _ H' => E c d H') lk (defBody (top 10)) w7.body :=
  (sss_cons (ss_unp (ev 0) (pg_tp G.calm (pgs_names_cons (pg_name (i := 1) G.nd (by rfl) (by first | exact Or.inl rfl | exact Or.inr rfl)) (pgs_names_cons (pg_name (i := 2) G.nd (by rfl) (by first | exact Or.inl rfl | exact Or.inr rfl)) pgs_names_nil)))) (sss_cons (ss_ret (by rfl) (se_fstr (sf_cons (sf_fmt (ev 1)) (sf_cons sf_str (sf_cons (sf_fmt (ev 2)) sf_nil))))) sss_nil))
abbrev N8 : List Str := ["_law_script"]
theorem sc8 : FnScope N8 ["_law_script"] (defScope (top 12)) := ⟨rfl, rfl, rfl, by decide +kernel, rfl, by decide +kernel, by decide +kernel⟩
theorem b8 (T : Tx K mg w) (G : GC (bodyX P wd K mg base N8 "_law_feed" (defScope (top 12)) f cdv A outer s H E) (fun c d _ H' => E c d H')) (F : HasF (bodyX P wd K mg base N8 "_law_feed" (defScope (top 12)) f cdv A outer s H E) w cl n) : SSs (bodyX P wd K mg base N8 "_law_feed" (defScope (top 12)) f cdv A outer s H E) w cl (fun c d _ H' => E c d H') lk (defBody (top 12)) w8.body :=
  (sss_cons (ss_ret (by rfl) (se_dct (sq_cons (se_bltT blt_list (SE.so (by rfl) (cutv 0)) (by rfl) T.z_list (by decide +kernel)) (sq_cons se_int (sq_cons se_int (sq_cons se_int sq_nil)))) (by decide))) sss_nil)
abbrev N9 : List Str := ["_law_feed_here", "_law_many", "_law_turn_in", "_law_cell", "_law_mixed", "_law_digit"]
theorem sc9 : FnScope N9 ["_law_feed_here", "_law_many"] (defScope (top 13)) := ⟨rfl, rfl, rfl, by decide +kernel, rfl, by decide +kernel, by decide +kernel⟩
theorem b9 (T : Tx K mg w) (G : GC (bodyX P wd K mg base N9 "_law_draw" (defScope (top 13)) f cdv A outer s H E) (fun c d _ H' => E c d H')) (F : HasF (bodyX P wd K mg base N9 "_law_draw" (defScope (top 13)) f cdv A outer s H E) w cl n) : SSs (bodyX P wd K mg base N9 "_law_draw" (defScope (top 13)) f cdv A outer s H E) w cl (fun c d _ H' => E c d H') lk (defBody (top 13)) w9.body :=
  (sss_cons (ss_putd G (i := 0) (by rfl) (by first | exact Or.inl rfl | exact Or.inr (Or.inl rfl) | exact Or.inr (Or.inr rfl)) se_str (se_bin bin_add (SE.so (by rfl) (xv 0 G se_str)) (SE.so (by rfl) se_int))) (sss_cons (ss_if (st_cmp cmp_gt (SE.so (by rfl) (xv 0 G se_str)) (SE.so (by rfl) se_int) (by rfl)) (sss_cons (ss_asg G (i := 5) (by rfl) (by first | exact Or.inl rfl | exact Or.inr rfl) (se_bin bin_mod (SE.so (by rfl) (se_bltT blt_int (SE.so (by rfl) (xv 0 G se_str)) (by rfl) T.z_int (by decide +kernel))) (ov 1))) (sss_cons (ss_putd G (i := 0) (by rfl) (by first | exact Or.inl rfl | exact Or.inr (Or.inl rfl) | exact Or.inr (Or.inr rfl)) se_str (se_bin bin_fdiv (SE.so (by rfl) (xv 0 G se_str)) (ov 1))) (sss_cons (rv 5) sss_nil))) sss_nil) (sss_cons (ss_asg G (i := 2) (by rfl) (by first | exact Or.inl rfl | exact Or.inr rfl) (xv 0 G se_str)) (sss_cons (ss_putd G (i := 0) (by rfl) (by first | exact Or.inl rfl | exact Or.inr (Or.inl rfl) | exact Or.inr (Or.inr rfl)) se_str (se_bin bin_add (ov 2) (SE.so (by rfl) se_int))) (sss_cons (ss_asg G (i := 3) (by rfl) (by first | exact Or.inl rfl | exact Or.inr rfl) (se_ite (st_cmp (cmp_ne G.room) (SE.so (by rfl) (xv 0 G se_str)) (SE.so (by rfl) (se_lst sd_nil (by decide))) (by rfl)) (se_ix (SE.so (by rfl) (xv 0 G se_str)) (SE.so (by rfl) (se_bin bin_mod (SE.so (by rfl) (se_bltT blt_int (ov 2) (by rfl) T.z_int (by decide +kernel))) (SE.so (by rfl) (se_blt blt_len (SE.so (by rfl) (xv 0 G se_str)) (by rfl) T.z_len (by decide +kernel))))) (fun _ _ => rfl)) se_int)) (sss_cons (ss_if (SW.st (sw_and (st_cmp cmp_ge (ov 3) (SE.so (by rfl) (se_bin bin_pow (SE.so (by rfl) se_int) (SE.so (by rfl) se_int))) (by rfl)) (sw_and1 (st_cmp cmp_lt (ov 2) (SE.so (by rfl) (se_blt blt_len (SE.so (by rfl) (xv 0 G se_str)) (by rfl) T.z_len (by decide +kernel))) (by rfl))))) (sss_cons (ss_putd G (i := 0) (by rfl) (by first | exact Or.inl rfl | exact Or.inr (Or.inl rfl) | exact Or.inr (Or.inr rfl)) se_str (se_bin bin_fdiv (ov 3) (ov 1))) (sss_cons (ss_ret (by rfl) (se_bin bin_mod (SE.so (by rfl) (se_bltT blt_int (ov 3) (by rfl) T.z_int (by decide +kernel))) (ov 1))) sss_nil)) sss_nil) (sss_cons (ss_asg G (i := 4) (by rfl) (by first | exact Or.inl rfl | exact Or.inr rfl) (se_bin bin_mod (SE.so (by rfl) (se_bltT blt_int (SE.so (by rfl) (se_bin bin_add (SE.so (by rfl) (se_bin bin_add (SE.so (by rfl) (se_bin bin_mod (SE.so (by rfl) (se_bltT blt_int (ov 3) (by rfl) T.z_int (by decide +kernel))) (SE.so (by rfl) se_int))) (SE.so (by rfl) (se_bin bin_mul (SE.so (by rfl) se_int) (SE.so (by rfl) (xv 0 G se_str)))))) (SE.so (by rfl) se_int))) (by rfl) T.z_int (by decide +kernel))) (SE.so (by rfl) se_int))) (sss_cons (ss_asg G (i := 4) (by rfl) (by first | exact Or.inl rfl | exact Or.inr rfl) (se_bin bin_mod (SE.so (by rfl) (se_bltT blt_int (SE.so (by rfl) (se_bin bin_add (SE.so (by rfl) (se_bin bin_add (SE.so (by rfl) (se_bin bin_mul (ov 4) (ov 4))) (SE.so (by rfl) (se_bin bin_mul (SE.so (by rfl) se_int) (SE.so (by rfl) (xv 0 G se_str)))))) (SE.so (by rfl) se_int))) (by rfl) T.z_int (by decide +kernel))) (SE.so (by rfl) se_int))) (sss_cons (ss_ret (by rfl) (se_bin bin_mod (SE.so (by rfl) (se_bltT blt_int (SE.so (by rfl) (se_bin bin_fdiv (SE.so (by rfl) (se_bin bin_mod (SE.so (by rfl) (se_bltT blt_int (SE.so (by rfl) (se_bin bin_add (SE.so (by rfl) (se_bin bin_mul (ov 4) (ov 4))) (SE.so (by rfl) (se_bin bin_mul (SE.so (by rfl) se_int) (ov 4))))) (by rfl) T.z_int (by decide +kernel))) (SE.so (by rfl) se_int))) (SE.so (by rfl) se_int))) (by rfl) T.z_int (by decide +kernel))) (ov 1))) sss_nil)))))))))
abbrev N10 : List Str := ["_law_feed_here", "_law_titles", "_law_size", "_law_calls", "_law_menu", "_law_k", "_law_ways", "_law_handlers", "_law_own", "_law_sort"]
theorem sc10 : FnScope N10 ["_law_feed_here", "_law_titles", "_law_size"] (defScope (top 14)) := ⟨rfl, rfl, rfl, by decide +kernel, rfl, by decide +kernel, by decide +kernel⟩
theorem b10 (T : Tx K mg w) (G : GC (bodyX P wd K mg base N10 "_law_row" (defScope (top 14)) f cdv A outer s H E) (fun c d _ H' => E c d H')) (F : HasF (bodyX P wd K mg base N10 "_law_row" (defScope (top 14)) f cdv A outer s H E) w cl n) : SSs (bodyX P wd K mg base N10 "_law_row" (defScope (top 14)) f cdv A outer s H E) w cl (fun c d _ H' => E c d H') lk (defBody (top 14)) w10.body :=
  (sss_cons (ss_asgC (i := 3) G (by rfl) (by rfl) (sw_true (by rfl) (by rfl) (by rfl) (by decide +kernel)) (si_seq (SE.so (by rfl) (se_blt blt_sorted (SE.so (by rfl) (se_bin bin_add (SE.so (by rfl) (se_lst (sd_cons se_str sd_nil (by rfl)) (by decide))) (ov 1))) (by rfl) T.z_sorted (by decide +kernel)))) (own := [("_law_own", 8)]) (blkOk_by (N := N10) (sc := defScope (top 14)) (by decide +kernel)) (fun _ _ _ _ _ => (pg_name (i := 8) G.nd (by rfl) (by first | exact Or.inl rfl | exact Or.inr rfl))) (by rfl) (fun _ _ _ _ _ => (sc_some (st_cmp (cmp_eq (GC.blk G).room) (SE.so (by rfl) (se_call (GC.blk G) (HasF.blk F) T.h9 (by rfl) T.m9 (sa_cons (gv 0) (sa_cons (SE.sg (by rfl) se_int) sa_nil)))) (SE.so (by rfl) se_int) (by rfl)))) (fun _ _ _ _ _ => (ev 8))) (sss_cons (ss_if (st_cmp (cmp_eq G.room) (ov 3) (SE.so (by rfl) (se_lst sd_nil (by decide))) (by rfl)) (sss_cons (ss_asg G (i := 3) (by rfl) (by first | exact Or.inl rfl | exact Or.inr rfl) (se_lst (sd_cons (se_ix (SE.so (by rfl) (se_bin bin_add (SE.so (by rfl) (se_lst (sd_cons se_str sd_nil (by rfl)) (by decide))) (ov 1))) (SE.so (by rfl) (se_call G F T.h9 (by rfl) T.m9 (sa_cons (gv 0) (sa_cons (SE.sg (by rfl) (se_bin bin_add (SE.so (by rfl) se_int) (SE.so (by rfl) (se_blt blt_len (ov 1) (by rfl) T.z_len (by decide +kernel))))) sa_nil)))) (fun _ _ => rfl)) sd_nil (by rfl)) (by decide))) sss_nil) sss_nil) (sss_cons (ss_asg G (i := 4) (by rfl) (by first | exact Or.inl rfl | exact Or.inr rfl) (se_bin bin_add (SE.so (by rfl) (se_rngl G.calm (ov 2) (by rfl) T.z_list (by rfl) T.z_range)) (SE.so (by rfl) (se_lst (sd_cons (se_tup (sd_cons se_str sd_nil (by rfl)) (by decide)) (sd_cons (se_tup (sd_cons se_str (sd_cons se_str sd_nil (by rfl)) (by rfl)) (by decide)) (sd_cons (se_tup (sd_cons se_str (sd_cons se_str sd_nil (by rfl)) (by rfl)) (by decide)) sd_nil (by rfl)) (by rfl)) (by rfl)) (by decide))))) (sss_cons (ss_asgs (is := [6, 7]) (sv_cons (se_lst sd_nil (by decide)) (sv_cons (se_lst sd_nil (by decide)) sv_nil)) (par2 G (by rfl) (by rfl) (by decide) (by rfl) (by rfl) (by rfl)) (by rfl)) (sss_cons (ss_for G po_of (si_rng (by rfl) T.z_range (SE.so (by rfl) (se_bin bin_add (SE.so (by rfl) se_int) (SE.so (by rfl) (se_call G F T.h9 (by rfl) T.m9 (sa_cons (gv 0) (sa_cons (SE.sg (by rfl) se_int) sa_nil))))))) (pg_name (i := 5) G.nd (by rfl) (by first | exact Or.inl rfl | exact Or.inr rfl)) (sss_cons (ss_asg G (i := 8) (by rfl) (by first | exact Or.inl rfl | exact Or.inr rfl) (se_ix (ov 4) (SE.so (by rfl) (se_call G F T.h9 (by rfl) T.m9 (sa_cons (gv 0) (sa_cons (SE.sg (by rfl) (se_blt blt_len (ov 4) (by rfl) T.z_len (by decide +kernel))) sa_nil)))) (fun _ _ => rfl))) (sss_cons (ss_if (st_cmp (cmp_nmem G.room) (ov 8) (ov 6) (by rfl)) (sss_cons (ss_app (i := 6) (by rfl) (by first | exact Or.inl rfl | exact Or.inr (Or.inl rfl) | exact Or.inr (Or.inr rfl)) (ev 8)) sss_nil) sss_nil) sss_nil))) (sss_cons (ss_for G po_of (si_rng (by rfl) T.z_range (SE.so (by rfl) (se_call G F T.h9 (by rfl) T.m9 (sa_cons (gv 0) (sa_cons (SE.sg (by rfl) se_int) sa_nil))))) (pg_name (i := 5) G.nd (by rfl) (by first | exact Or.inl rfl | exact Or.inr rfl)) (sss_cons (ss_asg G (i := 9) (by rfl) (by first | exact Or.inl rfl | exact Or.inr rfl) (se_ix (SE.so (by rfl) (se_lst (sd_cons se_str (sd_cons se_str (sd_cons se_str (sd_cons se_str sd_nil (by rfl)) (by rfl)) (by rfl)) (by rfl)) (by decide))) (SE.so (by rfl) (se_call G F T.h9 (by rfl) T.m9 (sa_cons (gv 0) (sa_cons (SE.sg (by rfl) se_int) sa_nil)))) (fun _ _ => rfl))) (sss_cons (ss_if (st_cmp (cmp_nmem G.room) (ov 9) (SE.so (by rfl) (se_comp G (si_seq (ov 7)) (own := [("_law_own", 8)]) (blkOk_by (N := N10) (sc := defScope (top 14)) (by decide +kernel)) (fun _ _ _ _ _ => (pg_name (i := 8) G.nd (by rfl) (by first | exact Or.inl rfl | exact Or.inr rfl))) (by rfl) (fun _ _ _ _ _ => sc_none) (fun _ _ _ _ _ => (se_ix (ov 8) (SE.so (by rfl) se_int) (fun _ _ => rfl))))) (by rfl)) (sss_cons (ss_app (i := 7) (by rfl) (by first | exact Or.inl rfl | exact Or.inr (Or.inl rfl) | exact Or.inr (Or.inr rfl)) (se_tup (sd_cons (ev 9) (sd_cons (se_call G F T.h9 (by rfl) T.m9 (sa_cons (gv 0) (sa_cons (gv 2) sa_nil))) sd_nil (by rfl)) (by rfl)) (by decide))) sss_nil) sss_nil) sss_nil))) (sss_cons (ss_ret (by rfl) (se_tup (sd_cons (se_bltT blt_tuple (ov 3) (by rfl) T.z_tuple (by decide +kernel)) (sd_cons (se_bltT blt_tuple (ov 6) (by rfl) T.z_tuple (by decide +kernel)) (sd_cons (se_bltT blt_tuple (ov 7) (by rfl) T.z_tuple (by decide +kernel)) sd_nil (by rfl)) (by rfl)) (by rfl)) (by decide))) sss_nil)))))))
abbrev N11 : List Str := ["_law_feed_here", "_law_pools", "_law_title", "_law_titles", "_law_found", "_law_size", "_law_k"]
theorem sc11 : FnScope N11 ["_law_feed_here"] (defScope (top 15)) := ⟨rfl, rfl, rfl, by decide +kernel, rfl, by decide +kernel, by decide +kernel⟩
theorem b11 (T : Tx K mg w) (G : GC (bodyX P wd K mg base N11 "_law_drawn" (defScope (top 15)) f cdv A outer s H E) (fun c d _ H' => E c d H')) (F : HasF (bodyX P wd K mg base N11 "_law_drawn" (defScope (top 15)) f cdv A outer s H E) w cl n) : SSs (bodyX P wd K mg base N11 "_law_drawn" (defScope (top 15)) f cdv A outer s H E) w cl (fun c d _ H' => E c d H') lk (defBody (top 15)) w11.body :=
  (sss_cons (ss_asg G (i := 1) (by rfl) (by first | exact Or.inl rfl | exact Or.inr rfl) (se_lst (sd_cons (se_lst (sd_cons se_str (sd_cons se_str (sd_cons se_str sd_nil (by rfl)) (by rfl)) (by rfl)) (by decide)) (sd_cons (se_lst (sd_cons se_str sd_nil (by rfl)) (by decide)) (sd_cons (se_lst (sd_cons se_str (sd_cons se_str (sd_cons se_str (sd_cons se_str sd_nil (by rfl)) (by rfl)) (by rfl)) (by rfl)) (by decide)) sd_nil (by rfl)) (by rfl)) (by rfl)) (by decide))) (sss_cons (ss_asg G (i := 1) (by rfl) (by first | exact Or.inl rfl | exact Or.inr rfl) (se_bin bin_add (ov 1) (SE.so (by rfl) (se_lst (sd_cons (se_lst (sd_cons se_str (sd_cons se_str (sd_cons se_str (sd_cons se_str sd_nil (by rfl)) (by rfl)) (by rfl)) (by rfl)) (by decide)) (sd_cons (se_lst (sd_cons se_str (sd_cons se_str sd_nil (by rfl)) (by rfl)) (by decide)) sd_nil (by rfl)) (by rfl)) (by decide))))) (sss_cons (ss_asgs (is := [3, 4]) (sv_cons (se_ix (ov 1) (SE.so (by rfl) (se_call G F T.h9 (by rfl) T.m9 (sa_cons (gv 0) (sa_cons (SE.sg (by rfl) se_int) sa_nil)))) (fun _ _ => rfl)) (sv_cons (se_lst sd_nil (by decide)) sv_nil)) (parT (pg_tp G.calm (pgs_names_cons (pg_name (i := 3) G.nd (by rfl) (by first | exact Or.inl rfl | exact Or.inr rfl)) (pgs_names_cons (pg_name (i := 4) G.nd (by rfl) (by first | exact Or.inl rfl | exact Or.inr rfl)) pgs_names_nil))) (by decide)) (by rfl)) (sss_cons (ss_for G po_of (si_seq (ov 3)) (pg_name (i := 2) G.nd (by rfl) (by first | exact Or.inl rfl | exact Or.inr rfl)) (sss_cons (ss_asg G (i := 5) (by rfl) (by first | exact Or.inl rfl | exact Or.inr rfl) (se_bin bin_add (SE.so (by rfl) se_int) (SE.so (by rfl) (se_call G F T.h9 (by rfl) T.m9 (sa_cons (gv 0) (sa_cons (SE.sg (by rfl) se_int) sa_nil)))))) (sss_cons (ss_app (i := 4) (by rfl) (by first | exact Or.inl rfl | exact Or.inr (Or.inl rfl) | exact Or.inr (Or.inr rfl)) (se_tup (sd_cons (ev 2) (sd_cons (se_bltT blt_tuple (SE.so (by rfl) (se_comp G (si_rng (by rfl) T.z_range (ov 5)) (own := [("_law_k", 6)]) (blkOk_by (N := N11) (sc := defScope (top 15)) (by decide +kernel)) (fun _ _ _ _ _ => (pg_name (i := 6) G.nd (by rfl) (by first | exact Or.inl rfl | exact Or.inr rfl))) (by rfl) (fun _ _ _ _ _ => sc_none) (fun _ _ _ _ _ => (se_call (GC.blk G) (HasF.blk F) T.h10 (by rfl) T.m10 (sa_cons (gv 0) (sa_cons (gv 3) (sa_cons (gv 5) sa_nil))))))) (by rfl) T.z_tuple (by decide +kernel)) sd_nil (by rfl)) (by rfl)) (by decide))) sss_nil))) (sss_cons (ss_ret (by rfl) (se_bltT blt_tuple (ov 4) (by rfl) T.z_tuple (by decide +kernel))) sss_nil)))))
abbrev N12 : List Str := ["_law_either", "_law_first_here", "_law_late"]
theorem sc12 : FnScope N12 [] (defScope (top 16)) := ⟨rfl, rfl, rfl, by decide +kernel, rfl, by decide +kernel, by decide +kernel⟩
theorem b12 (T : Tx K mg w) (G : GC (bodyX P wd K mg base N12 "_law_first" (defScope (top 16)) f cdv A outer s H E) (fun c d _ H' => E c d H')) (F : HasF (bodyX P wd K mg base N12 "_law_first" (defScope (top 16)) f cdv A outer s H E) w cl n) : SSs (bodyX P wd K mg base N12 "_law_first" (defScope (top 16)) f cdv A outer s H E) w cl (fun c d _ H' => E c d H') lk (defBody (top 16)) w12.body :=
  (sss_cons (ss_asg G (i := 0) (by rfl) (by first | exact Or.inl rfl | exact Or.inr rfl) (se_tup (sd_cons (se_tup (sd_cons se_str (sd_cons se_str sd_nil (by rfl)) (by rfl)) (by decide)) (sd_cons (se_tup (sd_cons (se_tup (sd_cons se_str sd_nil (by rfl)) (by decide)) sd_nil (by rfl)) (by decide)) (sd_cons (se_tup sd_nil (by decide)) sd_nil (by rfl)) (by rfl)) (by rfl)) (by decide))) (sss_cons (ss_asg G (i := 1) (by rfl) (by first | exact Or.inl rfl | exact Or.inr rfl) (se_tup (sd_cons (se_tup (sd_cons (se_tup (sd_cons se_str sd_nil (by rfl)) (by decide)) (sd_cons (se_tup (sd_cons se_int sd_nil (by rfl)) (by decide)) (sd_cons (se_tup (sd_cons (se_tup (sd_cons se_str (sd_cons se_int sd_nil (by rfl)) (by rfl)) (by decide)) sd_nil (by rfl)) (by decide)) sd_nil (by rfl)) (by rfl)) (by rfl)) (by decide)) (sd_cons (se_tup (sd_cons (se_tup (sd_cons se_str sd_nil (by rfl)) (by decide)) (sd_cons (se_tup (sd_cons (se_tup (sd_cons se_str sd_nil (by rfl)) (by decide)) (sd_cons se_int sd_nil (by rfl)) (by rfl)) (by decide)) (sd_cons (se_tup sd_nil (by decide)) sd_nil (by rfl)) (by rfl)) (by rfl)) (by decide)) (sd_cons (ev 0) sd_nil (by rfl)) (by rfl)) (by rfl)) (by decide))) (sss_cons (ss_asg G (i := 2) (by rfl) (by first | exact Or.inl rfl | exact Or.inr rfl) (se_tup (sd_cons (se_tup (sd_cons (se_tup (sd_cons se_str sd_nil (by rfl)) (by decide)) (sd_cons (se_tup (sd_cons se_int (sd_cons (se_tup (sd_cons se_str (sd_cons se_str sd_nil (by rfl)) (by rfl)) (by decide)) sd_nil (by rfl)) (by rfl)) (by decide)) (sd_cons (se_tup sd_nil (by decide)) sd_nil (by rfl)) (by rfl)) (by rfl)) (by decide)) (sd_cons (ev 0) sd_nil (by rfl)) (by rfl)) (by decide))) (sss_cons (ss_ret (by rfl) (se_tup (sd_cons (se_tup (sd_cons se_str (sd_cons (ev 1) sd_nil (by rfl)) (by rfl)) (by decide)) (sd_cons (se_tup (sd_cons se_str (sd_cons (ev 2) sd_nil (by rfl)) (by rfl)) (by decide)) (sd_cons (se_tup (sd_cons se_str (sd_cons (se_tup (sd_cons (se_tup (sd_cons (se_tup (sd_cons se_str sd_nil (by rfl)) (by decide)) (sd_cons (se_tup (sd_cons (se_tup (sd_cons se_str sd_nil (by rfl)) (by decide)) sd_nil (by rfl)) (by decide)) (sd_cons (se_tup sd_nil (by decide)) sd_nil (by rfl)) (by rfl)) (by rfl)) (by decide)) sd_nil (by rfl)) (by decide)) sd_nil (by rfl)) (by rfl)) (by decide)) sd_nil (by rfl)) (by rfl)) (by rfl)) (by decide))) sss_nil))))
abbrev N13 : List Str := ["_law_titles", "_law_sizes", "_law_many", "_law_j", "_law_kinds_in", "_law_found", "_law_lot", "_law_k", "_law_calls", "_law_ways", "_law_handlers", "_law_i"]
theorem sc13 : FnScope N13 [] (defScope (top 17)) := ⟨rfl, rfl, rfl, by decide +kernel, rfl, by decide +kernel, by decide +kernel⟩
theorem b13 (T : Tx K mg w) (G : GC (bodyX P wd K mg base N13 "_law_great" (defScope (top 17)) f cdv A outer s H E) (fun c d _ H' => E c d H')) (F : HasF (bodyX P wd K mg base N13 "_law_great" (defScope (top 17)) f cdv A outer s H E) w cl n) : SSs (bodyX P wd K mg base N13 "_law_great" (defScope (top 17)) f cdv A outer s H E) w cl (fun c d _ H' => E c d H') lk (defBody (top 17)) w13.body :=
  (sss_cons (ss_asg G (i := 0) (by rfl) (by first | exact Or.inl rfl | exact Or.inr rfl) (se_lst (sd_cons se_str (sd_cons se_str (sd_cons se_str (sd_cons se_str (sd_cons se_str (sd_cons se_str (sd_cons se_str (sd_cons se_str sd_nil (by rfl)) (by rfl)) (by rfl)) (by rfl)) (by rfl)) (by rfl)) (by rfl)) (by rfl)) (by decide))) (sss_cons (ss_asg G (i := 1) (by rfl) (by first | exact Or.inl rfl | exact Or.inr rfl) (se_lst (sd_cons se_int (sd_cons se_int (sd_cons se_int (sd_cons se_int (sd_cons se_int (sd_cons se_int (sd_cons se_int (sd_cons se_int sd_nil (by rfl)) (by rfl)) (by rfl)) (by rfl)) (by rfl)) (by rfl)) (by rfl)) (by rfl)) (by decide))) (sss_cons (ss_asgs (is := [4, 5]) (sv_cons (se_lst (sd_cons se_str (sd_cons se_str (sd_cons se_str (sd_cons se_str (sd_cons se_str (sd_cons se_str sd_nil (by rfl)) (by rfl)) (by rfl)) (by rfl)) (by rfl)) (by rfl)) (by decide)) (sv_cons (se_lst sd_nil (by decide)) sv_nil)) (parT (pg_tp G.calm (pgs_names_cons (pg_name (i := 4) G.nd (by rfl) (by first | exact Or.inl rfl | exact Or.inr rfl)) (pgs_names_cons (pg_name (i := 5) G.nd (by rfl) (by first | exact Or.inl rfl | exact Or.inr rfl)) pgs_names_nil))) (by decide)) (by rfl)) (sss_cons (ss_asg G (i := 2) (by rfl) (by first | exact Or.inl rfl | exact Or.inr rfl) (se_blt blt_len (ov 4) (by rfl) T.z_len (by decide +kernel))) (sss_cons (ss_for G po_of (si_rng (by rfl) T.z_range (SE.so (by rfl) se_int)) (pg_name (i := 3) G.nd (by rfl) (by first | exact Or.inl rfl | exact Or.inr rfl)) (sss_cons (ss_asg G (i := 6) (by rfl) (by first | exact Or.inl rfl | exact Or.inr rfl) (se_lst sd_nil (by decide))) (sss_cons (ss_for G po_of (si_rng (by rfl) T.z_range (SE.so (by rfl) (se_ix (ov 1) (ov 3) (fun _ _ => rfl)))) (pg_name (i := 7) G.nd (by rfl) (by first | exact Or.inl rfl | exact Or.inr rfl)) (sss_cons (ss_asg G (i := 8) (by rfl) (by first | exact Or.inl rfl | exact Or.inr rfl) (se_blt blt_sorted (SE.so (by rfl) (se_bin bin_add (SE.so (by rfl) (se_lst (sd_cons se_str sd_nil (by rfl)) (by decide))) (SE.so (by rfl) (se_sl (ov 0) (sp_some (se_bin bin_mod (SE.so (by rfl) (se_bltT blt_int (SE.so (by rfl) (se_bin bin_add (ov 3) (ov 7))) (by rfl) T.z_int (by decide +kernel))) (SE.so (by rfl) se_int))) sp_none)))) (by rfl) T.z_sorted (by decide +kernel))) (sss_cons (ss_asgC (i := 9) G (by rfl) (by rfl) (sw_true (by rfl) (by rfl) (by rfl) (by decide +kernel)) (si_rng (by rfl) T.z_range (SE.so (by rfl) (se_ix (ov 1) (ov 3) (fun _ _ => rfl)))) (own := [("_law_i", 11)]) (blkOk_by (N := N13) (sc := defScope (top 17)) (by decide +kernel)) (fun _ _ _ _ _ => (pg_name (i := 11) G.nd (by rfl) (by first | exact Or.inl rfl | exact Or.inr rfl))) (by rfl) (fun _ _ _ _ _ => sc_none) (fun _ _ _ _ _ => (se_bin bin_mod (SE.so (by rfl) (se_bltT blt_int (SE.so (by rfl) (se_bin bin_add (ov 7) (ov 11))) (by rfl) T.z_int (by decide +kernel))) (SE.so (by rfl) (se_ix (ov 1) (ov 3) (fun _ _ => rfl)))))) (sss_cons (ss_asg G (i := 9) (by rfl) (by first | exact Or.inl rfl | exact Or.inr rfl) (se_bin bin_add (ov 9) (SE.so (by rfl) (se_lst (sd_cons (se_tup (sd_cons se_str sd_nil (by rfl)) (by decide)) (sd_cons (se_tup (sd_cons se_str (sd_cons (se_ix (ov 4) (SE.so (by rfl) (se_bin bin_mod (SE.so (by rfl) (se_bltT blt_int (ov 3) (by rfl) T.z_int (by decide +kernel))) (ov 2))) (fun _ _ => rfl)) sd_nil (by rfl)) (by rfl)) (by decide)) sd_nil (by rfl)) (by rfl)) (by decide))))) (sss_cons (ss_asgC (i := 10) G (by rfl) (by rfl) (sw_true (by rfl) (by rfl) (by rfl) (by decide +kernel)) (si_rng (by rfl) T.z_range (SE.so (by rfl) se_int)) (own := [("_law_i", 11)]) (blkOk_by (N := N13) (sc := defScope (top 17)) (by decide +kernel)) (fun _ _ _ _ _ => (pg_name (i := 11) G.nd (by rfl) (by first | exact Or.inl rfl | exact Or.inr rfl))) (by rfl) (fun _ _ _ _ _ => sc_none) (fun _ _ _ _ _ => (se_tup (sd_cons (se_ix (ov 4) (SE.so (by rfl) (se_bin bin_mod (SE.so (by rfl) (se_bltT blt_int (SE.so (by rfl) (se_bin bin_add (ov 3) (ov 11))) (by rfl) T.z_int (by decide +kernel))) (ov 2))) (fun _ _ => rfl)) (sd_cons (se_bin bin_mod (SE.so (by rfl) (se_bltT blt_int (SE.so (by rfl) (se_bin bin_add (ov 7) (ov 11))) (by rfl) T.z_int (by decide +kernel))) (SE.so (by rfl) (se_ix (ov 1) (ov 3) (fun _ _ => rfl)))) sd_nil (by rfl)) (by rfl)) (by decide)))) (sss_cons (ss_app (i := 6) (by rfl) (by first | exact Or.inl rfl | exact Or.inr (Or.inl rfl) | exact Or.inr (Or.inr rfl)) (se_tup (sd_cons (se_bltT blt_tuple (ov 8) (by rfl) T.z_tuple (by decide +kernel)) (sd_cons (se_bltT blt_tuple (ov 9) (by rfl) T.z_tuple (by decide +kernel)) (sd_cons (se_bltT blt_tuple (SE.so (by rfl) (se_bin bin_add (ov 10) (SE.so (by rfl) (se_lst (sd_cons (se_tup (sd_cons se_str (sd_cons se_int sd_nil (by rfl)) (by rfl)) (by decide)) sd_nil (by rfl)) (by decide))))) (by rfl) T.z_tuple (by decide +kernel)) sd_nil (by rfl)) (by rfl)) (by rfl)) (by decide))) sss_nil)))))) (sss_cons (ss_app (i := 5) (by rfl) (by first | exact Or.inl rfl | exact Or.inr (Or.inl rfl) | exact Or.inr (Or.inr rfl)) (se_tup (sd_cons (se_ix (ov 0) (ov 3) (fun _ _ => rfl)) (sd_cons (se_bltT blt_tuple (ov 6) (by rfl) T.z_tuple (by decide +kernel)) sd_nil (by rfl)) (by rfl)) (by decide))) sss_nil)))) (sss_cons (ss_ret (by rfl) (se_bltT blt_tuple (ov 5) (by rfl) T.z_tuple (by decide +kernel))) sss_nil))))))
abbrev N14 : List Str := ["_law_own"]
theorem sc14 : FnScope N14 ["_law_own"] (defScope (top 18)) := ⟨rfl, rfl, rfl, by decide +kernel, rfl, by decide +kernel, by decide +kernel⟩
theorem b14 (T : Tx K mg w) (G : GC (bodyX P wd K mg base N14 "_law_call_text" (defScope (top 18)) f cdv A outer s H E) (fun c d _ H' => E c d H')) (F : HasF (bodyX P wd K mg base N14 "_law_call_text" (defScope (top 18)) f cdv A outer s H E) w cl n) : SSs (bodyX P wd K mg base N14 "_law_call_text" (defScope (top 18)) f cdv A outer s H E) w cl (fun c d _ H' => E c d H') lk (defBody (top 18)) w14.body :=
  (sss_cons (ss_ret (by rfl) (se_ite (st_cmp (cmp_eq G.room) (ov 0) (SE.so (by rfl) se_str) (by rfl)) se_str (ev 0))) sss_nil)
abbrev N15 : List Str := ["_law_own"]
theorem sc15 : FnScope N15 ["_law_own"] (defScope (top 19)) := ⟨rfl, rfl, rfl, by decide +kernel, rfl, by decide +kernel, by decide +kernel⟩
theorem b15 (T : Tx K mg w) (G : GC (bodyX P wd K mg base N15 "_law_way_text" (defScope (top 19)) f cdv A outer s H E) (fun c d _ H' => E c d H')) (F : HasF (bodyX P wd K mg base N15 "_law_way_text" (defScope (top 19)) f cdv A outer s H E) w cl n) : SSs (bodyX P wd K mg base N15 "_law_way_text" (defScope (top 19)) f cdv A outer s H E) w cl (fun c d _ H' => E c d H') lk (defBody (top 19)) w15.body :=
  (sss_cons (ss_ret (by rfl) (se_ite (st_val (se_isi (t := .int) (ov 0) (by rfl) T.z_isinstance (by rfl) T.z_int (by decide +kernel)) (fun _ => rfl) (ev_blt _ _)) (se_bltT blt_str (ov 0) (by rfl) T.z_str (by decide +kernel)) (se_join se_str (ov 0)))) sss_nil)
abbrev N16 : List Str := ["_law_own"]
theorem sc16 : FnScope N16 ["_law_own"] (defScope (top 20)) := ⟨rfl, rfl, rfl, by decide +kernel, rfl, by decide +kernel, by decide +kernel⟩
theorem b16 (T : Tx K mg w) (G : GC (bodyX P wd K mg base N16 "_law_handler_text" (defScope (top 20)) f cdv A outer s H E) (fun c d _ H' => E c d H')) (F : HasF (bodyX P wd K mg base N16 "_law_handler_text" (defScope (top 20)) f cdv A outer s H E) w cl n) : SSs (bodyX P wd K mg base N16 "_law_handler_text" (defScope (top 20)) f cdv A outer s H E) w cl (fun c d _ H' => E c d H') lk (defBody (top 20)) w16.body :=
  (sss_cons (ss_ret (by rfl) (se_bin bin_add (SE.so (by rfl) (se_bin bin_add (SE.so (by rfl) (se_ite (st_cmp (cmp_eq G.room) (SE.so (by rfl) (se_ix (ov 0) (SE.so (by rfl) se_int) (fun _ _ => rfl))) (SE.so (by rfl) se_str) (by rfl)) se_str (se_ix (ov 0) (SE.so (by rfl) se_int) (fun _ _ => rfl)))) (SE.so (by rfl) se_str))) (SE.so (by rfl) (se_bltT blt_str (SE.so (by rfl) (se_ix (ov 0) (SE.so (by rfl) se_int) (fun _ _ => rfl))) (by rfl) T.z_str (by decide +kernel))))) sss_nil)
abbrev N17 : List Str := ["_law_row_here", "_law_calls", "_law_ways", "_law_handlers", "_law_own"]
theorem sc17 : FnScope N17 ["_law_row_here"] (defScope (top 21)) := ⟨rfl, rfl, rfl, by decide +kernel, rfl, by decide +kernel, by decide +kernel⟩
theorem b17 (T : Tx K mg w) (G : GC (bodyX P wd K mg base N17 "_law_row_text" (defScope (top 21)) f cdv A outer s H E) (fun c d _ H' => E c d H')) (F : HasF (bodyX P wd K mg base N17 "_law_row_text" (defScope (top 21)) f cdv A outer s H E) w cl n) : SSs (bodyX P wd K mg base N17 "_law_row_text" (defScope (top 21)) f cdv A outer s H E) w cl (fun c d _ H' => E c d H') lk (defBody (top 21)) w17.body :=
  (sss_cons (ss_asg G (i := 1) (by rfl) (by first | exact Or.inl rfl | exact Or.inr rfl) (se_join se_str (SE.so (by rfl) (se_comp G (si_seq (SE.so (by rfl) (se_ix (ov 0) (SE.so (by rfl) se_int) (fun _ _ => rfl)))) (own := [("_law_own", 4)]) (blkOk_by (N := N17) (sc := defScope (top 21)) (by decide +kernel)) (fun _ _ _ _ _ => (pg_name (i := 4) G.nd (by rfl) (by first | exact Or.inl rfl | exact Or.inr rfl))) (by rfl) (fun _ _ _ _ _ => sc_none) (fun _ _ _ _ _ => (se_call (GC.blk G) (HasF.blk F) T.h14 (by rfl) T.m14 (sa_cons (gv 4) sa_nil))))))) (sss_cons (ss_asg G (i := 2) (by rfl) (by first | exact Or.inl rfl | exact Or.inr rfl) (se_join se_str (SE.so (by rfl) (se_comp G (si_seq (SE.so (by rfl) (se_ix (ov 0) (SE.so (by rfl) se_int) (fun _ _ => rfl)))) (own := [("_law_own", 4)]) (blkOk_by (N := N17) (sc := defScope (top 21)) (by decide +kernel)) (fun _ _ _ _ _ => (pg_name (i := 4) G.nd (by rfl) (by first | exact Or.inl rfl | exact Or.inr rfl))) (by rfl) (fun _ _ _ _ _ => sc_none) (fun _ _ _ _ _ => (se_call (GC.blk G) (HasF.blk F) T.h15 (by rfl) T.m15 (sa_cons (gv 4) sa_nil))))))) (sss_cons (ss_asg G (i := 3) (by rfl) (by first | exact Or.inl rfl | exact Or.inr rfl) (se_join se_str (SE.so (by rfl) (se_comp G (si_seq (SE.so (by rfl) (se_ix (ov 0) (SE.so (by rfl) se_int) (fun _ _ => rfl)))) (own := [("_law_own", 4)]) (blkOk_by (N := N17) (sc := defScope (top 21)) (by decide +kernel)) (fun _ _ _ _ _ => (pg_name (i := 4) G.nd (by rfl) (by first | exact Or.inl rfl | exact Or.inr rfl))) (by rfl) (fun _ _ _ _ _ => sc_none) (fun _ _ _ _ _ => (se_call (GC.blk G) (HasF.blk F) T.h16 (by rfl) T.m16 (sa_cons (gv 4) sa_nil))))))) (sss_cons (ss_ret (by rfl) (se_join se_str (SE.so (by rfl) (se_lst (sd_cons (ev 1) (sd_cons (ev 2) (sd_cons (se_ite (st_cmp (cmp_ne G.room) (SE.so (by rfl) (se_ix (ov 0) (SE.so (by rfl) se_int) (fun _ _ => rfl))) (SE.so (by rfl) (se_tup sd_nil (by decide))) (by rfl)) (ev 3) se_str) sd_nil (by rfl)) (by rfl)) (by rfl)) (by decide))))) sss_nil))))
abbrev N18 : List Str := ["_law_whole", "_law_found", "_law_title", "_law_rows_in", "_law_row_here"]
theorem sc18 : FnScope N18 ["_law_whole"] (defScope (top 22)) := ⟨rfl, rfl, rfl, by decide +kernel, rfl, by decide +kernel, by decide +kernel⟩
theorem b18 (T : Tx K mg w) (G : GC (bodyX P wd K mg base N18 "_law_page" (defScope (top 22)) f cdv A outer s H E) (fun c d _ H' => E c d H')) (F : HasF (bodyX P wd K mg base N18 "_law_page" (defScope (top 22)) f cdv A outer s H E) w cl n) : SSs (bodyX P wd K mg base N18 "_law_page" (defScope (top 22)) f cdv A outer s H E) w cl (fun c d _ H' => E c d H') lk (defBody (top 22)) w18.body :=
  (sss_cons (ss_asg G (i := 1) (by rfl) (by first | exact Or.inl rfl | exact Or.inr rfl) (se_lst sd_nil (by decide))) (sss_cons (ss_for G po_of (si_seq (ov 0)) (pg_tp G.calm (pgs_names_cons (pg_name (i := 2) G.nd (by rfl) (by first | exact Or.inl rfl | exact Or.inr rfl)) (pgs_names_cons (pg_name (i := 3) G.nd (by rfl) (by first | exact Or.inl rfl | exact Or.inr rfl)) pgs_names_nil))) (sss_cons (ss_app (i := 1) (by rfl) (by first | exact Or.inl rfl | exact Or.inr (Or.inl rfl) | exact Or.inr (Or.inr rfl)) (se_bin bin_add (SE.so (by rfl) se_str) (ov 2))) (sss_cons (ss_ext (i := 1) (by rfl) (by first | exact Or.inl rfl | exact Or.inr (Or.inl rfl) | exact Or.inr (Or.inr rfl)) (SE.so (by rfl) (se_comp G (si_seq (ov 3)) (own := [("_law_row_here", 4)]) (blkOk_by (N := N18) (sc := defScope (top 22)) (by decide +kernel)) (fun _ _ _ _ _ => (pg_name (i := 4) G.nd (by rfl) (by first | exact Or.inl rfl | exact Or.inr rfl))) (by rfl) (fun _ _ _ _ _ => sc_none) (fun _ _ _ _ _ => (se_call (GC.blk G) (HasF.blk F) T.h17 (by rfl) T.m17 (sa_cons (gv 4) sa_nil)))))) sss_nil))) (sss_cons (ss_ret (by rfl) (se_join se_str (ov 1))) sss_nil)))
abbrev N19 : List Str := ["_law_some", "_law_own"]
theorem sc19 : FnScope N19 ["_law_some"] (defScope (top 23)) := ⟨rfl, rfl, rfl, by decide +kernel, rfl, by decide +kernel, by decide +kernel⟩
theorem b19 (T : Tx K mg w) (G : GC (bodyX P wd K mg base N19 "_law_spots_page" (defScope (top 23)) f cdv A outer s H E) (fun c d _ H' => E c d H')) (F : HasF (bodyX P wd K mg base N19 "_law_spots_page" (defScope (top 23)) f cdv A outer s H E) w cl n) : SSs (bodyX P wd K mg base N19 "_law_spots_page" (defScope (top 23)) f cdv A outer s H E) w cl (fun c d _ H' => E c d H') lk (defBody (top 23)) w19.body :=
  (sss_cons (ss_ret (by rfl) (se_ite (st_cmp (cmp_ne G.room) (ov 0) (SE.so (by rfl) (se_tup sd_nil (by decide))) (by rfl)) (se_join se_str (SE.so (by rfl) (se_comp G (si_seq (ov 0)) (own := [("_law_own", 1)]) (blkOk_by (N := N19) (sc := defScope (top 23)) (by decide +kernel)) (fun _ _ _ _ _ => (pg_name (i := 1) G.nd (by rfl) (by first | exact Or.inl rfl | exact Or.inr rfl))) (by rfl) (fun _ _ _ _ _ => sc_none) (fun _ _ _ _ _ => (se_bin bin_add (SE.so (by rfl) (se_bin bin_add (SE.so (by rfl) (se_ix (ov 1) (SE.so (by rfl) se_int) (fun _ _ => rfl))) (SE.so (by rfl) se_str))) (SE.so (by rfl) (se_bltT blt_str (SE.so (by rfl) (se_ix (ov 1) (SE.so (by rfl) se_int) (fun _ _ => rfl))) (by rfl) T.z_str (by decide +kernel)))))))) se_str)) sss_nil)
abbrev N20 : List Str := ["_law_far", "_law_found"]
theorem sc20 : FnScope N20 [] (defScope (top 24)) := ⟨rfl, rfl, rfl, by decide +kernel, rfl, by decide +kernel, by decide +kernel⟩
theorem b20 (T : Tx K mg w) (G : GC (bodyX P wd K mg base N20 "_law_odd_rows" (defScope (top 24)) f cdv A outer s H E) (fun c d _ H' => E c d H')) (F : HasF (bodyX P wd K mg base N20 "_law_odd_rows" (defScope (top 24)) f cdv A outer s H E) w cl n) : SSs (bodyX P wd K mg base N20 "_law_odd_rows" (defScope (top 24)) f cdv A outer s H E) w cl (fun c d _ H' => E c d H') lk (defBody (top 24)) w20.body :=
  (sss_cons (ss_asg G (i := 0) (by rfl) (by first | exact Or.inl rfl | exact Or.inr rfl) (se_bin bin_pow (SE.so (by rfl) se_int) (SE.so (by rfl) se_int))) (sss_cons (ss_asg G (i := 1) (by rfl) (by first | exact Or.inl rfl | exact Or.inr rfl) (se_lst (sd_cons (se_tup (sd_cons (se_tup (sd_cons se_str (sd_cons se_str sd_nil (by rfl)) (by rfl)) (by decide)) (sd_cons (se_tup (sd_cons se_int (sd_cons (se_tup (sd_cons se_str (sd_cons se_str sd_nil (by rfl)) (by rfl)) (by decide)) sd_nil (by rfl)) (by rfl)) (by decide)) (sd_cons (se_tup (sd_cons (se_tup (sd_cons se_str (sd_cons se_int sd_nil (by rfl)) (by rfl)) (by decide)) (sd_cons (se_tup (sd_cons se_str (sd_cons se_int sd_nil (by rfl)) (by rfl)) (by decide)) sd_nil (by rfl)) (by rfl)) (by decide)) sd_nil (by rfl)) (by rfl)) (by rfl)) (by decide)) sd_nil (by rfl)) (by decide))) (sss_cons (ss_ext (i := 1) (by rfl) (by first | exact Or.inl rfl | exact Or.inr (Or.inl rfl) | exact Or.inr (Or.inr rfl)) (SE.so (by rfl) (se_lst (sd_cons (se_tup (sd_cons (se_tup (sd_cons se_str (sd_cons se_str sd_nil (by rfl)) (by rfl)) (by decide)) (sd_cons (se_tup (sd_cons (ev 0) (sd_cons se_int (sd_cons (ev 0) sd_nil (by rfl)) (by rfl)) (by rfl)) (by decide)) (sd_cons (se_tup (sd_cons (se_tup (sd_cons se_str (sd_cons (ev 0) sd_nil (by rfl)) (by rfl)) (by decide)) (sd_cons (se_tup (sd_cons se_str (sd_cons se_int sd_nil (by rfl)) (by rfl)) (by decide)) sd_nil (by rfl)) (by rfl)) (by decide)) sd_nil (by rfl)) (by rfl)) (by rfl)) (by decide)) sd_nil (by rfl)) (by decide)))) (sss_cons (ss_ext (i := 1) (by rfl) (by first | exact Or.inl rfl | exact Or.inr (Or.inl rfl) | exact Or.inr (Or.inr rfl)) (SE.so (by rfl) (se_lst (sd_cons (se_tup (sd_cons (se_tup (sd_cons se_str (sd_cons se_str (sd_cons se_str (sd_cons se_str sd_nil (by rfl)) (by rfl)) (by rfl)) (by rfl)) (by decide)) (sd_cons (se_tup (sd_cons (se_tup (sd_cons se_str sd_nil (by rfl)) (by decide)) (sd_cons (se_tup (sd_cons se_str sd_nil (by rfl)) (by decide)) sd_nil (by rfl)) (by rfl)) (by decide)) (sd_cons (se_tup sd_nil (by decide)) sd_nil (by rfl)) (by rfl)) (by rfl)) (by decide)) sd_nil (by rfl)) (by decide)))) (sss_cons (ss_ext (i := 1) (by rfl) (by first | exact Or.inl rfl | exact Or.inr (Or.inl rfl) | exact Or.inr (Or.inr rfl)) (SE.so (by rfl) (se_lst (sd_cons (se_tup (sd_cons (se_tup (sd_cons se_str sd_nil (by rfl)) (by decide)) (sd_cons (se_tup (sd_cons (se_tup (sd_cons se_str (sd_cons se_str sd_nil (by rfl)) (by rfl)) (by decide)) (sd_cons se_int (sd_cons se_int sd_nil (by rfl)) (by rfl)) (by rfl)) (by decide)) (sd_cons (se_tup sd_nil (by decide)) sd_nil (by rfl)) (by rfl)) (by rfl)) (by decide)) sd_nil (by rfl)) (by decide)))) (sss_cons (ss_ext (i := 1) (by rfl) (by first | exact Or.inl rfl | exact Or.inr (Or.inl rfl) | exact Or.inr (Or.inr rfl)) (SE.so (by rfl) (se_lst (sd_cons (se_tup (sd_cons (se_tup (sd_cons se_str (sd_cons se_str sd_nil (by rfl)) (by rfl)) (by decide)) (sd_cons (se_tup (sd_cons (se_tup (sd_cons se_str (sd_cons se_str sd_nil (by rfl)) (by rfl)) (by decide)) sd_nil (by rfl)) (by decide)) (sd_cons (se_tup (sd_cons (se_tup (sd_cons se_str (sd_cons se_int sd_nil (by rfl)) (by rfl)) (by decide)) (sd_cons (se_tup (sd_cons se_str (sd_cons se_int sd_nil (by rfl)) (by rfl)) (by decide)) (sd_cons (se_tup (sd_cons se_str (sd_cons se_int sd_nil (by rfl)) (by rfl)) (by decide)) sd_nil (by rfl)) (by rfl)) (by rfl)) (by decide)) sd_nil (by rfl)) (by rfl)) (by rfl)) (by decide)) sd_nil (by rfl)) (by decide)))) (sss_cons (ss_app (i := 1) (by rfl) (by first | exact Or.inl rfl | exact Or.inr (Or.inl rfl) | exact Or.inr (Or.inr rfl)) (se_tup (sd_cons (se_tup (sd_cons se_str sd_nil (by rfl)) (by decide)) (sd_cons (se_tup (sd_cons (se_tup (sd_cons se_str (sd_cons se_str sd_nil (by rfl)) (by rfl)) (by decide)) (sd_cons (se_tup (sd_cons se_str (sd_cons se_str sd_nil (by rfl)) (by rfl)) (by decide)) sd_nil (by rfl)) (by rfl)) (by decide)) (sd_cons (se_tup (sd_cons (se_tup (sd_cons se_str (sd_cons se_int sd_nil (by rfl)) (by rfl)) (by decide)) sd_nil (by rfl)) (by decide)) sd_nil (by rfl)) (by rfl)) (by rfl)) (by decide))) (sss_cons (ss_ret (by rfl) (se_bin bin_add (ov 1) (SE.so (by rfl) (se_lst (sd_cons (se_tup (sd_cons (se_bin bin_mul (SE.so (by rfl) (se_tup (sd_cons se_str sd_nil (by rfl)) (by decide))) (SE.so (by rfl) se_int)) (sd_cons (se_rngt G.calm (SE.so (by rfl) se_int) (by rfl) T.z_tuple (by rfl) T.z_range) (sd_cons (se_bin bin_mul (SE.so (by rfl) (se_tup (sd_cons (se_tup (sd_cons se_str (sd_cons se_int sd_nil (by rfl)) (by rfl)) (by decide)) sd_nil (by rfl)) (by decide))) (SE.so (by rfl) se_int)) sd_nil (by rfl)) (by rfl)) (by rfl)) (by decide)) sd_nil (by rfl)) (by decide))))) sss_nil))))))))
abbrev N21 : List Str := ["_law_whole", "_law_found", "_law_title", "_law_rows_in", "_law_k"]
theorem sc21 : FnScope N21 ["_law_whole"] (defScope (top 25)) := ⟨rfl, rfl, rfl, by decide +kernel, rfl, by decide +kernel, by decide +kernel⟩
theorem b21 (T : Tx K mg w) (G : GC (bodyX P wd K mg base N21 "_law_spots" (defScope (top 25)) f cdv A outer s H E) (fun c d _ H' => E c d H')) (F : HasF (bodyX P wd K mg base N21 "_law_spots" (defScope (top 25)) f cdv A outer s H E) w cl n) : SSs (bodyX P wd K mg base N21 "_law_spots" (defScope (top 25)) f cdv A outer s H E) w cl (fun c d _ H' => E c d H') lk (defBody (top 25)) w21.body :=
  (sss_cons (ss_asg G (i := 1) (by rfl) (by first | exact Or.inl rfl | exact Or.inr rfl) (se_lst sd_nil (by decide))) (sss_cons (ss_for G po_of (si_seq (ov 0)) (pg_tp G.calm (pgs_names_cons (pg_name (i := 2) G.nd (by rfl) (by first | exact Or.inl rfl | exact Or.inr rfl)) (pgs_names_cons (pg_name (i := 3) G.nd (by rfl) (by first | exact Or.inl rfl | exact Or.inr rfl)) pgs_names_nil))) (sss_cons (ss_ext (i := 1) (by rfl) (by first | exact Or.inl rfl | exact Or.inr (Or.inl rfl) | exact Or.inr (Or.inr rfl)) (SE.so (by rfl) (se_comp G (si_rng (by rfl) T.z_range (SE.so (by rfl) (se_blt blt_len (ov 3) (by rfl) T.z_len (by decide +kernel)))) (own := [("_law_k", 4)]) (blkOk_by (N := N21) (sc := defScope (top 25)) (by decide +kernel)) (fun _ _ _ _ _ => (pg_name (i := 4) G.nd (by rfl) (by first | exact Or.inl rfl | exact Or.inr rfl))) (by rfl) (fun _ _ _ _ _ => sc_none) (fun _ _ _ _ _ => (se_tup (sd_cons (ev 2) (sd_cons (ev 4) sd_nil (by rfl)) (by rfl)) (by decide)))))) sss_nil)) (sss_cons (ss_ret (by rfl) (se_blt blt_sortp (ov 1) (by rfl) T.z_sorted (by decide +kernel))) sss_nil)))
abbrev N22 : List Str := ["_law_lot", "_law_row_here"]
theorem sc22 : FnScope N22 ["_law_lot"] (defScope (top 26)) := ⟨rfl, rfl, rfl, by decide +kernel, rfl, by decide +kernel, by decide +kernel⟩
theorem b22 (T : Tx K mg w) (G : GC (bodyX P wd K mg base N22 "_law_rows_right" (defScope (top 26)) f cdv A outer s H E) (fun c d _ H' => E c d H')) (F : HasF (bodyX P wd K mg base N22 "_law_rows_right" (defScope (top 26)) f cdv A outer s H E) w cl n) : SSs (bodyX P wd K mg base N22 "_law_rows_right" (defScope (top 26)) f cdv A outer s H E) w cl (fun c d _ H' => E c d H') lk (defBody (top 26)) w22.body :=
  (sss_cons (ss_ret (by rfl) (se_cmp (cmp_eq G.room) (SE.so (by rfl) (se_comp G (si_seq (ov 0)) (own := [("_law_row_here", 1)]) (blkOk_by (N := N22) (sc := defScope (top 26)) (by decide +kernel)) (fun _ _ _ _ _ => (pg_name (i := 1) G.nd (by rfl) (by first | exact Or.inl rfl | exact Or.inr rfl))) (by rfl) (fun _ _ _ _ _ => (sc_some (st_cmp (cmp_ne (GC.blk G).room) (SE.so (by rfl) (se_blt (blt_repr (GC.blk G).gd (GC.blk G).room) (SE.so (by rfl) (se_call (GC.blk G) (HasF.blk F) T.h3 (by rfl) T.m3 (sa_cons (gv 1) sa_nil))) (by rfl) T.z_repr (by decide +kernel))) (SE.so (by rfl) (se_blt (blt_repr (GC.blk G).gd (GC.blk G).room) (SE.so (by rfl) (se_call (GC.blk G) (HasF.blk F) T.h17 (by rfl) T.m17 (sa_cons (gv 1) sa_nil))) (by rfl) T.z_repr (by decide +kernel))) (by rfl)))) (fun _ _ _ _ _ => (ev 1)))) (SE.so (by rfl) (se_lst sd_nil (by decide))) (by rfl))) sss_nil)
abbrev N23 : List Str := ["_law_script", "_law_feed_here", "_law_rows_in", "_law_start", "_law_strange", "_law_whole", "_law_some", "_law_kept", "_law_every", "_law_title", "_law_lot", "_law_own"]
theorem sc23 : FnScope N23 ["_law_script"] (defScope (top 27)) := ⟨rfl, rfl, rfl, by decide +kernel, rfl, by decide +kernel, by decide +kernel⟩
theorem b23 (T : Tx K mg w) (G : GC (bodyX P wd K mg base N23 "law" (defScope (top 27)) f cdv A outer s H E) (fun c d _ H' => E c d H')) (F : HasF (bodyX P wd K mg base N23 "law" (defScope (top 27)) f cdv A outer s H E) w cl n) : SSs (bodyX P wd K mg base N23 "law" (defScope (top 27)) f cdv A outer s H E) w cl (fun c d _ H' => E c d H') lk (defBody (top 27)) w23.body :=
  (sss_cons (ss_asg G (i := 1) (by rfl) (by first | exact Or.inl rfl | exact Or.inr rfl) (se_call G F T.h8 (by rfl) T.m8 (sa_cons (gv 0) sa_nil))) (sss_cons (ss_asg G (i := 2) (by rfl) (by first | exact Or.inl rfl | exact Or.inr rfl) (se_call0 G F T.h20 (by rfl) T.m20)) (sss_cons (ss_asg G (i := 3) (by rfl) (by first | exact Or.inl rfl | exact Or.inr rfl) (se_call G F T.h9 (by rfl) T.m9 (sa_cons (gv 1) (sa_cons (SE.sg (by rfl) (se_blt blt_len (ov 2) (by rfl) T.z_len (by decide +kernel))) sa_nil)))) (sss_cons (ss_asg G (i := 4) (by rfl) (by first | exact Or.inl rfl | exact Or.inr rfl) (se_tup (sd_cons (se_tup (sd_cons se_str (sd_cons (se_bltT blt_tuple (SE.so (by rfl) (se_sl (ov 2) (sp_some (ev 3)) sp_none)) (by rfl) T.z_tuple (by decide +kernel)) sd_nil (by rfl)) (by rfl)) (by decide)) (sd_cons (se_tup (sd_cons se_str (sd_cons (se_bltT blt_tuple (ov 2) (by rfl) T.z_tuple (by decide +kernel)) sd_nil (by rfl)) (by rfl)) (by decide)) (sd_cons (se_tup (sd_cons se_str (sd_cons (se_tup (sd_cons (se_ix (ov 2) (ov 3) (fun _ _ => rfl)) sd_nil (by rfl)) (by decide)) sd_nil (by rfl)) (by rfl)) (by decide)) sd_nil (by rfl)) (by rfl)) (by rfl)) (by decide))) (sss_cons (ss_asg G (i := 4) (by rfl) (by first | exact Or.inl rfl | exact Or.inr rfl) (se_bin bin_add (ov 4) (SE.so (by rfl) (se_tup (sd_cons (se_tup (sd_cons se_str (sd_cons (se_bltT blt_tuple (SE.so (by rfl) (se_bin bin_mul (SE.so (by rfl) (se_sl (ov 2) sp_none (sp_some se_int))) (SE.so (by rfl) se_int))) (by rfl) T.z_tuple (by decide +kernel)) sd_nil (by rfl)) (by rfl)) (by decide)) sd_nil (by rfl)) (by decide))))) (sss_cons (ss_for G po_of (si_seq (SE.so (by rfl) (se_tup (sd_cons (se_call G F T.h11 (by rfl) T.m11 (sa_cons (gv 1) sa_nil)) (sd_cons (se_call0 G F T.h12 (by rfl) T.m12) (sd_cons (ev 4) (sd_cons (se_call0 G F T.h13 (by rfl) T.m13) sd_nil (by rfl)) (by rfl)) (by rfl)) (by rfl)) (by decide)))) (pg_name (i := 5) G.nd (by rfl) (by first | exact Or.inl rfl | exact Or.inr rfl)) (sss_cons (ss_asgs (is := [7, 8]) (sv_cons (se_blt (blt_repr G.gd G.room) (ov 5) (by rfl) T.z_repr (by decide +kernel)) (sv_cons (se_call G F T.h21 (by rfl) T.m21 (sa_cons (gv 5) sa_nil)) sv_nil)) (par2 G (by rfl) (by rfl) (by decide) (by rfl) (by rfl) (by rfl)) (by rfl)) (sss_cons (ss_if (st_cmp (cmp_ne G.room) (SE.so (by rfl) (se_blt (blt_repr G.gd G.room) (SE.so (by rfl) (se_call G F T.h2 (by rfl) T.m2 (sa_cons (gv 5) sa_nil))) (by rfl) T.z_repr (by decide +kernel))) (SE.so (by rfl) (se_blt (blt_repr G.gd G.room) (SE.so (by rfl) (se_call G F T.h18 (by rfl) T.m18 (sa_cons (gv 5) sa_nil))) (by rfl) T.z_repr (by decide +kernel))) (by rfl)) (sss_cons (ss_ret (by rfl) se_bl) sss_nil) sss_nil) (sss_cons (ss_for G po_of (si_seq (ov 5)) (pg_tp G.calm (pgs_names_cons (pg_name (i := 9) G.nd (by rfl) (by first | exact Or.inl rfl | exact Or.inr rfl)) (pgs_names_cons (pg_name (i := 10) G.nd (by rfl) (by first | exact Or.inl rfl | exact Or.inr rfl)) pgs_names_nil))) (sss_cons (ss_if (st_not (st_val (se_call G F T.h22 (by rfl) T.m22 (sa_cons (gv 10) sa_nil)) (fun _ => rfl) (ev_call _ _))) (sss_cons (ss_ret (by rfl) se_bl) sss_nil) sss_nil) sss_nil)) (sss_cons (ss_asg G (i := 6) (by rfl) (by first | exact Or.inl rfl | exact Or.inr rfl) (se_lst (sd_cons (se_bltT blt_tuple (ov 8) (by rfl) T.z_tuple (by decide +kernel)) (sd_cons (se_bltT blt_tuple (SE.so (by rfl) (se_slb (ov 8))) (by rfl) T.z_tuple (by decide +kernel)) (sd_cons (se_tup sd_nil (by decide)) (sd_cons (se_bltT blt_tuple (SE.so (by rfl) (se_sl (ov 8) sp_none (sp_some se_int))) (by rfl) T.z_tuple (by decide +kernel)) (sd_cons (se_bltT blt_tuple (SE.so (by rfl) (se_bin bin_add (ov 8) (SE.so (by rfl) (se_sl (ov 8) sp_none (sp_some se_int))))) (by rfl) T.z_tuple (by decide +kernel)) sd_nil (by rfl)) (by rfl)) (by rfl)) (by rfl)) (by rfl)) (by decide))) (sss_cons (ss_app (i := 6) (by rfl) (by first | exact Or.inl rfl | exact Or.inr (Or.inl rfl) | exact Or.inr (Or.inr rfl)) (se_tup (sd_cons (se_tup (sd_cons (se_ix (SE.so (by rfl) (se_ix (ov 5) (SE.so (by rfl) se_int) (fun _ _ => rfl))) (SE.so (by rfl) se_int) (fun _ _ => rfl)) (sd_cons (se_bin bin_pow (SE.so (by rfl) se_int) (SE.so (by rfl) se_int)) sd_nil (by rfl)) (by rfl)) (by decide)) (sd_cons (se_tup (sd_cons se_str (sd_cons se_int sd_nil (by rfl)) (by rfl)) (by decide)) (sd_cons (se_tup (sd_cons se_str (sd_cons se_int sd_nil (by rfl)) (by rfl)) (by decide)) (sd_cons (se_tup (sd_cons se_str (sd_cons se_int sd_nil (by rfl)) (by rfl)) (by decide)) sd_nil (by rfl)) (by rfl)) (by rfl)) (by rfl)) (by decide))) (sss_cons (ss_if (st_cmp (cmp_ne G.room) (SE.so (by rfl) (se_comp G (si_seq (ov 6)) (own := [("_law_own", 11)]) (blkOk_by (N := N23) (sc := defScope (top 27)) (by decide +kernel)) (fun _ _ _ _ _ => (pg_name (i := 11) G.nd (by rfl) (by first | exact Or.inl rfl | exact Or.inr rfl))) (by rfl) (fun _ _ _ _ _ => (sc_some (st_cmp (cmp_ne (GC.blk G).room) (SE.so (by rfl) (se_blt (blt_repr (GC.blk G).gd (GC.blk G).room) (SE.so (by rfl) (se_call (GC.blk G) (HasF.blk F) T.h6 (by rfl) T.m6 (sa_cons (gv 11) sa_nil))) (by rfl) T.z_repr (by decide +kernel))) (SE.so (by rfl) (se_blt (blt_repr (GC.blk G).gd (GC.blk G).room) (SE.so (by rfl) (se_call (GC.blk G) (HasF.blk F) T.h19 (by rfl) T.m19 (sa_cons (gv 11) sa_nil))) (by rfl) T.z_repr (by decide +kernel))) (by rfl)))) (fun _ _ _ _ _ => (ev 11)))) (SE.so (by rfl) (se_lst sd_nil (by decide))) (by rfl)) (sss_cons (ss_ret (by rfl) se_bl) sss_nil) sss_nil) (sss_cons (ss_if (st_cmp (cmp_ne G.room) (SE.so (by rfl) (se_blt (blt_repr G.gd G.room) (ov 5) (by rfl) T.z_repr (by decide +kernel))) (ov 7) (by rfl)) (sss_cons (ss_ret (by rfl) se_bl) sss_nil) sss_nil) sss_nil)))))))) (sss_cons (ss_if (st_cmp (cmp_ne G.room) (SE.so (by rfl) (se_callK G F T.h2 (by rfl) T.m2 (sk_cons (SE.sg (by rfl) (se_tup (sd_cons (se_tup (sd_cons se_str (sd_cons (se_tup (sd_cons (se_tup (sd_cons (se_tup (sd_cons se_str sd_nil (by rfl)) (by decide)) (sd_cons (se_tup (sd_cons (se_tup (sd_cons se_str sd_nil (by rfl)) (by decide)) sd_nil (by rfl)) (by decide)) (sd_cons (se_tup sd_nil (by decide)) sd_nil (by rfl)) (by rfl)) (by rfl)) (by decide)) sd_nil (by rfl)) (by decide)) sd_nil (by rfl)) (by rfl)) (by decide)) sd_nil (by rfl)) (by decide))) sk_nil) (hks := by rw [T.p2]; rfl))) (SE.so (by rfl) se_str) (by rfl)) (sss_cons (ss_ret (by rfl) se_bl) sss_nil) sss_nil) (sss_cons (ss_if (st_cmp (cmp_ne G.room) (SE.so (by rfl) (se_callK G F T.h3 (by rfl) T.m3 (sk_cons (SE.sg (by rfl) (se_ix (SE.so (by rfl) (se_ix (SE.so (by rfl) (se_ix (SE.so (by rfl) (se_call0 G F T.h12 (by rfl) T.m12)) (SE.so (by rfl) se_int) (fun _ _ => rfl))) (SE.so (by rfl) se_int) (fun _ _ => rfl))) (SE.so (by rfl) se_int) (fun _ _ => rfl))) sk_nil) (hks := by rw [T.p3]; rfl))) (SE.so (by rfl) se_str) (by rfl)) (sss_cons (ss_ret (by rfl) se_bl) sss_nil) sss_nil) (sss_cons (ss_ret (by rfl) (se_cmp (cmp_eq G.room) (SE.so (by rfl) (se_callK G F T.h6 (by rfl) T.m6 (sk_cons (SE.sg (by rfl) (se_tup (sd_cons (se_tup (sd_cons se_str (sd_cons se_int sd_nil (by rfl)) (by rfl)) (by decide)) (sd_cons (se_tup (sd_cons se_str (sd_cons se_int sd_nil (by rfl)) (by rfl)) (by decide)) sd_nil (by rfl)) (by rfl)) (by decide))) sk_nil) (hks := by rw [T.p6]; rfl))) (SE.so (by rfl) se_str) (by rfl))) sss_nil)))))))))
end
end K08
set_option Elab.async false
set_option linter.all false
set_option maxRecDepth 100000
set_option maxHeartbeats 4100000
namespace K08
open PySem Pv
def feed (cs : D) (a l c : Int) : List (Str × D) := [("cells", cs), ("at", .int a), ("left", .int l), ("count", .int c)]
section
variable {cs : D} {a l c x : Int}
theorem f1 : valD (feed cs a l c) "cells" = some cs := rfl
theorem f2 : valD (feed cs a l c) "at" = some (.int a) := rfl
theorem f3 : valD (feed cs a l c) "left" = some (.int l) := rfl
theorem f4 : valD (feed cs a l c) "count" = some (.int c) := rfl
theorem f5 : putD (feed cs a l c) "at" (.int x) = feed cs x l c := rfl
theorem f6 : putD (feed cs a l c) "left" (.int x) = feed cs a x c := rfl
theorem f7 : putD (feed cs a l c) "count" (.int x) = feed cs a l x := rfl
theorem f8 : (feed cs a l c).length = 4 := rfl
theorem can_ints : ∀ cs : List Int, PyData.canLayAll0 (cs.map .int) = true
  | [] => rfl
  | c :: cs => by
    rw [List.map_cons]
    unfold PyData.canLayAll0 PyData.canLay0
    exact can_ints cs
theorem dep_ints : ∀ cs : List Int, PyData.depthAll (cs.map .int) ≤ 1
  | [] => by decide
  | c :: cs => by
    have ih := dep_ints cs
    rw [List.map_cons]
    unfold PyData.depthAll PyData.depth
    omega
theorem shp_ints (cs : List Int) : shp (.list (cs.map .int)) = true := by
  have h1 := can_ints cs
  have h2 := dep_ints cs
  unfold shp SeqAt.shaped PyData.canLay0 PyData.depth
  rw [h1, Bool.true_and]
  exact decide_eq_true (show _ ≤ 64 by omega)
theorem ne_ints (cs : List Int) : cmp2 .ne (.list (cs.map .int)) (.list []) = some (decide (cs ≠ [])) := by
  have e : cmp2 .ne (.list (cs.map .int)) (.list []) = if shp (.list (cs.map .int)) && shp (.list []) then some (!PyData.eqv (.list (cs.map .int)) (.list [])) else none := rfl
  rw [e, shp_ints, show shp (.list []) = true from rfl, if_pos (show (true && true) = true from rfl)]
  cases cs with
  | nil => rfl
  | cons c cs => rfl
theorem cgt {i j : Int} : cmp2 .gt (.int i) (.int j) = some (decide (j < i)) := rfl
theorem cge {i j : Int} : cmp2 .ge (.int i) (.int j) = some (decide (j ≤ i)) := rfl
theorem clt {i j : Int} : cmp2 .lt (.int i) (.int j) = some (decide (i < j)) := rfl
theorem ix_ints {cs : List Int} {i : Int} (h0 : 0 ≤ i) (h1 : i < cs.length) : ∃ c : Int, ix2 (.list (cs.map .int)) (.int i) = some (.int c) := by
  have hj : i.toNat < cs.length := by omega
  refine ⟨cs[i.toNat], ?_⟩
  show L2.atI (cs.map PyData.int) i = _
  unfold L2.atI L2.ixN
  rw [if_pos h0, List.length_map, if_pos h1, Option.bind_some, List.getElem?_map, List.getElem?_eq_getElem hj]
  rfl
theorem badd {i j : Int} : bin2 .add (.int i) (.int j) = some (.dat (.int (i + j))) := rfl
theorem bsub {i j : Int} : bin2 .sub (.int i) (.int j) = some (.dat (.int (i - j))) := rfl
theorem bmod {i j : Int} (h : 0 < j) : bin2 .mod (.int i) (.int j) = some (.dat (.int (i % j))) := if_pos (decide_eq_true h)
theorem bfdiv {i j : Int} (h : 0 < j) (h' : j < 1073741824) : bin2 .fdiv (.int i) (.int j) = some (.dat (.int (i / j))) := if_pos (decide_eq_true ⟨h, h'⟩)
theorem bmul {i j : Int} (h : -(2 ^ 64) < i) (h' : i < 2 ^ 64) : bin2 .mul (.int i) (.int j) = some (.dat (.int (i * j))) := if_pos (by rw [decide_eq_true (show -(2 ^ 64) < i ∧ i < 2 ^ 64 from ⟨h, h'⟩)]; rfl)
theorem bmulm {x m y : Int} (h : 0 < m) (h' : m < 2 ^ 64) : bin2 .mul (.int (x % m)) (.int y) = some (.dat (.int (x % m * y))) :=
  bmul (Int.lt_of_lt_of_le (by decide) (Int.emod_nonneg x (by omega))) (Int.lt_trans (Int.emod_lt_of_pos x h) h')
theorem p18 : bin2 .pow (.int 10) (.int 18) = some (.dat (.int 1000000000000000000)) := rfl
theorem xint {i : Int} : blt1 .int (.int i) = some (.dat (.int i)) := rfl
theorem xlen {xs : List D} : blt1 .len (.list xs) = some (.dat (.int xs.length)) := rfl
theorem draw_sat {n : Nat} {cs : List Int} {a l c many : Int} (ha : 0 ≤ a) (hm : 1 ≤ many) (hm2 : many < 1073741824) :
    (evF Pr (n + 1) 9 [.dct (feed (.list (cs.map .int)) a l c), .dat (.int many)]).sat fun p => ∃ r a' l' c', p = (.dat (.int r), [some (.dct (feed (.list (cs.map .int)) a' l' c')), some (.dat (.int many))]) ∧ 0 ≤ r ∧ r < many ∧ 0 ≤ a' := by
  have hmp : 0 < many := by omega
  show (runF (evF Pr n) w9 _).sat _
  refine runF_sat rfl ?_
  show (evSs (evF Pr n) [0] w9.body [some (.dct (feed (.list (cs.map .int)) a l c)), some (.dat (.int many)), none, none, none, none]).sat _
  unfold w9
  simp only [evSs, evS, Res.sat_bind, Res.sat_ok, evE, lookD, keyOf, opnd, T.isVar, look, Vl.view, List.getElem?_cons_zero, List.getElem?_cons_succ, Res.sat_get, f1, f2, f3, f4, f5, f6, f7, f8, Vl.frz, badd, bsub, bmod, bfdiv, bmul, bmulm, p18, List.set_cons_zero, List.set_cons_succ, Option.some.injEq, exists_eq_left', evT, decide_true, decide_false, if_true, if_false, Res.bind_ok, get_some, xint, xlen, Env.put, putS, List.contains_cons, List.contains_nil, Nat.reduceLT, List.length_cons, List.length_nil, Nat.reduceAdd, Nat.reduceBEq, Bool.or_self, Bool.false_eq_true, and_self, List.take_succ_cons, List.take_zero, hmp, hm2, Int.reducePow, Int.reduceNeg, Int.reduceLT, Int.reduceLE, evDs, Bool.and_true, Bool.true_and, Bool.or_false, Bool.or_true, Option.bind_some, cgt, cge, clt, truth]
  cases hl : decide (0 < l) with
  | true =>
    simp only [evSs, evS, Res.sat_bind, Res.sat_ok, evE, lookD, keyOf, opnd, T.isVar, look, Vl.view, List.getElem?_cons_zero, List.getElem?_cons_succ, Res.sat_get, f1, f2, f3, f4, f5, f6, f7, f8, Vl.frz, badd, bsub, bmod, bfdiv, bmul, bmulm, p18, List.set_cons_zero, List.set_cons_succ, Option.some.injEq, exists_eq_left', evT, decide_true, decide_false, if_true, if_false, Res.bind_ok, get_some, xint, xlen, Env.put, putS, List.contains_cons, List.contains_nil, Nat.reduceLT, List.length_cons, List.length_nil, Nat.reduceAdd, Nat.reduceBEq, Bool.or_self, Bool.false_eq_true, and_self, List.take_succ_cons, List.take_zero, hmp, hm2, Int.reducePow, Int.reduceNeg, Int.reduceLT, Int.reduceLE, evDs, Bool.and_true, Bool.true_and, Bool.or_false, Bool.or_true, Option.bind_some, cgt, cge, clt, truth]
    exact ⟨_, _, _, _, rfl, Int.emod_nonneg _ (by omega), Int.emod_lt_of_pos _ hmp, ha⟩
  | false =>
    simp only [evSs, evS, Res.sat_bind, Res.sat_ok, evE, lookD, keyOf, opnd, T.isVar, look, Vl.view, List.getElem?_cons_zero, List.getElem?_cons_succ, Res.sat_get, f1, f2, f3, f4, f5, f6, f7, f8, Vl.frz, badd, bsub, bmod, bfdiv, bmul, bmulm, p18, List.set_cons_zero, List.set_cons_succ, Option.some.injEq, exists_eq_left', evT, decide_true, decide_false, if_true, if_false, Res.bind_ok, get_some, xint, xlen, Env.put, putS, List.contains_cons, List.contains_nil, Nat.reduceLT, List.length_cons, List.length_nil, Nat.reduceAdd, Nat.reduceBEq, Bool.or_self, Bool.false_eq_true, and_self, List.take_succ_cons, List.take_zero, hmp, hm2, Int.reducePow, Int.reduceNeg, Int.reduceLT, Int.reduceLE, evDs, Bool.and_true, Bool.true_and, Bool.or_false, Bool.or_true, Option.bind_some, cgt, cge, clt, truth, ne_ints]
    by_cases hc : cs = []
    · subst hc
      simp only [evSs, evS, Res.sat_bind, Res.sat_ok, evE, lookD, keyOf, opnd, T.isVar, look, Vl.view, List.getElem?_cons_zero, List.getElem?_cons_succ, Res.sat_get, f1, f2, f3, f4, f5, f6, f7, f8, Vl.frz, badd, bsub, bmod, bfdiv, bmul, bmulm, p18, List.set_cons_zero, List.set_cons_succ, Option.some.injEq, exists_eq_left', evT, decide_true, decide_false, if_true, if_false, Res.bind_ok, get_some, xint, xlen, Env.put, putS, List.contains_cons, List.contains_nil, Nat.reduceLT, List.length_cons, List.length_nil, Nat.reduceAdd, Nat.reduceBEq, Bool.or_self, Bool.false_eq_true, and_self, List.take_succ_cons, List.take_zero, hmp, hm2, Int.reducePow, Int.reduceNeg, Int.reduceLT, Int.reduceLE, evDs, Bool.and_true, Bool.true_and, Bool.or_false, Bool.or_true, Option.bind_some, cgt, cge, clt, truth, List.map_nil, ne_eq, not_true_eq_false]
      exact ⟨_, _, _, _, rfl, Int.emod_nonneg _ (by omega), Int.emod_lt_of_pos _ hmp, by omega⟩
    · have hp : 0 < (cs.length : Int) := by
        cases cs with
        | nil => exact (hc rfl).elim
        | cons _ _ => rw [List.length_cons]; omega
      have hp' : 0 < ((cs.map PyData.int).length : Int) := by rw [List.length_map]; exact hp
      obtain ⟨x, hx⟩ := ix_ints (cs := cs) (Int.emod_nonneg a (by omega : (cs.length : Int) ≠ 0)) (Int.emod_lt_of_pos a hp)
      rw [← List.length_map (f := PyData.int)] at hx
      simp only [evSs, evS, Res.sat_bind, Res.sat_ok, evE, lookD, keyOf, opnd, T.isVar, look, Vl.view, List.getElem?_cons_zero, List.getElem?_cons_succ, Res.sat_get, f1, f2, f3, f4, f5, f6, f7, f8, Vl.frz, badd, bsub, bmod, bfdiv, bmul, bmulm, p18, List.set_cons_zero, List.set_cons_succ, Option.some.injEq, exists_eq_left', evT, decide_true, decide_false, if_true, if_false, Res.bind_ok, get_some, xint, xlen, Env.put, putS, List.contains_cons, List.contains_nil, Nat.reduceLT, List.length_cons, List.length_nil, Nat.reduceAdd, Nat.reduceBEq, Bool.or_self, Bool.false_eq_true, and_self, List.take_succ_cons, List.take_zero, hmp, hm2, Int.reducePow, Int.reduceNeg, Int.reduceLT, Int.reduceLE, evDs, Bool.and_true, Bool.true_and, Bool.or_false, Bool.or_true, Option.bind_some, cgt, cge, clt, truth, ne_eq, hc, not_false_eq_true, hp', hx]
      have fin : ∀ y : Int, 0 ≤ y % many ∧ y % many < many := fun y => ⟨Int.emod_nonneg _ (by omega), Int.emod_lt_of_pos _ hmp⟩
      cases h1 : decide (1000000000000000000 ≤ x) with
      | true =>
        simp only [evSs, evS, Res.sat_bind, Res.sat_ok, evE, lookD, keyOf, opnd, T.isVar, look, Vl.view, List.getElem?_cons_zero, List.getElem?_cons_succ, Res.sat_get, f1, f2, f3, f4, f5, f6, f7, f8, Vl.frz, badd, bsub, bmod, bfdiv, bmul, bmulm, p18, List.set_cons_zero, List.set_cons_succ, Option.some.injEq, exists_eq_left', evT, decide_true, decide_false, if_true, if_false, Res.bind_ok, get_some, xint, xlen, Env.put, putS, List.contains_cons, List.contains_nil, Nat.reduceLT, List.length_cons, List.length_nil, Nat.reduceAdd, Nat.reduceBEq, Bool.or_self, Bool.false_eq_true, and_self, List.take_succ_cons, List.take_zero, hmp, hm2, Int.reducePow, Int.reduceNeg, Int.reduceLT, Int.reduceLE, evDs, Bool.and_true, Bool.true_and, Bool.or_false, Bool.or_true, Option.bind_some, cgt, cge, clt, truth]
        cases h2 : decide (a < ((cs.map PyData.int).length : Int)) with
        | true =>
          simp only [evSs, evS, Res.sat_bind, Res.sat_ok, evE, lookD, keyOf, opnd, T.isVar, look, Vl.view, List.getElem?_cons_zero, List.getElem?_cons_succ, Res.sat_get, f1, f2, f3, f4, f5, f6, f7, f8, Vl.frz, badd, bsub, bmod, bfdiv, bmul, bmulm, p18, List.set_cons_zero, List.set_cons_succ, Option.some.injEq, exists_eq_left', evT, decide_true, decide_false, if_true, if_false, Res.bind_ok, get_some, xint, xlen, Env.put, putS, List.contains_cons, List.contains_nil, Nat.reduceLT, List.length_cons, List.length_nil, Nat.reduceAdd, Nat.reduceBEq, Bool.or_self, Bool.false_eq_true, and_self, List.take_succ_cons, List.take_zero, hmp, hm2, Int.reducePow, Int.reduceNeg, Int.reduceLT, Int.reduceLE, evDs, Bool.and_true, Bool.true_and, Bool.or_false, Bool.or_true, Option.bind_some, cgt, cge, clt, truth]
          exact ⟨_, _, _, _, rfl, (fin _).1, (fin _).2, by omega⟩
        | false =>
          simp only [evSs, evS, Res.sat_bind, Res.sat_ok, evE, lookD, keyOf, opnd, T.isVar, look, Vl.view, List.getElem?_cons_zero, List.getElem?_cons_succ, Res.sat_get, f1, f2, f3, f4, f5, f6, f7, f8, Vl.frz, badd, bsub, bmod, bfdiv, bmul, bmulm, p18, List.set_cons_zero, List.set_cons_succ, Option.some.injEq, exists_eq_left', evT, decide_true, decide_false, if_true, if_false, Res.bind_ok, get_some, xint, xlen, Env.put, putS, List.contains_cons, List.contains_nil, Nat.reduceLT, List.length_cons, List.length_nil, Nat.reduceAdd, Nat.reduceBEq, Bool.or_self, Bool.false_eq_true, and_self, List.take_succ_cons, List.take_zero, hmp, hm2, Int.reducePow, Int.reduceNeg, Int.reduceLT, Int.reduceLE, evDs, Bool.and_true, Bool.true_and, Bool.or_false, Bool.or_true, Option.bind_some, cgt, cge, clt, truth]
          exact ⟨_, _, _, _, rfl, (fin _).1, (fin _).2, by omega⟩
      | false =>
        simp only [evSs, evS, Res.sat_bind, Res.sat_ok, evE, lookD, keyOf, opnd, T.isVar, look, Vl.view, List.getElem?_cons_zero, List.getElem?_cons_succ, Res.sat_get, f1, f2, f3, f4, f5, f6, f7, f8, Vl.frz, badd, bsub, bmod, bfdiv, bmul, bmulm, p18, List.set_cons_zero, List.set_cons_succ, Option.some.injEq, exists_eq_left', evT, decide_true, decide_false, if_true, if_false, Res.bind_ok, get_some, xint, xlen, Env.put, putS, List.contains_cons, List.contains_nil, Nat.reduceLT, List.length_cons, List.length_nil, Nat.reduceAdd, Nat.reduceBEq, Bool.or_self, Bool.false_eq_true, and_self, List.take_succ_cons, List.take_zero, hmp, hm2, Int.reducePow, Int.reduceNeg, Int.reduceLT, Int.reduceLE, evDs, Bool.and_true, Bool.true_and, Bool.or_false, Bool.or_true, Option.bind_some, cgt, cge, clt, truth]
        exact ⟨_, _, _, _, rfl, (fin _).1, (fin _).2, by omega⟩
end
end K08
set_option Elab.async false
set_option linter.all false
set_option maxRecDepth 100000
set_option maxHeartbeats 4100000
namespace K08
open PySem Pv
/-! what may be asked: no dicts, not too deep, not too great -/
structure Ok (d : D) : Prop where
  lay : d.canLay0 = true
  dep : d.depth ≤ 60
  wgt : d.weight ≤ 1000000
theorem all_lay : ∀ {xs : List D} {x : D}, PyData.canLayAll0 xs = true → x ∈ xs → x.canLay0 = true
  | y :: ys, x, h, hm => by
    have h' : y.canLay0 = true ∧ PyData.canLayAll0 ys = true := by unfold PyData.canLayAll0 at h; rwa [Bool.and_eq_true] at h
    cases hm with
    | head => exact h'.1
    | tail _ hm => exact all_lay h'.2 hm
theorem all_dep : ∀ {xs : List D} {x : D}, x ∈ xs → x.depth ≤ PyData.depthAll xs
  | y :: ys, x, hm => by
    unfold PyData.depthAll
    cases hm with
    | head => exact Nat.le_max_left ..
    | tail _ hm => exact Nat.le_trans (all_dep hm) (Nat.le_max_right ..)
theorem all_wgt : ∀ {xs : List D} {x : D}, x ∈ xs → x.weight < PyData.weightAll xs
  | y :: ys, x, hm => by
    unfold PyData.weightAll
    cases hm with
    | head => omega
    | tail _ hm => have := all_wgt hm; omega
theorem Ok.mem {xs : List D} {x : D} (h : Ok (.tuple xs)) (hm : x ∈ xs) : Ok x := by
  have h1 : PyData.canLayAll0 xs = true := by have := h.lay; unfold PyData.canLay0 at this; exact this
  have h2 : PyData.depthAll xs + 1 ≤ 60 := by have := h.dep; unfold PyData.depth at this; exact this
  have h3 : PyData.weightAll xs ≤ 1000000 := by have := h.wgt; unfold PyData.weight at this; exact this
  have e2 := all_dep hm
  have e3 := all_wgt hm
  exact ⟨all_lay h1 hm, by omega, by omega⟩
theorem Ok.shp {d : D} (h : Ok d) : shp d = true := by
  unfold Pv.shp SeqAt.shaped
  rw [h.lay, Bool.true_and]
  exact decide_eq_true (show _ ≤ 64 by have := h.dep; omega)
theorem Ok.len {x : Str} (h : Ok (.str x)) : x.length ≤ 1000000 := by
  have := h.wgt; unfold PyData.weight at this; exact this
theorem Ok.sz {x : Str} (h : Ok (.str x)) : sizeOk x.length = true := decide_eq_true (by have := h.len; omega)
theorem eqs {x y : D} (h : shp x = true) (h' : shp y = true) : cmp2 .eq x y = some (PyData.eqv x y) := if_pos (by rw [h, h']; rfl)
theorem nes {x y : D} (h : shp x = true) (h' : shp y = true) : cmp2 .ne x y = some (!PyData.eqv x y) := if_pos (by rw [h, h']; rfl)
theorem lay_all : ∀ {xs : List D}, (∀ x ∈ xs, x.canLay0 = true) → PyData.canLayAll0 xs = true
  | [], _ => rfl
  | x :: xs, h => by
    unfold PyData.canLayAll0
    rw [h x (List.mem_cons_self ..), Bool.true_and]
    exact lay_all fun y hy => h y (List.mem_cons_of_mem _ hy)
theorem dep_all {n : Nat} : ∀ {xs : List D}, (∀ x ∈ xs, x.depth ≤ n) → PyData.depthAll xs ≤ n
  | [], _ => by unfold PyData.depthAll; omega
  | x :: xs, h => by
    unfold PyData.depthAll
    have h1 := h x (List.mem_cons_self ..)
    have h2 := dep_all (xs := xs) fun y hy => h y (List.mem_cons_of_mem _ hy)
    omega
theorem odd_shp {p : D → Bool} {ds : List D} (h : ∀ d ∈ ds, Ok d) : shp (.list (odd p ds)) = true := by
  have hm : ∀ d ∈ odd p ds, Ok d := fun d hd => h d (List.mem_filter.mp hd).1
  have h1 : PyData.canLayAll0 (odd p ds) = true := lay_all fun d hd => (hm d hd).lay
  have h2 : PyData.depthAll (odd p ds) ≤ 60 := dep_all fun d hd => (hm d hd).dep
  unfold Pv.shp SeqAt.shaped PyData.canLay0 PyData.depth
  rw [h1, Bool.true_and]
  exact decide_eq_true (show _ ≤ 64 by omega)
theorem eqv_nil (xs : List D) : PyData.eqv (.list xs) (.list []) = xs.isEmpty := by cases xs <;> rfl
theorem eqv_tnil (xs : List D) : PyData.eqv (.tuple xs) (.tuple []) = xs.isEmpty := by cases xs <;> rfl
theorem odd_eq {p : D → Bool} {ds : List D} (h : ∀ d ∈ ds, Ok d) : cmp2 .eq (.list (odd p ds)) (.list []) = some (ds.all p) := by
  rw [eqs (odd_shp h) rfl, eqv_nil, odd_nil]
theorem odd_ne {p : D → Bool} {ds : List D} (h : ∀ d ∈ ds, Ok d) : cmp2 .ne (.list (odd p ds)) (.list []) = some (!ds.all p) := by
  rw [nes (odd_shp h) rfl, eqv_nil, odd_nil]
/-! what is told, by form -/
def a0 : D → D
  | .tuple (a :: _) => a
  | _ => .none
def a1 : D → D
  | .tuple (_ :: b :: _) => b
  | _ => .none
def pInt (d : D) : Bool := isiD .int d && !isiD .bool d
def nn : D → Bool
  | .int i => decide (0 ≤ i)
  | _ => false
def pNum (d : D) : Bool := pInt d && nn d
def lett (c : Nat) : Bool := decide (97 ≤ c) && decide (c ≤ 122)
def pName : D → Bool
  | .str x => (decide (1 ≤ x.length) && decide (x.length ≤ 8)) && x.cps.toList.all lett
  | _ => false
def pPair : D → Bool
  | .tuple [_, _] => true
  | _ => false
def pNameE (d : D) : Bool := pName d || (isiD .str d && PyData.eqv d (.str ""))
def pSpot (d : D) : Bool := pPair d && (pName (a0 d) && pNum (a1 d))
def pEnd (d : D) : Bool := match pPair d with
  | true => isiD .str (a0 d) && (PyData.eqv (a0 d) (.str "fail") && pName (a1 d))
  | false => isiD .tuple d && PyData.eqv d (.tuple [.str "back"])
def pWay (d : D) : Bool := pNum d || pEnd d
def pHand (d : D) : Bool := pPair d && (pNameE (a0 d) && pNum (a1 d))
def pTup (p : D → Bool) : D → Bool
  | .tuple xs => xs.all p
  | _ => false
def pLine : D → Bool
  | .tuple [a, b, c] => pTup pNameE a && (pTup pWay b && pTup pHand c)
  | _ => false
def pNe (p : D → Bool) : D → Bool
  | .tuple ls => decide (0 < ls.length) && ls.all p
  | _ => false
def pLines (d : D) : Bool := pNe pLine d
def pFn (d : D) : Bool := pPair d && (pName (a0 d) && pLines (a1 d))
def pProg (d : D) : Bool := pNe pFn d
def pChs : D → Bool
  | .tuple xs => xs.all pNum
  | _ => false
def pCmd (d : D) : Bool := isiD .str d && ([.str "step", .str "next", .str "out", .str "go"] : List D).any fun z => PyData.eqv z d
theorem shpE : shp (.str "") = true := by decide +kernel
theorem shpF : shp (.str "fail") = true := by decide +kernel
theorem shpB : shp (.tuple [.str "back"]) = true := by decide +kernel
theorem pInt_int {d : D} (h : pInt d = true) : ∃ i, d = .int i := by
  cases d <;> first | exact ⟨_, rfl⟩ | (cases h; done)
theorem pair_of {d : D} (h : pPair d = true) : ∃ a b, d = .tuple [a, b] := by
  cases d with
  | tuple xs =>
    cases xs with
    | nil => cases h
    | cons a xs =>
      cases xs with
      | nil => cases h
      | cons b xs =>
        cases xs with
        | nil => exact ⟨a, b, rfl⟩
        | cons _ _ => cases h
  | _ => cases h
theorem told_js {cl : Fun} {df : Df} {x : D} {b : Bool} (ρ' : Pv.Env) (hp : df.ps = 1) (hk : ρ'.take 1 = [some (.dat x)]) (h : JS cl [] df.body (startE df.n [.dat x]) (.dat (.bool b)) ρ') : runF cl df [.dat x] = .ok (.dat (.bool b), [some (.dat x)]) := by
  rw [run_js (vs := [.dat x]) (ρ' := ρ') (by rw [hp]; rfl) h, hp, hk]
section
variable {n : Nat} {d : D}
theorem t0 : Told (evF Pr (n + 1)) 0 d (pInt d) := by
  show runF (evF Pr n) w0 [.dat d] = _
  exact told_js (startE w0.n [_]) rfl rfl (js_ret rfl (eb_and (eb_isi (op_var rfl)) fun _ => eb_not (eb_isi (op_var rfl))))
theorem t1 : Told (evF Pr (n + 2)) 1 d (pNum d) := by
  show runF (evF Pr (n + 1)) w1 [.dat d] = _
  refine told_js (startE w1.n [_]) rfl rfl (js_ret rfl (eb_and (eb_told (ar_var rfl) t0) fun h => ?_))
  obtain ⟨i, e⟩ := pInt_int h
  subst e
  exact eb_cmp (op_var rfl) (op_cst _) rfl
end
theorem pLine_len {xs : List D} (h : xs.length ≠ 3) : pLine (.tuple xs) = false := by
  match xs, h with
  | [], _ => rfl
  | [_], _ => rfl
  | [_, _], _ => rfl
  | [_, _, _], h => exact (h rfl).elim
  | _ :: _ :: _ :: _ :: _, _ => rfl
theorem tup_of {x : D} (h : isiD .tuple x = true) : ∃ xs, x = .tuple xs := by cases x <;> first | exact ⟨_, rfl⟩ | (cases h; done)
theorem pTup_not {p : D → Bool} {x : D} (h : isiD .tuple x = false) : pTup p x = false := by cases x <;> first | rfl | (cases h; done)
theorem pLine_tup {a b c : D} (h : ¬ (isiD .tuple a = true ∧ isiD .tuple b = true ∧ isiD .tuple c = true)) : pLine (.tuple [a, b, c]) = false := by
  show (pTup pNameE a && (pTup pWay b && pTup pHand c)) = false
  cases q : isiD .tuple a with
  | false => rw [pTup_not q]; rfl
  | true =>
    cases q2 : isiD .tuple b with
    | false => rw [pTup_not q2, Bool.false_and, Bool.and_false]
    | true =>
      cases q3 : isiD .tuple c with
      | false => rw [pTup_not q3, Bool.and_false, Bool.and_false]
      | true => exact (h ⟨q, q2, q3⟩).elim
theorem pLine_of {d : D} (h : pLine d = true) : ∃ cs ws hs, d = .tuple [.tuple cs, .tuple ws, .tuple hs] := by
  cases d with
  | tuple xs =>
    by_cases e : xs.length = 3
    · match xs, e with
      | [a, b, c], _ =>
        by_cases q : isiD .tuple a = true ∧ isiD .tuple b = true ∧ isiD .tuple c = true
        · obtain ⟨qa, qb, qc⟩ := q
          obtain ⟨as, ea⟩ := tup_of qa
          obtain ⟨bs, eb⟩ := tup_of qb
          obtain ⟨cs, ec⟩ := tup_of qc
          subst ea eb ec
          exact ⟨_, _, _, rfl⟩
        · rw [pLine_tup q] at h; cases h
    · rw [pLine_len e] at h; cases h
  | _ => cases h
theorem str_of {x : D} (h : isiD .str x = true) : ∃ y, x = .str y := by cases x <;> first | exact ⟨_, rfl⟩ | (cases h; done)
theorem eqv_pair {a b x : D} : PyData.eqv (.tuple [a, b]) (.tuple [x]) = false := by
  show (PyData.eqv a x && false) = false
  exact Bool.and_false _
theorem eqv_str {a : D} {s : Str} (h : PyData.eqv a (.str s) = true) : isiD .str a = true := by cases a <;> first | rfl | (cases h; done)
theorem jv_back {cl : Fun} {ρ : Pv.Env} : EV cl (.tup [(.cst (.str "back"))]) ρ (.dat (.tuple [.str "back"])) := jv_tup (dv_cons (jv_cst _) rfl dv_nil)
theorem jv_tnil {cl : Fun} {ρ : Pv.Env} : EV cl (.tup []) ρ (.dat (.tuple [])) := jv_tup dv_nil
theorem shpN : shp (.tuple []) = true := rfl
theorem isE (xs : List D) : xs.isEmpty = !decide (0 < xs.length) := by cases xs <;> rfl
theorem op_repr {cl : Fun} {ρ : Pv.Env} {e : T} {x : D} (h : OP cl e ρ x) (r : Rpr x) : OP cl (.blt .repr e) ρ (.str x.shown) := op_ev (jv_blt h r.run) rfl rfl
theorem eqv_refl_str (x : Str) : PyData.eqv (.str x) (.str x) = true := beq_self_eq_true x
/-! ### small data: leaves, depth, weight -/
mutual
def lf (B : Nat) : D → Bool
  | .none => true
  | .bool _ => true
  | .int i => decide (i.natAbs ≤ B)
  | .str x => x.cps.toList.all (· < 128)
  | .list xs => lfAll B xs
  | .tuple xs => lfAll B xs
  | .dict _ => false
def lfAll (B : Nat) : List D → Bool
  | [] => true
  | x :: xs => lf B x && lfAll B xs
end
theorem lfAll_iff {B : Nat} : ∀ {xs : List D}, lfAll B xs = true ↔ ∀ x ∈ xs, lf B x = true
  | [] => by unfold lfAll; exact ⟨fun _ _ h => (nomatch h), fun _ => rfl⟩
  | x :: xs => by
    unfold lfAll
    rw [Bool.and_eq_true, lfAll_iff (xs := xs)]
    exact ⟨fun h y hy => (List.mem_cons.mp hy).elim (fun e => e ▸ h.1) (h.2 y), fun h => ⟨h x (List.mem_cons_self ..), fun y hy => h y (List.mem_cons_of_mem _ hy)⟩⟩
theorem asc_ok {x : Str} (h : x.cps.toList.all (· < 128) = true) : PyData.strOk x = true := by
  unfold PyData.strOk
  rw [← Array.all_toList]
  exact List.all_eq_true.mpr fun c hc => decide_eq_true (by have := of_decide_eq_true (List.all_eq_true.mp h c hc); omega)
mutual
theorem lf_good {B : Nat} (hB : B ≤ 60) : ∀ d : D, lf B d = true → d.canLay0 = true ∧ d.leavesShort 64 = true ∧ d.showable = true
  | .none, _ => ⟨by unfold PyData.canLay0; rfl, by unfold PyData.leavesShort; rfl, by unfold PyData.showable; rfl⟩
  | .bool _, _ => ⟨by unfold PyData.canLay0; rfl, by unfold PyData.leavesShort; rfl, by unfold PyData.showable; rfl⟩
  | .int i, h => by
    unfold lf at h
    have h' := of_decide_eq_true h
    refine ⟨by unfold PyData.canLay0; rfl, ?_, ?_⟩
    · unfold PyData.leavesShort
      refine decide_eq_true ?_
      have := PyProof.Rows.len_str_of_int i
      unfold PyData.shown
      have e : (Str.ofString (toString i)).length ≤ 64 := by omega
      exact e
    · unfold PyData.showable
      refine decide_eq_true ?_
      have e1 : i.natAbs < 2 ^ 6 := by omega
      by_cases h0 : i.natAbs = 0
      · rw [h0]; decide
      · have := (Nat.log2_lt h0).mpr e1
        omega
  | .str x, h => by
    unfold lf at h
    refine ⟨by unfold PyData.canLay0; exact asc_ok h, ?_, by unfold PyData.showable; rfl⟩
    unfold PyData.leavesShort
    exact List.all_eq_true.mpr fun c hc => decide_eq_true (by have := of_decide_eq_true (List.all_eq_true.mp h c hc); omega)
  | .list xs, h => by
    unfold lf at h
    unfold PyData.canLay0 PyData.leavesShort PyData.showable
    exact lf_goods hB xs h
  | .tuple xs, h => by
    unfold lf at h
    unfold PyData.canLay0 PyData.leavesShort PyData.showable
    exact lf_goods hB xs h
  | .dict _, h => by unfold lf at h; cases h
theorem lf_goods {B : Nat} (hB : B ≤ 60) : ∀ xs : List D, lfAll B xs = true → PyData.canLayAll0 xs = true ∧ PyData.leavesShortAll 64 xs = true ∧ PyData.showableAll xs = true
  | [], _ => ⟨by unfold PyData.canLayAll0; rfl, by unfold PyData.leavesShortAll; rfl, by unfold PyData.showableAll; rfl⟩
  | x :: xs, h => by
    unfold lfAll at h
    rw [Bool.and_eq_true] at h
    obtain ⟨h1, h2, h3⟩ := lf_good hB x h.1
    obtain ⟨k1, k2, k3⟩ := lf_goods hB xs h.2
    unfold PyData.canLayAll0 PyData.leavesShortAll PyData.showableAll
    rw [h1, h2, h3, k1, k2, k3]
    exact ⟨rfl, rfl, rfl⟩
end
mutual
theorem lf_mono {B C : Nat} (hB : B ≤ C) : ∀ d : D, lf B d = true → lf C d = true
  | .none, _ => by unfold lf; rfl
  | .bool _, _ => by unfold lf; rfl
  | .int i, h => by
    unfold lf at h ⊢
    exact decide_eq_true (Nat.le_trans (of_decide_eq_true h) hB)
  | .str x, h => by unfold lf at h ⊢; exact h
  | .list xs, h => by unfold lf at h ⊢; exact lf_monos hB xs h
  | .tuple xs, h => by unfold lf at h ⊢; exact lf_monos hB xs h
  | .dict _, h => by unfold lf at h; cases h
theorem lf_monos {B C : Nat} (hB : B ≤ C) : ∀ xs : List D, lfAll B xs = true → lfAll C xs = true
  | [], _ => by unfold lfAll; rfl
  | x :: xs, h => by
    unfold lfAll at h ⊢
    rw [Bool.and_eq_true] at h ⊢
    exact ⟨lf_mono hB x h.1, lf_monos hB xs h.2⟩
end
structure Sm (B k w : Nat) (d : D) : Prop where
  lv : lf B d = true
  dp : d.depth ≤ k
  wt : d.weight ≤ w
def smB (B k w : Nat) (d : D) : Bool := lf B d && (decide (d.depth ≤ k) && decide (d.weight ≤ w))
theorem sm_of {B k w : Nat} {d : D} (h : smB B k w d = true) : Sm B k w d := by
  unfold smB at h
  rw [Bool.and_eq_true, Bool.and_eq_true] at h
  exact ⟨h.1, of_decide_eq_true h.2.1, of_decide_eq_true h.2.2⟩
theorem Sm.mono {B k w B' k' w' : Nat} {d : D} (h : Sm B k w d) (hb : B ≤ B') (hk : k ≤ k') (hw : w ≤ w') : Sm B' k' w' d :=
  ⟨lf_mono hb d h.lv, Nat.le_trans h.dp hk, Nat.le_trans h.wt hw⟩
theorem Sm.ok {B k w : Nat} {d : D} (h : Sm B k w d) (hb : B ≤ 60) (hk : k ≤ 60) (hw : w ≤ 1000000) : Ok d :=
  ⟨(lf_good hb d h.lv).1, Nat.le_trans h.dp hk, Nat.le_trans h.wt hw⟩
theorem Sm.rpr {B k w : Nat} {d : D} (h : Sm B k w d) (hb : B ≤ 60) (hk : k ≤ 60) (hw : w ≤ 250000) : Rpr d :=
  ⟨(lf_good hb d h.lv).1, (lf_good hb d h.lv).2.1, (lf_good hb d h.lv).2.2, Nat.le_trans h.dp hk, Nat.le_trans h.wt hw⟩
theorem wgt_nil : PyData.weightAll [] = 0 := by unfold PyData.weightAll; rfl
theorem wgt_cons (x : D) (xs : List D) : PyData.weightAll (x :: xs) = x.weight + 1 + PyData.weightAll xs := by conv => lhs; unfold PyData.weightAll
theorem wgt_app : ∀ xs ys : List D, PyData.weightAll (xs ++ ys) = PyData.weightAll xs + PyData.weightAll ys
  | [], ys => by rw [List.nil_append, wgt_nil, Nat.zero_add]
  | x :: xs, ys => by rw [List.cons_append, wgt_cons, wgt_cons, wgt_app xs ys]; omega
theorem wgt_le {w : Nat} : ∀ {xs : List D}, (∀ x ∈ xs, x.weight ≤ w) → PyData.weightAll xs ≤ xs.length * (w + 1)
  | [], _ => by unfold PyData.weightAll; omega
  | x :: xs, h => by
    unfold PyData.weightAll
    have h1 := h x (List.mem_cons_self ..)
    have h2 := wgt_le (xs := xs) fun y hy => h y (List.mem_cons_of_mem _ hy)
    rw [List.length_cons, Nat.add_mul]
    omega
theorem len_wgt : ∀ xs : List D, xs.length ≤ PyData.weightAll xs
  | [] => by unfold PyData.weightAll; exact Nat.le_refl 0
  | x :: xs => by
    unfold PyData.weightAll
    have := len_wgt xs
    rw [List.length_cons]; omega
theorem sm_tuple {B k w : Nat} {xs : List D} (h : ∀ x ∈ xs, lf B x = true ∧ x.depth ≤ k) (hw : PyData.weightAll xs ≤ w) : Sm B (k + 1) w (.tuple xs) :=
  ⟨by unfold lf; exact lfAll_iff.mpr fun x hx => (h x hx).1, by unfold PyData.depth; exact Nat.succ_le_succ (dep_all fun x hx => (h x hx).2), by unfold PyData.weight; exact hw⟩
theorem sm_list {B k w : Nat} {xs : List D} (h : ∀ x ∈ xs, lf B x = true ∧ x.depth ≤ k) (hw : PyData.weightAll xs ≤ w) : Sm B (k + 1) w (.list xs) :=
  ⟨by unfold lf; exact lfAll_iff.mpr fun x hx => (h x hx).1, by unfold PyData.depth; exact Nat.succ_le_succ (dep_all fun x hx => (h x hx).2), by unfold PyData.weight; exact hw⟩
/-- so many small ones -/
theorem sm_tupn {B k w m : Nat} {xs : List D} (h : ∀ x ∈ xs, Sm B k w x) (hm : xs.length ≤ m) : Sm B (k + 1) (m * (w + 1)) (.tuple xs) :=
  sm_tuple (fun x hx => ⟨(h x hx).lv, (h x hx).dp⟩) (Nat.le_trans (wgt_le fun x hx => (h x hx).wt) (Nat.mul_le_mul_right _ hm))
theorem Sm.mem {B k w : Nat} {xs : List D} {x : D} (h : Sm B k w (.tuple xs)) (hx : x ∈ xs) : lf B x = true ∧ x.depth < k ∧ x.weight < w := by
  have h1 := h.lv
  have h2 := h.dp
  have h3 := h.wt
  unfold lf at h1
  unfold PyData.depth at h2
  unfold PyData.weight at h3
  have e2 := all_dep hx
  have e3 := all_wgt hx
  exact ⟨lfAll_iff.mp h1 x hx, by omega, by omega⟩
/-! ### draws -/
def Fd (cs : List Int) (kvs : List (Str × D)) : Prop := ∃ a l c, 0 ≤ a ∧ kvs = feed (.list (cs.map .int)) a l c
theorem xe_draw {cs : List Int} {n : Nat} {e : T} {many : Int} {kvs : List (Str × D)} {ρ : Pv.Env} {Q : Vl × Pv.Env → Prop} (h0 : ρ[0]? = some (some (.dct kvs))) (hf : Fd cs kvs) (ha : AR (evF Pr (n + 1)) e ρ (.dat (.int many))) (h1 : 1 ≤ many) (h2 : many < 1073741824)
    (q : ∀ r kvs', Fd cs kvs' → 0 ≤ r → r < many → Q (.dat (.int r), ρ.set 0 (some (.dct kvs')))) : XE (evF Pr (n + 1)) (.call 9 [.var 0, e]) ρ Q := by
  refine xe_lend h0 (av_cons ha av_nil) ?_
  obtain ⟨a, l, c, h, e⟩ := hf
  subst e
  refine Res.sat.mono (draw_sat (n := n) (cs := cs) (l := l) (c := c) h h1 h2) fun p hp => ?_
  obtain ⟨r, a', l', c', e, g0, g1, g2⟩ := hp
  subst e
  exact ⟨_, [some (.dat (.int many))], rfl, rfl, q r _ ⟨a', l', c', g2, rfl⟩ g0 g1⟩
theorem ar_cst {cl : Fun} {ρ : Pv.Env} (d : D) : AR cl (.cst d) ρ (.dat d) := ar_ev (jv_cst d) rfl rfl
section
variable {cl : Fun} {ρ : Pv.Env}
theorem ov_none : evO cl none ρ = .ok (none, ρ) := by unfold evO; rfl
theorem ov_some {e : T} {i : Int} (h : EV cl e ρ (.dat (.int i))) : evO cl (some e) ρ = .ok (some i, ρ) := by
  unfold evO; rw [show evE cl e ρ = .ok (.dat (.int i), ρ) from h]; rfl
theorem jv_sl {a : T} {lo hi : Option T} {x : D} {i j : Option Int} {v : Vl} (h : OP cl a ρ x) (h1 : evO cl lo ρ = .ok (i, ρ)) (h2 : evO cl hi ρ = .ok (j, ρ)) (hv : slice2 i j x = some v) : EV cl (.sl a lo hi) ρ v := by
  obtain ⟨o, e1, e2⟩ := h
  unfold EV evE; rw [e1, Res.bind_ok]
  show (evO cl lo ρ).bind _ = _
  rw [h1, Res.bind_ok]
  show (evO cl hi ρ).bind _ = _
  rw [h2, Res.bind_ok]
  show (get (look ρ o)).bind _ = _
  rw [e2, get_some, Res.bind_ok]
  show (get (slice2 i j x)).bind _ = _
  rw [hv]; rfl
theorem jv_slb {a : T} {x : D} {v : Vl} (h : OP cl a ρ x) (hv : rev1 x = some v) : EV cl (.slb a) ρ v := by
  obtain ⟨o, e1, e2⟩ := h
  unfold EV evE; rw [e1, Res.bind_ok]
  show (get (look ρ o)).bind _ = _
  rw [e2, get_some, Res.bind_ok, hv]; rfl
theorem jv_neg {e : T} {i : Int} (h : EV cl e ρ (.dat (.int i))) : EV cl (.neg e) ρ (.dat (.int (-i))) := by
  unfold EV evE; rw [show evE cl e ρ = .ok (.dat (.int i), ρ) from h]; rfl
theorem ix_mem {ds : List D} {i : Int} (h0 : 0 ≤ i) (h1 : i < ds.length) : ∃ d, ix2 (.list ds) (.int i) = some d ∧ d ∈ ds := by
  have hj : i.toNat < ds.length := by omega
  refine ⟨ds[i.toNat], ?_, List.getElem_mem hj⟩
  show L2.atI ds i = _
  unfold L2.atI L2.ixN
  rw [if_pos h0, if_pos h1, Option.bind_some, List.getElem?_eq_getElem hj]
theorem ix_tup {ds : List D} {i : Nat} (h1 : i < ds.length) : ix2 (.tuple ds) (.int (i : Nat)) = some ds[i] := by
  show L2.atI ds ((i : Nat) : Int) = _
  unfold L2.atI L2.ixN
  rw [if_pos (by omega), if_pos (by omega), Option.bind_some, Int.toNat_natCast, List.getElem?_eq_getElem h1]
end
theorem am_nil {P : D → Prop} : ∀ x ∈ ([] : List D), P x := fun _ h => nomatch h
theorem am_cons {P : D → Prop} {a : D} {as : List D} (h : P a) (t : ∀ x ∈ as, P x) : ∀ x ∈ a :: as, P x := fun x hx => (List.mem_cons.mp hx).elim (fun e => e ▸ h) (t x)
theorem wgt_sub : ∀ {xs ys : List D}, xs.Sublist ys → PyData.weightAll xs ≤ PyData.weightAll ys
  | _, _, .slnil => Nat.le_refl _
  | _, _, .cons a h => by rw [wgt_cons]; have := wgt_sub h; omega
  | _, _, .cons₂ a h => by rw [wgt_cons, wgt_cons]; have := wgt_sub h; omega
theorem wgt_rev : ∀ xs : List D, PyData.weightAll xs.reverse = PyData.weightAll xs
  | [] => rfl
  | x :: xs => by rw [List.reverse_cons, wgt_app, wgt_cons, wgt_nil, wgt_rev xs, wgt_cons]; omega
theorem cut_sub {xs : List D} {lo hi : Option Int} : (cutL xs lo hi).Sublist xs := (List.take_sublist ..).trans (List.drop_sublist ..)
theorem w_tup (xs : List D) : (PyData.tuple xs).weight = PyData.weightAll xs := by unfold PyData.weight; rfl
theorem w_lst (xs : List D) : (PyData.list xs).weight = PyData.weightAll xs := by unfold PyData.weight; rfl
theorem d_tup (xs : List D) : (PyData.tuple xs).depth = PyData.depthAll xs + 1 := by unfold PyData.depth; rfl
theorem d_lst (xs : List D) : (PyData.list xs).depth = PyData.depthAll xs + 1 := by unfold PyData.depth; rfl
theorem lf_tup {B : Nat} (xs : List D) : lf B (.tuple xs) = lfAll B xs := by unfold lf; rfl
theorem lf_lst {B : Nat} (xs : List D) : lf B (.list xs) = lfAll B xs := by unfold lf; rfl
section
variable {B k w : Nat} {xs ys : List D}
theorem Sm.parts (h : Sm B k w (.tuple xs)) : (∀ x ∈ xs, lf B x = true ∧ x.depth ≤ k - 1) ∧ PyData.weightAll xs ≤ w ∧ 1 ≤ k := by
  refine ⟨fun x hx => ⟨(h.mem hx).1, by have := (h.mem hx).2.1; omega⟩, by rw [← w_tup]; exact h.wt, by have := h.dp; rw [d_tup] at this; omega⟩
theorem sm_sub (h : Sm B k w (.tuple xs)) (hm : ∀ y ∈ ys, y ∈ xs) {w' : Nat} (hw : PyData.weightAll ys ≤ w') : Sm B k w' (.tuple ys) := by
  obtain ⟨h1, _, h3⟩ := h.parts
  have := sm_tuple (B := B) (k := k - 1) (w := w') (fun y hy => h1 y (hm y hy)) hw
  rwa [Nat.sub_add_cancel h3] at this
theorem sm_none : Sm B 0 0 .none := ⟨by unfold lf; rfl, by unfold PyData.depth; exact Nat.le_refl 0, by unfold PyData.weight; exact Nat.le_refl 0⟩
theorem sm_bool (b : Bool) : Sm B 0 0 (.bool b) := ⟨by unfold lf; rfl, by unfold PyData.depth; exact Nat.le_refl 0, by unfold PyData.weight; exact Nat.le_refl 0⟩
theorem sm_int {i : Int} (hB : B ≤ 60) (h : i.natAbs ≤ B) : Sm B 0 6 (.int i) := by
  refine ⟨by unfold lf; exact decide_eq_true h, by unfold PyData.depth; exact Nat.le_refl 0, ?_⟩
  unfold PyData.weight
  by_cases h0 : i.natAbs = 0
  · have : i = 0 := by omega
    subst this; decide
  · have hne : (i == 0) = false := beq_eq_false_iff_ne.mpr (by omega)
    rw [hne]
    have := (Nat.log2_lt h0).mpr (show i.natAbs < 2 ^ 6 by omega)
    show i.natAbs.log2 + 1 ≤ 6
    omega
theorem w_str (x : Str) : (PyData.str x).weight = x.length := by unfold PyData.weight; rfl
theorem lf_str (x : Str) : lf B (.str x) = x.cps.toList.all (· < 128) := by unfold lf; rfl
theorem sm_str {x : Str} (h : ∀ c ∈ x.cps.toList, c < 128) (hw : x.length ≤ w) : Sm B 0 w (.str x) :=
  ⟨by rw [lf_str]; exact List.all_eq_true.mpr fun c hc => decide_eq_true (h c hc), by unfold PyData.depth; exact Nat.zero_le _, by rw [w_str]; exact hw⟩
theorem Sm.asc {x : Str} (h : Sm B k w (.str x)) : ∀ c ∈ x.cps.toList, c < 128 := fun c hc => of_decide_eq_true (List.all_eq_true.mp (by have := h.lv; rwa [lf_str] at this) c hc)
theorem asc_app {x y : Str} (h : ∀ c ∈ x.cps.toList, c < 128) (h' : ∀ c ∈ y.cps.toList, c < 128) : ∀ c ∈ (x ++ y).cps.toList, c < 128 := fun c hc => by
  rw [show (x ++ y).cps.toList = x.cps.toList ++ y.cps.toList from Array.toList_append] at hc
  exact (List.mem_append.mp hc).elim (h c) (h' c)
theorem len_app (x y : Str) : (x ++ y).length = x.length + y.length := Array.size_append
theorem asc_cut {x : Str} (h : ∀ c ∈ x.cps.toList, c < 128) (lo hi : Option Int) : ∀ c ∈ (L2.cutS x lo hi).cps.toList, c < 128 := fun c hc => by
  unfold L2.cutS at hc
  rw [List.toList_toArray] at hc
  exact h c (((List.take_sublist ..).trans (List.drop_sublist ..)).subset hc)
theorem asc_up {x : Str} (h : ∀ c ∈ x.cps.toList, c < 128) : (∀ c ∈ (Txt.upper x).cps.toList, c < 128) ∧ (Txt.upper x).length = x.length := by
  rw [PyProof.Rows.upper_ascii h]
  refine ⟨fun c hc => ?_, Array.size_map ..⟩
  rw [Array.toList_map] at hc
  obtain ⟨b, hb, e⟩ := List.mem_map.mp hc
  subst e
  have := h b hb
  unfold PyProof.Rows.up1
  split <;> omega
theorem asc_num : ∀ j : Fin 121, ((toString ((j.val : Int) - 60) : Str).cps.toList.all (· < 128)) = true := by decide +kernel
theorem asc_int {i : Int} (hB : B ≤ 60) (h : i.natAbs ≤ B) : ∀ c ∈ (toString i : Str).cps.toList, c < 128 := by
  have e := asc_num ⟨(i + 60).toNat, by omega⟩
  have e2 : (((i + 60).toNat : Nat) : Int) - 60 = i := by omega
  rw [show ((⟨(i + 60).toNat, by omega⟩ : Fin 121).val : Int) - 60 = i from e2] at e
  exact fun c hc => of_decide_eq_true (List.all_eq_true.mp e c hc)
theorem asc_abc : ∀ c ∈ (Str.ofString "abcdefgh").cps.toList, c < 128 := fun c hc => of_decide_eq_true (List.all_eq_true.mp (show ((Str.ofString "abcdefgh").cps.toList.all (· < 128)) = true by decide +kernel) c hc)
theorem asc_a : ∀ c ∈ (Str.ofString "a").cps.toList, c < 128 := fun c hc => of_decide_eq_true (List.all_eq_true.mp (show ((Str.ofString "a").cps.toList.all (· < 128)) = true by decide +kernel) c hc)
theorem asc_sp : ∀ c ∈ (Str.ofString " ").cps.toList, c < 128 := fun c hc => of_decide_eq_true (List.all_eq_true.mp (show ((Str.ofString " ").cps.toList.all (· < 128)) = true by decide +kernel) c hc)
/-- one that is put into a list alone -/
theorem Sm.one {x : D} (h : Sm B k w x) : Sm B (k + 1) (w + 1) (.list [x]) := sm_list (am_cons ⟨h.lv, h.dp⟩ am_nil) (by rw [wgt_cons, wgt_nil]; have := h.wt; omega)
theorem Sm.onet {x : D} (h : Sm B k w x) : Sm B (k + 1) (w + 1) (.tuple [x]) := sm_tuple (am_cons ⟨h.lv, h.dp⟩ am_nil) (by rw [wgt_cons, wgt_nil]; have := h.wt; omega)
end
theorem badS {x y : Str} (h : x.length + y.length ≤ 16777216) : bin2 .add (.str x) (.str y) = some (.dat (.str (x ++ y))) := if_pos (decide_eq_true h)
theorem badT {x y : List D} (h : x.length + y.length ≤ 16777216) : bin2 .add (.tuple x) (.tuple y) = some (.dat (.tuple (x ++ y))) := if_pos (decide_eq_true h)
theorem badL {x y : List D} (h : x.length + y.length ≤ 16777216) : bin2 .add (.list x) (.list y) = some (.lst (x ++ y)) := if_pos (decide_eq_true h)
def Nm (t : Str) : Prop := pName (.str t) = true
theorem Nm.asc {t : Str} (h : Nm t) : (∀ c ∈ t.cps.toList, c < 128) ∧ t.length ≤ 8 := by
  have h' : ((decide (1 ≤ t.length) && decide (t.length ≤ 8)) && t.cps.toList.all lett) = true := h
  rw [Bool.and_eq_true, Bool.and_eq_true] at h'
  refine ⟨fun c hc => ?_, of_decide_eq_true h'.1.2⟩
  have := List.all_eq_true.mp h'.2 c hc
  unfold lett at this
  rw [Bool.and_eq_true] at this
  have := of_decide_eq_true this.2
  omega
/-- a call of a line -/
structure Cl (x : D) : Prop where
  nm : pNameE x = true
  sm : Sm 41 0 8 x
theorem cl_nm {t : Str} (h : Nm t) : Cl (.str t) := ⟨by unfold pNameE; rw [show pName (.str t) = true from h]; rfl, sm_str h.asc.1 h.asc.2⟩
theorem cl_e : Cl (.str "") := ⟨by decide +kernel, sm_of (by decide +kernel)⟩
structure Wy (x : D) : Prop where
  wy : pWay x = true
  sm : Sm 41 1 10 x
structure Hd (x : D) : Prop where
  hd : pHand x = true
  sm : Sm 41 1 12 x
  key : ∃ s i, x = .tuple [.str s, i] ∧ Sm 41 0 4 (.str s)
structure Ln (x : D) : Prop where
  ln : pLine x = true
  sm : Sm 41 3 150 x
  cnt : ∀ a b c : List D, x = .tuple [.tuple a, .tuple b, .tuple c] → a.length ≤ 5 ∧ b.length ≤ 4 ∧ c.length ≤ 3
theorem ln_of {cs ws hs : List D} (hc : ∀ x ∈ cs, Cl x) (hw : ∀ x ∈ ws, Wy x) (hh : ∀ x ∈ hs, Hd x) (lc : cs.length ≤ 5) (lw : ws.length ≤ 4) (lh : hs.length ≤ 3) : Ln (.tuple [.tuple cs, .tuple ws, .tuple hs]) := by
  refine ⟨?_, ?_, fun a b c e => by cases e; exact ⟨lc, lw, lh⟩⟩
  · show (cs.all pNameE && (ws.all pWay && hs.all pHand)) = true
    rw [List.all_eq_true.mpr fun x hx => (hc x hx).nm, List.all_eq_true.mpr fun x hx => (hw x hx).wy, List.all_eq_true.mpr fun x hx => (hh x hx).hd]; rfl
  · have s1 := sm_tupn (B := 41) (k := 0) (w := 8) (fun x hx => (hc x hx).sm) lc
    have s2 := sm_tupn (B := 41) (k := 1) (w := 10) (fun x hx => (hw x hx).sm) lw
    have s3 := sm_tupn (B := 41) (k := 1) (w := 12) (fun x hx => (hh x hx).sm) lh
    have d1 := s1.dp
    have d2 := s2.dp
    have d3 := s3.dp
    have w1 := s1.wt
    have w2 := s2.wt
    have w3 := s3.wt
    refine sm_tuple (am_cons ⟨s1.lv, by omega⟩ <| am_cons ⟨s2.lv, by omega⟩ <| am_cons ⟨s3.lv, by omega⟩ am_nil) ?_
    rw [wgt_cons, wgt_cons, wgt_cons, wgt_nil]
    omega
theorem strsOf_map : ∀ ts : List Str, strsOf (ts.map .str) = some ts
  | [] => rfl
  | t :: ts => by
    show (strsOf (ts.map .str)).map _ = _
    rw [strsOf_map ts]; rfl
theorem sortedS {ts : List Str} (h : ts.length < 64) : blt1 .sorted (.list (ts.map .str)) = some (.lst ((sortS ts).map .str)) := by
  show (if decide ((ts.map PyData.str).length < 64) = true then (strsOf (ts.map .str)).map fun ys => Vl.lst ((sortS ys).map .str) else none) = _
  rw [if_pos (decide_eq_true (by rw [List.length_map]; exact h)), strsOf_map]; rfl
theorem sort_mem {ts : List Str} {t : Str} (h : t ∈ sortS ts) : t ∈ ts := (List.mergeSort_perm ts leS).mem_iff.mp h
theorem sort_len (ts : List Str) : (sortS ts).length = ts.length := (List.mergeSort_perm ts leS).length_eq
theorem cl_shp {xs : List D} (h : ∀ x ∈ xs, Cl x) (hl : xs.length ≤ 100) : shp (.list xs) = true :=
  (show Ok (.list xs) from ((sm_list (B := 41) (k := 0) (w := 900) (fun x hx => ⟨(h x hx).sm.lv, (h x hx).sm.dp⟩) (Nat.le_trans (wgt_le fun x hx => (h x hx).sm.wt) (by omega)))).ok (by decide) (by decide) (by decide)).shp
def menu (s : Nat) : List D := nums s ++ [.tuple [.str "back"], .tuple [.str "fail", .str "bad"], .tuple [.str "fail", .str "back"]]
theorem menu_wy {s : Nat} (hs : s ≤ 4) : ∀ x ∈ menu s, Wy x := fun x hx => by
  rcases List.mem_append.mp hx with hx | hx
  · unfold nums at hx
    obtain ⟨k, hk, e⟩ := List.mem_map.mp hx
    have := List.mem_range.mp hk
    subst e
    refine ⟨?_, (sm_int (B := 41) (i := (k : Nat)) (by decide) (by omega)).mono (by decide) (by decide) (by decide)⟩
    show (pNum (.int (k : Nat)) || _) = true
    rw [show pNum (.int (k : Nat)) = decide (0 ≤ ((k : Nat) : Int)) from rfl, decide_eq_true (by omega)]; rfl
  · have : ([.tuple [.str "back"], .tuple [.str "fail", .str "bad"], .tuple [.str "fail", .str "back"]] : List D).all (fun x => pWay x && smB 41 1 10 x) = true := by decide +kernel
    have := List.all_eq_true.mp this x hx
    rw [Bool.and_eq_true] at this
    exact ⟨this.1, sm_of this.2⟩
theorem menu_len (s : Nat) : (menu s).length = s + 3 := by
  unfold menu nums
  rw [List.length_append, List.length_map, List.length_range]; rfl
def sorts : List D := [.str "", .str "bad", .str "back", .str "zz"]
theorem sorts_cl : ∀ x ∈ sorts, (∃ s, x = .str s) ∧ pNameE x = true ∧ Sm 41 0 4 x := fun x hx => by
  have h1 : sorts.all (fun x => isiD .str x && (pNameE x && smB 41 0 4 x)) = true := by decide +kernel
  have := List.all_eq_true.mp h1 x hx
  rw [Bool.and_eq_true, Bool.and_eq_true] at this
  exact ⟨str_of this.1, this.2.1, sm_of this.2.2⟩
theorem hd_of {s : Str} {i : Int} (h : pNameE (.str s) = true) (hs : Sm 41 0 4 (.str s)) (h0 : 0 ≤ i) (h1 : i < 4) : Hd (.tuple [.str s, .int i]) := by
  refine ⟨?_, ?_, s, _, rfl, hs⟩
  · show (pNameE (.str s) && decide (0 ≤ i)) = true
    rw [h, decide_eq_true h0]; rfl
  · have hi := sm_int (B := 41) (i := i) (by decide) (by omega)
    have w1 := hs.wt
    have w2 := hi.wt
    exact sm_tuple (am_cons ⟨hs.lv, hs.dp⟩ <| am_cons ⟨hi.lv, hi.dp⟩ am_nil) (by rw [wgt_cons, wgt_cons, wgt_nil]; omega)
theorem nmem_l {x : D} {ys : List D} (h : shp x = true) (h' : shp (.list ys) = true) : cmp2 .nmem x (.list ys) = some (!(ys.any fun z => PyData.eqv z x)) := by
  have e : cmp2 .nmem x (.list ys) = if shp x && shp (.list ys) then (memD x (.list ys)).map (!·) else none := by cases x <;> rfl
  rw [e, h, h']; rfl
theorem rng_items {i : Int} (h0 : 0 ≤ i) (h1 : i ≤ 1000) : itemsOf .rng (.int i) = some (nums i.toNat) := if_pos (decide_eq_true ⟨h0, by omega⟩)
theorem nums_len (n : Nat) : (nums n).length = n := by unfold nums; rw [List.length_map, List.length_range]
/-- the env of a row -/
def rowE (kvs : List (Str × D)) (ts : List Str) (s : Nat) (c m : Option Vl) (k : Option Vl) (ws hs : Option Vl) (o r : Option Vl) : Pv.Env :=
  [some (.dct kvs), some (.dat (.list (ts.map .str))), some (.dat (.int (s : Nat))), c, m, k, ws, hs, o, r]
def Rres (cs : List Int) (ts : List Str) (s : Nat) (p : Vl × List (Option Vl)) : Prop := ∃ x kvs', p = (.dat x, [some (.dct kvs'), some (.dat (.list (ts.map .str))), some (.dat (.int (s : Nat)))]) ∧ Fd cs kvs' ∧ Ln x
def Rq (cs : List Int) (ts : List Str) (s : Nat) (p : Pv.Flow × Pv.Env) : Prop := match p.1 with
  | .ret v => Rres cs ts s (v, p.2.take 3)
  | _ => False
section
variable {cs : List Int} {m s : Nat} {ts : List Str} {kvs : List (Str × D)}
theorem row_end {calls ws hs : List D} {k o r : Option Vl} (hf : Fd cs kvs) (hc : ∀ x ∈ calls, Cl x) (hw : ∀ x ∈ ws, Wy x) (hh : ∀ x ∈ hs, Hd x) (lc : calls.length ≤ 5) (lw : ws.length ≤ 4) (lh : hs.length ≤ 3) :
    XS (evF Pr (m + 1)) [0] [(.ret (.tup [(.blt .tuple (.var 3)), (.blt .tuple (.var 6)), (.blt .tuple (.var 7))]))] (rowE kvs ts s (some (.lst calls)) (some (.lst (menu s))) k (some (.lst ws)) (some (.lst hs)) o r) (Rq cs ts s) :=
  xs_ret rfl (xe_ev (jv_tup (dv_cons (jv_blt (op_lst rfl) rfl) rfl <| dv_cons (jv_blt (op_lst rfl) rfl) rfl <| dv_cons (jv_blt (op_lst rfl) rfl) rfl dv_nil)) ⟨_, kvs, rfl, hf, ln_of hc hw hh lc lw lh⟩)
theorem wys_shp {xs : List D} (h : ∀ x ∈ xs, Wy x) (hl : xs.length ≤ 100) : shp (.list xs) = true :=
  (show Ok (.list xs) from ((sm_list (B := 41) (k := 1) (w := 1100) (fun x hx => ⟨(h x hx).sm.lv, (h x hx).sm.dp⟩) (Nat.le_trans (wgt_le fun x hx => (h x hx).sm.wt) (by omega)))).ok (by decide) (by decide) (by decide)).shp
theorem keys_shp {hs : List D} (h : ∀ x ∈ hs, Hd x) (hl : hs.length ≤ 100) : shp (.list (hs.map a0)) = true := by
  have : ∀ x ∈ hs.map a0, Sm 41 0 4 x := fun x hx => by
    obtain ⟨y, hy, e⟩ := List.mem_map.mp hx
    obtain ⟨s, i, e2, h3⟩ := (h y hy).key
    subst e
    rw [e2]
    exact h3
  exact (show Ok (.list (hs.map a0)) from ((sm_list (B := 41) (k := 0) (w := 500) (fun x hx => ⟨(this x hx).lv, (this x hx).dp⟩) (Nat.le_trans (wgt_le fun x hx => (this x hx).wt) (by rw [List.length_map]; omega)))).ok (by decide) (by decide) (by decide)).shp
def nOwn (o : Option Vl) : Prop := ∀ v, o = some v → v.own = false
theorem row_hands {calls ws : List D} {k o : Option Vl} (hf : Fd cs kvs) (ho : nOwn o) (h1 : 1 ≤ s) (h4 : s ≤ 4) (hc : ∀ x ∈ calls, Cl x) (hw : ∀ x ∈ ws, Wy x) (lc : calls.length ≤ 5) (lw : ws.length ≤ 4) :
    XS (evF Pr (m + 1)) [0] [(.forl (.nm 5) .rng (.call 9 [(.var 0), (.cst (.int 4))]) [(.asg 9 (.ix (.lst [(.cst (.str "")), (.cst (.str "bad")), (.cst (.str "back")), (.cst (.str "zz"))]) (.call 9 [(.var 0), (.cst (.int 4))]))), (.iff (.cmp .nmem (.var 9) (.comp (.ix (.var 8) (.cst (.int 0))) [8] (.nm 8) .seq (.var 7) none)) [(.app 7 (.tup [(.var 9), (.call 9 [(.var 0), (.var 2)])]))] [])]), (.ret (.tup [(.blt .tuple (.var 3)), (.blt .tuple (.var 6)), (.blt .tuple (.var 7))]))] (rowE kvs ts s (some (.lst calls)) (some (.lst (menu s))) k (some (.lst ws)) (some (.lst [])) o none) (Rq cs ts s) := by
  refine xs_for rfl rfl (xe_draw rfl hf (ar_cst _) (by decide) (by decide) fun r kvs1 hf1 r0 r4 => ⟨_, _, rfl, rng_items r0 (by omega), ?_⟩)
  refine forTurns_sat (I := fun rest ρ => ∃ kvs' k' hs r', Fd cs kvs' ∧ ρ = rowE kvs' ts s (some (.lst calls)) (some (.lst (menu s))) k' (some (.lst ws)) (some (.lst hs)) o r' ∧ (∀ x ∈ hs, Hd x) ∧ hs.length + rest.length ≤ 3) ?_ ?_ _ _ ⟨kvs1, k, [], none, hf1, rfl, am_nil, by rw [nums_len]; show 0 + r.toNat ≤ 3; omega⟩
  · rintro ρ ⟨kvs', k', hs, r', hf', e, hh, hl⟩
    subst e
    exact row_end hf' hc hw hh lc lw (by have : ([] : List D).length = 0 := rfl; omega)
  · rintro d ds ρ ⟨kvs', k', hs, r', hf', e, hh, hl⟩
    subst e
    rw [List.length_cons] at hl
    refine ⟨rowE kvs' ts s (some (.lst calls)) (some (.lst (menu s))) (some (.dat d)) (some (.lst ws)) (some (.lst hs)) o r', rfl, XS.sat ?_⟩
    refine xs_asg rfl (xe_ixr (opnd_ev rfl (jv_lst (dv_cons (jv_cst _) rfl <| dv_cons (jv_cst _) rfl <| dv_cons (jv_cst _) rfl <| dv_cons (jv_cst _) rfl dv_nil))) rfl (xe_draw rfl hf' (ar_cst _) (by decide) (by decide) fun i kvs2 hf2 i0 i4 => ?_))
    obtain ⟨x, e, hm⟩ := ix_mem (ds := sorts) i0 (show i < 4 from i4)
    obtain ⟨⟨z, ez⟩, n1, s1⟩ := sorts_cl x hm
    subst ez
    refine ⟨.list sorts, .int i, .str z, rfl, rfl, e, show 9 < 10 by decide, ?_⟩
    have hcomp : EV (evF Pr (m + 1)) (.comp (.ix (.var 8) (.cst (.int 0))) [8] (.nm 8) .seq (.var 7) none) (rowE kvs2 ts s (some (.lst calls)) (some (.lst (menu s))) (some (.dat d)) (some (.lst ws)) (some (.lst hs)) o (some (.dat (.str z)))) (.lst (hs.map a0)) := by
      refine jv_compl rfl rfl ho (by decide) fun y hy => ?_
      obtain ⟨s', i', e2, _⟩ := (hh y hy).key
      subst e2
      exact ⟨_, jv_ix (op_var rfl) (op_cst _) rfl, rfl⟩
    refine xs_if (xt_tb (tb_cmp (op_var rfl) (op_ev hcomp rfl rfl) (nmem_l (s1.ok (by decide) (by decide) (by decide)).shp (keys_shp hh (by omega)))) ?_)
    cases !((hs.map a0).any fun z' => PyData.eqv z' (.str z)) with
    | false => exact xs_nil (xs_nil ⟨kvs2, _, hs, _, hf2, rfl, hh, by omega⟩)
    | true =>
      refine xs_app rfl (xe_tup (xd_cons (xe_ev (jv_var rfl) ⟨.str z, rfl, xd_cons (xe_draw (many := (s : Nat)) rfl hf2 (ar_var rfl) (by omega) (by omega) fun j kvs3 hf3 j0 js => ⟨.int j, rfl, xd_nil ⟨_, hs, rfl, rfl, by omega, ?_⟩⟩)⟩)))
      refine xs_nil (xs_nil ⟨kvs3, _, hs ++ [.tuple [.str z, .int j]], _, hf3, rfl, fun y hy => ?_, by rw [List.length_append, List.length_singleton]; omega⟩)
      rcases List.mem_append.mp hy with hy | hy
      · exact hh y hy
      · rw [List.mem_singleton.mp hy]
        exact hd_of n1 s1 j0 (by omega)
theorem row_ways {calls : List D} (hf : Fd cs kvs) (h1 : 1 ≤ s) (h4 : s ≤ 4) (hc : ∀ x ∈ calls, Cl x) (lc : calls.length ≤ 5) :
    XS (evF Pr (m + 1)) [0] w10.body.tail.tail (rowE kvs ts s (some (.lst calls)) none none none none none none) (Rq cs ts s) := by
  have hm : blt1 .rngl (.int (s : Nat)) = some (.lst (nums s)) := if_pos (decide_eq_true ⟨by omega, by omega⟩)
  refine xs_asg rfl (xe_ev (v := .lst (menu s)) (jv_bin (op_ev (jv_blt (op_var rfl) hm) rfl rfl) (op_ev (jv_lst (dv_cons jv_back rfl <| dv_cons (jv_tup (dv_cons (jv_cst _) rfl <| dv_cons (jv_cst _) rfl dv_nil)) rfl <| dv_cons (jv_tup (dv_cons (jv_cst _) rfl <| dv_cons (jv_cst _) rfl dv_nil)) rfl dv_nil)) rfl rfl) (badL (by rw [nums_len]; show s + 3 ≤ _; omega))) ⟨show 4 < 10 by decide, ?_⟩)
  refine xs_asgs2 (jv_lst dv_nil) (jv_lst dv_nil) rfl rfl (show 6 < 10 by decide) (show 7 < 10 by decide) ?_
  refine xs_for rfl rfl (xe_binr (opnd_ev rfl (jv_cst _)) rfl (xe_draw rfl hf (ar_cst _) (by decide) (by decide) fun r kvs1 hf1 r0 r4 => ⟨.int 1, .int r, .dat (.int (1 + r)), rfl, rfl, rfl, .int (1 + r), nums (1 + r).toNat, rfl, rng_items (by omega) (by omega), ?_⟩))
  refine forTurns_sat (I := fun rest ρ => ∃ kvs' k' ws o, Fd cs kvs' ∧ nOwn o ∧ ρ = rowE kvs' ts s (some (.lst calls)) (some (.lst (menu s))) k' (some (.lst ws)) (some (.lst [])) o none ∧ (∀ x ∈ ws, Wy x) ∧ ws.length + rest.length ≤ 4) ?_ ?_ _ _ ⟨kvs1, none, [], none, hf1, fun v e => (nomatch e), rfl, am_nil, by rw [nums_len]; show 0 + (1 + r).toNat ≤ 4; omega⟩
  · rintro ρ ⟨kvs', k', ws, o, hf', ho, e, hw, hl⟩
    subst e
    exact row_hands hf' ho h1 h4 hc hw lc (by have : ([] : List D).length = 0 := rfl; omega)
  · rintro d ds ρ ⟨kvs', k', ws, o, hf', ho, e, hw, hl⟩
    subst e
    rw [List.length_cons] at hl
    refine ⟨rowE kvs' ts s (some (.lst calls)) (some (.lst (menu s))) (some (.dat d)) (some (.lst ws)) (some (.lst [])) o none, rfl, XS.sat ?_⟩
    have hml : (((menu s).length : Nat) : Int) = (s : Int) + 3 := by rw [menu_len]; omega
    refine xs_asg rfl (xe_ixr (opnd_var rfl) rfl (xe_draw (many := ((menu s).length : Nat)) rfl hf' (ar_ev (jv_blt (op_lst rfl) rfl) rfl rfl) (by omega) (by omega) fun i kvs2 hf2 i0 i4 => ?_))
    obtain ⟨x, e, hx⟩ := ix_mem (ds := menu s) i0 i4
    have hwy := menu_wy h4 x hx
    refine ⟨.list (menu s), .int i, x, rfl, rfl, e, show 8 < 10 by decide, ?_⟩
    refine xs_if (xt_tb (tb_cmp (op_var rfl) (op_lst rfl) (nmem_l (hwy.sm.ok (by decide) (by decide) (by decide)).shp (wys_shp hw (by omega)))) ?_)
    have hn : nOwn (some (.dat x)) := fun v e => by cases e; rfl
    cases !(ws.any fun z' => PyData.eqv z' x) with
    | false => exact xs_nil (xs_nil ⟨kvs2, _, ws, _, hf2, hn, rfl, hw, by omega⟩)
    | true =>
      refine xs_app rfl (xe_ev (jv_var rfl) ⟨x, ws, rfl, rfl, by omega, xs_nil (xs_nil ⟨kvs2, _, ws ++ [x], _, hf2, hn, rfl, fun y hy => ?_, by rw [List.length_append, List.length_singleton]; omega⟩)⟩)
      rcases List.mem_append.mp hy with hy | hy
      · exact hw y hy
      · rw [List.mem_singleton.mp hy]; exact hwy
theorem row_sat (hf : Fd cs kvs) (hn : ∀ t ∈ ts, Nm t) (hl : ts.length ≤ 4) (h1 : 1 ≤ s) (h4 : s ≤ 4) :
    (evF Pr (m + 2) 10 [.dct kvs, .dat (.list (ts.map .str)), .dat (.int (s : Nat))]).sat (Rres cs ts s) := by
  show (runF (evF Pr (m + 1)) w10 _).sat _
  refine runF_sat rfl ?_
  have hcl : ∀ x ∈ (("" : Str) :: ts).map PyData.str, Cl x := fun x hx => by
    obtain ⟨t, ht, e⟩ := List.mem_map.mp hx
    subst e
    rcases List.mem_cons.mp ht with e | h
    · rw [e]; exact cl_e
    · exact cl_nm (hn t h)
  have hlen : ((("" : Str) :: ts).map PyData.str).length = ts.length + 1 := by rw [List.length_map, List.length_cons]
  have hadd : bin2 .add (.list [.str ""]) (.list (ts.map .str)) = some (.lst ((("" : Str) :: ts).map .str)) := badL (by rw [List.length_map]; show 1 + _ ≤ _; omega)
  have goal : XS (evF Pr (m + 1)) [0] w10.body (rowE kvs ts s none none none none none none none) (Rq cs ts s) := by
    refine xs_asg rfl (xe_comp rfl (xe_ev (jv_blt (op_ev (jv_bin (op_ev (jv_lst (dv_cons (jv_cst _) rfl dv_nil)) rfl rfl) (op_var rfl) hadd) rfl rfl) (sortedS (by rw [List.length_cons]; omega))) ⟨.list ((sortS ("" :: ts)).map .str), (sortS ("" :: ts)).map .str, rfl, rfl, rfl, ?_⟩))
    refine compTurns_sat (I := fun rest acc ρ => ∃ kvs' o, Fd cs kvs' ∧ ρ = rowE kvs' ts s none none none none none o none ∧ (∀ x ∈ acc, Cl x) ∧ (∀ x ∈ rest, Cl x) ∧ acc.length + rest.length ≤ 5) ?_ ?_ _ _ _ ⟨kvs, none, hf, rfl, am_nil, fun x hx => ?_, ?_⟩
    · rintro acc ρ ⟨kvs', o, hf', e, ha, _, hl'⟩
      subst e
      have hl'' : acc.length ≤ 5 := by have : ([] : List D).length = 0 := rfl; omega
      refine ⟨show 3 < 10 by decide, ?_⟩
      show XS _ _ _ (rowE kvs' ts s (some (.lst acc)) none none none none none none) _
      refine xs_if (xt_tb (tb_cmp (op_lst rfl) (op_ev (jv_lst dv_nil) rfl rfl) (eqs (cl_shp ha (by omega)) rfl)) ?_)
      rw [eqv_nil]
      cases acc.isEmpty with
      | false => exact xs_nil (row_ways hf' h1 h4 ha hl'')
      | true =>
        refine xs_asg rfl (xe_lst (xd_cons (xe_ixr (opnd_ev rfl (jv_bin (op_ev (jv_lst (dv_cons (jv_cst _) rfl dv_nil)) rfl rfl) (op_var rfl) hadd)) rfl (xe_draw (many := 1 + (ts.length : Nat)) rfl hf' (ar_ev (jv_bin (op_cst _) (op_ev (jv_blt (op_var rfl) (v := .dat (.int (ts.length : Nat))) (by show some (Vl.dat (.int (((ts.map PyData.str).length : Nat) : Int))) = _; rw [List.length_map])) rfl rfl) rfl) rfl rfl) (by omega) (by omega) fun i kvs2 hf2 i0 i4 => ?_))))
        obtain ⟨x, e, hx⟩ := ix_mem (ds := (("" : Str) :: ts).map .str) i0 (by rw [hlen]; omega)
        exact ⟨.list ((("" : Str) :: ts).map .str), .int i, x, rfl, rfl, e, x, rfl, xd_nil ⟨show 3 < 10 by decide, xs_nil (row_ways hf2 h1 h4 (am_cons (hcl x hx) am_nil) (show 1 ≤ 5 by decide))⟩⟩
    · rintro d ds acc ρ ⟨kvs', o, hf', e, ha, hr, hl'⟩
      subst e
      rw [List.length_cons] at hl'
      refine ⟨rowE kvs' ts s none none none none none (some (.dat d)) none, rfl, ?_⟩
      have hd := hr d (List.mem_cons_self ..)
      have hr' : ∀ x ∈ ds, Cl x := fun x hx => hr x (List.mem_cons_of_mem _ hx)
      show (evT (evF Pr (m + 1)) (.cmp .eq (.call 9 [(.var 0), (.cst (.int 2))]) (.cst (.int 0))) _).sat _
      refine XT.sat (xt_cmpl rfl (xe_draw rfl hf' (ar_cst _) (by decide) (by decide) fun i kvs2 hf2 i0 i2 => ⟨.int i, .int 0, _, rfl, op_cst _, eqs rfl rfl, ?_⟩))
      cases PyData.eqv (.int i) (.int 0) with
      | false => exact ⟨kvs2, _, hf2, rfl, ha, hr', by omega⟩
      | true =>
        refine XE.sat (xe_ev (jv_var rfl) ⟨d, rfl, kvs2, _, hf2, rfl, fun x hx => ?_, hr', by rw [List.length_append, List.length_singleton]; omega⟩)
        rcases List.mem_append.mp hx with hx | hx
        · exact ha x hx
        · rw [List.mem_singleton.mp hx]; exact hd
    · obtain ⟨t, ht, e⟩ := List.mem_map.mp hx
      subst e
      exact hcl _ (List.mem_map.mpr ⟨t, sort_mem ht, rfl⟩)
    · show 0 + _ ≤ 5
      rw [List.length_map, sort_len, List.length_cons]; omega
  refine Res.sat.mono goal.sat fun p hp => ?_
  obtain ⟨f, ρ'⟩ := p
  cases f with
  | ret v => exact hp
  | nx => exact hp.elim
  | brk => exact hp.elim
  | cnt => exact hp.elim
end
theorem xs_asgs2e {cl : Fun} {lk : List Nat} {ρ : Pv.Env} {i j : Nat} {a b : T} {r : List S} {Q : Pv.Flow × Pv.Env → Prop} (hi : lk.contains i = false) (hj : lk.contains j = false)
    (h : XE cl a ρ fun p => i < p.2.length ∧ j < p.2.length ∧ ∃ w, EV cl b p.2 w ∧ XS cl lk r ((p.2.set i (some p.1)).set j (some w)) Q) : XS cl lk (.asgs [i, j] [a, b] :: r) ρ Q := by
  refine XS.of ?_
  obtain ⟨p, e, li, lj, w, k, q⟩ := Res.sat_iff.mp h.sat
  obtain ⟨v, ρ'⟩ := p
  have e : evS cl lk (.asgs [i, j] [a, b]) ρ = .ok (.nx, (ρ'.set i (some v)).set j (some w)) := by
    unfold evS evVs evVs evVs
    rw [e, Res.bind_ok]
    show (((evE cl b ρ').bind _).bind _).bind _ = _
    rw [show evE cl b ρ' = .ok (w, ρ') from k, Res.bind_ok]
    show (get (putsS lk ρ' [i, j] [v, w])).bind _ = _
    have : putsS lk ρ' [i, j] [v, w] = some ((ρ'.set i (some v)).set j (some w)) := by
      unfold putsS
      rw [putS_ok hi li, Option.bind_some]
      unfold putsS
      rw [putS_ok hj (by rw [List.length_set]; exact lj), Option.bind_some]
      unfold putsS; rfl
    rw [this]; rfl
  unfold evSs
  rw [e]
  exact q.sat
theorem turn_none {cl : Fun} {ρ : Pv.Env} {e : T} {Q1 : Vl × Pv.Env → Prop} {Q2 : Pv.Env → Prop} (h : XE cl e ρ Q1) : (evC cl none ρ).sat (fun p => match p.1 with
    | true => (evE cl e p.2).sat Q1
    | false => Q2 p.2) := by
  rw [show evC cl none ρ = .ok (true, ρ) by unfold evC; rfl]
  exact h.sat
structure Fn (x : D) : Prop where
  ex : ∃ t ls, x = .tuple [.str t, .tuple ls] ∧ Nm t ∧ ls ≠ [] ∧ ls.length ≤ 4 ∧ ∀ l ∈ ls, Ln l
theorem Fn.fn {x : D} (h : Fn x) : pFn x = true := by
  obtain ⟨t, ls, e, hn, hne, hl, hh⟩ := h.ex
  subst e
  show (pName (.str t) && (decide (0 < ls.length) && ls.all pLine)) = true
  rw [show pName (.str t) = true from hn, List.all_eq_true.mpr fun l hl => (hh l hl).ln, decide_eq_true (by cases ls with
    | nil => exact (hne rfl).elim
    | cons _ _ => rw [List.length_cons]; omega)]
  rfl
theorem Fn.sm {x : D} (h : Fn x) : Sm 41 5 620 x := by
  obtain ⟨t, ls, e, hn, hne, hl, hh⟩ := h.ex
  subst e
  have s1 := sm_str (B := 41) (w := 8) hn.asc.1 hn.asc.2
  have s2 := sm_tupn (B := 41) (k := 3) (w := 150) (fun x hx => (hh x hx).sm) hl
  have w1 := s1.wt
  have w2 := s2.wt
  have d1 := s1.dp
  have d2 := s2.dp
  exact sm_tuple (am_cons ⟨s1.lv, by omega⟩ <| am_cons ⟨s2.lv, by omega⟩ am_nil) (by rw [wgt_cons, wgt_cons, wgt_nil]; omega)
def Pool (x : D) : Prop := ∃ ts : List Str, x = .list (ts.map .str) ∧ (∀ t ∈ ts, Nm t) ∧ ts ≠ [] ∧ ts.length ≤ 4
theorem pool_of (ts : List Str) (h : (ts.all fun t => pName (.str t)) = true) (hn : ts ≠ []) (hl : ts.length ≤ 4) : Pool (.list (ts.map .str)) :=
  ⟨ts, rfl, fun t ht => List.all_eq_true.mp h t ht, hn, hl⟩
def pools : List D := [.list [.str "main", .str "f", .str "g"], .list [.str "a"], .list [.str "function", .str "back", .str "fail", .str "zzzzzzzz"], .list [.str "b", .str "ab", .str "abc", .str "a"], .list [.str "g", .str "f"]]
theorem pools_ok : ∀ x ∈ pools, Pool x :=
  am_cons (pool_of ["main", "f", "g"] (by decide +kernel) (fun e => nomatch e) (by decide)) <|
  am_cons (pool_of ["a"] (by decide +kernel) (fun e => nomatch e) (by decide)) <|
  am_cons (pool_of ["function", "back", "fail", "zzzzzzzz"] (by decide +kernel) (fun e => nomatch e) (by decide)) <|
  am_cons (pool_of ["b", "ab", "abc", "a"] (by decide +kernel) (fun e => nomatch e) (by decide)) <|
  am_cons (pool_of ["g", "f"] (by decide +kernel) (fun e => nomatch e) (by decide)) am_nil
/-- a drawn program -/
structure Pg (fs : List D) : Prop where
  ne : fs ≠ []
  len : fs.length ≤ 4
  fn : ∀ f ∈ fs, Fn f
theorem Pg.prog {fs : List D} (h : Pg fs) : pProg (.tuple fs) = true := by
  show (decide (0 < fs.length) && fs.all pFn) = true
  rw [List.all_eq_true.mpr fun f hf => (h.fn f hf).fn, decide_eq_true (by cases fs with
    | nil => exact (h.ne rfl).elim
    | cons _ _ => rw [List.length_cons]; omega)]
  rfl
theorem Pg.sm {fs : List D} (h : Pg fs) : Sm 41 6 2500 (.tuple fs) := (sm_tupn (B := 41) (k := 5) (w := 620) (fun x hx => (h.fn x hx).sm) h.len).mono (by decide) (by decide) (by decide)
def Dres (cs : List Int) (p : Vl × List (Option Vl)) : Prop := ∃ fs kvs', p = (.dat (.tuple fs), [some (.dct kvs')]) ∧ Fd cs kvs' ∧ Pg fs
def Dq (cs : List Int) (p : Pv.Flow × Pv.Env) : Prop := match p.1 with
  | .ret v => Dres cs (v, p.2.take 1)
  | _ => False
def drE (kvs : List (Str × D)) (o : Option Vl) (ts : List Str) (found : List D) (z k : Option Vl) : Pv.Env :=
  [some (.dct kvs), some (.lst pools), o, some (.dat (.list (ts.map .str))), some (.lst found), z, k]
section
variable {cs : List Int} {m : Nat} {kvs : List (Str × D)}
theorem drawn_sat (hf : Fd cs kvs) : CS (evF Pr (m + 3) 11 [.dct kvs]) (Dres cs) := by
  refine cs_run (d := w11) rfl rfl ?_
  refine xs_asg rfl (xe_ev (jv_lst (dv_cons (jv_lst (dv_cons (jv_cst _) rfl <| dv_cons (jv_cst _) rfl <| dv_cons (jv_cst _) rfl dv_nil)) rfl <| dv_cons (jv_lst (dv_cons (jv_cst _) rfl dv_nil)) rfl <| dv_cons (jv_lst (dv_cons (jv_cst _) rfl <| dv_cons (jv_cst _) rfl <| dv_cons (jv_cst _) rfl <| dv_cons (jv_cst _) rfl dv_nil)) rfl dv_nil)) ⟨show 1 < 7 by decide, ?_⟩)
  refine xs_asg rfl (xe_ev (v := .lst pools) (jv_bin (op_lst rfl) (op_ev (jv_lst (dv_cons (jv_lst (dv_cons (jv_cst _) rfl <| dv_cons (jv_cst _) rfl <| dv_cons (jv_cst _) rfl <| dv_cons (jv_cst _) rfl dv_nil)) rfl <| dv_cons (jv_lst (dv_cons (jv_cst _) rfl <| dv_cons (jv_cst _) rfl dv_nil)) rfl dv_nil)) rfl rfl) (badL (show 3 + 2 ≤ 16777216 by decide))) ⟨show 1 < 7 by decide, ?_⟩)
  refine xs_asgs2e rfl rfl (xe_ixr (opnd_var (v := .lst pools) rfl) rfl (xe_draw rfl hf (ar_cst _) (by decide) (by decide) fun r kvs1 hf1 r0 r5 => ?_))
  obtain ⟨x, e, hx⟩ := ix_mem (ds := pools) r0 (show r < 5 from r5)
  obtain ⟨ts, e2, hn, hne, hl⟩ := pools_ok x hx
  subst e2
  refine ⟨.list pools, .int r, .list (ts.map .str), rfl, rfl, e, show 3 < 7 by decide, show 4 < 7 by decide, .lst [], jv_lst dv_nil, ?_⟩
  show XS _ _ _ (drE kvs1 none ts [] none none) _
  refine xs_forv (ds := ts.map .str) rfl rfl rfl ?_
  refine forTurns_sat (I := fun rest ρ => ∃ kvs' o found z, Fd cs kvs' ∧ ρ = drE kvs' o ts found z none ∧ (∀ x ∈ found, Fn x) ∧ (∀ x ∈ rest, ∃ t, x = .str t ∧ Nm t) ∧ found.length + rest.length = ts.length) ?_ ?_ _ _ ⟨kvs1, none, [], none, hf1, rfl, am_nil, fun x hx => ?_, by rw [List.length_map]; show 0 + _ = _; omega⟩
  · rintro ρ ⟨kvs', o, found, z, hf', e, hh, _, hl'⟩
    subst e
    have hl2 : found.length = ts.length := by have : ([] : List D).length = 0 := rfl; omega
    exact xs_ret rfl (xe_ev (jv_blt (op_lst rfl) rfl) ⟨found, kvs', rfl, hf', fun e => by subst e; exact hne (List.length_eq_zero_iff.mp hl2.symm), by omega, hh⟩)
  · rintro d ds ρ ⟨kvs', o, found, z, hf', e, hh, hr, hl'⟩
    subst e
    rw [List.length_cons] at hl'
    obtain ⟨t, e, ht⟩ := hr d (List.mem_cons_self ..)
    subst e
    have hr' : ∀ x ∈ ds, ∃ t, x = .str t ∧ Nm t := fun x hx => hr x (List.mem_cons_of_mem _ hx)
    refine ⟨drE kvs' (some (.dat (.str t))) ts found z none, rfl, XS.sat ?_⟩
    refine xs_asg rfl (xe_binr (opnd_ev rfl (jv_cst _)) rfl (xe_draw rfl hf' (ar_cst _) (by decide) (by decide) fun i kvs2 hf2 i0 i4 => ⟨.int 1, .int i, .dat (.int (1 + i)), rfl, rfl, rfl, show 5 < 7 by decide, ?_⟩))
    obtain ⟨s, es⟩ : ∃ s : Nat, 1 + i = (s : Nat) := ⟨(1 + i).toNat, by omega⟩
    rw [es]
    show XS _ _ _ (drE kvs2 (some (.dat (.str t))) ts found (some (.dat (.int (s : Nat)))) none) _
    refine xs_app rfl (xe_tup (xd_cons (xe_ev (jv_var rfl) ⟨.str t, rfl, xd_cons (xe_blt rfl (xe_compv rfl (rng_items (i := (s : Nat)) (by omega) (by omega)) rfl ?_))⟩)))
    refine compTurns_sat (I := fun rest acc ρ => ∃ kvs3 k, Fd cs kvs3 ∧ ρ = drE kvs3 (some (.dat (.str t))) ts found (some (.dat (.int (s : Nat)))) k ∧ (∀ x ∈ acc, Ln x) ∧ acc.length + rest.length = s) ?_ ?_ _ _ _ ⟨kvs2, none, hf2, rfl, am_nil, by rw [nums_len]; show 0 + (s : Int).toNat = s; omega⟩
    · rintro acc ρ ⟨kvs3, k, hf3, e, ha, hl3⟩
      subst e
      have hl4 : acc.length = s := by have : ([] : List D).length = 0 := rfl; omega
      refine ⟨.list acc, .dat (.tuple acc), rfl, rfl, .tuple acc, rfl, xd_nil ⟨_, found, rfl, rfl, by omega, xs_nil ⟨kvs3, _, found ++ [.tuple [.str t, .tuple acc]], _, hf3, rfl, fun y hy => ?_, hr', by rw [List.length_append, List.length_singleton]; omega⟩⟩⟩
      rcases List.mem_append.mp hy with hy | hy
      · exact hh y hy
      · rw [List.mem_singleton.mp hy]
        exact ⟨t, acc, rfl, ht, fun e => by subst e; have : ([] : List D).length = 0 := rfl; omega, by omega, ha⟩
    · rintro d ds' acc ρ ⟨kvs3, k, hf3, e, ha, hl3⟩
      subst e
      rw [List.length_cons] at hl3
      refine ⟨drE kvs3 (some (.dat (.str t))) ts found (some (.dat (.int (s : Nat)))) (some (.dat d)), rfl, ?_⟩
      refine turn_none (Q2 := fun ρ => ∃ kvs3 k, Fd cs kvs3 ∧ ρ = drE kvs3 (some (.dat (.str t))) ts found (some (.dat (.int (s : Nat)))) k ∧ (∀ x ∈ acc, Ln x) ∧ acc.length + ds'.length = s) (xe_lend rfl (av_cons (ar_var rfl) (av_cons (ar_var rfl) av_nil)) ((row_sat (m := m) (s := s) hf3 hn hl (by omega) (by omega)).mono fun p hp => ?_))
      obtain ⟨x, kvs4, e, hf4, hx⟩ := hp
      subst e
      refine ⟨kvs4, _, rfl, rfl, x, rfl, kvs4, _, hf4, rfl, fun y hy => ?_, by rw [List.length_append, List.length_singleton]; omega⟩
      rcases List.mem_append.mp hy with hy | hy
      · exact ha y hy
      · rw [List.mem_singleton.mp hy]; exact hx
  · obtain ⟨t, ht, e⟩ := List.mem_map.mp hx
    exact ⟨t, e.symm, hn t ht⟩
end
mutual
def lg : D → Bool
  | .none => true
  | .bool _ => true
  | .int i => decide (i.natAbs < 10 ^ 60)
  | .str x => x.cps.toList.all (· < 128)
  | .list xs => lgAll xs
  | .tuple xs => lgAll xs
  | .dict _ => false
def lgAll : List D → Bool
  | [] => true
  | x :: xs => lg x && lgAll xs
end
theorem len_far {i : Int} (h : i.natAbs < 10 ^ 60) : (Str.ofString (toString i)).length ≤ 64 := by
  by_cases h0 : 0 ≤ i
  · have := PyProof.Rows.toString_length_le h0 (k := 60) (by decide) (by omega)
    omega
  · have e := PyProof.Rows.len_text_neg (n := i) (by omega)
    have := PyProof.Rows.toString_length_le (v := 0 - i) (by omega) (k := 60) (by decide) (by omega)
    omega
mutual
theorem lg_good : ∀ d : D, lg d = true → d.canLay0 = true ∧ d.leavesShort 64 = true ∧ d.showable = true
  | .none, _ => ⟨by unfold PyData.canLay0; rfl, by unfold PyData.leavesShort; rfl, by unfold PyData.showable; rfl⟩
  | .bool _, _ => ⟨by unfold PyData.canLay0; rfl, by unfold PyData.leavesShort; rfl, by unfold PyData.showable; rfl⟩
  | .int i, h => by
    unfold lg at h
    have h' := of_decide_eq_true h
    refine ⟨by unfold PyData.canLay0; rfl, ?_, ?_⟩
    · unfold PyData.leavesShort
      refine decide_eq_true ?_
      unfold PyData.shown
      have e : (Str.ofString (toString i)).length ≤ 64 := len_far h'
      exact e
    · unfold PyData.showable
      refine decide_eq_true ?_
      by_cases h0 : i.natAbs = 0
      · rw [h0]; decide
      · exact (Nat.log2_lt h0).mpr (Nat.lt_trans h' (by decide +kernel))
  | .str x, h => by
    unfold lg at h
    refine ⟨by unfold PyData.canLay0; exact asc_ok h, ?_, by unfold PyData.showable; rfl⟩
    unfold PyData.leavesShort
    exact List.all_eq_true.mpr fun c hc => decide_eq_true (by have := of_decide_eq_true (List.all_eq_true.mp h c hc); omega)
  | .list xs, h => by
    unfold lg at h
    unfold PyData.canLay0 PyData.leavesShort PyData.showable
    exact lg_goods xs h
  | .tuple xs, h => by
    unfold lg at h
    unfold PyData.canLay0 PyData.leavesShort PyData.showable
    exact lg_goods xs h
  | .dict _, h => by unfold lg at h; cases h
theorem lg_goods : ∀ xs : List D, lgAll xs = true → PyData.canLayAll0 xs = true ∧ PyData.leavesShortAll 64 xs = true ∧ PyData.showableAll xs = true
  | [], _ => ⟨by unfold PyData.canLayAll0; rfl, by unfold PyData.leavesShortAll; rfl, by unfold PyData.showableAll; rfl⟩
  | x :: xs, h => by
    unfold lgAll at h
    rw [Bool.and_eq_true] at h
    obtain ⟨h1, h2, h3⟩ := lg_good x h.1
    obtain ⟨k1, k2, k3⟩ := lg_goods xs h.2
    unfold PyData.canLayAll0 PyData.leavesShortAll PyData.showableAll
    rw [h1, h2, h3, k1, k2, k3]
    exact ⟨rfl, rfl, rfl⟩
end
def goodL (xs : List D) : Bool := lgAll xs && (decide (PyData.depthAll xs ≤ 20) && decide (PyData.weightAll xs ≤ 20000))
theorem ix_last {xs : List D} (h : xs ≠ []) : ∃ x ∈ xs, ix2 (.tuple xs) (.int (-1)) = some x := by
  have hp : 0 < xs.length := by cases xs with
    | nil => exact (h rfl).elim
    | cons _ _ => rw [List.length_cons]; omega
  have hj : xs.length - 1 < xs.length := by omega
  refine ⟨xs[xs.length - 1], List.getElem_mem hj, ?_⟩
  show L2.atI xs (-1) = _
  unfold L2.atI L2.ixN
  rw [if_neg (by decide), if_pos (by omega), Option.bind_some]
  have e : ((-1 : Int) + (xs.length : Nat)).toNat = xs.length - 1 := by omega
  rw [e, List.getElem?_eq_getElem hj]
theorem ix_head {xs : List D} (h : xs ≠ []) : ∃ x ∈ xs, ix2 (.tuple xs) (.int 0) = some x := by
  cases xs with
  | nil => exact (h rfl).elim
  | cons x xs => exact ⟨x, List.mem_cons_self .., ix_tup (ds := x :: xs) (i := 0) (by rw [List.length_cons]; omega)⟩
theorem xe_drawi {cs : List Int} {n i : Nat} {e : T} {many : Int} {kvs : List (Str × D)} {ρ : Pv.Env} {Q : Vl × Pv.Env → Prop} (h0 : ρ[i]? = some (some (.dct kvs))) (hf : Fd cs kvs) (ha : AR (evF Pr (n + 1)) e ρ (.dat (.int many))) (h1 : 1 ≤ many) (h2 : many < 1073741824)
    (q : ∀ r kvs', Fd cs kvs' → 0 ≤ r → r < many → Q (.dat (.int r), ρ.set i (some (.dct kvs')))) : XE (evF Pr (n + 1)) (.call 9 [.var i, e]) ρ Q := by
  refine xe_lendi h0 (av_cons ha av_nil) (CS.of ?_)
  obtain ⟨a, l, c, h, e⟩ := hf
  subst e
  refine Res.sat.mono (draw_sat (n := n) (cs := cs) (l := l) (c := c) h h1 h2) fun p hp => ?_
  obtain ⟨r, a', l', c', e, g0, g1, g2⟩ := hp
  subst e
  exact ⟨_, [some (.dat (.int many))], rfl, rfl, q r _ ⟨a', l', c', g2, rfl⟩ g0 g1⟩
end K08
set_option Elab.async false
set_option linter.all false
set_option maxRecDepth 100000
set_option maxHeartbeats 4100000
namespace K08
open PySem Pv
/-! ### what lines may be, as far as they are written -/
def wS (x : Str) : Bool := x.cps.toList.all (· < 128) && decide (x.length ≤ 10)
def wI (i : Int) : Bool := decide (0 ≤ i) && decide (i.natAbs < 10 ^ 60)
def wC : D → Bool
  | .str x => wS x
  | _ => false
def wW : D → Bool
  | .int i => wI i
  | .tuple [.str a] => decide (a = "back")
  | .tuple [.str a, .str b] => decide (a = "fail") && wS b
  | _ => false
def wH : D → Bool
  | .tuple [.str a, .int i] => wS a && wI i
  | _ => false
structure Lw (d : D) : Prop where
  ex : ∃ cs ws hs, d = .tuple [.tuple cs, .tuple ws, .tuple hs] ∧ cs.all wC = true ∧ ws.all wW = true ∧ hs.all wH = true ∧ cs.length ≤ 20 ∧ ws.length ≤ 20 ∧ hs.length ≤ 20
theorem wC_of {x : D} (h : wC x = true) : ∃ s, x = .str s ∧ wS s = true := by
  cases x <;> first | exact ⟨_, rfl, h⟩ | (cases h; done)
theorem wH_of {x : D} (h : wH x = true) : ∃ a i, x = .tuple [.str a, .int i] ∧ wS a = true ∧ wI i = true := by
  unfold wH at h
  split at h
  · rw [Bool.and_eq_true] at h
    exact ⟨_, _, rfl, h.1, h.2⟩
  · cases h
theorem wW_of {x : D} (h : wW x = true) : (∃ i, x = .int i ∧ wI i = true) ∨ x = .tuple [.str "back"] ∨ ∃ b, x = .tuple [.str "fail", .str b] ∧ wS b = true := by
  unfold wW at h
  split at h
  · exact .inl ⟨_, rfl, h⟩
  · rw [decide_eq_true_eq] at h
    exact .inr (.inl (by rw [h]))
  · rw [Bool.and_eq_true, decide_eq_true_eq] at h
    exact .inr (.inr ⟨_, by rw [h.1], h.2⟩)
  · cases h
theorem wS_asc {x : Str} (h : wS x = true) : (∀ c ∈ x.cps.toList, c < 128) ∧ x.length ≤ 10 := by
  unfold wS at h
  rw [Bool.and_eq_true] at h
  exact ⟨fun c hc => of_decide_eq_true (List.all_eq_true.mp h.1 c hc), of_decide_eq_true h.2⟩
theorem wI_of {i : Int} (h : wI i = true) : 0 ≤ i ∧ i.natAbs < 10 ^ 60 := by
  unfold wI at h
  rw [Bool.and_eq_true] at h
  exact ⟨of_decide_eq_true h.1, of_decide_eq_true h.2⟩
theorem txt_str {x : Str} (h : x.length ≤ 16777216) : txtOf (.dat (.str x)) = some x := if_pos (decide_eq_true h)
theorem log_of {i : Int} (h : i.natAbs < 10 ^ 60) : i.natAbs.log2 < 1920 := by
  by_cases h0 : i.natAbs = 0
  · rw [h0]; decide
  · exact (Nat.log2_lt h0).mpr (Nat.lt_trans h (by decide +kernel))
theorem txt_int {i : Int} (h : i.natAbs < 10 ^ 60) : txtOf (.dat (.int i)) = some (toString i) := if_pos (decide_eq_true (log_of h))
theorem str_int {i : Int} (h : i.natAbs < 10 ^ 60) : blt1 .str (.int i) = some (.dat (.str (toString i))) := if_pos (decide_eq_true (log_of h))
theorem int_len {i : Int} (h : i.natAbs < 10 ^ 60) : (toString i : Str).length ≤ 64 := len_far h
theorem pl_int (i : Int) : Pl (toString i : Str) := pl_lit _
theorem pl_asc {x : Str} (h : ∀ c ∈ x.cps.toList, c < 128) : Pl x := fun c hc => by have := h c hc; omega
/-! ### what is written -/
def dash (x : Str) : Str := if x = Str.ofString "" then Str.ofString "-" else x
def star (x : Str) : Str := if x = Str.ofString "" then Str.ofString "*" else x
def callT : D → Str
  | .str x => dash x
  | _ => ""
def wayT : D → Str
  | .int i => toString i
  | .tuple [.str a] => a
  | .tuple [.str a, .str b] => a ++ ":" ++ b
  | _ => ""
def handT : D → Str
  | .tuple [.str a, .int i] => star a ++ ">" ++ toString i
  | _ => ""
def lineT : D → Str
  | .tuple [.tuple cs, .tuple ws, .tuple hs] => Txt.join " " [Txt.join "," (cs.map callT), Txt.join "," (ws.map wayT), if hs.isEmpty then "-" else Txt.join "," (hs.map handT)]
  | _ => ""
def spotT : D → Str
  | .tuple [.str a, .int i] => a ++ ":" ++ toString i
  | _ => ""
theorem join_len {s : Str} {ts : List Str} {n m : Nat} (h : ∀ t ∈ ts, t.length ≤ n) (hl : ts.length ≤ m) : (Txt.join s ts).length ≤ m * (n + s.length) := by
  have e : Txt.join s ts = Str.join s ts := StrLaws.glued_eq_join s ts
  have h1 := StrLaws.join_length_le s ts
  rw [e]
  have hs : ∀ us : List Str, (∀ t ∈ us, t.length ≤ n) → (us.map (·.length)).sum + us.length * s.length ≤ us.length * (n + s.length) := by
    intro us
    induction us with
    | nil => intro _; simp
    | cons u us ih =>
      intro hu
      have h1 := hu u (List.mem_cons_self ..)
      have h2 := ih fun t ht => hu t (List.mem_cons_of_mem _ ht)
      rw [List.map_cons, List.sum_cons, List.length_cons, Nat.add_mul, Nat.add_mul]
      omega
  have h2 := hs ts h
  have h3 : ts.length * (n + s.length) ≤ m * (n + s.length) := Nat.mul_le_mul_right _ hl
  omega
theorem join_pl {s : Str} {ts : List Str} (hs : Pl s) (h : ∀ t ∈ ts, Pl t) : Pl (Txt.join s ts) := by
  rw [show Txt.join s ts = Str.join s ts from StrLaws.glued_eq_join s ts]
  exact pl_join hs ts h
theorem l1 : (Str.ofString ",").length = 1 := by decide +kernel
theorem l2 : (Str.ofString " ").length = 1 := by decide +kernel
theorem l3 : (Str.ofString ":").length = 1 := by decide +kernel
theorem l4 : (Str.ofString ">").length = 1 := by decide +kernel
theorem l5 : (Str.ofString "-").length = 1 := by decide +kernel
theorem l6 : (Str.ofString "*").length = 1 := by decide +kernel
theorem l7 : (Str.ofString "fail").length = 4 := by decide +kernel
theorem l8 : (Str.ofString "fail:").length = 5 := by decide +kernel
theorem l9 : (Str.ofString "back").length = 4 := by decide +kernel
theorem l10 : (Str.ofString "*>").length = 2 := by decide +kernel
theorem l11 : (Str.ofString "function ").length = 9 := by decide +kernel
theorem l12 : (Str.ofString "\n").length = 1 := by decide +kernel
theorem empty_app (x : Str) : Str.empty ++ x = x := str_eq (by
  rw [show (Str.empty ++ x).cps.toList = Str.empty.cps.toList ++ x.cps.toList from Array.toList_append]; rfl)
theorem app_assoc (x y z : Str) : x ++ y ++ z = x ++ (y ++ z) := str_eq (by
  rw [show (x ++ y ++ z).cps.toList = (x ++ y).cps.toList ++ z.cps.toList from Array.toList_append, show (x ++ y).cps.toList = x.cps.toList ++ y.cps.toList from Array.toList_append, show (x ++ (y ++ z)).cps.toList = x.cps.toList ++ (y ++ z).cps.toList from Array.toList_append, show (y ++ z).cps.toList = y.cps.toList ++ z.cps.toList from Array.toList_append, List.append_assoc])
theorem fail_colon : (Str.ofString "fail:") = Str.ofString "fail" ++ Str.ofString ":" := by decide +kernel
theorem star_gt : (Str.ofString "*>") = Str.ofString "*" ++ Str.ofString ">" := by decide +kernel
theorem call_b {x : D} (h : wC x = true) : (callT x).length ≤ 10 ∧ Pl (callT x) := by
  obtain ⟨s, e, hs⟩ := wC_of h
  subst e
  have := wS_asc hs
  show (dash s).length ≤ 10 ∧ Pl (dash s)
  unfold dash
  split
  · exact ⟨by rw [l5]; decide, pl_lit _⟩
  · exact ⟨this.2, pl_asc this.1⟩
theorem way_b {x : D} (h : wW x = true) : (wayT x).length ≤ 70 ∧ Pl (wayT x) := by
  rcases wW_of h with ⟨i, e, hi⟩ | e | ⟨b, e, hb⟩
  · subst e
    exact ⟨by have := int_len (wI_of hi).2; show (toString i : Str).length ≤ 70; omega, pl_int i⟩
  · subst e
    exact ⟨by show (Str.ofString "back").length ≤ 70; rw [l9]; decide, pl_lit _⟩
  · subst e
    have := wS_asc hb
    refine ⟨?_, ((pl_lit _).app (pl_lit _)).app (pl_asc this.1)⟩
    show (Str.ofString "fail" ++ Str.ofString ":" ++ b).length ≤ 70
    rw [len_app, len_app, l7, l3]
    omega
theorem hand_b {x : D} (h : wH x = true) : (handT x).length ≤ 80 ∧ Pl (handT x) := by
  obtain ⟨a, i, e, ha, hi⟩ := wH_of h
  subst e
  have h1 := wS_asc ha
  have h2 := int_len (wI_of hi).2
  have h3 : (star a).length ≤ 10 ∧ Pl (star a) := by
    unfold star
    split
    · exact ⟨by rw [l6]; decide, pl_lit _⟩
    · exact ⟨h1.2, pl_asc h1.1⟩
  refine ⟨?_, (h3.2.app (pl_lit _)).app (pl_int i)⟩
  show (star a ++ Str.ofString ">" ++ toString i).length ≤ 80
  rw [len_app, len_app, l4]
  omega
theorem line_b {x : D} (h : Lw x) : (lineT x).length ≤ 4000 ∧ Pl (lineT x) := by
  obtain ⟨cs, ws, hs, e, hc, hw, hh, lc, lw, lh⟩ := h.ex
  subst e
  have b1 := join_len (s := ",") (ts := cs.map callT) (n := 10) (m := 20) (fun t ht => by
    obtain ⟨x, hx, e⟩ := List.mem_map.mp ht
    exact e ▸ (call_b (List.all_eq_true.mp hc x hx)).1) (by rw [List.length_map]; exact lc)
  have b2 := join_len (s := ",") (ts := ws.map wayT) (n := 70) (m := 20) (fun t ht => by
    obtain ⟨x, hx, e⟩ := List.mem_map.mp ht
    exact e ▸ (way_b (List.all_eq_true.mp hw x hx)).1) (by rw [List.length_map]; exact lw)
  have b3 := join_len (s := ",") (ts := hs.map handT) (n := 80) (m := 20) (fun t ht => by
    obtain ⟨x, hx, e⟩ := List.mem_map.mp ht
    exact e ▸ (hand_b (List.all_eq_true.mp hh x hx)).1) (by rw [List.length_map]; exact lh)
  have p1 := join_pl (s := ",") (ts := cs.map callT) (pl_lit _) fun t ht => by
    obtain ⟨x, hx, e⟩ := List.mem_map.mp ht
    exact e ▸ (call_b (List.all_eq_true.mp hc x hx)).2
  have p2 := join_pl (s := ",") (ts := ws.map wayT) (pl_lit _) fun t ht => by
    obtain ⟨x, hx, e⟩ := List.mem_map.mp ht
    exact e ▸ (way_b (List.all_eq_true.mp hw x hx)).2
  have p3 := join_pl (s := ",") (ts := hs.map handT) (pl_lit _) fun t ht => by
    obtain ⟨x, hx, e⟩ := List.mem_map.mp ht
    exact e ▸ (hand_b (List.all_eq_true.mp hh x hx)).2
  rw [l1] at b1 b2 b3
  have h3 : (if hs.isEmpty then (Str.ofString "-") else Txt.join "," (hs.map handT)).length ≤ 1620 ∧ Pl (if hs.isEmpty then (Str.ofString "-") else Txt.join "," (hs.map handT)) := by
    split
    · exact ⟨by rw [l5]; decide, pl_lit _⟩
    · exact ⟨b3, p3⟩
  have hm : ∀ t ∈ [Txt.join "," (cs.map callT), Txt.join "," (ws.map wayT), if hs.isEmpty then (Str.ofString "-") else Txt.join "," (hs.map handT)], Pl t := by
    intro t ht
    simp only [List.mem_cons, List.not_mem_nil, or_false] at ht
    rcases ht with e | e | e
    · exact e ▸ p1
    · exact e ▸ p2
    · exact e ▸ h3.2
  refine ⟨?_, join_pl (pl_lit _) hm⟩
  show (Txt.join " " [_, _, _]).length ≤ 4000
  rw [show ∀ a b c : Str, Txt.join (Str.ofString " ") [a, b, c] = a ++ Str.ofString " " ++ (b ++ Str.ofString " " ++ c) from fun a b c => StrLaws.glued_eq_join _ _]
  rw [len_app, len_app, len_app, len_app, l2]
  have := h3.1
  omega
end K08
set_option Elab.async false
set_option linter.all false
set_option maxRecDepth 100000
set_option maxHeartbeats 4100000
namespace K08
open PySem Pv
def Gives (cl : Fun) (k : Nat) (d : D) (s : Str) : Prop := cl k [.dat d] = .ok (.dat (.str s), [some (.dat d)])
theorem jv_gives {cl : Fun} {ρ : Pv.Env} {k : Nat} {e : T} {d : D} {s : Str} (h : AR cl e ρ (.dat d)) (c : Gives cl k d s) : EV cl (.call k [e]) ρ (.dat (.str s)) := jv_call (av_cons h av_nil) c rfl
theorem gives_js {cl : Fun} {df : Df} {x : D} {s : Str} (ρ' : Pv.Env) (hp : df.ps = 1) (hk : ρ'.take 1 = [some (.dat x)]) (h : JS cl [] df.body (startE df.n [.dat x]) (.dat (.str s)) ρ') : runF cl df [.dat x] = .ok (.dat (.str s), [some (.dat x)]) := by
  rw [run_js (vs := [.dat x]) (ρ' := ρ') (by rw [hp]; rfl) h, hp, hk]
theorem EV.of {cl : Fun} {e : T} {ρ : Pv.Env} {v v' : Vl} (h : EV cl e ρ v) (e' : v = v') : EV cl e ρ v' := e' ▸ h
theorem lg_str {x : Str} (h : ∀ c ∈ x.cps.toList, c < 128) : lg (.str x) = true := by
  unfold lg; exact List.all_eq_true.mpr fun c hc => decide_eq_true (h c hc)
theorem lg_int {i : Int} (h : i.natAbs < 10 ^ 60) : lg (.int i) = true := by unfold lg; exact decide_eq_true h
theorem d_str (x : Str) : (PyData.str x).depth = 0 := by unfold PyData.depth; rfl
theorem d_int (x : Int) : (PyData.int x).depth = 0 := by unfold PyData.depth; rfl
theorem shp_s {x : Str} (h : ∀ c ∈ x.cps.toList, c < 128) : shp (.str x) = true := by
  unfold Pv.shp SeqAt.shaped
  rw [(lg_good _ (lg_str h)).1, Bool.true_and]
  exact decide_eq_true (by rw [d_str]; decide)
theorem shp_t {xs : List D} (h : ∀ x ∈ xs, lg x = true ∧ x.depth ≤ 60) : shp (.tuple xs) = true := by
  unfold Pv.shp SeqAt.shaped PyData.canLay0 PyData.depth
  have h2 : PyData.depthAll xs ≤ 60 := dep_all fun x hx => (h x hx).2
  rw [lay_all fun x hx => (lg_good x (h x hx).1).1, Bool.true_and]
  exact decide_eq_true (show _ ≤ 64 by omega)
theorem asc_lit7 : ∀ c ∈ (Str.ofString "fail").cps.toList, c < 128 := fun c hc => of_decide_eq_true (List.all_eq_true.mp (show ((Str.ofString "fail").cps.toList.all (· < 128)) = true by decide +kernel) c hc)
theorem eqvB : PyData.eqv (.tuple [.str "back"]) (.tuple [.str "back"]) = true := by decide +kernel
theorem eqvE (x : Str) : PyData.eqv (.str x) (.str (Str.ofString "")) = decide (x = Str.ofString "") := by
  show (x == Str.ofString "") = _
  rfl
theorem neE {x : Str} (h : ∀ c ∈ x.cps.toList, c < 128) : cmp2 .ne (.str x) (.str "") = some (!decide (x = Str.ofString "")) := by rw [nes (shp_s h) shpE, eqvE]
theorem eqE {x : Str} (h : ∀ c ∈ x.cps.toList, c < 128) : cmp2 .eq (.str x) (.str "") = some (decide (x = Str.ofString "")) := by rw [eqs (shp_s h) shpE, eqvE]
theorem dash_f {x : Str} (h : (!decide (x = Str.ofString "")) = true) : dash x = x := by
  unfold dash
  rw [if_neg (by intro e; rw [decide_eq_true e] at h; cases h)]
theorem dash_t {x : Str} (h : (!decide (x = Str.ofString "")) = false) : dash x = Str.ofString "-" := by
  unfold dash
  rw [if_pos (by cases q : decide (x = Str.ofString "") with
    | true => exact of_decide_eq_true q
    | false => rw [q] at h; cases h)]
theorem star_f {x : Str} (h : (!decide (x = Str.ofString "")) = true) : star x = x := by
  unfold star
  rw [if_neg (by intro e; rw [decide_eq_true e] at h; cases h)]
theorem star_t {x : Str} (h : (!decide (x = Str.ofString "")) = false) : star x = Str.ofString "*" := by
  unfold star
  rw [if_pos (by cases q : decide (x = Str.ofString "") with
    | true => exact of_decide_eq_true q
    | false => rw [q] at h; cases h)]
theorem map_str {f : D → Str} (xs : List D) : xs.map (fun x => PyData.str (f x)) = (xs.map f).map .str := by rw [List.map_map]; rfl
section
variable {n : Nat} {d : D}
theorem g4 (h : wW d = true) : Gives (evF Pr (n + 3)) 4 d (wayT d) := by
  show runF (evF Pr (n + 2)) w4 [.dat d] = _
  rcases wW_of h with ⟨i, e, hi⟩ | e | ⟨b, e, hb⟩
  · subst e
    have hp : pNum (.int i) = true := by
      show (true && decide (0 ≤ i)) = true
      rw [decide_eq_true (wI_of hi).1]; rfl
    exact gives_js (startE w4.n [_]) rfl rfl (js_if ((tb_told (ar_var rfl) t1).of hp) (fun _ => js_ret rfl (jv_blt (op_var rfl) (str_int (wI_of hi).2))) fun hx => Bool.noConfusion hx)
  · subst e
    exact gives_js (startE w4.n [_]) rfl rfl (js_if ((tb_told (ar_var rfl) t1).of (show _ = false from rfl)) (fun hx => Bool.noConfusion hx) fun _ => js_ret rfl (jv_ite ((tb_cmp (op_var rfl) (op_cst _) (eqs shpB shpB)).of eqvB) (fun _ => jv_cst _) fun hx => Bool.noConfusion hx))
  · subst e
    have hl := wS_asc hb
    have hs : shp (.tuple [.str "fail", .str b]) = true := shp_t (am_cons ⟨lg_str asc_lit7, by rw [d_str]; decide⟩ <| am_cons ⟨lg_str hl.1, by rw [d_str]; decide⟩ am_nil)
    refine gives_js (startE w4.n [_]) rfl rfl (js_if ((tb_told (ar_var rfl) t1).of (show _ = false from rfl)) (fun hx => Bool.noConfusion hx) fun _ => js_ret rfl (jv_ite ((tb_cmp (op_var rfl) (op_cst _) (eqs hs shpB)).of eqv_pair) (fun hx => Bool.noConfusion hx) fun _ => EV.of (jv_fstr (fv_cons (jv_cst _) (txt_str (by rw [l8]; decide)) (by rw [empty_app, l8]; decide) (fv_cons (jv_ix (op_var rfl) (op_cst _) rfl) (txt_str (x := b) (by omega)) (by rw [empty_app, len_app, l8]; omega) fv_nil))) ?_))
    show Vl.dat (.str _) = Vl.dat (.str (Str.ofString "fail" ++ Str.ofString ":" ++ b))
    rw [empty_app, fail_colon]
theorem g5 {a : Str} {i : Int} (ha : wS a = true) (hi : wI i = true) : evF Pr (n + 1) 5 [.dat (.str a), .dat (.int i)] = .ok (.dat (.str (handT (.tuple [.str a, .int i]))), [some (.dat (.str a)), some (.dat (.int i))]) := by
  show runF (evF Pr n) w5 [.dat (.str a), .dat (.int i)] = _
  have hl := wS_asc ha
  have h2 := int_len (wI_of hi).2
  refine run_js (d := w5) (ρ' := [some (.dat (.str a)), some (.dat (.int i))]) rfl (js_ret rfl (jv_ite (tb_cmp (op_var rfl) (op_cst _) (neE hl.1)) (fun hx => ?_) fun hx => ?_))
  · refine EV.of (jv_fstr (fv_cons (jv_var rfl) (txt_str (by omega)) (by rw [empty_app]; omega) <| fv_cons (jv_cst _) (txt_str (by rw [l4]; decide)) (by rw [empty_app, len_app, l4]; omega) <| fv_cons (jv_var rfl) (txt_int (wI_of hi).2) (by rw [empty_app, len_app, len_app, l4]; omega) fv_nil)) ?_
    show Vl.dat (.str _) = Vl.dat (.str (star a ++ Str.ofString ">" ++ toString i))
    rw [empty_app, star_f hx]
  · refine EV.of (jv_fstr (fv_cons (jv_cst _) (txt_str (by rw [l10]; decide)) (by rw [empty_app, l10]; decide) <| fv_cons (jv_var rfl) (txt_int (wI_of hi).2) (by rw [empty_app, len_app, l10]; omega) fv_nil)) ?_
    show Vl.dat (.str _) = Vl.dat (.str (star a ++ Str.ofString ">" ++ toString i))
    rw [empty_app, star_t hx, star_gt]
theorem isE_f {xs : List D} (h : (!xs.isEmpty) = true) : xs.isEmpty = false := by
  cases q : xs.isEmpty with
  | false => rfl
  | true => rw [q] at h; cases h
theorem isE_t {xs : List D} (h : (!xs.isEmpty) = false) : xs.isEmpty = true := by
  cases q : xs.isEmpty with
  | true => rfl
  | false => rw [q] at h; cases h
theorem wH_lg {x : D} (h : wH x = true) : lg x = true ∧ x.depth ≤ 60 := by
  obtain ⟨a, i, e, ha, hi⟩ := wH_of h
  subst e
  refine ⟨?_, ?_⟩
  · unfold lg lgAll
    rw [lg_str (wS_asc ha).1]
    unfold lgAll
    rw [lg_int (wI_of hi).2]
    unfold lgAll; rfl
  · rw [d_tup]
    have : PyData.depthAll [.str a, .int i] ≤ 0 := dep_all (am_cons (by rw [d_str]; exact Nat.le_refl 0) <| am_cons (by rw [d_int]; exact Nat.le_refl 0) am_nil)
    omega
theorem shp_hs {hs : List D} (h : hs.all wH = true) : shp (.tuple hs) = true := shp_t fun x hx => wH_lg (List.all_eq_true.mp h x hx)
theorem ne_hs {hs : List D} (h : hs.all wH = true) : cmp2 .ne (.tuple hs) (.tuple []) = some (!hs.isEmpty) := by rw [nes (shp_hs h) shpN, eqv_tnil]
def hsT (hs : List D) : Str := if hs.isEmpty then Str.ofString "-" else Txt.join "," (hs.map handT)
theorem lineT_eq (cs ws hs : List D) : lineT (.tuple [.tuple cs, .tuple ws, .tuple hs]) = Txt.join " " [Txt.join "," (cs.map callT), Txt.join "," (ws.map wayT), hsT hs] := rfl
theorem parts_b {cs ws hs : List D} (hc : cs.all wC = true) (hw : ws.all wW = true) (hh : hs.all wH = true) (lc : cs.length ≤ 20) (lw : ws.length ≤ 20) (lh : hs.length ≤ 20) :
    join2 "," (.list (cs.map fun x => .str (callT x))) = some (Txt.join "," (cs.map callT)) ∧ join2 "," (.list (ws.map fun x => .str (wayT x))) = some (Txt.join "," (ws.map wayT)) ∧ join2 "," (.list (hs.map fun x => .str (handT x))) = some (Txt.join "," (hs.map handT)) ∧
    ∀ t ∈ [Txt.join "," (cs.map callT), Txt.join "," (ws.map wayT), hsT hs], t.length ≤ 3000 := by
  have q1 : ∀ t ∈ cs.map callT, t.length ≤ 10 := fun t ht => by
    obtain ⟨x, hx, e⟩ := List.mem_map.mp ht
    exact e ▸ (call_b (List.all_eq_true.mp hc x hx)).1
  have q2 : ∀ t ∈ ws.map wayT, t.length ≤ 70 := fun t ht => by
    obtain ⟨x, hx, e⟩ := List.mem_map.mp ht
    exact e ▸ (way_b (List.all_eq_true.mp hw x hx)).1
  have q3 : ∀ t ∈ hs.map handT, t.length ≤ 80 := fun t ht => by
    obtain ⟨x, hx, e⟩ := List.mem_map.mp ht
    exact e ▸ (hand_b (List.all_eq_true.mp hh x hx)).1
  have m1 : (cs.map callT).length ≤ 20 := by rw [List.length_map]; exact lc
  have m2 : (ws.map wayT).length ≤ 20 := by rw [List.length_map]; exact lw
  have m3 : (hs.map handT).length ≤ 20 := by rw [List.length_map]; exact lh
  have b1 := join_len (s := ",") q1 m1
  have b2 := join_len (s := ",") q2 m2
  have b3 := join_len (s := ",") q3 m3
  rw [l1] at b1 b2 b3
  refine ⟨by rw [map_str]; exact join_run q1 m1 (by rw [l1]; decide), by rw [map_str]; exact join_run q2 m2 (by rw [l1]; decide), by rw [map_str]; exact join_run q3 m3 (by rw [l1]; decide), fun t ht => ?_⟩
  simp only [List.mem_cons, List.not_mem_nil, or_false] at ht
  rcases ht with e | e | e
  · rw [e]; omega
  · rw [e]; omega
  · rw [e]
    unfold hsT
    split
    · rw [l5]; decide
    · omega
theorem g3 (h : Lw d) : Gives (evF Pr (n + 4)) 3 d (lineT d) := by
  show runF (evF Pr (n + 3)) w3 [.dat d] = _
  obtain ⟨cs, ws, hs, e, hc, hw, hh, lc, lw, lh⟩ := h.ex
  subst e
  obtain ⟨j1, j2, j3, jb⟩ := parts_b hc hw hh lc lw lh
  refine gives_js [some (.dat (.tuple [.tuple cs, .tuple ws, .tuple hs])), some (.dat (.tuple [.str (Txt.join "," (cs.map callT)), .str (Txt.join "," (ws.map wayT)), .str (hsT hs)])), some (.dat (.tuple cs)), some (.dat (.tuple ws)), some (.dat (.tuple hs)), none, none, none, none] rfl rfl ?_
  refine js_unp (jv_var rfl) rfl rfl rfl (js_asg (jv_tup (dv_cons (jv_join (jv_cst _) (op_ev (jv_compm (g := fun x => .str (callT x)) rfl (opl_var rfl) rfl fun x hx => ?_) rfl rfl) j1) rfl <| dv_cons (jv_join (jv_cst _) (op_ev (jv_compm (g := fun x => .str (wayT x)) rfl (opl_var rfl) rfl fun x hx => ?_) rfl rfl) j2) rfl <| dv_cons (v := .dat (.str (hsT hs))) (jv_ite (tb_cmp (op_var rfl) (op_ev jv_tnil rfl rfl) (ne_hs hh)) (fun hx => ?_) fun hx => ?_) rfl dv_nil)) rfl (show 1 < 9 by decide) (js_ret rfl (jv_join (jv_cst _) (op_var rfl) ?_)))
  · obtain ⟨s, e, hs'⟩ := wC_of (List.all_eq_true.mp hc x hx)
    subst e
    refine ⟨.dat (.str (dash s)), jv_ite (tb_cmp (op_var rfl) (op_cst _) (neE (wS_asc hs').1)) (fun hx => ?_) fun hx => ?_, rfl⟩
    · rw [dash_f hx]; exact jv_var rfl
    · rw [dash_t hx]; exact jv_cst _
  · exact ⟨_, jv_gives (ar_var rfl) (g4 (List.all_eq_true.mp hw x hx)), rfl⟩
  · unfold hsT
    rw [isE_f hx]
    refine jv_join (jv_cst _) (op_ev (jv_comp2 (g := fun x => .str (handT x)) rfl rfl (by decide) (opl_var rfl) rfl fun x hx => ?_) rfl rfl) j3
    obtain ⟨a, i, e, ha, hi⟩ := wH_of (List.all_eq_true.mp hh x hx)
    subst e
    exact ⟨.str a, .int i, _, rfl, jv_call (av_cons (ar_var rfl) (av_cons (ar_var rfl) av_nil)) (g5 ha hi) rfl, rfl⟩
  · unfold hsT
    rw [isE_t hx]
    exact jv_cst _
  · rw [lineT_eq]
    exact join_runT (ts := [Txt.join "," (cs.map callT), Txt.join "," (ws.map wayT), hsT hs]) jb (m := 3) (Nat.le_refl _) (by rw [l2]; decide)
/-! ### the law's own words -/
theorem g14 (h : wC d = true) : Gives (evF Pr (n + 1)) 14 d (callT d) := by
  show runF (evF Pr n) w14 [.dat d] = _
  obtain ⟨s, e, hs⟩ := wC_of h
  subst e
  refine gives_js (startE w14.n [_]) rfl rfl (js_ret rfl (jv_ite (tb_cmp (op_var rfl) (op_cst _) (eqE (wS_asc hs).1)) (fun hx => ?_) fun hx => ?_))
  · rw [show callT (.str s) = Str.ofString "-" from dash_t (by rw [hx]; rfl)]; exact jv_cst _
  · rw [show callT (.str s) = s from dash_f (by rw [hx]; rfl)]; exact jv_var rfl
theorem g15 (h : wW d = true) : Gives (evF Pr (n + 1)) 15 d (wayT d) := by
  show runF (evF Pr n) w15 [.dat d] = _
  rcases wW_of h with ⟨i, e, hi⟩ | e | ⟨b, e, hb⟩
  · subst e
    exact gives_js (startE w15.n [_]) rfl rfl (js_ret rfl (jv_ite ((tb_isi (op_var rfl)).of (show _ = true from rfl)) (fun _ => jv_blt (op_var rfl) (str_int (wI_of hi).2)) fun hx => Bool.noConfusion hx))
  · subst e
    refine gives_js (startE w15.n [_]) rfl rfl (js_ret rfl (jv_ite ((tb_isi (op_var rfl)).of (show _ = false from rfl)) (fun hx => Bool.noConfusion hx) fun _ => EV.of (jv_join (jv_cst _) (op_var rfl) (join_runT (ts := ["back"]) (n := 10) (m := 1) (fun t ht => by rw [List.mem_singleton.mp ht, l9]; decide) (by decide) (by rw [l3]; decide))) ?_))
    exact congrArg (fun s => Vl.dat (.str s)) (show Txt.join (Str.ofString ":") [Str.ofString "back"] = Str.ofString "back" from StrLaws.glued_eq_join _ _)
  · subst e
    have hl := wS_asc hb
    refine gives_js (startE w15.n [_]) rfl rfl (js_ret rfl (jv_ite ((tb_isi (op_var rfl)).of (show _ = false from rfl)) (fun hx => Bool.noConfusion hx) fun _ => EV.of (jv_join (jv_cst _) (op_var rfl) (join_runT (ts := ["fail", b]) (n := 10) (m := 2) (fun t ht => by
      rcases List.mem_cons.mp ht with e | ht
      · rw [e, l7]; decide
      · rw [List.mem_singleton.mp ht]; exact hl.2) (Nat.le_refl _) (by rw [l3]; decide))) ?_))
    exact congrArg (fun s => Vl.dat (.str s)) (show Txt.join (Str.ofString ":") [Str.ofString "fail", b] = Str.ofString "fail" ++ Str.ofString ":" ++ b from StrLaws.glued_eq_join _ _)
theorem g16 (h : wH d = true) : Gives (evF Pr (n + 1)) 16 d (handT d) := by
  show runF (evF Pr n) w16 [.dat d] = _
  obtain ⟨a, i, e, ha, hi⟩ := wH_of h
  subst e
  have hl := wS_asc ha
  have h2 := int_len (wI_of hi).2
  have h3 : (star a).length ≤ 10 := by
    unfold star
    split
    · rw [l6]; decide
    · exact hl.2
  refine gives_js (startE w16.n [_]) rfl rfl (js_ret rfl (jv_bin (op_ev (jv_bin (x := .str (star a)) (op_ev (v := .dat (.str (star a))) (jv_ite (tb_cmp (op_ix (op_var rfl) (op_cst _) rfl) (op_cst _) (eqE hl.1)) (fun hx => ?_) fun hx => ?_) rfl rfl) (op_cst _) (badS (by rw [l4]; omega))) rfl rfl) (op_ev (jv_blt (op_ix (op_var rfl) (op_cst _) rfl) (str_int (wI_of hi).2)) rfl rfl) (badS (by rw [len_app, l4]; omega))))
  · rw [star_t (by rw [hx]; rfl)]; exact jv_cst _
  · rw [star_f (by rw [hx]; rfl)]; exact jv_ix (op_var rfl) (op_cst _) rfl
theorem g17 (h : Lw d) : Gives (evF Pr (n + 2)) 17 d (lineT d) := by
  show runF (evF Pr (n + 1)) w17 [.dat d] = _
  obtain ⟨cs, ws, hs, e, hc, hw, hh, lc, lw, lh⟩ := h.ex
  subst e
  obtain ⟨j1, j2, j3, jb⟩ := parts_b hc hw hh lc lw lh
  refine gives_js [some (.dat (.tuple [.tuple cs, .tuple ws, .tuple hs])), some (.dat (.str (Txt.join "," (cs.map callT)))), some (.dat (.str (Txt.join "," (ws.map wayT)))), some (.dat (.str (Txt.join "," (hs.map handT)))), none] rfl rfl ?_
  refine js_asg (jv_join (jv_cst _) (op_ev (jv_compm (g := fun x => .str (callT x)) rfl (opl_ix (op_var rfl) (op_cst _) rfl) rfl fun x hx => ⟨_, jv_gives (ar_var rfl) (g14 (List.all_eq_true.mp hc x hx)), rfl⟩) rfl rfl) j1) rfl (show 1 < 5 by decide) ?_
  refine js_asg (jv_join (jv_cst _) (op_ev (jv_compm (g := fun x => .str (wayT x)) rfl (opl_ix (op_var rfl) (op_cst _) rfl) rfl fun x hx => ⟨_, jv_gives (ar_var rfl) (g15 (List.all_eq_true.mp hw x hx)), rfl⟩) rfl rfl) j2) rfl (show 2 < 5 by decide) ?_
  refine js_asg (jv_join (jv_cst _) (op_ev (jv_compm (g := fun x => .str (handT x)) rfl (opl_ix (op_var rfl) (op_cst _) rfl) rfl fun x hx => ⟨_, jv_gives (ar_var rfl) (g16 (List.all_eq_true.mp hh x hx)), rfl⟩) rfl rfl) j3) rfl (show 3 < 5 by decide) ?_
  refine js_ret rfl (jv_join (jv_cst _) (op_ev (jv_lst (dv_cons (jv_var rfl) rfl <| dv_cons (jv_var rfl) rfl <| dv_cons (v := .dat (.str (hsT hs))) (jv_ite (tb_cmp (op_ix (op_var rfl) (op_cst _) rfl) (op_ev jv_tnil rfl rfl) (ne_hs hh)) (fun hx => ?_) fun hx => ?_) rfl dv_nil)) rfl rfl) ?_)
  · unfold hsT
    rw [isE_f hx]
    exact jv_var rfl
  · unfold hsT
    rw [isE_t hx]
    exact jv_cst _
  · rw [lineT_eq]
    exact join_run (ts := [Txt.join "," (cs.map callT), Txt.join "," (ws.map wayT), hsT hs]) jb (m := 3) (Nat.le_refl _) (by rw [l2]; decide)
end
end K08
set_option Elab.async false
set_option linter.all false
set_option maxRecDepth 100000
set_option maxHeartbeats 4100000
namespace K08
open PySem Pv
structure Fw (f : D) : Prop where
  ex : ∃ t ls, f = .tuple [.str t, .tuple ls] ∧ wS t = true ∧ ls.length ≤ 12 ∧ ∀ l ∈ ls, Lw l
structure Wh (fs : List D) : Prop where
  len : fs.length ≤ 8
  fn : ∀ f ∈ fs, Fw f
  ne : fs ≠ []
  rp : Rpr (.tuple fs)
def fnT : D → List Str
  | .tuple [.str t, .tuple ls] => (Str.ofString "function " ++ t) :: ls.map lineT
  | _ => []
def rowsT (fs : List D) : List Str := fs.flatMap fnT
def pageT (fs : List D) : Str := Txt.join "\n" (rowsT fs)
theorem rows_app (xs ys : List D) : rowsT (xs ++ ys) = rowsT xs ++ rowsT ys := List.flatMap_append
theorem rows_one (f : D) : rowsT [f] = fnT f := by unfold rowsT; rw [List.flatMap_cons, List.flatMap_nil, List.append_nil]
theorem rows_len : ∀ {fs : List D}, (∀ f ∈ fs, Fw f) → (rowsT fs).length ≤ 13 * fs.length
  | [], _ => Nat.le_refl _
  | f :: fs, h => by
    obtain ⟨t, ls, e, _, hl, _⟩ := (h f (.head _)).ex
    have ih := rows_len (fs := fs) fun g hg => h g (.tail _ hg)
    have e2 : rowsT (f :: fs) = fnT f ++ rowsT fs := List.flatMap_cons
    rw [e2, e, List.length_append, List.length_cons]
    show ((Str.ofString "function " ++ t) :: ls.map lineT).length + _ ≤ _
    rw [List.length_cons, List.length_map]
    omega
theorem rows_b {fs : List D} (h : ∀ f ∈ fs, Fw f) : ∀ t ∈ rowsT fs, t.length ≤ 4000 ∧ Pl t := fun t ht => by
  obtain ⟨f, hf, ht⟩ := List.mem_flatMap.mp ht
  obtain ⟨x, ls, e, hx, hl, hh⟩ := (h f hf).ex
  subst e
  have hs := wS_asc hx
  rcases List.mem_cons.mp ht with e | ht
  · rw [e]
    exact ⟨by rw [len_app, l11]; omega, (pl_lit _).app (pl_asc hs.1)⟩
  · obtain ⟨y, hy, e⟩ := List.mem_map.mp ht
    exact e ▸ line_b (hh y hy)
theorem page_b {fs : List D} (h : Wh fs) : join2 "\n" (.list ((rowsT fs).map .str)) = some (pageT fs) ∧ (pageT fs).length ≤ 1000000 ∧ Pl (pageT fs) := by
  have hl : (rowsT fs).length ≤ 104 := by have := rows_len h.fn; have := h.len; omega
  have b := rows_b h.fn
  have b1 := join_len (s := "\n") (fun t ht => (b t ht).1) hl
  rw [l12] at b1
  exact ⟨join_run (fun t ht => (b t ht).1) hl (by rw [l12]; decide), by show (Txt.join _ _).length ≤ _; omega, join_pl (pl_lit _) fun t ht => (b t ht).2⟩
theorem cs_eq {r : Res (Vl × List (Option Vl))} {q : Vl × List (Option Vl)} (h : CS r fun p => p = q) : r = .ok q := by
  obtain ⟨p, e, hp⟩ := Res.sat_iff.mp h.sat
  rw [e, hp]
def pgE (fs : List D) (rows : List Str) (o o' : Option Vl) : Pv.Env := [some (.dat (.tuple fs)), some (.lst (rows.map .str)), o, o', none]
section
variable {n : Nat} {d : D} {fs : List D}
theorem fn_map {t : Str} {ls : List D} {done : List D} : ((rowsT done).map PyData.str ++ [.str (Str.ofString "function " ++ t)]) ++ ls.map (fun l => .str (lineT l)) = (rowsT (done ++ [.tuple [.str t, .tuple ls]])).map .str := by
  rw [rows_app, rows_one, List.map_append, map_str, List.append_assoc]; rfl
theorem g2 (h : Wh fs) : Gives (evF Pr (n + 5)) 2 (.tuple fs) (pageT fs) := by
  refine cs_eq (cs_run (d := w2) rfl rfl ?_)
  refine xs_asg rfl (xe_ev (jv_lst dv_nil) ⟨show 1 < 5 by decide, ?_⟩)
  refine xs_forv (ds := fs) rfl rfl rfl ?_
  refine forTurns_sat (I := fun rest ρ => ∃ done o o', fs = done ++ rest ∧ ρ = pgE fs (rowsT done) o o') ?_ ?_ _ _ ⟨[], none, none, rfl, rfl⟩
  · rintro ρ ⟨done, o, o', e, e2⟩
    rw [List.append_nil] at e
    subst e2
    exact xs_ret rfl (xe_ev (jv_join (jv_cst _) (op_lst (ds := (rowsT done).map .str) rfl) (e ▸ (page_b h).1)) rfl)
  · rintro f rest ρ ⟨done, o, o', e, e2⟩
    subst e2
    have hfm : f ∈ fs := by rw [e]; exact List.mem_append.mpr (.inr (.head _))
    have hdn : ∀ g ∈ done, Fw g := fun g hg => h.fn g (by rw [e]; exact List.mem_append.mpr (.inl hg))
    have hdl : done.length ≤ 8 := by have := h.len; rw [e, List.length_append] at this; omega
    have hrl := rows_len hdn
    obtain ⟨t, ls, ef, ht, hl, hh⟩ := (h.fn f hfm).ex
    subst ef
    have hs := wS_asc ht
    refine ⟨pgE fs (rowsT done) (some (.dat (.str t))) (some (.dat (.tuple ls))), rfl, XS.sat ?_⟩
    refine xs_app rfl (xe_ev (jv_fstr (fv_cons (jv_cst _) (txt_str (by rw [l11]; decide)) (by rw [empty_app, l11]; decide) <| fv_cons (jv_var rfl) (txt_str (by omega)) (by rw [empty_app, len_app, l11]; omega) fv_nil)) ⟨_, _, rfl, rfl, by rw [List.length_map]; omega, ?_⟩)
    refine xs_ext rfl rfl (xe_ev (jv_compm (g := fun l => .str (lineT l)) rfl (opl_var rfl) rfl fun l hl' => ⟨_, jv_gives (ar_var rfl) (g3 (hh l hl')), rfl⟩) ⟨_, _, rfl, rfl, by rw [List.length_append, List.length_map, List.length_map, List.length_singleton]; omega, ?_⟩)
    refine xs_nil ⟨done ++ [.tuple [.str t, .tuple ls]], some (.dat (.str t)), some (.dat (.tuple ls)), by rw [List.append_assoc]; exact e, ?_⟩
    unfold pgE
    rw [← fn_map, empty_app]; rfl
theorem g18 (h : Wh fs) : Gives (evF Pr (n + 3)) 18 (.tuple fs) (pageT fs) := by
  refine cs_eq (cs_run (d := w18) rfl rfl ?_)
  refine xs_asg rfl (xe_ev (jv_lst dv_nil) ⟨show 1 < 5 by decide, ?_⟩)
  refine xs_forv (ds := fs) rfl rfl rfl ?_
  refine forTurns_sat (I := fun rest ρ => ∃ done o o', fs = done ++ rest ∧ ρ = pgE fs (rowsT done) o o') ?_ ?_ _ _ ⟨[], none, none, rfl, rfl⟩
  · rintro ρ ⟨done, o, o', e, e2⟩
    rw [List.append_nil] at e
    subst e2
    exact xs_ret rfl (xe_ev (jv_join (jv_cst _) (op_lst (ds := (rowsT done).map .str) rfl) (e ▸ (page_b h).1)) rfl)
  · rintro f rest ρ ⟨done, o, o', e, e2⟩
    subst e2
    have hfm : f ∈ fs := by rw [e]; exact List.mem_append.mpr (.inr (.head _))
    have hdn : ∀ g ∈ done, Fw g := fun g hg => h.fn g (by rw [e]; exact List.mem_append.mpr (.inl hg))
    have hdl : done.length ≤ 8 := by have := h.len; rw [e, List.length_append] at this; omega
    have hrl := rows_len hdn
    obtain ⟨t, ls, ef, ht, hl, hh⟩ := (h.fn f hfm).ex
    subst ef
    have hs := wS_asc ht
    refine ⟨pgE fs (rowsT done) (some (.dat (.str t))) (some (.dat (.tuple ls))), rfl, XS.sat ?_⟩
    refine xs_app rfl (xe_ev (jv_bin (op_cst _) (op_var rfl) (badS (by rw [l11]; omega))) ⟨_, _, rfl, rfl, by rw [List.length_map]; omega, ?_⟩)
    refine xs_ext rfl rfl (xe_ev (jv_compm (g := fun l => .str (lineT l)) rfl (opl_var rfl) rfl fun l hl' => ⟨_, jv_gives (ar_var rfl) (g17 (hh l hl')), rfl⟩) ⟨_, _, rfl, rfl, by rw [List.length_append, List.length_map, List.length_map, List.length_singleton]; omega, ?_⟩)
    refine xs_nil ⟨done ++ [.tuple [.str t, .tuple ls]], some (.dat (.str t)), some (.dat (.tuple ls)), by rw [List.append_assoc]; exact e, ?_⟩
    unfold pgE
    rw [← fn_map]; rfl
/-! ### spots -/
def spotsT (xs : List D) : Str := if xs.isEmpty then Str.ofString "-" else Txt.join " " (xs.map spotT)
theorem spot_b {x : D} (h : wH x = true) : (spotT x).length ≤ 80 ∧ Pl (spotT x) := by
  obtain ⟨a, i, e, ha, hi⟩ := wH_of h
  subst e
  have h1 := wS_asc ha
  have h2 := int_len (wI_of hi).2
  refine ⟨?_, ((pl_asc h1.1).app (pl_lit _)).app (pl_int i)⟩
  show (a ++ Str.ofString ":" ++ toString i).length ≤ 80
  rw [len_app, len_app, l3]
  omega
theorem g7 (h : wH d = true) : Gives (evF Pr (n + 1)) 7 d (spotT d) := by
  show runF (evF Pr n) w7 [.dat d] = _
  obtain ⟨a, i, e, ha, hi⟩ := wH_of h
  subst e
  have hl := wS_asc ha
  have h2 := int_len (wI_of hi).2
  refine gives_js [some (.dat (.tuple [.str a, .int i])), some (.dat (.str a)), some (.dat (.int i))] rfl rfl (js_unp (jv_var rfl) rfl rfl rfl (js_ret rfl (EV.of (jv_fstr (fv_cons (jv_var rfl) (txt_str (by omega)) (by rw [empty_app]; omega) <| fv_cons (jv_cst _) (txt_str (by rw [l3]; decide)) (by rw [empty_app, len_app, l3]; omega) <| fv_cons (jv_var rfl) (txt_int (wI_of hi).2) (by rw [empty_app, len_app, len_app, l3]; omega) fv_nil)) ?_)))
  rw [empty_app]; rfl
theorem spots_run {xs : List D} (h : xs.all wH = true) (hl : xs.length ≤ 100) : join2 " " (.list (xs.map fun x => .str (spotT x))) = some (Txt.join " " (xs.map spotT)) ∧ (spotsT xs).length ≤ 10000 ∧ Pl (spotsT xs) := by
  have q : ∀ t ∈ xs.map spotT, t.length ≤ 80 ∧ Pl t := fun t ht => by
    obtain ⟨x, hx, e⟩ := List.mem_map.mp ht
    exact e ▸ spot_b (List.all_eq_true.mp h x hx)
  have m : (xs.map spotT).length ≤ 100 := by rw [List.length_map]; exact hl
  have b := join_len (s := " ") (fun t ht => (q t ht).1) m
  rw [l2] at b
  refine ⟨by rw [map_str]; exact join_run (fun t ht => (q t ht).1) m (by rw [l2]; decide), ?_, ?_⟩
  · unfold spotsT
    split
    · rw [l5]; decide
    · omega
  · unfold spotsT
    split
    · exact pl_lit _
    · exact join_pl (pl_lit _) fun t ht => (q t ht).2
theorem gt0 (xs : List D) : cmp2 .gt (.int xs.length) (.int 0) = some (!xs.isEmpty) := by
  cases xs with
  | nil => rfl
  | cons x xs => exact congrArg some (decide_eq_true (by show (0 : Int) < ((x :: xs).length : Nat); rw [List.length_cons]; omega))
theorem g6 {xs : List D} (h : xs.all wH = true) (hl : xs.length ≤ 100) : Gives (evF Pr (n + 2)) 6 (.tuple xs) (spotsT xs) := by
  show runF (evF Pr (n + 1)) w6 [.dat (.tuple xs)] = _
  refine gives_js (startE w6.n [_]) rfl rfl (js_ret rfl (jv_ite (tb_cmp (op_ev (jv_blt (op_var rfl) rfl) rfl rfl) (op_cst _) (gt0 xs)) (fun hx => ?_) fun hx => ?_))
  · unfold spotsT
    rw [isE_f hx]
    exact jv_join (jv_cst _) (op_ev (jv_compm (g := fun x => .str (spotT x)) rfl (opl_var rfl) rfl fun x hx => ⟨_, jv_gives (ar_var rfl) (g7 (List.all_eq_true.mp h x hx)), rfl⟩) rfl rfl) (spots_run h hl).1
  · unfold spotsT
    rw [isE_t hx]
    exact jv_cst _
theorem g19 {xs : List D} (h : xs.all wH = true) (hl : xs.length ≤ 100) : Gives (evF Pr (n + 1)) 19 (.tuple xs) (spotsT xs) := by
  show runF (evF Pr n) w19 [.dat (.tuple xs)] = _
  refine gives_js (startE w19.n [_]) rfl rfl (js_ret rfl (jv_ite (tb_cmp (op_var rfl) (op_ev jv_tnil rfl rfl) (ne_hs h)) (fun hx => ?_) fun hx => ?_))
  · unfold spotsT
    rw [isE_f hx]
    refine jv_join (jv_cst _) (op_ev (jv_compm (g := fun x => .str (spotT x)) rfl (opl_var rfl) rfl fun x hx => ?_) rfl rfl) (spots_run h hl).1
    obtain ⟨a, i, e, ha, hi⟩ := wH_of (List.all_eq_true.mp h x hx)
    subst e
    have hl := wS_asc ha
    have h2 := int_len (wI_of hi).2
    exact ⟨.dat (.str (a ++ Str.ofString ":" ++ toString i)), jv_bin (op_ev (jv_bin (op_ix (op_var rfl) (op_cst _) rfl) (op_cst _) (badS (by rw [l3]; omega))) rfl rfl) (op_ev (jv_blt (op_ix (op_var rfl) (op_cst _) rfl) (str_int (wI_of hi).2)) rfl rfl) (badS (by rw [len_app, l3]; omega)), rfl⟩
  · unfold spotsT
    rw [isE_t hx]
    exact jv_cst _
theorem tb_alike {cl : Fun} {ρ : Pv.Env} {a b : T} {s : Str} (h : OP cl a ρ (.str s)) (k : OP cl b ρ (.str s)) (hp : Pl s) (hl : s.length ≤ 1000000) : TB cl (.cmp .ne (.blt .repr a) (.blt .repr b)) ρ false := by
  have hc : (PyData.str s).canLay0 = true := by unfold PyData.canLay0; exact hp.ok
  exact (tb_cmp (op_ev (jv_blt h (repr_str hp hl)) rfl rfl) (op_ev (jv_blt k (repr_str hp hl)) rfl rfl) (nes (shp_shown hc) (shp_shown hc))).of (by rw [eqv_refl_str]; rfl)
/-- [x for x in xs if ..], where none is -/
theorem jv_none {cl : Fun} {ρ : Pv.Env} {j : Nat} {elt it c : T} {x : D} {ds : List D} (hj : ρ[j]? = some none) (h : OPL cl it ρ x) (hi : itemsOf .seq x = some ds)
    (hf : ∀ d ∈ ds, TB cl c (ρ.set j (some (.dat d))) false) : EV cl (.comp elt [j] (.nm j) .seq it (some c)) ρ (.lst []) := by
  have e := jv_comp (cl := cl) (elt := elt) (c := some c) (p := fun _ => false) (g := fun d => d) hj h hi (fun d hd => by unfold evC; exact hf d hd) (fun d _ hp => Bool.noConfusion hp)
  rw [show ds.filter (fun _ => false) = [] from List.filter_eq_nil_iff.mpr fun _ _ h => Bool.noConfusion h] at e
  exact e
theorem g22 {ls : List D} (h : ∀ l ∈ ls, Lw l) : Told (evF Pr (n + 5)) 22 (.tuple ls) true := by
  show runF (evF Pr (n + 4)) w22 [.dat (.tuple ls)] = _
  exact told_js (startE w22.n [_]) rfl rfl (js_ret rfl ((eb_cmp (op_ev (jv_none rfl (opl_var rfl) rfl fun l hl => tb_alike (op_ev (jv_gives (ar_var rfl) (g3 (h l hl))) rfl rfl) (op_ev (jv_gives (ar_var rfl) (g17 (h l hl))) rfl rfl) (line_b (h l hl)).2 (by have := (line_b (h l hl)).1; omega)) rfl rfl) (op_ev (jv_lst dv_nil) rfl rfl) (eqs rfl rfl)).of rfl))
theorem pairs_of : ∀ ps : List (Str × Int), pairsOf (ps.map pairD) = some ps
  | [] => rfl
  | p :: ps => by
    show (pairsOf (ps.map pairD)).map _ = _
    rw [pairs_of ps]; rfl
def spE (fs : List D) (ps : List (Str × Int)) (o o' : Option Vl) : Pv.Env := [some (.dat (.tuple fs)), some (.lst (ps.map pairD)), o, o', none]
theorem g21 (h : Wh fs) : CS (evF Pr (n + 1) 21 [.dat (.tuple fs)]) fun p => ∃ ys, p = (.lst ys, [some (.dat (.tuple fs))]) ∧ ys.all wH = true ∧ ys.length ≤ 96 := by
  refine cs_run (d := w21) rfl rfl ?_
  refine xs_asg rfl (xe_ev (jv_lst dv_nil) ⟨show 1 < 5 by decide, ?_⟩)
  refine xs_forv (ds := fs) rfl rfl rfl ?_
  refine forTurns_sat (I := fun rest ρ => ∃ ps o o', (∀ f ∈ rest, Fw f) ∧ ρ = spE fs ps o o' ∧ (∀ p ∈ ps, wH (pairD p) = true) ∧ ps.length + 12 * rest.length ≤ 96) ?_ ?_ _ _ ⟨[], none, none, h.fn, rfl, fun _ hp => (nomatch hp), by have := h.len; show 0 + _ ≤ _; omega⟩
  · rintro ρ ⟨ps, o, o', _, e, hp, hl⟩
    subst e
    have hl' : ps.length ≤ 96 := by have : ([] : List D).length = 0 := rfl; omega
    refine xs_ret rfl (xe_ev (jv_blt (op_lst (ds := ps.map pairD) rfl) (v := .lst ((sortP ps).map pairD)) (by show (pairsOf (ps.map pairD)).map _ = _; rw [pairs_of]; rfl)) ⟨_, rfl, ?_, ?_⟩)
    · refine List.all_eq_true.mpr fun y hy => ?_
      obtain ⟨p, hpm, e⟩ := List.mem_map.mp hy
      exact e ▸ hp p ((List.mergeSort_perm ps leP).mem_iff.mp hpm)
    · rw [List.length_map]
      have : (sortP ps).length = ps.length := (List.mergeSort_perm ps leP).length_eq
      omega
  · rintro f rest ρ ⟨ps, o, o', hr, e, hp, hl⟩
    subst e
    rw [List.length_cons] at hl
    obtain ⟨t, ls, ef, ht, hll, hh⟩ := (hr f (.head _)).ex
    subst ef
    refine ⟨spE fs ps (some (.dat (.str t))) (some (.dat (.tuple ls))), rfl, XS.sat ?_⟩
    have hi : itemsOf .rng (.int (ls.length : Nat)) = some (nums ls.length) := rng_items (by omega) (by omega)
    have em : (nums ls.length).map (fun x => PyData.tuple [.str t, x]) = ((List.range ls.length).map fun k => (t, ((k : Nat) : Int))).map pairD := by
      unfold nums
      rw [List.map_map, List.map_map]; rfl
    refine xs_ext rfl rfl (xe_ev (jv_compm (g := fun x => .tuple [.str t, x]) rfl (opl_ev (jv_blt (op_var rfl) rfl) rfl rfl) hi fun x hx => ⟨_, jv_tup (dv_cons (jv_var rfl) rfl <| dv_cons (jv_var rfl) rfl dv_nil), rfl⟩) ⟨_, _, rfl, rfl, by rw [List.length_map, List.length_map, nums_len]; omega, ?_⟩)
    refine xs_nil ⟨ps ++ (List.range ls.length).map fun k => (t, ((k : Nat) : Int)), some (.dat (.str t)), some (.dat (.tuple ls)), fun g hg => hr g (.tail _ hg), ?_, fun p hpm => ?_, by rw [List.length_append, List.length_map, List.length_range]; omega⟩
    · unfold spE
      rw [List.map_append, ← em]; rfl
    · rcases List.mem_append.mp hpm with hpm | hpm
      · exact hp p hpm
      · obtain ⟨k, hk, e⟩ := List.mem_map.mp hpm
        have hk := List.mem_range.mp hk
        subst e
        show (wS t && wI ((k : Nat) : Int)) = true
        rw [ht]
        unfold wI
        rw [decide_eq_true (by omega), decide_eq_true (show ((k : Nat) : Int).natAbs < 10 ^ 60 by
          have : ((k : Nat) : Int).natAbs = k := Int.natAbs_natCast k
          omega)]
        rfl
end
end K08
set_option Elab.async false
set_option linter.all false
set_option maxRecDepth 100000
set_option maxHeartbeats 4100000
namespace K08
open PySem Pv
/-! ### programs by hand -/
def tl (p : D → Bool) : D → Bool
  | .tuple xs => xs.all p && decide (xs.length ≤ 20)
  | _ => false
def lwB : D → Bool
  | .tuple [a, b, c] => tl wC a && (tl wW b && tl wH c)
  | _ => false
def tlw : D → Bool
  | .tuple ls => ls.all lwB && decide (ls.length ≤ 12)
  | _ => false
def fwB : D → Bool
  | .tuple [.str t, b] => wS t && tlw b
  | _ => false
theorem tl_of {p : D → Bool} {d : D} (h : tl p d = true) : ∃ xs, d = .tuple xs ∧ xs.all p = true ∧ xs.length ≤ 20 := by
  unfold tl at h
  split at h
  · rw [Bool.and_eq_true, decide_eq_true_eq] at h
    exact ⟨_, rfl, h.1, h.2⟩
  · cases h
theorem lw_of {d : D} (h : lwB d = true) : Lw d := by
  unfold lwB at h
  split at h
  · rw [Bool.and_eq_true, Bool.and_eq_true] at h
    obtain ⟨cs, e1, c1, c2⟩ := tl_of h.1
    obtain ⟨ws, e2, w1, w2⟩ := tl_of h.2.1
    obtain ⟨hs, e3, h1, h2⟩ := tl_of h.2.2
    subst e1 e2 e3
    exact ⟨cs, ws, hs, rfl, c1, w1, h1, c2, w2, h2⟩
  · cases h
theorem fw_of {d : D} (h : fwB d = true) : Fw d := by
  unfold fwB at h
  split at h
  · rename_i t b
    rw [Bool.and_eq_true] at h
    obtain ⟨h1, h2⟩ := h
    unfold tlw at h2
    split at h2
    · rw [Bool.and_eq_true, decide_eq_true_eq] at h2
      exact ⟨t, _, rfl, h1, h2.2, fun l hl => lw_of (List.all_eq_true.mp h2.1 l hl)⟩
    · cases h2
  · cases h
def whB (fs : List D) : Bool := decide (fs.length ≤ 8) && (fs.all fwB && (!fs.isEmpty && (lgAll fs && (decide (PyData.depthAll fs ≤ 20) && decide (PyData.weightAll fs ≤ 200000)))))
theorem wh_of {fs : List D} (h : whB fs = true) : Wh fs := by
  unfold whB at h
  rw [Bool.and_eq_true, Bool.and_eq_true, Bool.and_eq_true, Bool.and_eq_true, Bool.and_eq_true] at h
  obtain ⟨h1, h2, h3, h4, h5, h6⟩ := h
  have h5 := of_decide_eq_true h5
  have h6 := of_decide_eq_true h6
  obtain ⟨k1, k2, k3⟩ := lg_goods fs h4
  refine ⟨of_decide_eq_true h1, fun f hf => fw_of (List.all_eq_true.mp h2 f hf), (fun e => by subst e; cases h3), ?_⟩
  exact ⟨by unfold PyData.canLay0; exact k1, by unfold PyData.leavesShort; exact k2, by unfold PyData.showable; exact k3, by rw [d_tup]; omega, by rw [w_tup]; omega⟩
def lstOf : Res (Vl × List (Option Vl)) → List D
  | .ok (.lst ds, _) => ds
  | .ok (.dat (.tuple ds), _) => ds
  | _ => []
def okL : Res (Vl × List (Option Vl)) → Bool
  | .ok (.lst _, []) => true
  | _ => false
def okT : Res (Vl × List (Option Vl)) → Bool
  | .ok (.dat (.tuple _), []) => true
  | _ => false
theorem okL_eq {r : Res (Vl × List (Option Vl))} (h : okL r = true) : r = .ok (.lst (lstOf r), []) := by
  unfold okL at h
  split at h
  · rfl
  · cases h
theorem okT_eq {r : Res (Vl × List (Option Vl))} (h : okT r = true) : r = .ok (.dat (.tuple (lstOf r)), []) := by
  unfold okT at h
  split at h
  · rfl
  · cases h
def RL : List D := lstOf (evF Pr 199 20 [])
def F1 : List D := lstOf (evF Pr 199 12 [])
theorem rl_ok : okL (evF Pr 199 20 []) = true := by decide +kernel
theorem f1_ok : okT (evF Pr 199 12 []) = true := by decide +kernel
theorem rl_len : RL.length = 7 := by decide +kernel
theorem f1_wh : Wh F1 := wh_of (by decide +kernel)
def strange (r : Int) (x : D) : List D := [.tuple [.str "f", .tuple (cutL RL (some r) none)], .tuple [.str "f", .tuple RL], .tuple [.str "function", .tuple [x]]] ++ [.tuple [.str "a", .tuple (List.replicate 9 (cutL RL none (some 1))).flatten]]
theorem st_wh : ∀ r : Fin 7, whB (strange (r.val : Nat) (RL.getD r.val .none)) = true := by decide +kernel
/-! ### drawn programs -/
theorem cl_w {x : D} (h : pNameE x = true) (hs : Sm 41 8 150 x) : wC x = true := by
  unfold pNameE at h
  rw [Bool.or_eq_true] at h
  have hx : ∃ s, x = .str s ∧ s.length ≤ 10 := by
    rcases h with h | h
    · cases x <;> first | (cases h; done) | skip
      rename_i s
      have h' : ((decide (1 ≤ s.length) && decide (s.length ≤ 8)) && s.cps.toList.all lett) = true := h
      rw [Bool.and_eq_true, Bool.and_eq_true] at h'
      exact ⟨s, rfl, by have := of_decide_eq_true h'.1.2; omega⟩
    · rw [Bool.and_eq_true] at h
      obtain ⟨s, e⟩ := str_of h.1
      subst e
      refine ⟨s, rfl, ?_⟩
      have : s = Str.ofString "" := by
        have h2 := h.2
        rw [eqvE] at h2
        exact of_decide_eq_true h2
      rw [this]; decide +kernel
  obtain ⟨s, e, hl⟩ := hx
  subst e
  show (s.cps.toList.all (· < 128) && decide (s.length ≤ 10)) = true
  rw [decide_eq_true hl, Bool.and_true]
  exact List.all_eq_true.mpr fun c hc => decide_eq_true (hs.asc c hc)
theorem num_w {x : D} (h : pNum x = true) (hs : lf 41 x = true) : ∃ i, x = .int i ∧ wI i = true := by
  unfold pNum at h
  rw [Bool.and_eq_true] at h
  obtain ⟨i, e⟩ := pInt_int h.1
  subst e
  refine ⟨i, rfl, ?_⟩
  unfold lf at hs
  have h1 := of_decide_eq_true hs
  unfold wI
  rw [show decide (0 ≤ i) = true from h.2, decide_eq_true (show i.natAbs < 10 ^ 60 by omega)]; rfl
theorem eqv_s {a : D} {s : Str} (h : PyData.eqv a (.str s) = true) : a = .str s := by
  obtain ⟨y, e⟩ := str_of (eqv_str h)
  subst e
  have : (y == s) = true := h
  rw [beq_iff_eq] at this
  rw [this]
theorem way_w {x : D} (h : pWay x = true) (hs : Sm 41 8 150 x) : wW x = true := by
  unfold pWay at h
  rw [Bool.or_eq_true] at h
  rcases h with h | h
  · obtain ⟨i, e, hi⟩ := num_w h hs.lv
    subst e; exact hi
  · unfold pEnd at h
    split at h
    · rename_i hp
      obtain ⟨a, b, e⟩ := pair_of hp
      subst e
      rw [Bool.and_eq_true, Bool.and_eq_true] at h
      have ea : a = .str "fail" := eqv_s h.2.1
      have hb := hs.mem (.tail _ (.head _) : b ∈ [a, b])
      have hb' := cl_w (x := b) (by unfold pNameE; rw [show pName b = true from h.2.2]; rfl) ⟨hb.1, by omega, by omega⟩
      obtain ⟨s, es, hs'⟩ := wC_of hb'
      subst ea es
      show (decide (Str.ofString "fail" = Str.ofString "fail") && wS s) = true
      rw [hs', decide_eq_true rfl]; rfl
    · rw [Bool.and_eq_true] at h
      obtain ⟨xs, e⟩ := tup_of h.1
      subst e
      have h2 : PyData.eqvAll xs [.str "back"] = true := h.2
      cases xs with
      | nil => cases h2
      | cons y ys =>
        have h3 : (PyData.eqv y (.str "back") && PyData.eqvAll ys []) = true := h2
        rw [Bool.and_eq_true] at h3
        have ey := eqv_s h3.1
        cases ys with
        | nil =>
          subst ey
          show decide (Str.ofString "back" = Str.ofString "back") = true
          exact decide_eq_true rfl
        | cons _ _ => cases h3.2
theorem hand_w {x : D} (h : pHand x = true) (hs : Sm 41 8 150 x) : wH x = true := by
  unfold pHand at h
  rw [Bool.and_eq_true, Bool.and_eq_true] at h
  obtain ⟨a, b, e⟩ := pair_of h.1
  subst e
  have ha := hs.mem (.head _ : a ∈ [a, b])
  have hb := hs.mem (.tail _ (.head _) : b ∈ [a, b])
  have ha' := cl_w (x := a) h.2.1 ⟨ha.1, by omega, by omega⟩
  obtain ⟨s, es, hs'⟩ := wC_of ha'
  obtain ⟨i, ei, hi⟩ := num_w (x := b) h.2.2 hb.1
  subst es ei
  show (wS s && wI i) = true
  rw [hs', hi]; rfl
theorem ln_w {x : D} (h : Ln x) : Lw x := by
  obtain ⟨cs, ws, hs, e⟩ := pLine_of h.ln
  subst e
  have hl : (cs.all pNameE && (ws.all pWay && hs.all pHand)) = true := h.ln
  rw [Bool.and_eq_true, Bool.and_eq_true] at hl
  obtain ⟨c1, c2, c3⟩ := h.cnt cs ws hs rfl
  have s1 : ∀ y ∈ cs, Sm 41 8 150 y := fun y hy => by
    have := h.sm.mem (.head _ : PyData.tuple cs ∈ [.tuple cs, .tuple ws, .tuple hs])
    have z := Sm.mem (B := 41) (k := 3) (w := 150) (xs := cs) ⟨this.1, by omega, by omega⟩ hy
    exact ⟨z.1, by omega, by omega⟩
  have s2 : ∀ y ∈ ws, Sm 41 8 150 y := fun y hy => by
    have := h.sm.mem (.tail _ (.head _) : PyData.tuple ws ∈ [.tuple cs, .tuple ws, .tuple hs])
    have z := Sm.mem (B := 41) (k := 3) (w := 150) (xs := ws) ⟨this.1, by omega, by omega⟩ hy
    exact ⟨z.1, by omega, by omega⟩
  have s3 : ∀ y ∈ hs, Sm 41 8 150 y := fun y hy => by
    have := h.sm.mem (.tail _ (.tail _ (.head _)) : PyData.tuple hs ∈ [.tuple cs, .tuple ws, .tuple hs])
    have z := Sm.mem (B := 41) (k := 3) (w := 150) (xs := hs) ⟨this.1, by omega, by omega⟩ hy
    exact ⟨z.1, by omega, by omega⟩
  exact ⟨cs, ws, hs, rfl, List.all_eq_true.mpr fun y hy => cl_w (List.all_eq_true.mp hl.1 y hy) (s1 y hy), List.all_eq_true.mpr fun y hy => way_w (List.all_eq_true.mp hl.2.1 y hy) (s2 y hy), List.all_eq_true.mpr fun y hy => hand_w (List.all_eq_true.mp hl.2.2 y hy) (s3 y hy), by omega, by omega, by omega⟩
theorem pg_wh {fs : List D} (h : Pg fs) : Wh fs := by
  refine ⟨by have := h.len; omega, fun f hf => ?_, h.ne, h.sm.rpr (by decide) (by decide) (by decide)⟩
  obtain ⟨t, ls, e, hn, hne, hl, hh⟩ := (h.fn f hf).ex
  have ht : wS t = true := by
    have := hn.asc
    unfold wS
    rw [decide_eq_true (show t.length ≤ 10 by omega), Bool.and_true]
    exact List.all_eq_true.mpr fun c hc => decide_eq_true (this.1 c hc)
  exact ⟨t, ls, e, ht, by omega, fun l hl' => ln_w (hh l hl')⟩
end K08
set_option Elab.async false
set_option linter.all false
set_option maxRecDepth 100000
set_option maxHeartbeats 4100000
namespace K08
open PySem Pv
def TS : List Str := ["main", "h", "abcdefgh", "g", "ga", "zz", "a", "fail"]
def ZS : List D := [.int 12, .int 12, .int 10, .int 2, .int 1, .int 1, .int 1, .int 1]
def KS : List D := [.str "k", .str "bad", .str "kk", .str "zz", .str "back", .str "a"]
theorem ts_ok : ∀ t ∈ TS, wS t = true ∧ t.length ≤ 8 := fun t ht => by
  have h : (TS.all fun t => wS t && decide (t.length ≤ 8)) = true := by decide +kernel
  have := List.all_eq_true.mp h t ht
  rw [Bool.and_eq_true, decide_eq_true_eq] at this
  exact this
theorem zs_ok : ∀ x ∈ ZS, ∃ z : Nat, x = .int (z : Nat) ∧ 1 ≤ z ∧ z ≤ 12 :=
  am_cons ⟨12, rfl, by decide, by decide⟩ <| am_cons ⟨12, rfl, by decide, by decide⟩ <| am_cons ⟨10, rfl, by decide, by decide⟩ <| am_cons ⟨2, rfl, by decide, by decide⟩ <| am_cons ⟨1, rfl, by decide, by decide⟩ <| am_cons ⟨1, rfl, by decide, by decide⟩ <| am_cons ⟨1, rfl, by decide, by decide⟩ <| am_cons ⟨1, rfl, by decide, by decide⟩ am_nil
theorem ks_ok : ∀ x ∈ KS, ∃ s, x = .str s ∧ wS s = true ∧ Sm 41 0 4 x := fun x hx => by
  have h : (KS.all fun x => wC x && smB 41 0 4 x) = true := by decide +kernel
  have := List.all_eq_true.mp h x hx
  rw [Bool.and_eq_true] at this
  obtain ⟨s, e, hs⟩ := wC_of this.1
  exact ⟨s, e, hs, sm_of this.2⟩
theorem cutL_map {α β : Type} (f : α → β) (xs : List α) (lo hi : Option Int) : cutL (xs.map f) lo hi = (cutL xs lo hi).map f := by
  unfold cutL
  rw [List.length_map, ← List.map_drop, ← List.map_take]
/-- a line that is so, and small -/
structure Lg (l : D) : Prop where
  lw : Lw l
  sm : Sm 41 3 400 l
structure Fg (f : D) : Prop where
  fw : Fw f
  sm : Sm 41 5 5000 f
theorem int_sm {i : Int} (h0 : 0 ≤ i) (h : i ≤ 12) : Sm 41 0 6 (.int i) := sm_int (by decide) (by omega)
theorem wI_small {i : Int} (h0 : 0 ≤ i) (h : i ≤ 12) : wI i = true := by
  unfold wI
  rw [decide_eq_true h0, decide_eq_true (show i.natAbs < 10 ^ 60 by omega)]; rfl
theorem lg_of {cs ws hs : List D} (hc : ∀ x ∈ cs, wC x = true ∧ Sm 41 0 8 x) (hw : ∀ x ∈ ws, wW x = true ∧ Sm 41 1 12 x) (hh : ∀ x ∈ hs, wH x = true ∧ Sm 41 1 14 x) (lc : cs.length ≤ 9) (lw : ws.length ≤ 14) (lh : hs.length ≤ 4) : Lg (.tuple [.tuple cs, .tuple ws, .tuple hs]) := by
  refine ⟨⟨cs, ws, hs, rfl, List.all_eq_true.mpr fun x hx => (hc x hx).1, List.all_eq_true.mpr fun x hx => (hw x hx).1, List.all_eq_true.mpr fun x hx => (hh x hx).1, by omega, by omega, by omega⟩, ?_⟩
  have s1 := sm_tupn (B := 41) (k := 0) (w := 8) (fun x hx => (hc x hx).2) lc
  have s2 := sm_tupn (B := 41) (k := 1) (w := 12) (fun x hx => (hw x hx).2) lw
  have s3 := sm_tupn (B := 41) (k := 1) (w := 14) (fun x hx => (hh x hx).2) lh
  have d1 := s1.dp
  have d2 := s2.dp
  have d3 := s3.dp
  have w1 := s1.wt
  have w2 := s2.wt
  have w3 := s3.wt
  refine sm_tuple (am_cons ⟨s1.lv, by omega⟩ <| am_cons ⟨s2.lv, by omega⟩ <| am_cons ⟨s3.lv, by omega⟩ am_nil) ?_
  rw [wgt_cons, wgt_cons, wgt_cons, wgt_nil]
  omega
theorem fg_of {t : Str} {ls : List D} (ht : wS t = true ∧ t.length ≤ 8) (hl : ls.length ≤ 12) (h : ∀ l ∈ ls, Lg l) : Fg (.tuple [.str t, .tuple ls]) := by
  refine ⟨⟨t, ls, rfl, ht.1, hl, fun l hl => (h l hl).lw⟩, ?_⟩
  have s1 := sm_str (B := 41) (w := 8) (wS_asc ht.1).1 ht.2
  have s2 := sm_tupn (B := 41) (k := 3) (w := 400) (fun x hx => (h x hx).sm) hl
  have w1 := s1.wt
  have w2 := s2.wt
  have d1 := s1.dp
  have d2 := s2.dp
  exact sm_tuple (am_cons ⟨s1.lv, by omega⟩ <| am_cons ⟨s2.lv, by omega⟩ am_nil) (by rw [wgt_cons, wgt_cons, wgt_nil]; omega)
theorem wh_fg {fs : List D} (hl : fs.length ≤ 8) (hn : fs ≠ []) (h : ∀ f ∈ fs, Fg f) : Wh fs :=
  ⟨hl, fun f hf => (h f hf).fw, hn, ((sm_tupn (B := 41) (k := 5) (w := 5000) (fun x hx => (h x hx).sm) hl).rpr (by decide) (by decide) (by decide))⟩
def grE (j : Option Vl) (found : List D) (lot k c w h : Option Vl) : Pv.Env := [some (.lst (TS.map .str)), some (.lst ZS), some (.dat (.int 6)), j, some (.lst KS), some (.lst found), lot, k, c, w, h, none]
theorem mod_b {i z : Int} (h : 0 < z) (h' : z ≤ 12) : 0 ≤ i % z ∧ i % z ≤ 12 := ⟨Int.emod_nonneg _ (by omega), by have := Int.emod_lt_of_pos i h; omega⟩
def gW (k z : Int) : D → D
  | .int i => .int ((k + i) % z)
  | _ => .none
def gH (j k z : Int) : D → D
  | .int i => .tuple [(ix2 (.list KS) (.int ((j + i) % 6))).getD .none, .int ((k + i) % z)]
  | _ => .none
theorem ks_ix (i : Int) : ∃ s, ix2 (.list KS) (.int (i % 6)) = some (.str s) ∧ wS s = true ∧ Sm 41 0 4 (.str s) := by
  obtain ⟨d, e, hm⟩ := ix_mem (ds := KS) (Int.emod_nonneg i (by decide)) (show i % 6 < 6 from Int.emod_lt_of_pos i (by decide))
  obtain ⟨s, es, h1, h2⟩ := ks_ok d hm
  subst es
  exact ⟨s, e, h1, h2⟩
section
variable {n : Nat}
theorem great_row {j k : Int} {z : Nat} {found lot : List D} {c w h : Option Vl} {r : List S} {Q : Pv.Flow × Pv.Env → Prop} (hz : ix2 (.list ZS) (.int j) = some (.int (z : Nat))) (h1 : 1 ≤ z) (h12 : z ≤ 12) (hl : lot.length ≤ 100)
    (q : ∀ l c w h, Lg l → XS (evF Pr n) [] r (grE (some (.dat (.int j))) found (some (.lst (lot ++ [l]))) (some (.dat (.int k))) c w h) Q) :
    XS (evF Pr n) [] ((.asg 8 (.blt .sorted (.bin .add (.lst [(.cst (.str ""))]) (.sl (.var 0) (some (.bin .mod (.blt .int (.bin .add (.var 3) (.var 7))) (.cst (.int 8)))) none)))) :: (.asg 9 (.comp (.bin .mod (.blt .int (.bin .add (.var 7) (.var 11))) (.ix (.var 1) (.var 3))) [11] (.nm 11) .rng (.ix (.var 1) (.var 3)) none)) :: (.asg 9 (.bin .add (.var 9) (.lst [(.tup [(.cst (.str "back"))]), (.tup [(.cst (.str "fail")), (.ix (.var 4) (.bin .mod (.blt .int (.var 3)) (.var 2)))])]))) :: (.asg 10 (.comp (.tup [(.ix (.var 4) (.bin .mod (.blt .int (.bin .add (.var 3) (.var 11))) (.var 2))), (.bin .mod (.blt .int (.bin .add (.var 7) (.var 11))) (.ix (.var 1) (.var 3)))]) [11] (.nm 11) .rng (.cst (.int 3)) none)) :: (.app 6 (.tup [(.blt .tuple (.var 8)), (.blt .tuple (.var 9)), (.blt .tuple (.bin .add (.var 10) (.lst [(.tup [(.cst (.str "")), (.cst (.int 0))])])))])) :: r)
      (grE (some (.dat (.int j))) found (some (.lst lot)) (some (.dat (.int k))) c w h) Q := by
  have hz0 : (0 : Int) < (z : Nat) := by omega
  let us : List Str := "" :: cutL TS (some ((j + k) % 8)) none
  have hus : ∀ t ∈ us, wS t = true ∧ t.length ≤ 8 := fun t ht => by
    rcases List.mem_cons.mp ht with e | ht
    · rw [e]; exact ⟨by decide +kernel, by decide +kernel⟩
    · exact ts_ok t (((List.take_sublist ..).trans (List.drop_sublist ..)).subset ht)
  have hul : us.length ≤ 9 := by
    show (cutL TS (some ((j + k) % 8)) none).length + 1 ≤ 9
    have : (cutL TS (some ((j + k) % 8)) none).length ≤ TS.length := ((List.take_sublist ..).trans (List.drop_sublist ..)).length_le
    have e8 : TS.length = 8 := rfl
    omega
  have hadd : bin2 .add (.list [.str ""]) (.list (cutL (TS.map PyData.str) (some ((j + k) % 8)) none)) = some (.lst (us.map .str)) := by
    rw [cutL_map]
    exact badL (by have := hul; show 1 + ((cutL TS (some ((j + k) % 8)) none).map PyData.str).length ≤ _; rw [List.length_map]; have e : us.length = (cutL TS (some ((j + k) % 8)) none).length + 1 := rfl; omega)
  refine xs_asg rfl (xe_ev (jv_blt (op_ev (jv_bin (op_ev (jv_lst (dv_cons (jv_cst _) rfl dv_nil)) rfl rfl) (op_ev (jv_sl (op_lst rfl) (ov_some (jv_bin (op_ev (jv_blt (op_ev (jv_bin (op_var rfl) (op_var rfl) rfl) rfl rfl) xint) rfl rfl) (op_cst _) (bmod (by decide)))) ov_none rfl) rfl rfl) hadd) rfl rfl) (sortedS (by omega))) ⟨show 8 < 12 by decide, ?_⟩)
  refine xs_asg rfl (xe_ev (jv_compm (g := gW k (z : Nat)) rfl (opl_ix (op_lst rfl) (op_var rfl) hz) (rng_items (by omega) (by omega)) fun x hx => ?_) ⟨show 9 < 12 by decide, ?_⟩)
  · unfold nums at hx
    obtain ⟨i, _, e⟩ := List.mem_map.mp hx
    subst e
    exact ⟨_, jv_bin (op_ev (jv_blt (op_ev (jv_bin (op_var rfl) (op_var rfl) rfl) rfl rfl) xint) rfl rfl) (op_ix (op_lst rfl) (op_var rfl) hz) (bmod hz0), rfl⟩
  obtain ⟨s1, e1, w1, m1⟩ := ks_ix j
  refine xs_asg rfl (xe_ev (jv_bin (op_lst rfl) (op_ev (jv_lst (dv_cons jv_back rfl <| dv_cons (jv_tup (dv_cons (jv_cst _) rfl <| dv_cons (jv_ix (op_lst rfl) (op_ev (jv_bin (op_ev (jv_blt (op_var rfl) xint) rfl rfl) (op_var rfl) (bmod (by decide))) rfl rfl) e1) rfl dv_nil)) rfl dv_nil)) rfl rfl) (badL (by rw [List.length_map, nums_len]; show _ + 2 ≤ _; omega))) ⟨show 9 < 12 by decide, ?_⟩)
  refine xs_asg rfl (xe_ev (jv_compm (g := gH j k (z : Nat)) rfl (opl_ev (jv_cst _) rfl rfl) (rng_items (i := 3) (by decide) (by decide)) fun x hx => ?_) ⟨show 10 < 12 by decide, ?_⟩)
  · unfold nums at hx
    obtain ⟨i, _, e⟩ := List.mem_map.mp hx
    subst e
    obtain ⟨s2, e2, _, _⟩ := ks_ix (j + (i : Nat))
    refine ⟨.dat (.tuple [.str s2, .int ((k + (i : Nat)) % (z : Nat))]), jv_tup (dv_cons (jv_ix (op_lst rfl) (op_ev (jv_bin (op_ev (jv_blt (op_ev (jv_bin (op_var rfl) (op_var rfl) rfl) rfl rfl) xint) rfl rfl) (op_var rfl) (bmod (by decide))) rfl rfl) e2) rfl <| dv_cons (jv_bin (op_ev (jv_blt (op_ev (jv_bin (op_var rfl) (op_var rfl) rfl) rfl rfl) xint) rfl rfl) (op_ix (op_lst rfl) (op_var rfl) hz) (bmod hz0)) rfl dv_nil), ?_⟩
    show some (PyData.tuple [.str s2, _]) = some (PyData.tuple [(ix2 (.list KS) (.int ((j + (i : Nat)) % 6))).getD .none, _])
    rw [e2]; rfl
  have hnl : (nums ((3 : Int)).toNat).length = 3 := rfl
  refine xs_app rfl (xe_ev (jv_tup (dv_cons (jv_blt (op_lst rfl) rfl) rfl <| dv_cons (jv_blt (op_lst rfl) rfl) rfl <| dv_cons (jv_blt (op_ev (jv_bin (op_lst rfl) (op_ev (jv_lst (dv_cons (jv_tup (dv_cons (jv_cst _) rfl <| dv_cons (jv_cst _) rfl dv_nil)) rfl dv_nil)) rfl rfl) (badL (by rw [List.length_map, hnl]; show 3 + 1 ≤ _; decide))) rfl rfl) rfl) rfl dv_nil)) ⟨_, lot, rfl, rfl, by omega, q _ _ _ _ (lg_of (fun x hx => ?_) (fun x hx => ?_) (fun x hx => ?_) ?_ ?_ ?_)⟩)
  · obtain ⟨t, ht, e⟩ := List.mem_map.mp hx
    have := hus t (sort_mem ht)
    subst e
    exact ⟨this.1, sm_str (wS_asc this.1).1 this.2⟩
  · rcases List.mem_append.mp hx with hx | hx
    · obtain ⟨y, hy, e⟩ := List.mem_map.mp hx
      unfold nums at hy
      obtain ⟨i, _, e2⟩ := List.mem_map.mp hy
      subst e2 e
      have hb := mod_b (i := k + (i : Nat)) hz0 (by omega)
      exact ⟨wI_small hb.1 hb.2, (int_sm hb.1 hb.2).mono (by decide) (by decide) (by decide)⟩
    · refine am_cons (P := fun x => wW x = true ∧ Sm 41 1 12 x) ⟨by decide +kernel, sm_of (by decide +kernel)⟩ (am_cons ⟨?_, ?_⟩ am_nil) x hx
      · show (decide (Str.ofString "fail" = Str.ofString "fail") && wS s1) = true
        rw [w1, decide_eq_true rfl]; rfl
      · have f1 : Sm 41 0 4 (.str "fail") := sm_of (by decide +kernel)
        have a1 := f1.wt
        have a2 := m1.wt
        exact (sm_tuple (B := 41) (k := 0) (w := 10) (am_cons ⟨f1.lv, f1.dp⟩ <| am_cons ⟨m1.lv, m1.dp⟩ am_nil) (by rw [wgt_cons, wgt_cons, wgt_nil]; omega)).mono (by decide) (by decide) (by decide)
  · rcases List.mem_append.mp hx with hx | hx
    · obtain ⟨y, hy, e⟩ := List.mem_map.mp hx
      unfold nums at hy
      obtain ⟨i, _, e2⟩ := List.mem_map.mp hy
      subst e2 e
      obtain ⟨s2, e2, w2, m2⟩ := ks_ix (j + (i : Nat))
      have hb := mod_b (i := k + (i : Nat)) hz0 (by omega)
      have hi := int_sm hb.1 hb.2
      have eg : gH j k (z : Nat) (.int (i : Nat)) = .tuple [.str s2, .int ((k + (i : Nat)) % (z : Nat))] := by
        show PyData.tuple [(ix2 (.list KS) (.int ((j + (i : Nat)) % 6))).getD .none, _] = _
        rw [e2]; rfl
      rw [eg]
      refine ⟨?_, ?_⟩
      · show (wS s2 && wI _) = true
        rw [w2, wI_small hb.1 hb.2]; rfl
      · have a1 := hi.wt
        have a2 := m2.wt
        exact (sm_tuple (B := 41) (k := 0) (w := 14) (am_cons ⟨m2.lv, m2.dp⟩ <| am_cons ⟨hi.lv, hi.dp⟩ am_nil) (by rw [wgt_cons, wgt_cons, wgt_nil]; omega))
    · exact am_cons (P := fun x => wH x = true ∧ Sm 41 1 14 x) ⟨by decide +kernel, sm_of (by decide +kernel)⟩ am_nil x hx
  · rw [List.length_map, sort_len]; exact hul
  · rw [List.length_append, List.length_map, nums_len]
    show _ + 2 ≤ 14
    omega
  · rw [List.length_append, List.length_map, hnl]
    exact Nat.le_refl _
theorem great_run : CS (evF Pr (n + 1) 13 []) fun p => ∃ fs, p = (.dat (.tuple fs), []) ∧ Wh fs := by
  refine cs_run (d := w13) rfl rfl ?_
  refine xs_asg rfl (xe_ev (v := .lst (TS.map .str)) (jv_lst (dv_cons (jv_cst _) rfl <| dv_cons (jv_cst _) rfl <| dv_cons (jv_cst _) rfl <| dv_cons (jv_cst _) rfl <| dv_cons (jv_cst _) rfl <| dv_cons (jv_cst _) rfl <| dv_cons (jv_cst _) rfl <| dv_cons (jv_cst _) rfl dv_nil)) ⟨show 0 < 12 by decide, ?_⟩)
  refine xs_asg rfl (xe_ev (v := .lst ZS) (jv_lst (dv_cons (jv_cst _) rfl <| dv_cons (jv_cst _) rfl <| dv_cons (jv_cst _) rfl <| dv_cons (jv_cst _) rfl <| dv_cons (jv_cst _) rfl <| dv_cons (jv_cst _) rfl <| dv_cons (jv_cst _) rfl <| dv_cons (jv_cst _) rfl dv_nil)) ⟨show 1 < 12 by decide, ?_⟩)
  refine xs_asgs2 (v := .lst KS) (jv_lst (dv_cons (jv_cst _) rfl <| dv_cons (jv_cst _) rfl <| dv_cons (jv_cst _) rfl <| dv_cons (jv_cst _) rfl <| dv_cons (jv_cst _) rfl <| dv_cons (jv_cst _) rfl dv_nil)) (jv_lst dv_nil) rfl rfl (show 4 < 12 by decide) (show 5 < 12 by decide) ?_
  refine xs_asg rfl (xe_ev (v := .dat (.int 6)) (jv_blt (op_lst (ds := KS) rfl) rfl) ⟨show 2 < 12 by decide, ?_⟩)
  show XS _ _ _ (grE none [] none none none none none) _
  obtain ⟨L, hL, hLm, hLl⟩ : ∃ L, itemsOf .rng (.int 8) = some L ∧ (∀ x ∈ L, ∃ i : Int, x = .int i ∧ 0 ≤ i ∧ i < 8) ∧ L.length = 8 := ⟨_, rng_items (i := 8) (by decide) (by decide), fun x hx => by
    unfold nums at hx
    obtain ⟨i, hi, e⟩ := List.mem_map.mp hx
    have := List.mem_range.mp hi
    exact ⟨(i : Nat), e.symm, by omega, by omega⟩, by rw [nums_len]; rfl⟩
  refine xs_for rfl rfl (xe_ev (jv_cst _) ⟨.int 8, L, rfl, hL, ?_⟩)
  refine forTurns_sat (I := fun rest ρ => ∃ j found lot k c w h, ρ = grE j found lot k c w h ∧ (∀ f ∈ found, Fg f) ∧ (∀ x ∈ rest, ∃ i : Int, x = .int i ∧ 0 ≤ i ∧ i < 8) ∧ found.length + rest.length = 8) ?_ ?_ _ _ ⟨none, [], none, none, none, none, none, rfl, am_nil, hLm, by rw [hLl]; rfl⟩
  · rintro ρ ⟨j, found, lot, k, c, w, h, e, hf, _, hl⟩
    subst e
    have hl8 : found.length = 8 := by have : ([] : List D).length = 0 := rfl; omega
    exact xs_ret rfl (xe_ev (jv_blt (op_lst (ds := found) rfl) rfl) ⟨found, rfl, wh_fg (by omega) (fun e => by subst e; cases hl8) hf⟩)
  · rintro x rest ρ ⟨j, found, lot, k, c, w, h, e, hf, hr, hl⟩
    subst e
    rw [List.length_cons] at hl
    obtain ⟨i, ei, i0, i8⟩ := hr x (.head _)
    subst ei
    obtain ⟨zd, ez, hzm⟩ := ix_mem (ds := ZS) i0 (show i < 8 from i8)
    obtain ⟨z, ez2, z1, z12⟩ := zs_ok zd hzm
    subst ez2
    obtain ⟨td, et, htm⟩ := ix_mem (ds := TS.map PyData.str) i0 (show i < 8 from i8)
    obtain ⟨t, htm2, ett⟩ := List.mem_map.mp htm
    subst ett
    refine ⟨grE (some (.dat (.int i))) found lot k c w h, rfl, XS.sat ?_⟩
    refine xs_asg rfl (xe_ev (jv_lst dv_nil) ⟨show 6 < 12 by decide, ?_⟩)
    refine xs_for rfl rfl (xe_ev (jv_ix (op_lst (ds := ZS) rfl) (op_var rfl) ez) ⟨_, nums z, rfl, rng_items (i := (z : Nat)) (by omega) (by omega), ?_⟩)
    refine forTurns_sat (I := fun rest' ρ => ∃ lot k c w h, ρ = grE (some (.dat (.int i))) found (some (.lst lot)) k c w h ∧ (∀ l ∈ lot, Lg l) ∧ (∀ x ∈ rest', ∃ y : Int, x = .int y) ∧ lot.length + rest'.length = z) ?_ ?_ _ _ ⟨[], k, c, w, h, rfl, am_nil, fun x hx => ?_, by rw [nums_len]; show 0 + z = z; omega⟩
    · rintro ρ ⟨lot, k, c, w, h, e, hlt, _, hll⟩
      subst e
      have hlz : lot.length = z := by have : ([] : List D).length = 0 := rfl; omega
      refine xs_app rfl (xe_ev (jv_tup (dv_cons (jv_ix (op_lst (ds := TS.map .str) rfl) (op_var rfl) et) rfl <| dv_cons (jv_blt (op_lst (ds := lot) rfl) rfl) rfl dv_nil)) ⟨_, found, rfl, rfl, by omega, xs_nil ⟨_, found ++ [.tuple [.str t, .tuple lot]], _, _, _, _, _, rfl, fun g hg => ?_, fun x hx => hr x (.tail _ hx), by rw [List.length_append, List.length_singleton]; omega⟩⟩)
      rcases List.mem_append.mp hg with hg | hg
      · exact hf g hg
      · rw [List.mem_singleton.mp hg]
        exact fg_of (ts_ok t htm2) (by omega) hlt
    · rintro x' rest' ρ ⟨lot, k, c, w, h, e, hlt, hr', hll⟩
      subst e
      rw [List.length_cons] at hll
      obtain ⟨y, ey⟩ := hr' x' (.head _)
      subst ey
      refine ⟨grE (some (.dat (.int i))) found (some (.lst lot)) (some (.dat (.int y))) c w h, rfl, XS.sat ?_⟩
      refine great_row ez z1 z12 (by omega) fun l c w h hlg => xs_nil ⟨lot ++ [l], _, c, w, h, rfl, fun g hg => ?_, fun x hx => hr' x (.tail _ hx), by rw [List.length_append, List.length_singleton]; omega⟩
      rcases List.mem_append.mp hg with hg | hg
      · exact hlt g hg
      · rw [List.mem_singleton.mp hg]; exact hlg
    · unfold nums at hx
      obtain ⟨i, _, e⟩ := List.mem_map.mp hx
      exact ⟨_, e.symm⟩
end
end K08
set_option Elab.async false
set_option linter.all false
set_option maxRecDepth 100000
set_option maxHeartbeats 4100000
namespace K08
open PySem Pv
/-- [x for x in own if ..], where none is -/
theorem jv_nonel {cl : Fun} {ρ : Pv.Env} {i j : Nat} {o : Option Vl} {elt c : T} {ds : List D} (hi : ρ[i]? = some (some (.lst ds))) (hj : ρ[j]? = some o) (ho : ∀ v, o = some v → v.own = false) (hij : i ≠ j)
    (hf : ∀ d ∈ ds, TB cl c ((ρ.set i (some (.lck ds))).set j (some (.dat d))) false) : EV cl (.comp elt [j] (.nm j) .seq (.var i) (some c)) ρ (.lst []) := by
  have hlt : j < (ρ.set i (some (.lck ds))).length := by rw [List.length_set]; exact lt_of_at hj
  have hj' : (ρ.set i (some (.lck ds)))[j]? = some o := by rw [List.getElem?_set_ne hij]; exact hj
  obtain ⟨o', e⟩ := turns_none (c := evC cl (some c)) (f := evE cl elt) hlt ds [] o (fun d hd => by unfold evC; exact hf d hd)
  rw [set_get hj'] at e
  have hown : ownOk ρ [j] = true := by
    unfold ownOk
    show ((match ρ[j]? with | some (some v) => !v.own | _ => true) && true) = true
    rw [hj]
    cases o with
    | none => rfl
    | some v => show ((!v.own) && true) = true; rw [ho v rfl]; rfl
  have hlk : lockO (.pk i) ρ = ρ.set i (some (.lck ds)) := by unfold lockO; simp only [hi]
  have hlook : look ρ (.pk i) = some (.list ds) := by unfold look; simp only [hi]; rfl
  unfold EV evE
  rw [opnd_var hi, Res.bind_ok]
  show (get (look ρ (.pk i))).bind _ = _
  rw [hlook, get_some, Res.bind_ok]
  show (get (some ds)).bind _ = _
  rw [get_some, Res.bind_ok]
  show (get (need (ownOk ρ [j]))).bind _ = _
  rw [hown]
  show ((compTurns [j] (.nm j) (evC cl (some c)) (evE cl elt) ds [] (lockO (.pk i) ρ)).noX).bind _ = _
  rw [hlk, e, Res.noX_ok, Res.bind_ok]
  show Res.ok (Vl.lst [], unlockO ρ (.pk i) (((ρ.set i (some (.lck ds))).set j o').set j (keepV ρ[j]?))) = _
  have hk : keepV ρ[j]? = o := by rw [hj]; cases o <;> rfl
  rw [hk, List.set_set, set_get hj']
  have hu : unlockO ρ (.pk i) (ρ.set i (some (.lck ds))) = ρ := by
    unfold unlockO
    simp only [hi, List.getElem?_set_self (lt_of_at hi)]
    rw [List.set_set]
    exact set_get hi
  rw [hu]
theorem feed_run {n : Nat} {ns : List Int} : CS (evF Pr (n + 1) 8 [.scr ns]) fun p => p = (.dct (feed (.list ((ns.take 63).map .int)) 0 0 0), [some (.scr ns)]) := by
  refine cs_run (d := w8) rfl rfl ?_
  exact xs_ret rfl (xe_ev (jv_dct (dv_cons (jv_blt (op_ev (jv_cut rfl) rfl rfl) rfl) rfl <| dv_cons (jv_cst _) rfl <| dv_cons (jv_cst _) rfl <| dv_cons (jv_cst _) rfl dv_nil)) rfl)
def lwE (ns : List Int) (f r s st w so k e t l : Option Vl) : Pv.Env := [some (.scr ns), f, r, s, st, w, so, k, e, t, l, none]
def Lq (p : Pv.Flow × Pv.Env) : Prop := match p.1 with
  | .ret v => v = .dat (.bool true)
  | _ => False
def KP : List D := [.tuple [.str "g", .tuple [.tuple [.tuple [.str ""], .tuple [.tuple [.str "back"]], .tuple []]]]]
def KS2 : List D := [.tuple [.str "f", .int 1], .tuple [.str "g", .int 0]]
theorem kp_wh : Wh KP := wh_of (by decide +kernel)
theorem kp_page : pageT KP = Str.ofString "function g\n- back -" := by decide +kernel
theorem ks_all : KS2.all wH = true := by decide +kernel
theorem ks_text : spotsT KS2 = Str.ofString "f:1 g:0" := by decide +kernel
theorem f1_line : (match ((ix2 (.tuple F1) (.int 0)).bind fun f => (ix2 f (.int 1)).bind fun ls => ix2 ls (.int 0)) with | some l => lwB l && decide (lineT l = Str.ofString "f 1 *>2") | none => false) = true := by decide +kernel
theorem f1_parts : ∃ f ls l, ix2 (.tuple F1) (.int 0) = some f ∧ ix2 f (.int 1) = some ls ∧ ix2 ls (.int 0) = some l ∧ Lw l ∧ lineT l = Str.ofString "f 1 *>2" := by
  have h := f1_line
  generalize F1 = fs at h
  cases h1 : ix2 (.tuple fs) (.int 0) with
  | none => rw [h1] at h; cases h
  | some f =>
    rw [h1, Option.bind_some] at h
    cases h2 : ix2 f (.int 1) with
    | none => rw [h2] at h; cases h
    | some ls =>
      rw [h2, Option.bind_some] at h
      cases h3 : ix2 ls (.int 0) with
      | none => rw [h3] at h; cases h
      | some l =>
        rw [h3] at h
        have h' : (lwB l && decide (lineT l = Str.ofString "f 1 *>2")) = true := h
        rw [Bool.and_eq_true, decide_eq_true_eq] at h'
        exact ⟨f, ls, l, rfl, h2, h3, lw_of h'.1, h'.2⟩
theorem same_t (x : Str) (h : shp (.str x) = true) : cmp2 .ne (.str x) (.str x) = some false := by rw [nes h h, eqv_refl_str]; rfl
theorem shp1 : shp (.str (Str.ofString "function g\n- back -")) = true := by decide +kernel
theorem shp2 : shp (.str (Str.ofString "f 1 *>2")) = true := by decide +kernel
theorem shp3 : shp (.str (Str.ofString "f:1 g:0")) = true := by decide +kernel
section
variable {ns cs : List Int} {kvs : List (Str × D)}
theorem law_end {f r s st w so k e t l : Option Vl} {c1 : T} :
    XS (evF Pr 199) [] w23.body.tail.tail.tail.tail.tail.tail (lwE ns f r s st w so k e t l) Lq := by
  have a1 : EV (evF Pr 199) (.call 2 [(.tup [(.tup [(.cst (.str "g")), (.tup [(.tup [(.tup [(.cst (.str ""))]), (.tup [(.tup [(.cst (.str "back"))])]), (.tup [])])])])])]) (lwE ns f r s st w so k e t l) (.dat (.str (Str.ofString "function g\n- back -"))) := by
    have g := g2 (n := 194) kp_wh
    rw [kp_page] at g
    exact jv_gives (ar_ev (jv_tup (dv_cons (jv_tup (dv_cons (jv_cst _) rfl <| dv_cons (jv_tup (dv_cons (jv_tup (dv_cons (jv_tup (dv_cons (jv_cst _) rfl dv_nil)) rfl <| dv_cons (jv_tup (dv_cons jv_back rfl dv_nil)) rfl <| dv_cons jv_tnil rfl dv_nil)) rfl dv_nil)) rfl dv_nil)) rfl dv_nil)) rfl rfl) g
  refine xs_if (xt_tb (tb_cmp (op_ev a1 rfl rfl) (op_cst _) (same_t _ shp1)) (xs_nil ?_))
  obtain ⟨f', ls, l', i1, i2, i3, hl, ht⟩ := f1_parts
  have fe : evF Pr 199 12 [] = .ok (.dat (.tuple F1), []) := okT_eq f1_ok
  have a2 : EV (evF Pr 199) (.call 3 [(.ix (.ix (.ix (.call 12 []) (.cst (.int 0))) (.cst (.int 1))) (.cst (.int 0)))]) (lwE ns f r s st w so k e t l) (.dat (.str (Str.ofString "f 1 *>2"))) := by
    have g := g3 (n := 195) hl
    rw [ht] at g
    exact jv_gives (ar_ix (op_ix (op_ix (op_ev (jv_call av_nil fe rfl) rfl rfl) (op_cst _) i1) (op_cst _) i2) (op_cst _) i3) g
  refine xs_if (xt_tb (tb_cmp (op_ev a2 rfl rfl) (op_cst _) (same_t _ shp2)) (xs_nil ?_))
  have a3 : EV (evF Pr 199) (.call 6 [(.tup [(.tup [(.cst (.str "f")), (.cst (.int 1))]), (.tup [(.cst (.str "g")), (.cst (.int 0))])])]) (lwE ns f r s st w so k e t l) (.dat (.str (Str.ofString "f:1 g:0"))) := by
    have g := g6 (n := 197) ks_all (by decide)
    rw [ks_text] at g
    exact jv_gives (ar_ev (jv_tup (dv_cons (jv_tup (dv_cons (jv_cst _) rfl <| dv_cons (jv_cst _) rfl dv_nil)) rfl <| dv_cons (jv_tup (dv_cons (jv_cst _) rfl <| dv_cons (jv_cst _) rfl dv_nil)) rfl dv_nil)) rfl rfl) g
  exact xs_ret rfl (xe_ev ((eb_cmp (op_ev a3 rfl rfl) (op_cst _) (eqs shp3 shp3)).of (eqv_refl_str _)) rfl)
theorem p59 : bin2 .pow (.int 10) (.int 59) = some (.dat (.int ((10 : Int) ^ 59))) := rfl
theorem w59 : wI ((10 : Int) ^ 59) = true := by decide +kernel
/-- one program, gone through -/
theorem law_one {f r s st so k e t l : Option Vl} {fs : List D} {rest : List S} {Q : Pv.Flow × Pv.Env → Prop} (h : Wh fs)
    (q : ∀ so k e t l, XS (evF Pr 199) [] rest (lwE ns f r s st (some (.dat (.tuple fs))) so k e t l) Q) :
    XS (evF Pr 199) [] ((.asgs [7, 8] [(.blt .repr (.var 5)), (.call 21 [(.var 5)])]) :: (.iff (.cmp .ne (.blt .repr (.call 2 [(.var 5)])) (.blt .repr (.call 18 [(.var 5)]))) [(.ret (.cst (.bool false)))] []) :: (.forl (.tp [9, 10]) .seq (.var 5) [(.iff (.not (.call 22 [(.var 10)])) [(.ret (.cst (.bool false)))] [])]) :: (.asg 6 (.lst [(.blt .tuple (.var 8)), (.blt .tuple (.slb (.var 8))), (.tup []), (.blt .tuple (.sl (.var 8) none (some (.cst (.int 1))))), (.blt .tuple (.bin .add (.var 8) (.sl (.var 8) none (some (.cst (.int 2))))))])) :: (.app 6 (.tup [(.tup [(.ix (.ix (.var 5) (.cst (.int 0))) (.cst (.int 0))), (.bin .pow (.cst (.int 10)) (.cst (.int 59)))]), (.tup [(.cst (.str "z")), (.cst (.int 10))]), (.tup [(.cst (.str "z")), (.cst (.int 9))]), (.tup [(.cst (.str "a")), (.cst (.int 0))])])) :: (.iff (.cmp .ne (.comp (.var 11) [11] (.nm 11) .seq (.var 6) (some (.cmp .ne (.blt .repr (.call 6 [(.var 11)])) (.blt .repr (.call 19 [(.var 11)]))))) (.lst [])) [(.ret (.cst (.bool false)))] []) :: (.iff (.cmp .ne (.blt .repr (.var 5)) (.var 7)) [(.ret (.cst (.bool false)))] []) :: rest)
      (lwE ns f r s st (some (.dat (.tuple fs))) so k e t l) Q := by
  obtain ⟨p, ec, ys, ep, hy, hyl⟩ := Res.sat_iff.mp (g21 (n := 198) h).sat
  subst ep
  refine xs_asgs2 (jv_blt (op_var rfl) h.rp.run) (jv_call (av_cons (ar_var rfl) av_nil) ec rfl) rfl rfl (show 7 < 12 by decide) (show 8 < 12 by decide) ?_
  show XS _ _ _ (lwE ns f r s st (some (.dat (.tuple fs))) so (some (.dat (.str (PyData.tuple fs).shown))) (some (.lst ys)) t l) _
  refine xs_if (xt_tb (tb_alike (op_ev (jv_gives (ar_var rfl) (g2 (n := 194) h)) rfl rfl) (op_ev (jv_gives (ar_var rfl) (g18 (n := 196) h)) rfl rfl) (page_b h).2.2 (page_b h).2.1) (xs_nil ?_))
  refine xs_forv (ds := fs) rfl rfl rfl ?_
  refine forTurns_sat (I := fun rs ρ => ∃ t l, (∀ g ∈ rs, Fw g) ∧ ρ = lwE ns f r s st (some (.dat (.tuple fs))) so (some (.dat (.str (PyData.tuple fs).shown))) (some (.lst ys)) t l) ?_ ?_ _ _ ⟨t, l, h.fn, rfl⟩
  · rintro ρ ⟨t, l, _, e⟩
    subst e
    have hcut : ∀ hi, (cutL ys none hi).all wH = true := fun hi => List.all_eq_true.mpr fun y hy' => List.all_eq_true.mp hy y (cut_sub.subset hy')
    have hcl : ∀ hi, (cutL ys none hi).length ≤ ys.length := fun hi => cut_sub.length_le
    have h2 := hcl (some 2)
    have h1 := hcl (some 1)
    have h22 : (cutL ys none (some 2)).length ≤ 2 := by
      unfold cutL
      rw [List.length_take]
      have e2 : L2.atI (α := D) = L2.atI := rfl
      have : HT.sIx ys.length ys.length (some (2 : Int)) ≤ 2 := by
        rw [show (2 : Int) = ((2 : Nat) : Int) from rfl, HT.sIx_nat]
        exact Nat.min_le_left _ _
      omega
    obtain ⟨g, hgm, e7⟩ := ix_head h.ne
    obtain ⟨tt, ls, eg, htt, _, _⟩ := (h.fn g hgm).ex
    subst eg
    refine xs_asg rfl (xe_ev (v := .lst [.tuple ys, .tuple ys.reverse, .tuple [], .tuple (cutL ys none (some 1)), .tuple (ys ++ cutL ys none (some 2))]) (jv_lst (dv_cons (jv_blt (op_lst rfl) rfl) rfl <| dv_cons (jv_blt (op_ev (jv_slb (op_lst rfl) rfl) rfl rfl) rfl) rfl <| dv_cons jv_tnil rfl <| dv_cons (jv_blt (op_ev (jv_sl (op_lst rfl) ov_none (ov_some (jv_cst _)) rfl) rfl rfl) rfl) rfl <| dv_cons (jv_blt (op_ev (jv_bin (op_lst rfl) (op_ev (jv_sl (op_lst rfl) ov_none (ov_some (jv_cst _)) rfl) rfl rfl) (badL (by omega))) rfl rfl) rfl) rfl dv_nil)) ⟨show 6 < 12 by decide, ?_⟩)
    refine xs_app rfl (xe_ev (jv_tup (dv_cons (jv_tup (dv_cons (jv_ix (op_ix (op_var rfl) (op_cst _) e7) (op_cst _) rfl) rfl <| dv_cons (jv_bin (op_cst _) (op_cst _) p59) rfl dv_nil)) rfl <| dv_cons (jv_tup (dv_cons (jv_cst _) rfl <| dv_cons (jv_cst _) rfl dv_nil)) rfl <| dv_cons (jv_tup (dv_cons (jv_cst _) rfl <| dv_cons (jv_cst _) rfl dv_nil)) rfl <| dv_cons (jv_tup (dv_cons (jv_cst _) rfl <| dv_cons (jv_cst _) rfl dv_nil)) rfl dv_nil)) ⟨_, _, rfl, rfl, show 5 < 16777216 by decide, ?_⟩)
    have hsome : ∀ x ∈ [PyData.tuple ys, .tuple ys.reverse, .tuple [], .tuple (cutL ys none (some 1)), .tuple (ys ++ cutL ys none (some 2))] ++ [.tuple [.tuple [.str tt, .int ((10 : Int) ^ 59)], .tuple [.str "z", .int 10], .tuple [.str "z", .int 9], .tuple [.str "a", .int 0]]], ∃ xs, x = .tuple xs ∧ xs.all wH = true ∧ xs.length ≤ 100 := by
      intro x hx
      simp only [List.cons_append, List.nil_append, List.mem_cons, List.not_mem_nil, or_false] at hx
      rcases hx with e | e | e | e | e | e
      · exact ⟨_, e, hy, by omega⟩
      · exact ⟨_, e, by rw [List.all_reverse]; exact hy, by rw [List.length_reverse]; omega⟩
      · exact ⟨_, e, rfl, by decide⟩
      · exact ⟨_, e, hcut _, by omega⟩
      · exact ⟨_, e, by rw [List.all_append, hy, hcut]; rfl, by rw [List.length_append]; omega⟩
      · refine ⟨_, e, ?_, by show 4 ≤ 100; decide⟩
        have z1 : wH (.tuple [.str tt, .int ((10 : Int) ^ 59)]) = true := by
          show (wS tt && wI _) = true
          rw [htt, w59]; rfl
        have z2 : ([.tuple [.str "z", .int 10], .tuple [.str "z", .int 9], .tuple [.str "a", .int 0]] : List D).all wH = true := by decide +kernel
        show (wH (.tuple [.str tt, .int ((10 : Int) ^ 59)]) && ([.tuple [.str "z", .int 10], .tuple [.str "z", .int 9], .tuple [.str "a", .int 0]] : List D).all wH) = true
        rw [z1, z2]; rfl
    refine xs_if (xt_tb ((tb_cmp (op_ev (jv_nonel (o := none) rfl rfl (fun v e => (nomatch e)) (by decide) fun d hd => ?_) rfl rfl) (op_ev (jv_lst dv_nil) rfl rfl) (nes rfl rfl)).of (show _ = false from rfl)) (xs_nil ?_))
    · obtain ⟨xs, ex, hx, hxl⟩ := hsome d hd
      subst ex
      have hb := spots_run hx hxl
      exact tb_alike (op_ev (jv_gives (ar_var rfl) (g6 (n := 197) hx hxl)) rfl rfl) (op_ev (jv_gives (ar_var rfl) (g19 (n := 198) hx hxl)) rfl rfl) hb.2.2 (by have := hb.2.1; omega)
    refine xs_if (xt_tb ((tb_cmp (op_repr (op_var rfl) h.rp) (op_var rfl) (nes (shp_shown h.rp.lay) (shp_shown h.rp.lay))).of (show _ = false from congrArg (!·) (eqv_refl_str _))) (xs_nil ?_))
    exact q _ _ _ _ _
  · rintro g rs ρ ⟨t, l, hr, e⟩
    subst e
    obtain ⟨tt, ls, eg, _, _, hh⟩ := (hr g (.head _)).ex
    subst eg
    refine ⟨lwE ns f r s st (some (.dat (.tuple fs))) so (some (.dat (.str (PyData.tuple fs).shown))) (some (.lst ys)) (some (.dat (.str tt))) (some (.dat (.tuple ls))), rfl, XS.sat ?_⟩
    exact xs_if (xt_tb ((tb_not (tb_told (ar_var rfl) (g22 (n := 194) hh))).of (show _ = false from rfl)) (xs_nil (xs_nil ⟨_, _, fun g hg => hr g (.tail _ hg), rfl⟩)))
end
end K08
set_option Elab.async false
set_option linter.all false
set_option maxRecDepth 100000
set_option maxHeartbeats 4100000
namespace K08
open PySem Pv
theorem cs_ex {r : Res (Vl × List (Option Vl))} {P : Vl × List (Option Vl) → Prop} (h : CS r P) : ∃ p, r = .ok p ∧ P p := Res.sat_iff.mp h.sat
theorem cs_tup {r : Res (Vl × List (Option Vl))} {P : List D → Prop} (h : CS r fun p => ∃ fs, p = (.dat (.tuple fs), []) ∧ P fs) : ∃ fs, r = .ok (.dat (.tuple fs), []) ∧ P fs := by
  obtain ⟨p, e, fs, ep, hp⟩ := cs_ex h
  exact ⟨fs, ep ▸ e, hp⟩
theorem great_ex : ∃ fs, evF Pr 199 13 [] = .ok (.dat (.tuple fs), []) ∧ Wh fs := cs_tup (r := evF Pr 199 13 []) (great_run (n := 198))
theorem mulL {xs : List D} {j : Nat} (h : j ≤ 1000) (hl : xs.length ≤ 1000) : bin2 .mul (.list xs) (.int (j : Nat)) = some (.lst (List.replicate j xs).flatten) := by
  have e : bin2 .mul (.list xs) (.int (j : Nat)) = if (decide (0 ≤ ((j : Nat) : Int) ∧ ((j : Nat) : Int) ≤ 1000000) && sizeOk (xs.length * ((j : Nat) : Int).toNat)) = true then some (.lst (List.replicate ((j : Nat) : Int).toNat xs).flatten) else none := rfl
  have hm : xs.length * j ≤ 1000 * 1000 := Nat.mul_le_mul hl h
  rw [e, Int.toNat_natCast, decide_eq_true (by omega), Bool.true_and, if_pos (show sizeOk (xs.length * j) = true from decide_eq_true (by omega))]
theorem st_eq {r : Int} (h0 : 0 ≤ r) (h7 : r < 7) {x : D} (e : ix2 (.list RL) (.int r) = some x) : Wh (strange r x) := by
  have hr : r.toNat < RL.length := by rw [rl_len]; omega
  have ex : x = RL.getD r.toNat .none := by
    have e' : L2.atI RL r = some x := e
    unfold L2.atI L2.ixN at e'
    rw [if_pos h0, if_pos (show r < (RL.length : Nat) by rw [rl_len]; omega), Option.bind_some, List.getElem?_eq_getElem hr] at e'
    rw [List.getD_eq_getElem?_getD, List.getElem?_eq_getElem hr]
    exact (Option.some.inj e').symm
  have h := st_wh ⟨r.toNat, by omega⟩
  have ei : ((r.toNat : Nat) : Int) = r := by omega
  rw [show (((⟨r.toNat, by omega⟩ : Fin 7).val : Nat) : Int) = r from ei, show RL.getD (⟨r.toNat, by omega⟩ : Fin 7).val .none = x from ex.symm] at h
  exact wh_of h
section
variable {ns : List Int}
theorem law_run : CS (evF Pr 200 23 [.scr ns]) fun p => p.1 = .dat (.bool true) := by
  refine cs_run (n := 199) (d := w23) rfl rfl ?_
  show XS (evF Pr 199) [] w23.body (lwE ns none none none none none none none none none none) Lq
  obtain ⟨p, e1, hp⟩ := Res.sat_iff.mp (feed_run (n := 198) (ns := ns)).sat
  subst hp
  have hf : Fd (ns.take 63) (feed (.list ((ns.take 63).map .int)) 0 0 0) := ⟨0, 0, 0, by decide, rfl⟩
  refine xs_asg rfl (xe_ev (jv_call (av_cons (ar_scr rfl) av_nil) e1 rfl) ⟨show 1 < 12 by decide, ?_⟩)
  generalize feed (.list ((ns.take 63).map .int)) 0 0 0 = kvs at hf
  have re : evF Pr 199 20 [] = .ok (.lst RL, []) := okL_eq rl_ok
  have fe : evF Pr 199 12 [] = .ok (.dat (.tuple F1), []) := okT_eq f1_ok
  have rl7 : ((RL.length : Nat) : Int) = 7 := by rw [rl_len]; rfl
  refine xs_asg rfl (xe_ev (jv_call av_nil re rfl) ⟨show 2 < 12 by decide, ?_⟩)
  refine xs_asg rfl (xe_drawi (n := 198) (many := (RL.length : Nat)) rfl hf (ar_ev (jv_blt (op_lst (ds := RL) rfl) rfl) rfl rfl) (by omega) (by omega) fun r kvs1 hf1 r0 r7 => ⟨show 3 < 12 by decide, ?_⟩)
  obtain ⟨x, ex, hx⟩ := ix_mem (ds := RL) r0 r7
  have hst := st_eq r0 (by omega) ex
  have hmul : bin2 .mul (.list (cutL RL none (some 1))) (.int 9) = some (.lst (List.replicate 9 (cutL RL none (some 1))).flatten) := by
    have hl : (cutL RL none (some (1 : Int))).length ≤ RL.length := cut_sub.length_le
    exact mulL (j := 9) (by decide) (by rw [rl_len] at hl; omega)
  refine xs_asg rfl (xe_ev (jv_tup (dv_cons (jv_tup (dv_cons (jv_cst _) rfl <| dv_cons (jv_blt (op_ev (jv_sl (op_lst (ds := RL) rfl) (ov_some (jv_var rfl)) ov_none rfl) rfl rfl) rfl) rfl dv_nil)) rfl <| dv_cons (jv_tup (dv_cons (jv_cst _) rfl <| dv_cons (jv_blt (op_lst (ds := RL) rfl) rfl) rfl dv_nil)) rfl <| dv_cons (jv_tup (dv_cons (jv_cst _) rfl <| dv_cons (jv_tup (dv_cons (jv_ix (op_lst (ds := RL) rfl) (op_var rfl) ex) rfl dv_nil)) rfl dv_nil)) rfl dv_nil)) ⟨show 4 < 12 by decide, ?_⟩)
  refine xs_asg rfl (xe_ev (v := .dat (.tuple (strange r x))) (jv_bin (op_var rfl) (op_ev (jv_tup (dv_cons (jv_tup (dv_cons (jv_cst _) rfl <| dv_cons (jv_blt (op_ev (jv_bin (op_ev (jv_sl (op_lst (ds := RL) rfl) ov_none (ov_some (jv_cst _)) rfl) rfl rfl) (op_cst _) hmul) rfl rfl) rfl) rfl dv_nil)) rfl dv_nil)) rfl rfl) (badT (show 3 + 1 ≤ 16777216 by decide))) ⟨show 4 < 12 by decide, ?_⟩)
  show XS _ _ _ (lwE ns (some (.dct kvs1)) (some (.lst RL)) (some (.dat (.int r))) (some (.dat (.tuple (strange r x)))) none none none none none none) _
  obtain ⟨gs, ge, hg⟩ := great_ex
  refine xs_for rfl rfl (xe_tup (xd_cons (xe_lendi rfl av_nil ((drawn_sat (m := 196) hf1).mono fun p hp => ?_))))
  obtain ⟨fs, kvs2, e, hf2, hp⟩ := hp
  subst e
  obtain ⟨ds, hds, hall⟩ : ∃ ds, itemsOf .seq (.tuple [.tuple fs, .tuple F1, .tuple (strange r x), .tuple gs]) = some ds ∧ ∀ x ∈ ds, ∃ gs, x = .tuple gs ∧ Wh gs :=
    ⟨_, rfl, am_cons ⟨_, rfl, pg_wh hp⟩ <| am_cons ⟨_, rfl, f1_wh⟩ <| am_cons ⟨_, rfl, hst⟩ <| am_cons ⟨_, rfl, hg⟩ am_nil⟩
  refine ⟨kvs2, [], rfl, rfl, .tuple fs, rfl, xd_dv (dv_cons (jv_call av_nil fe rfl) rfl <| dv_cons (jv_var rfl) rfl <| dv_cons (jv_call av_nil ge rfl) rfl dv_nil) ⟨_, ds, rfl, hds, ?_⟩⟩
  refine forTurns_sat (I := fun rest ρ => ∃ w so k e t l, (∀ x ∈ rest, ∃ gs, x = .tuple gs ∧ Wh gs) ∧ ρ = lwE ns (some (.dct kvs2)) (some (.lst RL)) (some (.dat (.int r))) (some (.dat (.tuple (strange r x)))) w so k e t l) ?_ ?_ _ _ ⟨none, none, none, none, none, none, hall, rfl⟩
  · rintro ρ ⟨w, so, k, e, t, l, _, er⟩
    subst er
    exact law_end (c1 := .var 0)
  · rintro d rest ρ ⟨w, so, k, e, t, l, hr, er⟩
    subst er
    obtain ⟨hs, ed, hw⟩ := hr d (.head _)
    subst ed
    refine ⟨lwE ns (some (.dct kvs2)) (some (.lst RL)) (some (.dat (.int r))) (some (.dat (.tuple (strange r x)))) (some (.dat (.tuple hs))) so k e t l, rfl, XS.sat ?_⟩
    exact law_one hw fun so k e t l => xs_nil ⟨_, so, k, e, t, l, fun y hy => hr y (.tail _ hy), rfl⟩
theorem law_true : ∀ ns : List Int, ns.length ≤ 63 → ∃ fin, evF Pr 200 23 [.scr ns] = .ok (.dat (.bool true), fin) := fun ns _ => by
  obtain ⟨p, e, h⟩ := cs_ex (law_run (ns := ns))
  obtain ⟨v, fin⟩ := p
  cases h
  exact ⟨fin, e⟩
end
end K08
set_option Elab.async false
set_option linter.all false
set_option maxRecDepth 100000
set_option maxHeartbeats 0
namespace K08
open PySem L2 Pv PyProof.Rows
def PS : List (List Str) := [["thing"], ["thing"], ["program"], ["line"], ["way"], ["kind", "index"], ["spots"], ["spot"], ["_law_script"], ["_law_feed_here", "_law_many"], ["_law_feed_here", "_law_titles", "_law_size"], ["_law_feed_here"], [], [], ["_law_own"], ["_law_own"], ["_law_own"], ["_law_row_here"], ["_law_whole"], ["_law_some"], [], ["_law_whole"], ["_law_lot"], ["_law_script"]]
section
variable {P : Program} {wd : World} {K : PySem.W.Frag} {mg : Str → Option Value} {base : Heap} {w : Wd}
theorem ok0 (T : Tx K mg w) (B : Ks K w) {n : Nat} (h : Lvl P wd K mg base w Pr n) {f : Addr} {fd : FuncData} (F : L2.Fun K "is_integer" "is_integer" (top 2) f fd) : FnG P wd K mg base (n + 1) f fd ["thing"] (spD K w (evF Pr (n + 1)) 0) := fn_F F rfl sc0 rfl rfl fun cdv A outer s H E lk hr gd => b0 T (gc_of sc0 gd hr) (hasF_of h B hr)
theorem ok1 (T : Tx K mg w) (B : Ks K w) {n : Nat} (h : Lvl P wd K mg base w Pr n) {f : Addr} {fd : FuncData} (F : L2.Fun K "is_number" "is_number" (top 3) f fd) : FnG P wd K mg base (n + 1) f fd ["thing"] (spD K w (evF Pr (n + 1)) 1) := fn_F F rfl sc1 rfl rfl fun cdv A outer s H E lk hr gd => b1 T (gc_of sc1 gd hr) (hasF_of h B hr)
theorem ok2 (T : Tx K mg w) (B : Ks K w) {n : Nat} (h : Lvl P wd K mg base w Pr n) {f : Addr} {fd : FuncData} (F : L2.Fun K "program_text" "program_text" (top 5) f fd) : FnG P wd K mg base (n + 1) f fd ["program"] (spD K w (evF Pr (n + 1)) 2) := fn_F F rfl sc2 rfl rfl fun cdv A outer s H E lk hr gd => b2 T (gc_of sc2 gd hr) (hasF_of h B hr)
theorem ok3 (T : Tx K mg w) (B : Ks K w) {n : Nat} (h : Lvl P wd K mg base w Pr n) {f : Addr} {fd : FuncData} (F : L2.Fun K "line_text" "line_text" (top 6) f fd) : FnG P wd K mg base (n + 1) f fd ["line"] (spD K w (evF Pr (n + 1)) 3) := fn_F F rfl sc3 rfl rfl fun cdv A outer s H E lk hr gd => b3 T (gc_of sc3 gd hr) (hasF_of h B hr)
theorem ok4 (T : Tx K mg w) (B : Ks K w) {n : Nat} (h : Lvl P wd K mg base w Pr n) {f : Addr} {fd : FuncData} (F : L2.Fun K "way_word" "way_word" (top 7) f fd) : FnG P wd K mg base (n + 1) f fd ["way"] (spD K w (evF Pr (n + 1)) 4) := fn_F F rfl sc4 rfl rfl fun cdv A outer s H E lk hr gd => b4 T (gc_of sc4 gd hr) (hasF_of h B hr)
theorem ok5 (T : Tx K mg w) (B : Ks K w) {n : Nat} (h : Lvl P wd K mg base w Pr n) {f : Addr} {fd : FuncData} (F : L2.Fun K "handler_word" "handler_word" (top 8) f fd) : FnG P wd K mg base (n + 1) f fd ["kind", "index"] (spD K w (evF Pr (n + 1)) 5) := fn_F F rfl sc5 rfl rfl fun cdv A outer s H E lk hr gd => b5 T (gc_of sc5 gd hr) (hasF_of h B hr)
theorem ok6 (T : Tx K mg w) (B : Ks K w) {n : Nat} (h : Lvl P wd K mg base w Pr n) {f : Addr} {fd : FuncData} (F : L2.Fun K "spots_text" "spots_text" (top 9) f fd) : FnG P wd K mg base (n + 1) f fd ["spots"] (spD K w (evF Pr (n + 1)) 6) := fn_F F rfl sc6 rfl rfl fun cdv A outer s H E lk hr gd => b6 T (gc_of sc6 gd hr) (hasF_of h B hr)
theorem ok7 (T : Tx K mg w) (B : Ks K w) {n : Nat} (h : Lvl P wd K mg base w Pr n) {f : Addr} {fd : FuncData} (F : L2.Fun K "spot_word" "spot_word" (top 10) f fd) : FnG P wd K mg base (n + 1) f fd ["spot"] (spD K w (evF Pr (n + 1)) 7) := fn_F F rfl sc7 rfl rfl fun cdv A outer s H E lk hr gd => b7 T (gc_of sc7 gd hr) (hasF_of h B hr)
theorem ok8 (T : Tx K mg w) (B : Ks K w) {n : Nat} (h : Lvl P wd K mg base w Pr n) {f : Addr} {fd : FuncData} (F : L2.Fun K "_law_feed" "_law_feed" (top 12) f fd) : FnG P wd K mg base (n + 1) f fd ["_law_script"] (spD K w (evF Pr (n + 1)) 8) := fn_F F rfl sc8 rfl rfl fun cdv A outer s H E lk hr gd => b8 T (gc_of sc8 gd hr) (hasF_of h B hr)
theorem ok9 (T : Tx K mg w) (B : Ks K w) {n : Nat} (h : Lvl P wd K mg base w Pr n) {f : Addr} {fd : FuncData} (F : L2.Fun K "_law_draw" "_law_draw" (top 13) f fd) : FnG P wd K mg base (n + 1) f fd ["_law_feed_here", "_law_many"] (spD K w (evF Pr (n + 1)) 9) := fn_F F rfl sc9 rfl rfl fun cdv A outer s H E lk hr gd => b9 T (gc_of sc9 gd hr) (hasF_of h B hr)
theorem ok10 (T : Tx K mg w) (B : Ks K w) {n : Nat} (h : Lvl P wd K mg base w Pr n) {f : Addr} {fd : FuncData} (F : L2.Fun K "_law_row" "_law_row" (top 14) f fd) : FnG P wd K mg base (n + 1) f fd ["_law_feed_here", "_law_titles", "_law_size"] (spD K w (evF Pr (n + 1)) 10) := fn_F F rfl sc10 rfl rfl fun cdv A outer s H E lk hr gd => b10 T (gc_of sc10 gd hr) (hasF_of h B hr)
theorem ok11 (T : Tx K mg w) (B : Ks K w) {n : Nat} (h : Lvl P wd K mg base w Pr n) {f : Addr} {fd : FuncData} (F : L2.Fun K "_law_drawn" "_law_drawn" (top 15) f fd) : FnG P wd K mg base (n + 1) f fd ["_law_feed_here"] (spD K w (evF Pr (n + 1)) 11) := fn_F F rfl sc11 rfl rfl fun cdv A outer s H E lk hr gd => b11 T (gc_of sc11 gd hr) (hasF_of h B hr)
theorem ok12 (T : Tx K mg w) (B : Ks K w) {n : Nat} (h : Lvl P wd K mg base w Pr n) {f : Addr} {fd : FuncData} (F : L2.Fun K "_law_first" "_law_first" (top 16) f fd) : FnG P wd K mg base (n + 1) f fd [] (spD K w (evF Pr (n + 1)) 12) := fn_F F rfl sc12 rfl rfl fun cdv A outer s H E lk hr gd => b12 T (gc_of sc12 gd hr) (hasF_of h B hr)
theorem ok13 (T : Tx K mg w) (B : Ks K w) {n : Nat} (h : Lvl P wd K mg base w Pr n) {f : Addr} {fd : FuncData} (F : L2.Fun K "_law_great" "_law_great" (top 17) f fd) : FnG P wd K mg base (n + 1) f fd [] (spD K w (evF Pr (n + 1)) 13) := fn_F F rfl sc13 rfl rfl fun cdv A outer s H E lk hr gd => b13 T (gc_of sc13 gd hr) (hasF_of h B hr)
theorem ok14 (T : Tx K mg w) (B : Ks K w) {n : Nat} (h : Lvl P wd K mg base w Pr n) {f : Addr} {fd : FuncData} (F : L2.Fun K "_law_call_text" "_law_call_text" (top 18) f fd) : FnG P wd K mg base (n + 1) f fd ["_law_own"] (spD K w (evF Pr (n + 1)) 14) := fn_F F rfl sc14 rfl rfl fun cdv A outer s H E lk hr gd => b14 T (gc_of sc14 gd hr) (hasF_of h B hr)
theorem ok15 (T : Tx K mg w) (B : Ks K w) {n : Nat} (h : Lvl P wd K mg base w Pr n) {f : Addr} {fd : FuncData} (F : L2.Fun K "_law_way_text" "_law_way_text" (top 19) f fd) : FnG P wd K mg base (n + 1) f fd ["_law_own"] (spD K w (evF Pr (n + 1)) 15) := fn_F F rfl sc15 rfl rfl fun cdv A outer s H E lk hr gd => b15 T (gc_of sc15 gd hr) (hasF_of h B hr)
theorem ok16 (T : Tx K mg w) (B : Ks K w) {n : Nat} (h : Lvl P wd K mg base w Pr n) {f : Addr} {fd : FuncData} (F : L2.Fun K "_law_handler_text" "_law_handler_text" (top 20) f fd) : FnG P wd K mg base (n + 1) f fd ["_law_own"] (spD K w (evF Pr (n + 1)) 16) := fn_F F rfl sc16 rfl rfl fun cdv A outer s H E lk hr gd => b16 T (gc_of sc16 gd hr) (hasF_of h B hr)
theorem ok17 (T : Tx K mg w) (B : Ks K w) {n : Nat} (h : Lvl P wd K mg base w Pr n) {f : Addr} {fd : FuncData} (F : L2.Fun K "_law_row_text" "_law_row_text" (top 21) f fd) : FnG P wd K mg base (n + 1) f fd ["_law_row_here"] (spD K w (evF Pr (n + 1)) 17) := fn_F F rfl sc17 rfl rfl fun cdv A outer s H E lk hr gd => b17 T (gc_of sc17 gd hr) (hasF_of h B hr)
theorem ok18 (T : Tx K mg w) (B : Ks K w) {n : Nat} (h : Lvl P wd K mg base w Pr n) {f : Addr} {fd : FuncData} (F : L2.Fun K "_law_page" "_law_page" (top 22) f fd) : FnG P wd K mg base (n + 1) f fd ["_law_whole"] (spD K w (evF Pr (n + 1)) 18) := fn_F F rfl sc18 rfl rfl fun cdv A outer s H E lk hr gd => b18 T (gc_of sc18 gd hr) (hasF_of h B hr)
theorem ok19 (T : Tx K mg w) (B : Ks K w) {n : Nat} (h : Lvl P wd K mg base w Pr n) {f : Addr} {fd : FuncData} (F : L2.Fun K "_law_spots_page" "_law_spots_page" (top 23) f fd) : FnG P wd K mg base (n + 1) f fd ["_law_some"] (spD K w (evF Pr (n + 1)) 19) := fn_F F rfl sc19 rfl rfl fun cdv A outer s H E lk hr gd => b19 T (gc_of sc19 gd hr) (hasF_of h B hr)
theorem ok20 (T : Tx K mg w) (B : Ks K w) {n : Nat} (h : Lvl P wd K mg base w Pr n) {f : Addr} {fd : FuncData} (F : L2.Fun K "_law_odd_rows" "_law_odd_rows" (top 24) f fd) : FnG P wd K mg base (n + 1) f fd [] (spD K w (evF Pr (n + 1)) 20) := fn_F F rfl sc20 rfl rfl fun cdv A outer s H E lk hr gd => b20 T (gc_of sc20 gd hr) (hasF_of h B hr)
theorem ok21 (T : Tx K mg w) (B : Ks K w) {n : Nat} (h : Lvl P wd K mg base w Pr n) {f : Addr} {fd : FuncData} (F : L2.Fun K "_law_spots" "_law_spots" (top 25) f fd) : FnG P wd K mg base (n + 1) f fd ["_law_whole"] (spD K w (evF Pr (n + 1)) 21) := fn_F F rfl sc21 rfl rfl fun cdv A outer s H E lk hr gd => b21 T (gc_of sc21 gd hr) (hasF_of h B hr)
theorem ok22 (T : Tx K mg w) (B : Ks K w) {n : Nat} (h : Lvl P wd K mg base w Pr n) {f : Addr} {fd : FuncData} (F : L2.Fun K "_law_rows_right" "_law_rows_right" (top 26) f fd) : FnG P wd K mg base (n + 1) f fd ["_law_lot"] (spD K w (evF Pr (n + 1)) 22) := fn_F F rfl sc22 rfl rfl fun cdv A outer s H E lk hr gd => b22 T (gc_of sc22 gd hr) (hasF_of h B hr)
theorem ok23 (T : Tx K mg w) (B : Ks K w) {n : Nat} (h : Lvl P wd K mg base w Pr n) {f : Addr} {fd : FuncData} (F : L2.Fun K "law" "law" (top 27) f fd) : FnG P wd K mg base (n + 1) f fd ["_law_script"] (spD K w (evF Pr (n + 1)) 23) := fn_F F rfl sc23 rfl rfl fun cdv A outer s H E lk hr gd => b23 T (gc_of sc23 gd hr) (hasF_of h B hr)
end
theorem all_mk {l : PySem.W.OpenLaw} {wd : World} {K : PySem.W.Frag} {h : Heap} {mg : Str → Option Value} {fa a0 a1 a2 a3 a4 a5 a6 a7 a8 a9 a10 a11 a12 a13 a14 a15 a16 a17 a18 a19 a20 a21 a22 a23 : Addr} (X : K.In h) (G : h.Ns mainGlobals mg) (hfa : mg "law" = some (.ref fa)) {od0 an0 od1 an1 od2 an2 od3 an3 od4 an4 od5 an5 od6 an6 od7 an7 od8 an8 od9 an9 od10 an10 od11 an11 od12 an12 od13 an13 od14 an14 od15 an15 od16 an16 od17 an17 od18 an18 od19 an19 od20 an20 od21 an21 od22 an22 od23 an23 : Option Addr} {sl0 sl1 sl2 sl3 sl4 sl5 sl6 sl7 sl8 sl9 sl10 sl11 sl12 sl13 sl14 sl15 sl16 sl17 sl18 sl19 sl20 sl21 sl22 sl23 : Array (Option Value)} {oc0 kV0 dc0 pm0 cd0 ct0 oc1 kV1 dc1 pm1 cd1 ct1 oc2 kV2 dc2 pm2 cd2 ct2 oc3 kV3 dc3 pm3 cd3 ct3 oc4 kV4 dc4 pm4 cd4 ct4 oc5 kV5 dc5 pm5 cd5 ct5 oc6 kV6 dc6 pm6 cd6 ct6 oc7 kV7 dc7 pm7 cd7 ct7 oc8 kV8 dc8 pm8 cd8 ct8 oc9 kV9 dc9 pm9 cd9 ct9 oc10 kV10 dc10 pm10 cd10 ct10 oc11 kV11 dc11 pm11 cd11 ct11 oc12 kV12 dc12 pm12 cd12 ct12 oc13 kV13 dc13 pm13 cd13 ct13 oc14 kV14 dc14 pm14 cd14 ct14 oc15 kV15 dc15 pm15 cd15 ct15 oc16 kV16 dc16 pm16 cd16 ct16 oc17 kV17 dc17 pm17 cd17 ct17 oc18 kV18 dc18 pm18 cd18 ct18 oc19 kV19 dc19 pm19 cd19 ct19 oc20 kV20 dc20 pm20 cd20 ct20 oc21 kV21 dc21 pm21 cd21 ct21 oc22 kV22 dc22 pm22 cd22 ct22 oc23 kV23 dc23 pm23 cd23 ct23 : Value}
    (n0 : PySem.W.nsIn K mainGlobals "is_integer" = some (some (.ref a0))) (l0 : K.lookup a0 = some ⟨oc0, od0, .func (PySem.W.fnOf "is_integer" "is_integer" (defArgs (top 2)) (defBody (top 2)) (defScope (top 2)) .none kV0 dc0 pm0 an0 cd0 ct0), sl0⟩) (c0 : PySem.W.codeIn K cd0 "is_integer" = true) (k0 : PySem.W.keepIn K (.ref a0) = true)
    (n1 : PySem.W.nsIn K mainGlobals "is_number" = some (some (.ref a1))) (l1 : K.lookup a1 = some ⟨oc1, od1, .func (PySem.W.fnOf "is_number" "is_number" (defArgs (top 3)) (defBody (top 3)) (defScope (top 3)) .none kV1 dc1 pm1 an1 cd1 ct1), sl1⟩) (c1 : PySem.W.codeIn K cd1 "is_number" = true) (k1 : PySem.W.keepIn K (.ref a1) = true)
    (n2 : PySem.W.nsIn K mainGlobals "program_text" = some (some (.ref a2))) (l2 : K.lookup a2 = some ⟨oc2, od2, .func (PySem.W.fnOf "program_text" "program_text" (defArgs (top 5)) (defBody (top 5)) (defScope (top 5)) .none kV2 dc2 pm2 an2 cd2 ct2), sl2⟩) (c2 : PySem.W.codeIn K cd2 "program_text" = true) (k2 : PySem.W.keepIn K (.ref a2) = true)
    (n3 : PySem.W.nsIn K mainGlobals "line_text" = some (some (.ref a3))) (l3 : K.lookup a3 = some ⟨oc3, od3, .func (PySem.W.fnOf "line_text" "line_text" (defArgs (top 6)) (defBody (top 6)) (defScope (top 6)) .none kV3 dc3 pm3 an3 cd3 ct3), sl3⟩) (c3 : PySem.W.codeIn K cd3 "line_text" = true) (k3 : PySem.W.keepIn K (.ref a3) = true)
    (n4 : PySem.W.nsIn K mainGlobals "way_word" = some (some (.ref a4))) (l4 : K.lookup a4 = some ⟨oc4, od4, .func (PySem.W.fnOf "way_word" "way_word" (defArgs (top 7)) (defBody (top 7)) (defScope (top 7)) .none kV4 dc4 pm4 an4 cd4 ct4), sl4⟩) (c4 : PySem.W.codeIn K cd4 "way_word" = true) (k4 : PySem.W.keepIn K (.ref a4) = true)
    (n5 : PySem.W.nsIn K mainGlobals "handler_word" = some (some (.ref a5))) (l5 : K.lookup a5 = some ⟨oc5, od5, .func (PySem.W.fnOf "handler_word" "handler_word" (defArgs (top 8)) (defBody (top 8)) (defScope (top 8)) .none kV5 dc5 pm5 an5 cd5 ct5), sl5⟩) (c5 : PySem.W.codeIn K cd5 "handler_word" = true) (k5 : PySem.W.keepIn K (.ref a5) = true)
    (n6 : PySem.W.nsIn K mainGlobals "spots_text" = some (some (.ref a6))) (l6 : K.lookup a6 = some ⟨oc6, od6, .func (PySem.W.fnOf "spots_text" "spots_text" (defArgs (top 9)) (defBody (top 9)) (defScope (top 9)) .none kV6 dc6 pm6 an6 cd6 ct6), sl6⟩) (c6 : PySem.W.codeIn K cd6 "spots_text" = true) (k6 : PySem.W.keepIn K (.ref a6) = true)
    (n7 : PySem.W.nsIn K mainGlobals "spot_word" = some (some (.ref a7))) (l7 : K.lookup a7 = some ⟨oc7, od7, .func (PySem.W.fnOf "spot_word" "spot_word" (defArgs (top 10)) (defBody (top 10)) (defScope (top 10)) .none kV7 dc7 pm7 an7 cd7 ct7), sl7⟩) (c7 : PySem.W.codeIn K cd7 "spot_word" = true) (k7 : PySem.W.keepIn K (.ref a7) = true)
    (n8 : PySem.W.nsIn K mainGlobals "_law_feed" = some (some (.ref a8))) (l8 : K.lookup a8 = some ⟨oc8, od8, .func (PySem.W.fnOf "_law_feed" "_law_feed" (defArgs (top 12)) (defBody (top 12)) (defScope (top 12)) .none kV8 dc8 pm8 an8 cd8 ct8), sl8⟩) (c8 : PySem.W.codeIn K cd8 "_law_feed" = true) (k8 : PySem.W.keepIn K (.ref a8) = true)
    (n9 : PySem.W.nsIn K mainGlobals "_law_draw" = some (some (.ref a9))) (l9 : K.lookup a9 = some ⟨oc9, od9, .func (PySem.W.fnOf "_law_draw" "_law_draw" (defArgs (top 13)) (defBody (top 13)) (defScope (top 13)) .none kV9 dc9 pm9 an9 cd9 ct9), sl9⟩) (c9 : PySem.W.codeIn K cd9 "_law_draw" = true) (k9 : PySem.W.keepIn K (.ref a9) = true)
    (n10 : PySem.W.nsIn K mainGlobals "_law_row" = some (some (.ref a10))) (l10 : K.lookup a10 = some ⟨oc10, od10, .func (PySem.W.fnOf "_law_row" "_law_row" (defArgs (top 14)) (defBody (top 14)) (defScope (top 14)) .none kV10 dc10 pm10 an10 cd10 ct10), sl10⟩) (c10 : PySem.W.codeIn K cd10 "_law_row" = true) (k10 : PySem.W.keepIn K (.ref a10) = true)
    (n11 : PySem.W.nsIn K mainGlobals "_law_drawn" = some (some (.ref a11))) (l11 : K.lookup a11 = some ⟨oc11, od11, .func (PySem.W.fnOf "_law_drawn" "_law_drawn" (defArgs (top 15)) (defBody (top 15)) (defScope (top 15)) .none kV11 dc11 pm11 an11 cd11 ct11), sl11⟩) (c11 : PySem.W.codeIn K cd11 "_law_drawn" = true) (k11 : PySem.W.keepIn K (.ref a11) = true)
    (n12 : PySem.W.nsIn K mainGlobals "_law_first" = some (some (.ref a12))) (l12 : K.lookup a12 = some ⟨oc12, od12, .func (PySem.W.fnOf "_law_first" "_law_first" (defArgs (top 16)) (defBody (top 16)) (defScope (top 16)) .none kV12 dc12 pm12 an12 cd12 ct12), sl12⟩) (c12 : PySem.W.codeIn K cd12 "_law_first" = true) (k12 : PySem.W.keepIn K (.ref a12) = true)
    (n13 : PySem.W.nsIn K mainGlobals "_law_great" = some (some (.ref a13))) (l13 : K.lookup a13 = some ⟨oc13, od13, .func (PySem.W.fnOf "_law_great" "_law_great" (defArgs (top 17)) (defBody (top 17)) (defScope (top 17)) .none kV13 dc13 pm13 an13 cd13 ct13), sl13⟩) (c13 : PySem.W.codeIn K cd13 "_law_great" = true) (k13 : PySem.W.keepIn K (.ref a13) = true)
    (n14 : PySem.W.nsIn K mainGlobals "_law_call_text" = some (some (.ref a14))) (l14 : K.lookup a14 = some ⟨oc14, od14, .func (PySem.W.fnOf "_law_call_text" "_law_call_text" (defArgs (top 18)) (defBody (top 18)) (defScope (top 18)) .none kV14 dc14 pm14 an14 cd14 ct14), sl14⟩) (c14 : PySem.W.codeIn K cd14 "_law_call_text" = true) (k14 : PySem.W.keepIn K (.ref a14) = true)
    (n15 : PySem.W.nsIn K mainGlobals "_law_way_text" = some (some (.ref a15))) (l15 : K.lookup a15 = some ⟨oc15, od15, .func (PySem.W.fnOf "_law_way_text" "_law_way_text" (defArgs (top 19)) (defBody (top 19)) (defScope (top 19)) .none kV15 dc15 pm15 an15 cd15 ct15), sl15⟩) (c15 : PySem.W.codeIn K cd15 "_law_way_text" = true) (k15 : PySem.W.keepIn K (.ref a15) = true)
    (n16 : PySem.W.nsIn K mainGlobals "_law_handler_text" = some (some (.ref a16))) (l16 : K.lookup a16 = some ⟨oc16, od16, .func (PySem.W.fnOf "_law_handler_text" "_law_handler_text" (defArgs (top 20)) (defBody (top 20)) (defScope (top 20)) .none kV16 dc16 pm16 an16 cd16 ct16), sl16⟩) (c16 : PySem.W.codeIn K cd16 "_law_handler_text" = true) (k16 : PySem.W.keepIn K (.ref a16) = true)
    (n17 : PySem.W.nsIn K mainGlobals "_law_row_text" = some (some (.ref a17))) (l17 : K.lookup a17 = some ⟨oc17, od17, .func (PySem.W.fnOf "_law_row_text" "_law_row_text" (defArgs (top 21)) (defBody (top 21)) (defScope (top 21)) .none kV17 dc17 pm17 an17 cd17 ct17), sl17⟩) (c17 : PySem.W.codeIn K cd17 "_law_row_text" = true) (k17 : PySem.W.keepIn K (.ref a17) = true)
    (n18 : PySem.W.nsIn K mainGlobals "_law_page" = some (some (.ref a18))) (l18 : K.lookup a18 = some ⟨oc18, od18, .func (PySem.W.fnOf "_law_page" "_law_page" (defArgs (top 22)) (defBody (top 22)) (defScope (top 22)) .none kV18 dc18 pm18 an18 cd18 ct18), sl18⟩) (c18 : PySem.W.codeIn K cd18 "_law_page" = true) (k18 : PySem.W.keepIn K (.ref a18) = true)
    (n19 : PySem.W.nsIn K mainGlobals "_law_spots_page" = some (some (.ref a19))) (l19 : K.lookup a19 = some ⟨oc19, od19, .func (PySem.W.fnOf "_law_spots_page" "_law_spots_page" (defArgs (top 23)) (defBody (top 23)) (defScope (top 23)) .none kV19 dc19 pm19 an19 cd19 ct19), sl19⟩) (c19 : PySem.W.codeIn K cd19 "_law_spots_page" = true) (k19 : PySem.W.keepIn K (.ref a19) = true)
    (n20 : PySem.W.nsIn K mainGlobals "_law_odd_rows" = some (some (.ref a20))) (l20 : K.lookup a20 = some ⟨oc20, od20, .func (PySem.W.fnOf "_law_odd_rows" "_law_odd_rows" (defArgs (top 24)) (defBody (top 24)) (defScope (top 24)) .none kV20 dc20 pm20 an20 cd20 ct20), sl20⟩) (c20 : PySem.W.codeIn K cd20 "_law_odd_rows" = true) (k20 : PySem.W.keepIn K (.ref a20) = true)
    (n21 : PySem.W.nsIn K mainGlobals "_law_spots" = some (some (.ref a21))) (l21 : K.lookup a21 = some ⟨oc21, od21, .func (PySem.W.fnOf "_law_spots" "_law_spots" (defArgs (top 25)) (defBody (top 25)) (defScope (top 25)) .none kV21 dc21 pm21 an21 cd21 ct21), sl21⟩) (c21 : PySem.W.codeIn K cd21 "_law_spots" = true) (k21 : PySem.W.keepIn K (.ref a21) = true)
    (n22 : PySem.W.nsIn K mainGlobals "_law_rows_right" = some (some (.ref a22))) (l22 : K.lookup a22 = some ⟨oc22, od22, .func (PySem.W.fnOf "_law_rows_right" "_law_rows_right" (defArgs (top 26)) (defBody (top 26)) (defScope (top 26)) .none kV22 dc22 pm22 an22 cd22 ct22), sl22⟩) (c22 : PySem.W.codeIn K cd22 "_law_rows_right" = true) (k22 : PySem.W.keepIn K (.ref a22) = true)
    (n23 : PySem.W.nsIn K mainGlobals "law" = some (some (.ref a23))) (l23 : K.lookup a23 = some ⟨oc23, od23, .func (PySem.W.fnOf "law" "law" (defArgs (top 27)) (defBody (top 27)) (defScope (top 27)) .none kV23 dc23 pm23 an23 cd23 ct23), sl23⟩) (c23 : PySem.W.codeIn K cd23 "law" = true) (k23 : PySem.W.keepIn K (.ref a23) = true)
    (z_bool : PySem.W.nsIn K mainGlobals "bool" = some none)
    (z_int : PySem.W.nsIn K mainGlobals "int" = some none)
    (z_isinstance : PySem.W.nsIn K mainGlobals "isinstance" = some none)
    (z_len : PySem.W.nsIn K mainGlobals "len" = some none)
    (z_list : PySem.W.nsIn K mainGlobals "list" = some none)
    (z_range : PySem.W.nsIn K mainGlobals "range" = some none)
    (z_repr : PySem.W.nsIn K mainGlobals "repr" = some none)
    (z_sorted : PySem.W.nsIn K mainGlobals "sorted" = some none)
    (z_str : PySem.W.nsIn K mainGlobals "str" = some none)
    (z_tuple : PySem.W.nsIn K mainGlobals "tuple" = some none)
    {a_BACK : Addr} {e_BACK : Option Addr} {g_BACK : Nat} {s_BACK : Array (Option Value)} {t_BACK_0 : Tok} (q_BACK : PySem.W.nsIn K mainGlobals "BACK" = some (some (.ref a_BACK))) (y_BACK : K.lookup a_BACK = some ⟨.type "tuple", e_BACK, .seq #[.str "back" t_BACK_0] g_BACK, s_BACK⟩) :
    ∃ (fd : FuncData) (w : Wd), (∀ (s : Shared) (u : Value), BindsTo s fd ⟨[u], []⟩ [("_law_script", u)]) ∧ ∀ base : Heap, K.In base → base.Ns mainGlobals mg → FnG l.prog wd K mg base 200 fa fd ["_law_script"] (spD K w (evF Pr 200) 23) := by
  have e : a23 = fa := by
    have z := (PySem.W.mg_of X G n23).symm.trans hfa
    cases z
    rfl
  subst e
  have F0 := fun_mk (st := top 2) l0 c0 k0
  have F1 := fun_mk (st := top 3) l1 c1 k1
  have F2 := fun_mk (st := top 5) l2 c2 k2
  have F3 := fun_mk (st := top 6) l3 c3 k3
  have F4 := fun_mk (st := top 7) l4 c4 k4
  have F5 := fun_mk (st := top 8) l5 c5 k5
  have F6 := fun_mk (st := top 9) l6 c6 k6
  have F7 := fun_mk (st := top 10) l7 c7 k7
  have F8 := fun_mk (st := top 12) l8 c8 k8
  have F9 := fun_mk (st := top 13) l9 c9 k9
  have F10 := fun_mk (st := top 14) l10 c10 k10
  have F11 := fun_mk (st := top 15) l11 c11 k11
  have F12 := fun_mk (st := top 16) l12 c12 k12
  have F13 := fun_mk (st := top 17) l13 c13 k13
  have F14 := fun_mk (st := top 18) l14 c14 k14
  have F15 := fun_mk (st := top 19) l15 c15 k15
  have F16 := fun_mk (st := top 20) l16 c16 k16
  have F17 := fun_mk (st := top 21) l17 c17 k17
  have F18 := fun_mk (st := top 22) l18 c18 k18
  have F19 := fun_mk (st := top 23) l19 c19 k19
  have F20 := fun_mk (st := top 24) l20 c20 k20
  have F21 := fun_mk (st := top 25) l21 c21 k21
  have F22 := fun_mk (st := top 26) l22 c22 k22
  have F23 := fun_mk (st := top 27) l23 c23 k23
  let w : Wd := ⟨fun k => [a0, a1, a2, a3, a4, a5, a6, a7, a8, a9, a10, a11, a12, a13, a14, a15, a16, a17, a18, a19, a20, a21, a22, a23][k]?, fun _ => 0, fun k => [PySem.W.fnOf "is_integer" "is_integer" (defArgs (top 2)) (defBody (top 2)) (defScope (top 2)) .none kV0 dc0 pm0 an0 cd0 ct0, PySem.W.fnOf "is_number" "is_number" (defArgs (top 3)) (defBody (top 3)) (defScope (top 3)) .none kV1 dc1 pm1 an1 cd1 ct1, PySem.W.fnOf "program_text" "program_text" (defArgs (top 5)) (defBody (top 5)) (defScope (top 5)) .none kV2 dc2 pm2 an2 cd2 ct2, PySem.W.fnOf "line_text" "line_text" (defArgs (top 6)) (defBody (top 6)) (defScope (top 6)) .none kV3 dc3 pm3 an3 cd3 ct3, PySem.W.fnOf "way_word" "way_word" (defArgs (top 7)) (defBody (top 7)) (defScope (top 7)) .none kV4 dc4 pm4 an4 cd4 ct4, PySem.W.fnOf "handler_word" "handler_word" (defArgs (top 8)) (defBody (top 8)) (defScope (top 8)) .none kV5 dc5 pm5 an5 cd5 ct5, PySem.W.fnOf "spots_text" "spots_text" (defArgs (top 9)) (defBody (top 9)) (defScope (top 9)) .none kV6 dc6 pm6 an6 cd6 ct6, PySem.W.fnOf "spot_word" "spot_word" (defArgs (top 10)) (defBody (top 10)) (defScope (top 10)) .none kV7 dc7 pm7 an7 cd7 ct7, PySem.W.fnOf "_law_feed" "_law_feed" (defArgs (top 12)) (defBody (top 12)) (defScope (top 12)) .none kV8 dc8 pm8 an8 cd8 ct8, PySem.W.fnOf "_law_draw" "_law_draw" (defArgs (top 13)) (defBody (top 13)) (defScope (top 13)) .none kV9 dc9 pm9 an9 cd9 ct9, PySem.W.fnOf "_law_row" "_law_row" (defArgs (top 14)) (defBody (top 14)) (defScope (top 14)) .none kV10 dc10 pm10 an10 cd10 ct10, PySem.W.fnOf "_law_drawn" "_law_drawn" (defArgs (top 15)) (defBody (top 15)) (defScope (top 15)) .none kV11 dc11 pm11 an11 cd11 ct11, PySem.W.fnOf "_law_first" "_law_first" (defArgs (top 16)) (defBody (top 16)) (defScope (top 16)) .none kV12 dc12 pm12 an12 cd12 ct12, PySem.W.fnOf "_law_great" "_law_great" (defArgs (top 17)) (defBody (top 17)) (defScope (top 17)) .none kV13 dc13 pm13 an13 cd13 ct13, PySem.W.fnOf "_law_call_text" "_law_call_text" (defArgs (top 18)) (defBody (top 18)) (defScope (top 18)) .none kV14 dc14 pm14 an14 cd14 ct14, PySem.W.fnOf "_law_way_text" "_law_way_text" (defArgs (top 19)) (defBody (top 19)) (defScope (top 19)) .none kV15 dc15 pm15 an15 cd15 ct15, PySem.W.fnOf "_law_handler_text" "_law_handler_text" (defArgs (top 20)) (defBody (top 20)) (defScope (top 20)) .none kV16 dc16 pm16 an16 cd16 ct16, PySem.W.fnOf "_law_row_text" "_law_row_text" (defArgs (top 21)) (defBody (top 21)) (defScope (top 21)) .none kV17 dc17 pm17 an17 cd17 ct17, PySem.W.fnOf "_law_page" "_law_page" (defArgs (top 22)) (defBody (top 22)) (defScope (top 22)) .none kV18 dc18 pm18 an18 cd18 ct18, PySem.W.fnOf "_law_spots_page" "_law_spots_page" (defArgs (top 23)) (defBody (top 23)) (defScope (top 23)) .none kV19 dc19 pm19 an19 cd19 ct19, PySem.W.fnOf "_law_odd_rows" "_law_odd_rows" (defArgs (top 24)) (defBody (top 24)) (defScope (top 24)) .none kV20 dc20 pm20 an20 cd20 ct20, PySem.W.fnOf "_law_spots" "_law_spots" (defArgs (top 25)) (defBody (top 25)) (defScope (top 25)) .none kV21 dc21 pm21 an21 cd21 ct21, PySem.W.fnOf "_law_rows_right" "_law_rows_right" (defArgs (top 26)) (defBody (top 26)) (defScope (top 26)) .none kV22 dc22 pm22 an22 cd22 ct22, PySem.W.fnOf "law" "law" (defArgs (top 27)) (defBody (top 27)) (defScope (top 27)) .none kV23 dc23 pm23 an23 cd23 ct23].getD k (PySem.W.fnOf "is_integer" "is_integer" (defArgs (top 2)) (defBody (top 2)) (defScope (top 2)) .none kV0 dc0 pm0 an0 cd0 ct0), fun k => PS.getD k []⟩
  have T : Tx K mg w := ⟨a0, rfl, PySem.W.mg_of X G n0, rfl, a1, rfl, PySem.W.mg_of X G n1, rfl, a2, rfl, PySem.W.mg_of X G n2, rfl, a3, rfl, PySem.W.mg_of X G n3, rfl, a4, rfl, PySem.W.mg_of X G n4, rfl, a5, rfl, PySem.W.mg_of X G n5, rfl, a6, rfl, PySem.W.mg_of X G n6, rfl, a7, rfl, PySem.W.mg_of X G n7, rfl, a8, rfl, PySem.W.mg_of X G n8, rfl, a9, rfl, PySem.W.mg_of X G n9, rfl, a10, rfl, PySem.W.mg_of X G n10, rfl, a11, rfl, PySem.W.mg_of X G n11, rfl, a12, rfl, PySem.W.mg_of X G n12, rfl, a13, rfl, PySem.W.mg_of X G n13, rfl, a14, rfl, PySem.W.mg_of X G n14, rfl, a15, rfl, PySem.W.mg_of X G n15, rfl, a16, rfl, PySem.W.mg_of X G n16, rfl, a17, rfl, PySem.W.mg_of X G n17, rfl, a18, rfl, PySem.W.mg_of X G n18, rfl, a19, rfl, PySem.W.mg_of X G n19, rfl, a20, rfl, PySem.W.mg_of X G n20, rfl, a21, rfl, PySem.W.mg_of X G n21, rfl, a22, rfl, PySem.W.mg_of X G n22, rfl, a23, rfl, PySem.W.mg_of X G n23, rfl, PySem.W.mg_none_of X G z_bool, PySem.W.mg_none_of X G z_int, PySem.W.mg_none_of X G z_isinstance, PySem.W.mg_none_of X G z_len, PySem.W.mg_none_of X G z_list, PySem.W.mg_none_of X G z_range, PySem.W.mg_none_of X G z_repr, PySem.W.mg_none_of X G z_sorted, PySem.W.mg_none_of X G z_str, PySem.W.mg_none_of X G z_tuple, _, (.ref a_BACK), (PySem.W.mg_of X G q_BACK), rfl, (fun H U => rp_tupStrs (xs := ["back"]) y_BACK (show 1 ≤ sizeLine by decide) (.cons ⟨_, rfl⟩ .nil) H U)⟩
  have B0 := bnd_of (ps := ["thing"]) F0 (fun _ _ _ _ _ _ us hl => match us, hl with | [_], _ => rfl) (fun _ _ _ _ _ _ us hl => match us, hl with | [_], _ => rfl)
  have B1 := bnd_of (ps := ["thing"]) F1 (fun _ _ _ _ _ _ us hl => match us, hl with | [_], _ => rfl) (fun _ _ _ _ _ _ us hl => match us, hl with | [_], _ => rfl)
  have B2 := bnd_of (ps := ["program"]) F2 (fun _ _ _ _ _ _ us hl => match us, hl with | [_], _ => rfl) (fun _ _ _ _ _ _ us hl => match us, hl with | [_], _ => rfl)
  have B3 := bnd_of (ps := ["line"]) F3 (fun _ _ _ _ _ _ us hl => match us, hl with | [_], _ => rfl) (fun _ _ _ _ _ _ us hl => match us, hl with | [_], _ => rfl)
  have B4 := bnd_of (ps := ["way"]) F4 (fun _ _ _ _ _ _ us hl => match us, hl with | [_], _ => rfl) (fun _ _ _ _ _ _ us hl => match us, hl with | [_], _ => rfl)
  have B5 := bnd_of (ps := ["kind", "index"]) F5 (fun _ _ _ _ _ _ us hl => match us, hl with | [_, _], _ => rfl) (fun _ _ _ _ _ _ us hl => match us, hl with | [_, _], _ => rfl)
  have B6 := bnd_of (ps := ["spots"]) F6 (fun _ _ _ _ _ _ us hl => match us, hl with | [_], _ => rfl) (fun _ _ _ _ _ _ us hl => match us, hl with | [_], _ => rfl)
  have B7 := bnd_of (ps := ["spot"]) F7 (fun _ _ _ _ _ _ us hl => match us, hl with | [_], _ => rfl) (fun _ _ _ _ _ _ us hl => match us, hl with | [_], _ => rfl)
  have B8 := bnd_of (ps := ["_law_script"]) F8 (fun _ _ _ _ _ _ us hl => match us, hl with | [_], _ => rfl) (fun _ _ _ _ _ _ us hl => match us, hl with | [_], _ => rfl)
  have B9 := bnd_of (ps := ["_law_feed_here", "_law_many"]) F9 (fun _ _ _ _ _ _ us hl => match us, hl with | [_, _], _ => rfl) (fun _ _ _ _ _ _ us hl => match us, hl with | [_, _], _ => rfl)
  have B10 := bnd_of (ps := ["_law_feed_here", "_law_titles", "_law_size"]) F10 (fun _ _ _ _ _ _ us hl => match us, hl with | [_, _, _], _ => rfl) (fun _ _ _ _ _ _ us hl => match us, hl with | [_, _, _], _ => rfl)
  have B11 := bnd_of (ps := ["_law_feed_here"]) F11 (fun _ _ _ _ _ _ us hl => match us, hl with | [_], _ => rfl) (fun _ _ _ _ _ _ us hl => match us, hl with | [_], _ => rfl)
  have B12 := bnd_of (ps := []) F12 (fun _ _ _ _ _ _ us hl => match us, hl with | [], _ => rfl) (fun _ _ _ _ _ _ us hl => match us, hl with | [], _ => rfl)
  have B13 := bnd_of (ps := []) F13 (fun _ _ _ _ _ _ us hl => match us, hl with | [], _ => rfl) (fun _ _ _ _ _ _ us hl => match us, hl with | [], _ => rfl)
  have B14 := bnd_of (ps := ["_law_own"]) F14 (fun _ _ _ _ _ _ us hl => match us, hl with | [_], _ => rfl) (fun _ _ _ _ _ _ us hl => match us, hl with | [_], _ => rfl)
  have B15 := bnd_of (ps := ["_law_own"]) F15 (fun _ _ _ _ _ _ us hl => match us, hl with | [_], _ => rfl) (fun _ _ _ _ _ _ us hl => match us, hl with | [_], _ => rfl)
  have B16 := bnd_of (ps := ["_law_own"]) F16 (fun _ _ _ _ _ _ us hl => match us, hl with | [_], _ => rfl) (fun _ _ _ _ _ _ us hl => match us, hl with | [_], _ => rfl)
  have B17 := bnd_of (ps := ["_law_row_here"]) F17 (fun _ _ _ _ _ _ us hl => match us, hl with | [_], _ => rfl) (fun _ _ _ _ _ _ us hl => match us, hl with | [_], _ => rfl)
  have B18 := bnd_of (ps := ["_law_whole"]) F18 (fun _ _ _ _ _ _ us hl => match us, hl with | [_], _ => rfl) (fun _ _ _ _ _ _ us hl => match us, hl with | [_], _ => rfl)
  have B19 := bnd_of (ps := ["_law_some"]) F19 (fun _ _ _ _ _ _ us hl => match us, hl with | [_], _ => rfl) (fun _ _ _ _ _ _ us hl => match us, hl with | [_], _ => rfl)
  have B20 := bnd_of (ps := []) F20 (fun _ _ _ _ _ _ us hl => match us, hl with | [], _ => rfl) (fun _ _ _ _ _ _ us hl => match us, hl with | [], _ => rfl)
  have B21 := bnd_of (ps := ["_law_whole"]) F21 (fun _ _ _ _ _ _ us hl => match us, hl with | [_], _ => rfl) (fun _ _ _ _ _ _ us hl => match us, hl with | [_], _ => rfl)
  have B22 := bnd_of (ps := ["_law_lot"]) F22 (fun _ _ _ _ _ _ us hl => match us, hl with | [_], _ => rfl) (fun _ _ _ _ _ _ us hl => match us, hl with | [_], _ => rfl)
  have B23 := bnd_of (ps := ["_law_script"]) F23 (fun _ _ _ _ _ _ us hl => match us, hl with | [_], _ => rfl) (fun _ _ _ _ _ _ us hl => match us, hl with | [_], _ => rfl)
  have B : Ks K w := by
    refine ⟨fun k f hk => ?_, fun k f hk => ?_⟩
    · match k, hk with
      | 0, hk => cases hk; exact k0
      | 1, hk => cases hk; exact k1
      | 2, hk => cases hk; exact k2
      | 3, hk => cases hk; exact k3
      | 4, hk => cases hk; exact k4
      | 5, hk => cases hk; exact k5
      | 6, hk => cases hk; exact k6
      | 7, hk => cases hk; exact k7
      | 8, hk => cases hk; exact k8
      | 9, hk => cases hk; exact k9
      | 10, hk => cases hk; exact k10
      | 11, hk => cases hk; exact k11
      | 12, hk => cases hk; exact k12
      | 13, hk => cases hk; exact k13
      | 14, hk => cases hk; exact k14
      | 15, hk => cases hk; exact k15
      | 16, hk => cases hk; exact k16
      | 17, hk => cases hk; exact k17
      | 18, hk => cases hk; exact k18
      | 19, hk => cases hk; exact k19
      | 20, hk => cases hk; exact k20
      | 21, hk => cases hk; exact k21
      | 22, hk => cases hk; exact k22
      | 23, hk => cases hk; exact k23
      | k + 24, hk => simp [w] at hk
    · match k, hk with
      | 0, hk => exact B0
      | 1, hk => exact B1
      | 2, hk => exact B2
      | 3, hk => exact B3
      | 4, hk => exact B4
      | 5, hk => exact B5
      | 6, hk => exact B6
      | 7, hk => exact B7
      | 8, hk => exact B8
      | 9, hk => exact B9
      | 10, hk => exact B10
      | 11, hk => exact B11
      | 12, hk => exact B12
      | 13, hk => exact B13
      | 14, hk => exact B14
      | 15, hk => exact B15
      | 16, hk => exact B16
      | 17, hk => exact B17
      | 18, hk => exact B18
      | 19, hk => exact B19
      | 20, hk => exact B20
      | 21, hk => exact B21
      | 22, hk => exact B22
      | 23, hk => exact B23
      | k + 24, hk => simp [w] at hk
  refine ⟨PySem.W.fnOf "law" "law" (defArgs (top 27)) (defBody (top 27)) (defScope (top 27)) .none kV23 dc23 pm23 an23 cd23 ct23, w, fun s v => .of_eq rfl, fun base _ _ => ?_⟩
  have L : ∀ n, Lvl l.prog wd K mg base w Pr n := lvl_all fun n h => by
    intro k f hk
    match k, hk with
    | 0, hk => cases hk; exact ok0 T B h F0
    | 1, hk => cases hk; exact ok1 T B h F1
    | 2, hk => cases hk; exact ok2 T B h F2
    | 3, hk => cases hk; exact ok3 T B h F3
    | 4, hk => cases hk; exact ok4 T B h F4
    | 5, hk => cases hk; exact ok5 T B h F5
    | 6, hk => cases hk; exact ok6 T B h F6
    | 7, hk => cases hk; exact ok7 T B h F7
    | 8, hk => cases hk; exact ok8 T B h F8
    | 9, hk => cases hk; exact ok9 T B h F9
    | 10, hk => cases hk; exact ok10 T B h F10
    | 11, hk => cases hk; exact ok11 T B h F11
    | 12, hk => cases hk; exact ok12 T B h F12
    | 13, hk => cases hk; exact ok13 T B h F13
    | 14, hk => cases hk; exact ok14 T B h F14
    | 15, hk => cases hk; exact ok15 T B h F15
    | 16, hk => cases hk; exact ok16 T B h F16
    | 17, hk => cases hk; exact ok17 T B h F17
    | 18, hk => cases hk; exact ok18 T B h F18
    | 19, hk => cases hk; exact ok19 T B h F19
    | 20, hk => cases hk; exact ok20 T B h F20
    | 21, hk => cases hk; exact ok21 T B h F21
    | 22, hk => cases hk; exact ok22 T B h F22
    | 23, hk => cases hk; exact ok23 T B h F23
    | k + 24, hk => simp [w] at hk
  exact L 200 23 a23 rfl
end K08
open PySem PySem.W PyProof.Rows in
set_option maxRecDepth 100000 in
set_option maxHeartbeats 0 in
theorem PySem.Challenge.cw_outandover_k08_texts_written_holds : PySem.Challenge.rw_outandover_k08_texts_written.Holds := by
  w_on; o_law; k_head; (case hw => w_witness2)
  k_fill
  refine Pv.walk_pv (l := PySem.Challenge.rw_outandover_k08_texts_written) (n := 200) (k := 23) (Pr := K08.Pr) (x := "_law_script") rfl rfl ⟨rfl, by decide, by decide⟩ (fun w h Y => PySem.W.kIn_of Y) ?F (K08.law_true)
  case F =>
    intro w mg fa h KX G hmg
    refine' K08.all_mk KX G hmg ?n0 ?l0 ?c0 ?k0 ?n1 ?l1 ?c1 ?k1 ?n2 ?l2 ?c2 ?k2 ?n3 ?l3 ?c3 ?k3 ?n4 ?l4 ?c4 ?k4 ?n5 ?l5 ?c5 ?k5 ?n6 ?l6 ?c6 ?k6 ?n7 ?l7 ?c7 ?k7 ?n8 ?l8 ?c8 ?k8 ?n9 ?l9 ?c9 ?k9 ?n10 ?l10 ?c10 ?k10 ?n11 ?l11 ?c11 ?k11 ?n12 ?l12 ?c12 ?k12 ?n13 ?l13 ?c13 ?k13 ?n14 ?l14 ?c14 ?k14 ?n15 ?l15 ?c15 ?k15 ?n16 ?l16 ?c16 ?k16 ?n17 ?l17 ?c17 ?k17 ?n18 ?l18 ?c18 ?k18 ?n19 ?l19 ?c19 ?k19 ?n20 ?l20 ?c20 ?k20 ?n21 ?l21 ?c21 ?k21 ?n22 ?l22 ?c22 ?k22 ?n23 ?l23 ?c23 ?k23 ?z_bool ?z_int ?z_isinstance ?z_len ?z_list ?z_range ?z_repr ?z_sorted ?z_str ?z_tuple ?q_BACK ?y_BACK
    (case n0 => k_is)
    (case l0 => k_is)
    (case c0 => k_is)
    (case k0 => k_is)
    (case n1 => k_is)
    (case l1 => k_is)
    (case c1 => k_is)
    (case k1 => k_is)
    (case n2 => k_is)
    (case l2 => k_is)
    (case c2 => k_is)
    (case k2 => k_is)
    (case n3 => k_is)
    (case l3 => k_is)
    (case c3 => k_is)
    (case k3 => k_is)
    (case n4 => k_is)
    (case l4 => k_is)
    (case c4 => k_is)
    (case k4 => k_is)
    (case n5 => k_is)
    (case l5 => k_is)
    (case c5 => k_is)
    (case k5 => k_is)
    (case n6 => k_is)
    (case l6 => k_is)
    (case c6 => k_is)
    (case k6 => k_is)
    (case n7 => k_is)
    (case l7 => k_is)
    (case c7 => k_is)
    (case k7 => k_is)
    (case n8 => k_is)
    (case l8 => k_is)
    (case c8 => k_is)
    (case k8 => k_is)
    (case n9 => k_is)
    (case l9 => k_is)
    (case c9 => k_is)
    (case k9 => k_is)
    (case n10 => k_is)
    (case l10 => k_is)
    (case c10 => k_is)
    (case k10 => k_is)
    (case n11 => k_is)
    (case l11 => k_is)
    (case c11 => k_is)
    (case k11 => k_is)
    (case n12 => k_is)
    (case l12 => k_is)
    (case c12 => k_is)
    (case k12 => k_is)
    (case n13 => k_is)
    (case l13 => k_is)
    (case c13 => k_is)
    (case k13 => k_is)
    (case n14 => k_is)
    (case l14 => k_is)
    (case c14 => k_is)
    (case k14 => k_is)
    (case n15 => k_is)
    (case l15 => k_is)
    (case c15 => k_is)
    (case k15 => k_is)
    (case n16 => k_is)
    (case l16 => k_is)
    (case c16 => k_is)
    (case k16 => k_is)
    (case n17 => k_is)
    (case l17 => k_is)
    (case c17 => k_is)
    (case k17 => k_is)
    (case n18 => k_is)
    (case l18 => k_is)
    (case c18 => k_is)
    (case k18 => k_is)
    (case n19 => k_is)
    (case l19 => k_is)
    (case c19 => k_is)
    (case k19 => k_is)
    (case n20 => k_is)
    (case l20 => k_is)
    (case c20 => k_is)
    (case k20 => k_is)
    (case n21 => k_is)
    (case l21 => k_is)
    (case c21 => k_is)
    (case k21 => k_is)
    (case n22 => k_is)
    (case l22 => k_is)
    (case c22 => k_is)
    (case k22 => k_is)
    (case n23 => k_is)
    (case l23 => k_is)
    (case c23 => k_is)
    (case k23 => k_is)
    (case z_bool => k_is)
    (case z_int => k_is)
    (case z_isinstance => k_is)
    (case z_len => k_is)
    (case z_list => k_is)
    (case z_range => k_is)
    (case z_repr => k_is)
    (case z_sorted => k_is)
    (case z_str => k_is)
    (case z_tuple => k_is)
    (case q_BACK => k_is)
    (case y_BACK => k_is)
