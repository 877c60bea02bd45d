import PyProof.Rows.All
import Wide.All
import OpenK.AllK
import Wide.FinOn
import PySem.Challenge.RW_almsrow_k05_literals_together
import HandS.ForMost
import HandS.IsInst
import HandS.Conv
import HandS.Strs
import HandS.TupAny
import HandS.TupMul
import HandS.DeepEq
import HandS.Deep
import HandS.Text
import HandS.Replace
import HandS.Small
import HandS.Flow
import HandS.Wide
import HandS.AnyAll
import HandS.Comp
import PyProof.GenCompD
import PyProof.GenRules
import PyProof.GenQ
import PyProof.ConsumeS
import HandS.GenOver
import HandS.Codes
import HandS.TryOnly
import KE.KRevSl
import HandS.Defaults
import HandS.SetFor
import PyProof.Rows.SetFrom
import PyProof.EqAt
import PyProof.Rows.SortShellAny
import KE.SortData
import HandS.NoneIn
import HandS.Head0
import HandS.Head1
import HandS.Head2
import HandS.HeadEnd
import HandS.HeadHook1
import HandS.HeadHook2
import PyProof.ReprRoads
import HandS.RaiseMore
import HandS.HeadHook3
import HandS.HeadHook4
import PyProof.ReprLen
import PyProof.FitsInt
import HandS.EndTab
import HandS.HeadWalk
set_option Elab.async false
set_option linter.all false
set_option maxRecDepth 100000
/-! VmA: a small evaluator over values, its results. -/
namespace Vm
open PySem PySem.Spec PyProof.Rows L2

/-- a value: what is never written as a tree (a tuple; fl: a list that nobody writes), the others by their numbers in the heap of the evaluator -/
inductive PV where
  | non | bl (b : Bool) | int (i : Int) | str (s : Str) | tup (xs : List PV) | fl (xs : List PV) | ref (a : Nat)
  deriving Inhabited

/-- what stands at a number: a list, a dict with text keys -/
inductive HV where
  | lst (xs : List PV) | dct (kvs : List (Str × PV))
  deriving Inhabited

abbrev IH := List HV
abbrev Ev := List (Option PV)

inductive Res (α : Type) where
  | ok (a : α) (h : IH) | exc (c : Nat) (fs : List PV) (h : IH) | stuck

def Res.bind {α β : Type} (r : Res α) (f : α → IH → Res β) : Res β := match r with
  | .ok a h => f a h
  | .exc c fs h => .exc c fs h
  | .stuck => .stuck

@[simp] theorem Res.bind_ok {α β : Type} (a : α) (h : IH) (f : α → IH → Res β) : (Res.ok a h).bind f = f a h := rfl
@[simp] theorem Res.bind_exc {α β : Type} (c : Nat) (fs : List PV) (h : IH) (f : α → IH → Res β) : (Res.exc c fs h : Res α).bind f = .exc c fs h := rfl
@[simp] theorem Res.bind_stuck {α β : Type} (f : α → IH → Res β) : (Res.stuck : Res α).bind f = .stuck := rfl

/-- it ends, and Q holds of the end -/
def Res.Ok {α : Type} (r : Res α) (Q : α → IH → Prop) : Prop := match r with
  | .ok a h => Q a h
  | _ => False
@[simp] theorem Res.Ok_ok {α : Type} (a : α) (h : IH) (Q : α → IH → Prop) : (Res.ok a h).Ok Q = Q a h := rfl
theorem Res.ok_bind {α β : Type} {r : Res α} {f : α → IH → Res β} {Q : β → IH → Prop} (h : r.Ok fun a h1 => (f a h1).Ok Q) : (r.bind f).Ok Q := by
  cases r with
  | ok a h1 => exact h
  | exc => exact h.elim
  | stuck => exact h.elim
theorem Res.Ok.mono {α : Type} {r : Res α} {Q Q' : α → IH → Prop} (h : r.Ok Q) (k : ∀ a h1, Q a h1 → Q' a h1) : r.Ok Q' := by
  cases r with
  | ok a h1 => exact k a h1 h
  | exc => exact h.elim
  | stuck => exact h.elim
theorem Res.Ok.get {α : Type} {r : Res α} {Q : α → IH → Prop} (h : r.Ok Q) : ∃ a h1, r = .ok a h1 ∧ Q a h1 := by
  cases r with
  | ok a h1 => exact ⟨a, h1, rfl, h⟩
  | exc => exact h.elim
  | stuck => exact h.elim
/-- what raises is not followed -/
def Res.calm {α : Type} (r : Res α) : Res α := match r with
  | .ok a h => .ok a h
  | _ => .stuck
@[simp] theorem Res.calm_ok {α : Type} (a : α) (h : IH) : (Res.ok a h).calm = .ok a h := rfl

/-! ### the text as the evaluator has it -/
inductive BOp where | add | sub | mul | fdiv | mod | pow
  deriving DecidableEq
inductive COp where | eq | ne | lt | le | gt | ge
  deriving DecidableEq

/-- what is stored to: a name's slot, or slots by an unpacking -/
inductive Tg where
  | one (i : Nat) | many (is : List Nat)
def Tg.slots : Tg → List Nat
  | .one i => [i]
  | .many is => is

/-- the built-in classes that are asked for -/
inductive Ty where | int | bool | str | tuple | list
  deriving DecidableEq
def Ty.word : Ty → String
  | .int => "int" | .bool => "bool" | .str => "str" | .tuple => "tuple" | .list => "list"
/-- what a module's name stands for -/
inductive Cst where
  | int (i : Int) | str (s : Str) | strs (l : List Str)
  deriving DecidableEq
def Cst.pv : Cst → PV
  | .int i => .int i
  | .str s => .str s
  | .strs l => .tup (l.map PV.str)
mutual
inductive E where
  | var (i : Nat) | int (i : Int) | str (s : Str) | bl (b : Bool) | non
  | bin (op : BOp) (a b : E) | neg (a : E)
  | cmp (op : COp) (a b : E) | chain (o1 o2 : COp) (a b c : E)
  | isn (a : E) | notn (a : E)
  | band (a b : E) | bor (a b : E) | not (a : E) | ite (c a b : E)
  | tup (es : Es) | lst (es : Es)
  | ix (a i : E)
  | call (f : Nat) (es : Es)
  | bi (b : Nat) (es : Es)
  | lc (elt : E) (tg : Tg) (it : It) (cond : E)
  | slc (a : E) (lo hi : Pt)
  | lrng (a : E) | sset (a : E) | scnt (a u e : E)
  | isin (t : Ty) (a : E)
  | cont (neg : Bool) (a b : E) | pop (a i : E) | sidx (a b : E) | join (a b : E)
  | dlit (k : Str) (a : E) (ks : List (Str × Int)) | dix (a : E) (k : Str) | tset (a : E) | tsrt (a : E) | nemp (a : E)
  | gcon (x : Str) (k : Cst) | dget (a k : E) | din (neg : Bool) (k d : E) | cnt (a b : E)
  | psrt (a : E)
  | rev (a : E)
  | ddis (ks : List Str) (es : Es)
  | anyg (al : Bool) (elt : E) (tg : Tg) (it : It)
inductive Es where
  | nil | cons (e : E) (es : Es)
inductive It where
  | rng (e : E) | rng2 (a b : E) | rng3 (a b c : E) | seq (e : E) | enum (e : E) | zip (a b : E) | sgn (e : E)
inductive Pt where
  | no | yes (e : E)
end

inductive Sx where
  | set (tg : Tg) (e : E)
  | par (i j : Nat) (a b : E)
  | put (a i v : E)
  | augv (i : Nat) (op : BOp) (e : E)
  | augp (a i : E) (op : BOp) (e : E)
  | ret (e : E)
  | drop (e : E)
  | app (a e : E)
  | ext (a e : E)
  | dput (a : E) (k : Str) (v : E)
  | dputk (a k v : E)
  | never
mutual
inductive S where
  | x (s : Sx)
  | ifs (c : E) (a b : Ss)
  | for (tg : Tg) (it : It) (b : Ss)
  | whl (c : E) (b : Ss)
inductive Ss where
  | nil | cons (s : S) (ss : Ss)
end

/-! ### what it does -/
/-- what is walked: things, or the list at a number as it stands at each turn -/
inductive Src where
  | items (xs : List PV) | heap (a : Nat) | enum (a : Nat) | zip (a b : Nat)
/-- the thing at turn k: none where the walk can't go on, some none at its end -/
def Src.get (s : Src) (h : IH) (k : Nat) : Option (Option PV) := match s with
  | .items xs => some xs[k]?
  | .heap a => (match h[a]? with
    | some (.lst xs) => some xs[k]?
    | _ => none)
  | .enum a => (match h[a]? with
    | some (.lst xs) => some (xs[k]?.map fun x => .tup [.int k, x])
    | _ => none)
  | .zip a b => (match h[a]?, h[b]? with
    | some (.lst xs), some (.lst ys) => some (match xs[k]?, ys[k]? with
      | some x, some y => some (.tup [x, y])
      | _, _ => none)
    | _, _ => none)
/-- turns enough -/
def Src.fuel (s : Src) (h : IH) : Nat := match s with
  | .items xs => xs.length + 1
  | .heap a => (match h[a]? with
    | some (.lst xs) => xs.length + 1
    | _ => 0)
  | .enum a => (match h[a]? with
    | some (.lst xs) => xs.length + 1
    | _ => 0)
  | .zip a _ => (match h[a]? with
    | some (.lst xs) => xs.length + 1
    | _ => 0)

def lcLoop (src : Src) (f : PV → IH → Res (Option PV)) : Nat → Nat → List PV → IH → Res (List PV)
  | 0, _, _, _ => .stuck
  | n + 1, k, acc, h => match src.get h k with
    | none => .stuck
    | some none => .ok acc h
    | some (some x) => (f x h).bind fun o h1 => match o with
      | some y => if acc.length < sizeLine then lcLoop src f n (k + 1) (acc ++ [y]) h1 else .stuck
      | none => lcLoop src f n (k + 1) acc h1

def rd (h : IH) : PV → Option (List PV)
  | .tup xs => some xs
  | .fl xs => some xs
  | .ref a => match h[a]? with
    | some (.lst xs) => some xs
    | _ => none
  | _ => none

def new (h : IH) (xs : List PV) : Res PV := if xs.length ≤ sizeLine then .ok (.ref h.length) (h ++ [.lst xs]) else .stuck
def newT (h : IH) (xs : List PV) : Res PV := if xs.length ≤ sizeLine then .ok (.tup xs) h else .stuck

def big (i : Int) : Bool := decide (-(2 ^ 64) < i ∧ i < 2 ^ 64)

/-- a text so many times -/
def repS (x : Str) (n : Int) : Str := if n < 1 then Str.empty else if (n == 1 || x.length == 0) = true then x else ⟨(List.replicate n.toNat x.cps).foldl (· ++ ·) #[]⟩
def binF (op : BOp) (x y : PV) (h : IH) : Res PV := match op, x, y with
  | .add, .int i, .int j => .ok (.int (i + j)) h
  | .add, .str i, .str j => if i.length + j.length ≤ sizeLine then .ok (.str (i ++ j)) h else .stuck
  | .add, .tup xs, .tup ys => newT h (xs ++ ys)
  | .add, .ref a, .ref b => (match h[a]?, h[b]? with
    | some (.lst xs), some (.lst ys) => new h (xs ++ ys)
    | _, _ => .stuck)
  | .sub, .int i, .int j => .ok (.int (i - j)) h
  | .mul, .ref a, .int k => (match h[a]? with
    | some (.lst xs) => if -(2 ^ 63) ≤ k ∧ k < 2 ^ 63 then new h (List.replicate k.toNat xs).flatten else .stuck
    | _ => .stuck)
  | .mul, .int i, .int j => if big i || big j then .ok (.int (i * j)) h else .stuck
  | .mul, .tup xs, .int k => if 1 ≤ k ∧ k ≤ 1000 ∧ xs.isEmpty = false ∧ xs.length ≤ 1000 then .ok (.tup (List.replicate k.toNat xs).flatten) h else .stuck
  | .mul, .str x, .int k => if 0 ≤ k ∧ k ≤ 1000 ∧ x.length ≤ 1000 then .ok (.str (repS x k)) h else .stuck
  | .fdiv, .int i, .int j => if 0 < j ∧ (j < 1073741824 ∨ j.natAbs.log2 < 9000) then .ok (.int (i / j)) h else .stuck
  | .mod, .int i, .int j => if 0 < j then .ok (.int (i % j)) h else .stuck
  | .pow, .int i, .int j => if 0 ≤ j ∧ j ≤ 1000000 ∧ i.natAbs < 2 ^ 64 then .ok (.int (i ^ j.toNat)) h else .stuck
  | _, _, _ => .stuck

/-- op= -/
def augF (op : BOp) (x y : PV) (h : IH) : Res PV := match op, x, y with
  | .add, .int i, .int j => .ok (.int (i + j)) h
  | .add, .str i, .str j => if i.length + j.length ≤ sizeLine then .ok (.str (i ++ j)) h else .stuck
  | .sub, .int i, .int j => .ok (.int (i - j)) h
  | .mul, .int i, .int j => if big i || big j then .ok (.int (i * j)) h else .stuck
  | .fdiv, .int i, .int j => if 0 < j ∧ j < 1073741824 then .ok (.int (i / j)) h else .stuck
  | .mod, .int i, .int j => if 0 < j then .ok (.int (i % j)) h else .stuck
  | _, _, _ => .stuck

def seqO {α : Type} : List (Option α) → Option (List α)
  | [] => some []
  | some x :: r => (seqO r).map (x :: ·)
  | none :: _ => none
/-- what is compared as a whole -/
def dataOf (h : IH) : Nat → PV → Option PyData
  | 0, _ => none
  | n + 1, x => match x with
    | .non => some .none
    | .bl b => some (.bool b)
    | .int i => some (.int i)
    | .str s => some (.str s)
    | .tup xs => (seqO (xs.map (dataOf h n))).map .tuple
    | .fl xs => (seqO (xs.map (dataOf h n))).map .list
    | .ref a => match h[a]? with
      | some (.lst xs) => (seqO (xs.map (dataOf h n))).map .list
      | _ => none
def eqD (neg : Bool) (x y : PV) (h : IH) : Res PV := match dataOf h 40 x, dataOf h 40 y with
  | some d, some e => if SeqAt.shaped d = true ∧ SeqAt.shaped e = true then .ok (.bl (if neg then !PyData.eqv d e else PyData.eqv d e)) h else .stuck
  | _, _ => .stuck
def cmpF (op : COp) (x y : PV) (h : IH) : Res PV := match op, x, y with
  | .eq, .int i, .int j => .ok (.bl (decide (i = j))) h
  | .ne, .int i, .int j => .ok (.bl (!decide (i = j))) h
  | .eq, .str i, .str j => .ok (.bl (decide (i = j))) h
  | .ne, .str i, .str j => .ok (.bl (!decide (i = j))) h
  | .lt, .int i, .int j => .ok (.bl (decide (i < j))) h
  | .le, .int i, .int j => .ok (.bl (decide (i ≤ j))) h
  | .gt, .int i, .int j => .ok (.bl (decide (j < i))) h
  | .ge, .int i, .int j => .ok (.bl (decide (j ≤ i))) h
  | .lt, .str i, .str j => .ok (.bl (decide (i.cps.toList < j.cps.toList))) h
  | .le, .str i, .str j => .ok (.bl (!decide (j.cps.toList < i.cps.toList))) h
  | .ge, .str i, .str j => .ok (.bl (!decide (i.cps.toList < j.cps.toList))) h
  | .eq, x, y => eqD false x y h
  | .ne, x, y => eqD true x y h
  | _, _, _ => .stuck

def isNon : PV → Bool
  | .non => true
  | _ => false

def boolOf (x : PV) (h : IH) : Res Bool := match x with
  | .bl b => .ok b h
  | _ => .stuck

def ixF (x i : PV) (h : IH) : Res PV := match x, i with
  | .str z, .int j => if z.length ≤ sizeLine then (match atI z.cps.toList j with
    | some c => .ok (.str ⟨#[c]⟩) h
    | none => .stuck) else .stuck
  | _, .int j => match rd h x with
    | some xs => match atI xs j with
      | some v => .ok v h
      | none => .stuck
    | none => .stuck
  | _, _ => .stuck

/-- the things of a slice -/
def cutP (xs : List PV) (lo hi : Option Int) : List PV := (xs.drop (HT.sIx xs.length 0 lo)).take (HT.sIx xs.length xs.length hi - HT.sIx xs.length 0 lo)
def slcF (x : PV) (lo hi : Option Int) (h : IH) : Res PV := match x with
  | .tup xs => .ok (.tup (cutP xs lo hi)) h
  | .fl xs => new h (cutP xs lo hi)
  | .ref a => (match h[a]? with
    | some (.lst xs) => new h (cutP xs lo hi)
    | _ => .stuck)
  | .str z => if z.length ≤ sizeLine then .ok (.str (Txt.slice z lo hi)) h else .stuck
  | _ => .stuck

/-- what a statement comes to -/
inductive Fl where
  | nx (ev : Ev) | rt (x : PV)

/-- i, i + 1, .. (n of them) -/
def rngs (i : Int) (n : Nat) : List PV := (List.range n).map fun (k : Nat) => PV.int (i + (k : Int))
def intsOf : List PV → Option (List Int)
  | [] => some []
  | .int i :: xs => (intsOf xs).map (i :: ·)
  | _ => none
theorem intsOf_eq : ∀ {xs : List PV} {ns : List Int}, intsOf xs = some ns → xs = ns.map PV.int
  | [], ns, h => by cases h; rfl
  | x :: xs, ns, h => by
    cases x <;> try (cases h; done)
    unfold intsOf at h
    cases e : intsOf xs with
    | none => rw [e] at h; cases h
    | some ms =>
      rw [e] at h
      cases h
      rw [intsOf_eq e]
      rfl
@[simp] theorem intsOf_map : ∀ ns : List Int, intsOf (ns.map PV.int) = some ns
  | [] => rfl
  | n :: ns => by
    show (intsOf (ns.map PV.int)).map (n :: ·) = _
    rw [intsOf_map ns]
    rfl
def lrngF (x : PV) (h : IH) : Res PV := match x with
  | .int n => if -(2 ^ 62) ≤ n ∧ n < 2 ^ 62 ∧ n.toNat ≤ 2 ^ 24 then new h (rngs 0 n.toNat) else .stuck
  | _ => .stuck
def scntF (x u y : PV) (h : IH) : Res PV := match x, u, y with
  | .tup xs, .int n, .int k => match intsOf xs with
    | some ns => if HT.sIx xs.length xs.length (some n) ≠ xs.length then .ok (.int ((ns.take (HT.sIx xs.length xs.length (some n))).count k : Nat)) h else .stuck
    | none => .stuck
  | _, _, _ => .stuck
def scntG (fe : Ev → IH → Res PV) (ev : Ev) (x u : PV) (h : IH) : Res PV := match x, u with
  | .tup xs, .int n => if HT.sIx xs.length xs.length (some n) ≠ xs.length then (fe ev h).bind fun y h3 => scntF (.tup xs) (.int n) y h3 else .stuck
  | _, _ => .stuck
/-- k put in where it belongs, once -/
def insS (k : Int) : List Int → List Int
  | [] => [k]
  | x :: xs => if k < x then k :: x :: xs else if k = x then x :: xs else x :: insS k xs
/-- each once, from the least on -/
def ssetL (ns : List Int) : List Int := ns.foldr insS []
def ssetF (x : PV) (h : IH) : Res PV := match (rd h x).bind intsOf with
  | some ns => if ns.length < 64 then new h ((ssetL ns).map PV.int) else .stuck
  | none => .stuck
def setAll : List Nat → List PV → Ev → Option Ev
  | [], [], ev => some ev
  | i :: is, x :: xs, ev => setAll is xs (ev.set i (some x))
  | _, _, _ => none

def bindT (tg : Tg) (x : PV) (h : IH) (ev : Ev) : Option Ev := match tg with
  | .one i => some (ev.set i (some x))
  | .many is => match rd h x with
    | some xs => setAll is xs ev
    | none => none
def wipeE (ev : Ev) : List Nat → Ev
  | [] => ev
  | v :: vs => (wipeE ev vs).set v none
/-- a turn of a comprehension -/
def lcTurn (tg : Tg) (ev : Ev) (fc fe : Ev → IH → Res PV) (y : PV) (h : IH) : Res (Option PV) := (match bindT tg y h ev with
  | none => .stuck
  | some ev1 => (fc ev1 h).bind fun c h3 => match c with
    | .bl true => (fe ev1 h3).bind fun z h4 => .ok (some z) h4
    | .bl false => .ok none h3
    | _ => .stuck : Res (Option PV)).calm
/-- a turn of any, all: its truth -/
def agTurn (tg : Tg) (ev : Ev) (fe : Ev → IH → Res PV) (y : PV) (h : IH) : Res Bool := (match bindT tg y h ev with
  | none => .stuck
  | some ev1 => (fe ev1 h).bind fun z h2 => match z with
    | .bl b => .ok b h2
    | _ => .stuck : Res Bool).calm
/-- any (al: false), all (al: true) -/
def agLoop (al : Bool) (src : Src) (f : PV → IH → Res Bool) : Nat → Nat → IH → Res PV
  | 0, _, _ => .stuck
  | n + 1, k, h => match src.get h k with
    | none => .stuck
    | some none => .ok (.bl al) h
    | some (some x) => (f x h).bind fun b h1 => if b = al then agLoop al src f n (k + 1) h1 else .ok (.bl (!al)) h1
/-- a turn of a for -/
def forTurn (tg : Tg) (fb : Ev → IH → Res Fl) (y : PV) (ev : Ev) (h : IH) : Res Fl := match bindT tg y h ev with
  | some ev2 => fb ev2 h
  | none => .stuck
def enumF (x : PV) (h : IH) : Res Src := match x with
  | .ref b => (match h[b]? with
    | some (.lst _) => .ok (.enum b) h
    | _ => .stuck)
  | _ => .stuck
def zipF (x y : PV) (h : IH) : Res Src := match x, y with
  | .ref a, .ref b => (match h[a]?, h[b]? with
    | some (.lst _), some (.lst _) => .ok (.zip a b) h
    | _, _ => .stuck)
  | _, _ => .stuck
def tyOf (h : IH) : PV → Option String
  | .non => some "NoneType"
  | .bl _ => some "bool"
  | .int _ => some "int"
  | .str _ => some "str"
  | .tup _ => some "tuple"
  | .fl _ => some "list"
  | .ref a => match h[a]? with
    | some (.lst _) => some "list"
    | some (.dct _) => some "dict"
    | none => none
def isF (t : Ty) (x : PV) (h : IH) : Res PV := match tyOf h x with
  | some a => .ok (.bl (decide (a = t.word) || (decide (a = "bool") && decide (t = .int)))) h
  | none => .stuck
/-! ### texts, dicts with text keys, x in xs -/
def flatP : PV → Option V
  | .non => some .non
  | .bl b => some (.bl b)
  | .int i => some (.int i)
  | .str s => some (.str s)
  | _ => none
def flatsP : List PV → Option (List V)
  | [] => some []
  | x :: xs => match flatP x, flatsP xs with
    | some v, some vs => some (v :: vs)
    | _, _ => none
def contV (neg : Bool) (x y : PV) (h : IH) : Res PV := match flatP x, (rd h y).bind flatsP with
  | some v, some vs => .ok (.bl (if neg then !inV v vs else inV v vs)) h
  | _, _ => .stuck
def contF (neg : Bool) (x y : PV) (h : IH) : Res PV := match x, y with
  | .str u, .str z => (match u.cps.toList with
    | [c] => .ok (.bl (if neg then !decide (c ∈ z.cps.toList) else decide (c ∈ z.cps.toList))) h
    | _ => .stuck)
  | x, y => contV neg x y h
/-- xs.pop(i), i from 0 on -/
def popF (x i : PV) (h : IH) : Res PV := match x, i with
  | .ref r, .int j => (match h[r]? with
    | some (.lst xs) => if 0 ≤ j ∧ j < xs.length ∧ xs.length ≤ sizeLine then (match xs[j.toNat]? with
      | some y => .ok y (h.set r (.lst (xs.eraseIdx j.toNat)))
      | none => .stuck) else .stuck
    | _ => .stuck)
  | _, _ => .stuck
def strsOf : List PV → Option (List Str)
  | [] => some []
  | .str i :: xs => (strsOf xs).map (i :: ·)
  | _ => none
theorem strsOf_eq : ∀ {xs : List PV} {zs : List Str}, strsOf xs = some zs → xs = zs.map PV.str
  | [], zs, h => by cases h; rfl
  | x :: xs, zs, h => by
    cases x <;> try (cases h; done)
    unfold strsOf at h
    cases e : strsOf xs with
    | none => rw [e] at h; cases h
    | some ms =>
      rw [e] at h
      cases h
      rw [strsOf_eq e]
      rfl
@[simp] theorem strsOf_map : ∀ zs : List Str, strsOf (zs.map PV.str) = some zs
  | [] => rfl
  | z :: zs => by
    show (strsOf (zs.map PV.str)).map (z :: ·) = _
    rw [strsOf_map zs]
    rfl
def sidxF (x y : PV) (h : IH) : Res PV := match x, y with
  | .str a, .str b => (match Builtin.Str.occurrences a b 0 a.length 1 with
    | i :: _ => .ok (.int (i : Nat)) h
    | [] => .stuck)
  | _, _ => .stuck
def joinF (x y : PV) (h : IH) : Res PV := match x with
  | .str a => (match (rd h y).bind strsOf with
    | some zs => if (zs.map (·.length)).sum + zs.length * a.length ≤ 16777216 then .ok (.str (Txt.join a zs)) h else .stuck
    | none => .stuck)
  | _ => .stuck
/-- z put in where it belongs: ahead of the first that is not below it -/
def insT (z : Str) : List Str → List Str
  | [] => [z]
  | x :: xs => if x.cps.toList < z.cps.toList then x :: insT z xs else z :: x :: xs
def srtT (zs : List Str) : List Str := zs.foldr insT []
/-- .. once -/
def insU (z : Str) : List Str → List Str
  | [] => [z]
  | x :: xs => if x.cps.toList < z.cps.toList then x :: insU z xs else if x = z then x :: xs else z :: x :: xs
def srtU (zs : List Str) : List Str := zs.foldr insU []
def tsrtF (x : PV) (h : IH) : Res PV := match x with
  | .ref r => (match h[r]? with
    | some (.lst xs) => (match strsOf xs with
      | some zs => if zs.length < 64 then new h ((srtT zs).map PV.str) else .stuck
      | none => .stuck)
    | _ => .stuck)
  | _ => .stuck
/-- rows of ints -/
def rowP (r : List Int) : PV := .tup (r.map PV.int)
def rowZ : PV → Option (List Int)
  | .tup xs => intsOf xs
  | _ => none
def rowsZ : List PV → Option (List (List Int))
  | [] => some []
  | x :: xs => match rowZ x, rowsZ xs with
    | some r, some rs => some (r :: rs)
    | _, _ => none
theorem rowZ_eq {x : PV} {r : List Int} (h : rowZ x = some r) : x = rowP r := by
  cases x <;> try (cases h; done)
  unfold rowZ at h
  rw [intsOf_eq h]
  rfl
theorem rowsZ_eq : ∀ {xs : List PV} {rs : List (List Int)}, rowsZ xs = some rs → xs = rs.map rowP
  | [], rs, h => by cases h; rfl
  | x :: xs, rs, h => by
    unfold rowsZ at h
    split at h
    · rename_i r ss e1 e2
      cases h
      rw [List.map_cons, ← rowZ_eq e1, ← rowsZ_eq e2]
    · cases h
@[simp] theorem rowsZ_map : ∀ rs : List (List Int), rowsZ (rs.map rowP) = some rs
  | [] => rfl
  | r :: rs => by
    have e : rowZ (rowP r) = some r := intsOf_map r
    rw [List.map_cons]
    unfold rowsZ
    rw [e, rowsZ_map rs]
def rowLe (x y : List Int) : Bool := decide (x ≤ y)
def srtR (rs : List (List Int)) : List (List Int) := rs.mergeSort rowLe
/-- a display with text keys -/
def ddisF (ks : List Str) (xs : List PV) (h : IH) : Res PV := if ks.Nodup ∧ xs.length = ks.length ∧ ks.length ≤ 15 then .ok (.ref h.length) (h ++ [.dct (ks.zip xs)]) else .stuck
def rng3L (i k : Int) (n : Nat) : List PV := (List.range n).map fun (m : Nat) => PV.int (i + (m : Int) * k)
def rng3F (x y z : PV) (h : IH) : Res Src := match x, y, z with
  | .int i, .int j, .int k => if 0 ≤ i ∧ i ≤ 1000000 ∧ 0 ≤ j ∧ j ≤ 1000000 ∧ 0 < k ∧ k ≤ 1000000 then .ok (.items (rng3L i k (if i < j then ((j - i - 1) / k + 1).toNat else 0))) h else .stuck
  | _, _, _ => .stuck
/-- xs[::-1] -/
def revF (x : PV) (h : IH) : Res PV := match x with
  | .tup xs => .ok (.tup xs.reverse) h
  | .fl xs => new h xs.reverse
  | .ref a => (match h[a]? with
    | some (.lst xs) => new h xs.reverse
    | _ => .stuck)
  | _ => .stuck
def psrtF (x : PV) (h : IH) : Res PV := match x with
  | .ref r => (match h[r]? with
    | some (.lst xs) => (match rowsZ xs with
      | some rs => if (rs.all fun r => !r.isEmpty) = true then new h ((srtR rs).map rowP) else .stuck
      | none => .stuck)
    | _ => .stuck)
  | _ => .stuck
def tsetF (x : PV) (h : IH) : Res PV := match x with
  | .ref r => (match h[r]? with
    | some (.lst xs) => (match strsOf xs with
      | some zs => if zs.length < 1000 then new h ((srtU zs).map PV.str) else .stuck
      | none => .stuck)
    | _ => .stuck)
  | _ => .stuck
def nempF (x : PV) (h : IH) : Res PV := match rd h x with
  | some xs => .ok (.bl xs.isEmpty) h
  | none => .stuck
def dixF (x : PV) (k : Str) (h : IH) : Res PV := match x with
  | .ref r => (match h[r]? with
    | some (.dct kvs) => (match kvs.lookup k with
      | some v => .ok v h
      | none => .stuck)
    | _ => .stuck)
  | _ => .stuck
/-- the value of a key that is there -/
def dsetK (kvs : List (Str × PV)) (k : Str) (v : PV) : List (Str × PV) := kvs.map fun p => if p.1 = k then (p.1, v) else p
def dputF (x : PV) (k : Str) (v : PV) (h : IH) : Res Unit := match x with
  | .ref r => (match h[r]? with
    | some (.dct kvs) => if (kvs.any fun p => decide (p.1 = k)) = true ∧ kvs.length < sizeLine then .ok () (h.set r (.dct (dsetK kvs k v))) else .stuck
    | _ => .stuck)
  | _ => .stuck
def dlitF (k : Str) (x : PV) (ks : List (Str × Int)) (h : IH) : Res PV := if (k :: ks.map (·.1)).Nodup ∧ ks.length < 15 then .ok (.ref h.length) (h ++ [.dct ((k, x) :: ks.map fun p => (p.1, PV.int p.2))]) else .stuck
def dgetF (x y : PV) (h : IH) : Res PV := match x, y with
  | .ref r, .str k => (match h[r]? with
    | some (.dct kvs) => (match kvs.lookup k with
      | some v => .ok v h
      | none => .stuck)
    | _ => .stuck)
  | _, _ => .stuck
def dinF (neg : Bool) (y x : PV) (h : IH) : Res PV := match x, y with
  | .ref r, .str k => (match h[r]? with
    | some (.dct kvs) => .ok (.bl (if neg then !(kvs.lookup k).isSome else (kvs.lookup k).isSome)) h
    | _ => .stuck)
  | _, _ => .stuck
/-- in its place, or at the end -/
def dputL (kvs : List (Str × PV)) (k : Str) (v : PV) : List (Str × PV) := if (kvs.any fun p => decide (p.1 = k)) = true then dsetK kvs k v else kvs ++ [(k, v)]
def dputkF (x y z : PV) (h : IH) : Res Unit := match x, y with
  | .ref r, .str k => (match h[r]? with
    | some (.dct kvs) => if kvs.length < sizeLine then .ok () (h.set r (.dct (dputL kvs k z))) else .stuck
    | _ => .stuck)
  | _, _ => .stuck
def cntF (x y : PV) (h : IH) : Res PV := match x, y with
  | .ref r, .int k => (match h[r]? with
    | some (.lst xs) => (match intsOf xs with
      | some ns => .ok (.int (ns.count k : Nat)) h
      | none => .stuck)
    | _ => .stuck)
  | _, _ => .stuck
/-- what a list is lengthened by -/
def rdX (h : IH) : PV → Option (List PV)
  | .tup xs => some xs
  | .ref a => match h[a]? with
    | some (.lst xs) => some xs
    | _ => none
  | _ => none
def extF (x y : PV) (h : IH) : Res Unit := match x with
  | .ref r => (match h[r]?, rdX h y with
    | some (.lst xs), some ys => if xs.length + ys.length ≤ sizeLine then .ok () (h.set r (.lst (xs ++ ys))) else .stuck
    | _, _ => .stuck)
  | _ => .stuck
def lstC (x : PV) (h : IH) : Bool := match x with
  | .ref r => (match h[r]? with
    | some (.lst _) => true
    | _ => false)
  | _ => false
def strC : PV → Bool
  | .str _ => true
  | _ => false
def signs (z : Str) : List PV := z.cps.toList.map fun c => PV.str ⟨#[c]⟩
abbrev Fns := Nat → List PV → IH → Res PV
mutual
def evE (G B : Fns) : E → Ev → IH → Res PV
  | .var i, ev, h => match ev[i]? with
    | some (some x) => .ok x h
    | _ => .stuck
  | .int i, _, h => .ok (.int i) h
  | .str s, _, h => .ok (.str s) h
  | .bl b, _, h => .ok (.bl b) h
  | .non, _, h => .ok .non h
  | .bin op a b, ev, h => (evE G B a ev h).bind fun x h1 => (evE G B b ev h1).bind fun y h2 => binF op x y h2
  | .neg a, ev, h => (evE G B a ev h).bind fun x h1 => match x with
    | .int i => .ok (.int (-i)) h1
    | _ => .stuck
  | .cmp op a b, ev, h => (evE G B a ev h).bind fun x h1 => (evE G B b ev h1).bind fun y h2 => cmpF op x y h2
  | .chain o1 o2 a b c, ev, h => (evE G B a ev h).bind fun x h1 => (evE G B b ev h1).bind fun y h2 => (cmpF o1 x y h2).bind fun z h3 => match z with
    | .bl true => (evE G B c ev h3).bind fun w h4 => cmpF o2 y w h4
    | .bl false => .ok (.bl false) h3
    | _ => .stuck
  | .isn a, ev, h => (evE G B a ev h).bind fun x h1 => .ok (.bl (isNon x)) h1
  | .notn a, ev, h => (evE G B a ev h).bind fun x h1 => .ok (.bl (!isNon x)) h1
  | .band a b, ev, h => (evE G B a ev h).bind fun x h1 => match x with
    | .bl true => evE G B b ev h1
    | .bl false => .ok (.bl false) h1
    | _ => .stuck
  | .bor a b, ev, h => (evE G B a ev h).bind fun x h1 => match x with
    | .bl false => evE G B b ev h1
    | .bl true => .ok (.bl true) h1
    | _ => .stuck
  | .not a, ev, h => (evE G B a ev h).bind fun x h1 => match x with
    | .bl b => .ok (.bl (!b)) h1
    | _ => .stuck
  | .ite c a b, ev, h => (evE G B c ev h).bind fun x h1 => match x with
    | .bl true => evE G B a ev h1
    | .bl false => evE G B b ev h1
    | _ => .stuck
  | .tup es, ev, h => (evEs G B es ev h).bind fun xs h1 => newT h1 xs
  | .lst es, ev, h => (evEs G B es ev h).bind fun xs h1 => new h1 xs
  | .ix a i, ev, h => (evE G B a ev h).bind fun x h1 => (evE G B i ev h1).bind fun y h2 => ixF x y h2
  | .call f es, ev, h => (evEs G B es ev h).bind fun xs h1 => G f xs h1
  | .bi b es, ev, h => (evEs G B es ev h).bind fun xs h1 => B b xs h1
  | .lc elt tg it cond, ev, h => (evIt G B it ev h).bind fun src h1 =>
      (lcLoop src (lcTurn tg (wipeE ev tg.slots) (evE G B cond) (evE G B elt)) (src.fuel h1) 0 [] h1).bind fun acc h2 => .ok (.ref h2.length) (h2 ++ [.lst acc])
  | .anyg al elt tg it, ev, h => (evIt G B it ev h).bind fun src h1 => agLoop al src (agTurn tg (wipeE ev tg.slots) (evE G B elt)) (src.fuel h1) 0 h1
  | .slc a lo hi, ev, h => (evE G B a ev h).bind fun x h1 => (evPt G B lo ev h1).bind fun l h2 => (evPt G B hi ev h2).bind fun u h3 => slcF x l u h3
  | .isin t a, ev, h => (evE G B a ev h).bind fun x h1 => isF t x h1
  | .cont neg a b, ev, h => (evE G B a ev h).bind fun x h1 => (evE G B b ev h1).bind fun y h2 => contF neg x y h2
  | .pop a i, ev, h => (evE G B a ev h).bind fun x h1 => if lstC x h1 = true then (evE G B i ev h1).bind fun y h2 => popF x y h2 else .stuck
  | .sidx a b, ev, h => (evE G B a ev h).bind fun x h1 => if strC x = true then (evE G B b ev h1).bind fun y h2 => sidxF x y h2 else .stuck
  | .join a b, ev, h => (evE G B a ev h).bind fun x h1 => if strC x = true then (evE G B b ev h1).bind fun y h2 => joinF x y h2 else .stuck
  | .dlit k a ks, ev, h => (evE G B a ev h).bind fun x h1 => dlitF k x ks h1
  | .dix a k, ev, h => (evE G B a ev h).bind fun x h1 => dixF x k h1
  | .tset a, ev, h => (evE G B a ev h).bind fun x h1 => tsetF x h1
  | .tsrt a, ev, h => (evE G B a ev h).bind fun x h1 => tsrtF x h1
  | .psrt a, ev, h => (evE G B a ev h).bind fun x h1 => psrtF x h1
  | .ddis ks es, ev, h => (evEs G B es ev h).bind fun xs h1 => ddisF ks xs h1
  | .rev a, ev, h => (evE G B a ev h).bind fun x h1 => revF x h1
  | .nemp a, ev, h => (evE G B a ev h).bind fun x h1 => nempF x h1
  | .gcon _ k, _, h => .ok k.pv h
  | .dget a k, ev, h => (evE G B a ev h).bind fun x h1 => (evE G B k ev h1).bind fun y h2 => dgetF x y h2
  | .din neg k d, ev, h => (evE G B k ev h).bind fun y h1 => (evE G B d ev h1).bind fun x h2 => dinF neg y x h2
  | .cnt a b, ev, h => (evE G B a ev h).bind fun x h1 => if lstC x h1 = true then (evE G B b ev h1).bind fun y h2 => cntF x y h2 else .stuck
  | .lrng a, ev, h => (evE G B a ev h).bind fun x h1 => lrngF x h1
  | .sset a, ev, h => (evE G B a ev h).bind fun x h1 => ssetF x h1
  | .scnt a u e, ev, h => (evE G B a ev h).bind fun x h1 => (evE G B u ev h1).bind fun y h2 => scntG (evE G B e) ev x y h2
def evPt (G B : Fns) : Pt → Ev → IH → Res (Option Int)
  | .no, _, h => .ok none h
  | .yes a, ev, h => (evE G B a ev h).bind fun x h1 => match x with
    | .int i => .ok (some i) h1
    | _ => .stuck
def evEs (G B : Fns) : Es → Ev → IH → Res (List PV)
  | .nil, _, h => .ok [] h
  | .cons e es, ev, h => (evE G B e ev h).bind fun x h1 => (evEs G B es ev h1).bind fun xs h2 => .ok (x :: xs) h2
def evIt (G B : Fns) : It → Ev → IH → Res Src
  | .rng a, ev, h => (evE G B a ev h).bind fun x h1 => match x with
    | .int j => if -(2 ^ 62) ≤ j ∧ j < 2 ^ 62 then .ok (.items (rngs 0 j.toNat)) h1 else .stuck
    | _ => .stuck
  | .rng2 a b, ev, h => (evE G B a ev h).bind fun x h1 => (evE G B b ev h1).bind fun y h2 => match x, y with
    | .int i, .int j => if -(2 ^ 62) ≤ i ∧ i < 2 ^ 62 ∧ -(2 ^ 62) ≤ j ∧ j < 2 ^ 62 then .ok (.items (rngs i (j - i).toNat)) h2 else .stuck
    | _, _ => .stuck
  | .rng3 a b c, ev, h => (evE G B a ev h).bind fun x h1 => (evE G B b ev h1).bind fun y h2 => (evE G B c ev h2).bind fun z h3 => rng3F x y z h3
  | .seq a, ev, h => (evE G B a ev h).bind fun x h1 => match x with
    | .tup xs => .ok (.items xs) h1
    | .fl xs => .ok (.items xs) h1
    | .ref b => match h1[b]? with
      | some (.lst _) => .ok (.heap b) h1
      | _ => .stuck
    | _ => .stuck
  | .enum a, ev, h => (evE G B a ev h).bind fun x h1 => enumF x h1
  | .zip a b, ev, h => (evE G B a ev h).bind fun x h1 => (evE G B b ev h1).bind fun y h2 => zipF x y h2
  | .sgn a, ev, h => (evE G B a ev h).bind fun x h1 => match x with
    | .str z => .ok (.items (signs z)) h1
    | _ => .stuck
end

/-- xs[i] = v -/
def putF (a i v : PV) (h : IH) : Res Unit := match a, i with
  | .ref r, .int j => match h[r]? with
    | some (.lst xs) => match ixN xs.length j with
      | some k => .ok () (h.set r (.lst (xs.set k v)))
      | none => .stuck
    | _ => .stuck
  | _, _ => .stuck

def appF (a v : PV) (h : IH) : Res Unit := match a with
  | .ref r => match h[r]? with
    | some (.lst xs) => if xs.length < sizeLine then .ok () (h.set r (.lst (xs ++ [v]))) else .stuck
    | _ => .stuck
  | _ => .stuck

def evX (G B : Fns) : Sx → Ev → IH → Res Fl
  | .set tg e, ev, h => (evE G B e ev h).bind fun x h1 => match bindT tg x h1 ev with
    | some ev' => .ok (.nx ev') h1
    | none => .stuck
  | .par i j a b, ev, h => (evE G B a ev h).bind fun x h1 => (evE G B b ev h1).bind fun y h2 => .ok (.nx ((ev.set i (some x)).set j (some y))) h2
  | .put a i v, ev, h => (evE G B v ev h).bind fun z h1 => (evE G B a ev h1).bind fun x h2 => (evE G B i ev h2).bind fun y h3 => (putF x y z h3).bind fun _ h4 => .ok (.nx ev) h4
  | .augv i op e, ev, h => match ev[i]? with
    | some (some x) => (evE G B e ev h).bind fun y h1 => (augF op x y h1).bind fun z h2 => .ok (.nx (ev.set i (some z))) h2
    | _ => .stuck
  | .augp a i op e, ev, h => (evE G B a ev h).bind fun x h1 => match x with
    | .ref r => (evE G B i ev h1).bind fun y h2 => (ixF (.ref r) y h2).bind fun old h3 => (evE G B e ev h3).bind fun v h4 => (augF op old v h4).bind fun z h5 => (putF (.ref r) y z h5).bind fun _ h6 => .ok (.nx ev) h6
    | _ => .stuck
  | .ret e, ev, h => (evE G B e ev h).bind fun x h1 => .ok (.rt x) h1
  | .drop e, ev, h => (evE G B e ev h).bind fun _ h1 => .ok (.nx ev) h1
  | .app a e, ev, h => (evE G B a ev h).bind fun x h1 => match x with
    | .ref r => (match h1[r]? with
      | some (.lst _) => (evE G B e ev h1).bind fun y h2 => (appF (.ref r) y h2).bind fun _ h3 => .ok (.nx ev) h3
      | _ => .stuck)
    | _ => .stuck
  | .ext a e, ev, h => (evE G B a ev h).bind fun x h1 => if lstC x h1 = true then (evE G B e ev h1).bind fun y h2 => (extF x y h2).bind fun _ h3 => .ok (.nx ev) h3 else .stuck
  | .dput a k v, ev, h => (evE G B v ev h).bind fun z h1 => (evE G B a ev h1).bind fun x h2 => (dputF x k z h2).bind fun _ h3 => .ok (.nx ev) h3
  | .dputk a k v, ev, h => (evE G B v ev h).bind fun z h1 => (evE G B a ev h1).bind fun x h2 => (evE G B k ev h2).bind fun y h3 => (dputkF x y z h3).bind fun _ h4 => .ok (.nx ev) h4
  | .never, _, _ => .stuck

def forLoop (src : Src) (f : PV → Ev → IH → Res Fl) : Nat → Nat → Ev → IH → Res Fl
  | 0, _, _, _ => .stuck
  | n + 1, k, ev, h => match src.get h k with
    | none => .stuck
    | some none => .ok (.nx ev) h
    | some (some x) => (f x ev h).bind fun o h1 => match o with
      | .nx ev' => forLoop src f n (k + 1) ev' h1
      | .rt y => .ok (.rt y) h1

def whlLoop (c : Ev → IH → Res PV) (f : Ev → IH → Res Fl) : Nat → Ev → IH → Res Fl
  | 0, _, _ => .stuck
  | n + 1, ev, h => (c ev h).bind fun b h1 => match b with
    | .bl true => (f ev h1).bind fun o h2 => match o with
      | .nx ev' => whlLoop c f n ev' h2
      | .rt y => .ok (.rt y) h2
    | .bl false => .ok (.nx ev) h1
    | _ => .stuck

mutual
def evS (G B : Fns) : S → Ev → IH → Res Fl
  | .x s, ev, h => evX G B s ev h
  | .ifs c a b, ev, h => (evE G B c ev h).bind fun x h1 => match x with
    | .bl true => evSs G B a ev h1
    | .bl false => evSs G B b ev h1
    | _ => .stuck
  | .for tg it b, ev, h => (evIt G B it ev h).bind fun src h1 => forLoop src (forTurn tg (evSs G B b)) (src.fuel h1) 0 ev h1
  | .whl c b, ev, h => whlLoop (evE G B c) (evSs G B b) 100000 ev h
def evSs (G B : Fns) : Ss → Ev → IH → Res Fl
  | .nil, ev, h => .ok (.nx ev) h
  | .cons s ss, ev, h => (evS G B s ev h).bind fun o h1 => match o with
    | .nx ev' => evSs G B ss ev' h1
    | .rt y => .ok (.rt y) h1
end

/-- a def's call: n names in all -/
def evF (G B : Fns) (n : Nat) (b : Ss) (xs : List PV) (h : IH) : Res PV :=
  (evSs G B b (xs.map some ++ List.replicate (n - xs.length) none) h).bind fun o h1 => match o with
    | .nx _ => .ok .non h1
    | .rt y => .ok y h1
end Vm

set_option Elab.async false
set_option linter.all false
set_option maxRecDepth 100000
/-! VmB: how the evaluator's values and heap stand for the machine's. -/
namespace Vm
open PySem PySem.Spec PyProof.Rows L2

/-- a list that nobody writes -/
def SqF (K : PySem.W.Frag) (H : Hp) (a : Addr) (xs : List V) : Prop :=
  (∃ o, H a = some (.frz o (.lst xs))) ∨
    ∃ (o : Obj) (its : Array Value) (n : Nat), K.lookup a = some o ∧ o.cls = .type "list" ∧ o.dict = none ∧ o.data = .seq its n ∧ its.size ≤ sizeLine ∧ Vals xs its.toList
theorem SqF.sq {K : PySem.W.Frag} {H : Hp} {a : Addr} {xs : List V} (h : SqF K H a xs) : SqL K H a xs := by
  rcases h with ⟨o, h⟩ | h
  · exact .inl (.inr ⟨o, h⟩)
  · exact .inr h

mutual
inductive Rep (K : PySem.W.Frag) (m : List Addr) (H : Hp) : V → PV → Prop
  | non : Rep K m H .non .non
  | bl {b : Bool} : Rep K m H (.bl b) (.bl b)
  | int {i : Int} : Rep K m H (.int i) (.int i)
  | str {s : Str} : Rep K m H (.str s) (.str s)
  | tup {p : Addr} {vs : List V} {xs : List PV} : SqT K H p vs → Reps K m H vs xs → Rep K m H (.ref p) (.tup xs)
  | fl {p : Addr} {vs : List V} {xs : List PV} : SqF K H p vs → Reps K m H vs xs → Rep K m H (.ref p) (.fl xs)
  | ref {p : Addr} {a : Nat} : m[a]? = some p → Rep K m H (.ref p) (.ref a)
inductive Reps (K : PySem.W.Frag) (m : List Addr) (H : Hp) : List V → List PV → Prop
  | nil : Reps K m H [] []
  | cons {v : V} {x : PV} {vs : List V} {xs : List PV} : Rep K m H v x → Reps K m H vs xs → Reps K m H (v :: vs) (x :: xs)
end

/-- the tables of code objects that may grow -/
class Tbs where
  at' : List Addr
/-- what never changes is kept -/
structure Keep (H H' : Hp) : Prop where
  tup : ∀ b xs, H b = some (.tup xs) → H' b = some (.tup xs)
  frz : ∀ b o u, H b = some (.frz o u) → H' b = some (.frz o u)
theorem Keep.refl (H : Hp) : Keep H H := ⟨fun _ _ h => h, fun _ _ _ h => h⟩
theorem Keep.trans {H H1 H2 : Hp} (a : Keep H H1) (b : Keep H1 H2) : Keep H H2 := ⟨fun c xs h => b.tup c xs (a.tup c xs h), fun c o u h => b.frz c o u (a.frz c o u h)⟩
theorem Keep.laid {H : Hp} {p : Addr} {o : HO} (h : H p = none) : Keep H (upd H p o) :=
  ⟨fun b xs e => by rw [upd_ne (ne_of_none e h)]; exact e, fun b o u e => by rw [upd_ne (ne_of_none e h)]; exact e⟩
theorem Keep.wrote {H : Hp} {p : Addr} {o : HO} {vs : List V} (h : H p = some (.lst vs)) : Keep H (upd H p o) :=
  ⟨fun b xs e => by rw [upd_ne (ne_of e h (fun z => nomatch z))]; exact e, fun b o u e => by rw [upd_ne (ne_of e h (fun z => nomatch z))]; exact e⟩
theorem Keep.wroteD {H : Hp} {p : Addr} {o : HO} {vs : List (Key × V)} (h : H p = some (.dK vs)) : Keep H (upd H p o) :=
  ⟨fun b xs e => by rw [upd_ne (ne_of e h (fun z => nomatch z))]; exact e, fun b o u e => by rw [upd_ne (ne_of e h (fun z => nomatch z))]; exact e⟩

structure Grow (m : List Addr) (H : Hp) (m' : List Addr) (H' : Hp) : Prop where
  ap : ∃ z, m' = m ++ z
  kp : Keep H H'
  fr : ∀ b o, H b = some o → (∀ ps, o ≠ .tbl ps) → b ∉ m → H' b = some o ∧ b ∉ m'
theorem Grow.refl (m : List Addr) (H : Hp) : Grow m H m H := ⟨⟨[], by simp⟩, Keep.refl H, fun _ _ h _ n => ⟨h, n⟩⟩
/-- something untracked by the evaluator is laid -/
theorem Grow.junk {m : List Addr} {H : Hp} {p : Addr} {o : HO} (e : H p = none) : Grow m H m (upd H p o) :=
  ⟨⟨[], by simp⟩, Keep.laid e, fun b u h _ n => ⟨by rw [upd_ne (ne_of_none h e)]; exact h, n⟩⟩
theorem Grow.trans {m m1 m2 : List Addr} {H H1 H2 : Hp} (a : Grow m H m1 H1) (b : Grow m1 H1 m2 H2) : Grow m H m2 H2 := by
  obtain ⟨z, rfl⟩ := a.ap
  obtain ⟨y, rfl⟩ := b.ap
  exact ⟨⟨z ++ y, by simp⟩, a.kp.trans b.kp, fun c o h nt n => (b.fr c o (a.fr c o h nt n).1 nt (a.fr c o h nt n).2)⟩
theorem Grow.at {m m' : List Addr} {H H' : Hp} (g : Grow m H m' H') {i : Nat} {p : Addr} (h : m[i]? = some p) : m'[i]? = some p := by
  obtain ⟨z, rfl⟩ := g.ap
  rw [List.getElem?_append_left (List.getElem?_eq_some_iff.mp h).1]
  exact h

section
variable {K : PySem.W.Frag} {m m' : List Addr} {H H' : Hp}
theorem SqT.keep {a : Addr} {xs : List V} (k : Keep H H') (h : SqT K H a xs) : SqT K H' a xs := by
  rcases h with (h | ⟨o, h⟩) | h
  · exact .inl (.inl (k.tup _ _ h))
  · exact .inl (.inr ⟨o, k.frz _ _ _ h⟩)
  · exact .inr h
theorem SqF.keep {a : Addr} {xs : List V} (k : Keep H H') (h : SqF K H a xs) : SqF K H' a xs := by
  rcases h with ⟨o, h⟩ | h
  · exact .inl ⟨o, k.frz _ _ _ h⟩
  · exact .inr h
mutual
theorem Rep.grow0 (hm : ∃ z, m' = m ++ z) (k : Keep H H') : ∀ {v : V} {x : PV}, Rep K m H v x → Rep K m' H' v x
  | _, _, .non => .non
  | _, _, .bl => .bl
  | _, _, .int => .int
  | _, _, .str => .str
  | _, _, .tup h r => .tup (Vm.SqT.keep k h) (Reps.grow0 hm k r)
  | _, _, .fl h r => .fl (h.keep k) (Reps.grow0 hm k r)
  | _, _, .ref h => .ref (by
      obtain ⟨z, rfl⟩ := hm
      rw [List.getElem?_append_left (List.getElem?_eq_some_iff.mp h).1]
      exact h)
theorem Reps.grow0 (hm : ∃ z, m' = m ++ z) (k : Keep H H') : ∀ {vs : List V} {xs : List PV}, Reps K m H vs xs → Reps K m' H' vs xs
  | _, _, .nil => .nil
  | _, _, .cons r t => .cons (Rep.grow0 hm k r) (Reps.grow0 hm k t)
end
theorem Rep.grow (g : Grow m H m' H') {v : V} {x : PV} (r : Rep K m H v x) : Rep K m' H' v x := r.grow0 g.ap g.kp
theorem Reps.grow (g : Grow m H m' H') {vs : List V} {xs : List PV} (r : Reps K m H vs xs) : Reps K m' H' vs xs := r.grow0 g.ap g.kp
theorem Reps.length : ∀ {vs : List V} {xs : List PV}, Reps K m H vs xs → vs.length = xs.length
  | _, _, .nil => rfl
  | _, _, .cons _ t => by rw [List.length_cons, List.length_cons, Reps.length t]
theorem Reps.get : ∀ {vs : List V} {xs : List PV} {i : Nat} {x : PV}, Reps K m H vs xs → xs[i]? = some x → ∃ v, vs[i]? = some v ∧ Rep K m H v x
  | _, _, _, _, .nil, e => by simp at e
  | _, _, 0, _, .cons r _, e => by simp at e; subst e; exact ⟨_, rfl, r⟩
  | _, _, i + 1, x, .cons _ t, e => by
    obtain ⟨u, h1, h2⟩ := Reps.get (i := i) (x := x) t (by simpa using e)
    exact ⟨u, by simpa using h1, h2⟩
theorem Reps.append : ∀ {vs ws : List V} {xs ys : List PV}, Reps K m H vs xs → Reps K m H ws ys → Reps K m H (vs ++ ws) (xs ++ ys)
  | _, _, _, _, .nil, s => s
  | _, _, _, _, .cons r t, s => .cons r (Reps.append t s)
theorem Reps.set {v : V} {x : PV} (r : Rep K m H v x) : ∀ {vs : List V} {xs : List PV} (i : Nat), Reps K m H vs xs → Reps K m H (vs.set i v) (xs.set i x)
  | _, _, _, .nil => .nil
  | _, _, 0, .cons _ t => .cons r t
  | _, _, i + 1, .cons q t => .cons q (Reps.set r i t)
theorem Reps.take : ∀ {vs : List V} {xs : List PV} (n : Nat), Reps K m H vs xs → Reps K m H (vs.take n) (xs.take n)
  | _, _, 0, _ => .nil
  | _, _, _ + 1, .nil => .nil
  | _, _, n + 1, .cons r t => .cons r (Reps.take n t)
theorem Reps.drop : ∀ {vs : List V} {xs : List PV} (n : Nat), Reps K m H vs xs → Reps K m H (vs.drop n) (xs.drop n)
  | _, _, 0, r => r
  | _, _, _ + 1, .nil => .nil
  | _, _, n + 1, .cons _ t => Reps.drop n t
theorem Reps.ints : ∀ {vs : List V} {ns : List Int}, Reps K m H vs (ns.map PV.int) → vs = ns.map V.int
  | _, [], .nil => rfl
  | _, n :: ns, .cons r t => by cases r; rw [Reps.ints t]; rfl
theorem Reps.ofInts : ∀ (ns : List Int), Reps K m H (ns.map V.int) (ns.map PV.int)
  | [] => .nil
  | n :: ns => .cons .int (Reps.ofInts ns)
theorem Reps.strs : ∀ {vs : List V} {ns : List Str}, Reps K m H vs (ns.map PV.str) → vs = ns.map V.str
  | _, [], .nil => rfl
  | _, n :: ns, .cons r t => by cases r; rw [Reps.strs t]; rfl
theorem Reps.ofStrs : ∀ (ns : List Str), Reps K m H (ns.map V.str) (ns.map PV.str)
  | [] => .nil
  | n :: ns => .cons .str (Reps.ofStrs ns)

/-- at p stands o -/
def HRep (K : PySem.W.Frag) (m : List Addr) (H : Hp) (p : Addr) : HV → Prop
  | .lst xs => ∃ vs, H p = some (.lst vs) ∧ Reps K m H vs xs
  | .dct kvs => ∃ ws, H p = some (.dK ws) ∧ Paired (fun (a : Key × V) (b : Str × PV) => a.1 = .inr b.1 ∧ Rep K m H a.2 b.2) ws kvs
theorem tab_ne {H : Hp} {P p : Addr} (t : GxR.TabG H P) (h : ∀ ps, H p ≠ some (.tbl ps)) : P ≠ p := fun z => by
  obtain ⟨ps, e, _⟩ := t
  rw [z] at e
  exact h ps e
theorem tab_upd {H : Hp} {P p : Addr} {o : HO} (t : GxR.TabG H P) (h : ∀ ps, H p ≠ some (.tbl ps)) : GxR.TabG (upd H p o) P := by
  have n := tab_ne t h
  obtain ⟨ps, e, r⟩ := t
  exact ⟨ps, by rw [upd_ne n]; exact e, r⟩
variable [T : Tbs]
structure RelH (K : PySem.W.Frag) (m : List Addr) (H : Hp) (h : IH) : Prop where
  len : m.length = h.length
  nd : m.Nodup
  tb : ∀ P ∈ T.at', GxR.TabG H P
  at' : ∀ (i : Nat) o p, h[i]? = some o → m[i]? = some p → HRep K m H p o
theorem HRep.some {p : Addr} {o : HV} (h : HRep K m H p o) : ∃ u, H p = some u := by
  cases o with
  | lst xs => obtain ⟨vs, e, _⟩ := h; exact ⟨_, e⟩
  | dct xs => obtain ⟨vs, e, _⟩ := h; exact ⟨_, e⟩
theorem HRep.grow {p : Addr} {o : HV} (g : Grow m H m' H') (e : H' p = H p) (h : HRep K m H p o) : HRep K m' H' p o := by
  cases o with
  | lst xs => obtain ⟨vs, e1, r⟩ := h; exact ⟨vs, by rw [e]; exact e1, r.grow g⟩
  | dct xs => obtain ⟨vs, e1, r⟩ := h; exact ⟨vs, by rw [e]; exact e1, Paired.mapP r fun a b z => ⟨z.1, z.2.grow g⟩⟩
variable {h : IH}
/-- a table has grown -/
theorem RelH.tabbed (R : RelH K m H h) {P : Addr} (hP : P ∈ T.at') (tb : GxR.Tabbed P H H') : RelH K m H' h ∧ Grow m H m H' := by
  obtain ⟨ps, e, _⟩ := R.tb P hP
  have ne : ∀ b o, H b = some o → (∀ ps, o ≠ .tbl ps) → b ≠ P := fun b o q nt z => by
    rw [z, e] at q
    exact nt ps (Option.some.inj q).symm
  have g : Grow m H m H' := ⟨⟨[], by simp⟩, ⟨fun b xs q => by rw [tb.2 b (ne b _ q fun _ z => nomatch z)]; exact q, fun b o u q => by rw [tb.2 b (ne b _ q fun _ z => nomatch z)]; exact q⟩, fun b o q nt n => ⟨by rw [tb.2 b (ne b o q nt)]; exact q, n⟩⟩
  refine ⟨⟨R.len, R.nd, fun P2 hP2 => ?_, fun i u q h1 h2 => ?_⟩, g⟩
  · by_cases z : P2 = P
    · rw [z]
      exact tb.1
    · obtain ⟨qs, e2, r⟩ := R.tb P2 hP2
      exact ⟨qs, by rw [tb.2 P2 z]; exact e2, r⟩
  · have r := R.at' i u q h1 h2
    have nq : q ≠ P := by
      cases u with
      | lst xs => obtain ⟨vs, e1, _⟩ := r; exact ne q _ e1 fun _ z => nomatch z
      | dct xs => obtain ⟨vs, e1, _⟩ := r; exact ne q _ e1 fun _ z => nomatch z
    exact r.grow g (tb.2 q nq)
theorem RelH.addr (R : RelH K m H h) {i : Nat} {o : HV} (e : h[i]? = some o) : ∃ p, m[i]? = some p ∧ HRep K m H p o := by
  have hi : i < m.length := by rw [R.len]; exact (List.getElem?_eq_some_iff.mp e).1
  exact ⟨m[i], by simp [hi], R.at' i o _ e (by simp [hi])⟩
theorem RelH.back (R : RelH K m H h) {i : Nat} {p : Addr} (e : m[i]? = some p) : ∃ o, h[i]? = some o ∧ HRep K m H p o := by
  have hi : i < h.length := by rw [← R.len]; exact (List.getElem?_eq_some_iff.mp e).1
  exact ⟨h[i], by simp [hi], R.at' i _ _ (by simp [hi]) e⟩
theorem RelH.mem (R : RelH K m H h) {p : Addr} (e : p ∈ m) : ∃ u, H p = some u := by
  obtain ⟨i, hi⟩ := List.mem_iff_getElem?.mp e
  obtain ⟨o, _, q⟩ := R.back hi
  exact q.some
/-- something untracked by the evaluator is laid -/
theorem RelH.junk (R : RelH K m H h) {p : Addr} {o : HO} (e : H p = none) : RelH K m (upd H p o) h :=
  ⟨R.len, R.nd, fun P hP => tab_upd (R.tb P hP) (fun ps z => by rw [e] at z; cases z), fun i u q h1 h2 => by
    have r := R.at' i u q h1 h2
    obtain ⟨z, hz⟩ := r.some
    exact r.grow (Grow.junk e) (upd_ne (ne_of_none hz e))⟩
theorem HRep.grow0 {p : Addr} {o : HV} (hm : ∃ z, m' = m ++ z) (k : Keep H H') (e : H' p = H p) (h : HRep K m H p o) : HRep K m' H' p o := by
  cases o with
  | lst xs => obtain ⟨vs, e1, r⟩ := h; exact ⟨vs, by rw [e]; exact e1, r.grow0 hm k⟩
  | dct xs => obtain ⟨vs, e1, r⟩ := h; exact ⟨vs, by rw [e]; exact e1, Paired.mapP r fun a b z => ⟨z.1, z.2.grow0 hm k⟩⟩
/-- a list that is not the evaluator's is rewritten -/
theorem RelH.own (R : RelH K m H h) {p : Addr} {o : HO} {vs : List V} (e : H p = some (.lst vs)) (hp : p ∉ m) : RelH K m (upd H p o) h :=
  ⟨R.len, R.nd, fun P hP => tab_upd (R.tb P hP) (fun ps z => by rw [e] at z; cases z), fun i u q h1 h2 => (R.at' i u q h1 h2).grow0 ⟨[], by simp⟩ (Keep.wrote e) (upd_ne fun z => hp (by rw [← z]; exact List.mem_of_getElem? h2))⟩
/-- .. one that was not there -/
theorem Grow.own (g : Grow m H m' H') {p : Addr} {o : HO} (e : H p = none) : Grow m H m' (upd H' p o) :=
  ⟨g.ap, ⟨fun b xs q => by rw [upd_ne (ne_of_none q e)]; exact g.kp.tup b xs q, fun b u v q => by rw [upd_ne (ne_of_none q e)]; exact g.kp.frz b u v q⟩,
    fun b u q nt n => ⟨by rw [upd_ne (ne_of_none q e)]; exact (g.fr b u q nt n).1, (g.fr b u q nt n).2⟩⟩
/-- it becomes one of the evaluator's -/
theorem RelH.take (R : RelH K m H h) {p : Addr} {vs : List V} {xs : List PV} (e : H p = some (.lst vs)) (hp : p ∉ m) (r : Reps K m H vs xs) : RelH K (m ++ [p]) H (h ++ [.lst xs]) := by
  refine ⟨by simp [R.len], ?_, R.tb, fun i u q h1 h2 => ?_⟩
  · rw [List.nodup_append]
    exact ⟨R.nd, by simp, fun a ha b hb => by
      have : b = p := by simpa using hb
      subst this
      intro z
      subst z
      exact hp ha⟩
  · by_cases hi : i < h.length
    · rw [List.getElem?_append_left hi] at h1
      rw [List.getElem?_append_left (by rw [R.len]; exact hi)] at h2
      exact (R.at' i u q h1 h2).grow0 ⟨[p], rfl⟩ (Keep.refl H) rfl
    · have hi2 : i = h.length := by
        have := (List.getElem?_eq_some_iff.mp h1).1
        simp at this
        omega
      subst hi2
      rw [← R.len] at h2
      simp at h1 h2
      subst h1
      subst h2
      exact ⟨vs, e, r.grow0 ⟨[p], rfl⟩ (Keep.refl H)⟩
theorem Grow.take (g : Grow m H m' H') {p : Addr} (e : H p = none) : Grow m H (m' ++ [p]) H' := by
  obtain ⟨z, rfl⟩ := g.ap
  refine ⟨⟨z ++ [p], by simp⟩, g.kp, fun b u q nt n => ⟨(g.fr b u q nt n).1, fun w => ?_⟩⟩
  rcases List.mem_append.mp w with w | w
  · exact (g.fr b u q nt n).2 w
  · have : b = p := by simpa using w
    exact ne_of_none q e this
/-- a new object is laid -/
theorem RelH.laid (R : RelH K m H h) {p : Addr} {vs : List V} {xs : List PV} (e : H p = none) (r : Reps K m H vs xs) : RelH K (m ++ [p]) (upd H p (.lst vs)) (h ++ [.lst xs]) ∧ Grow m H (m ++ [p]) (upd H p (.lst vs)) := by
  have g : Grow m H (m ++ [p]) (upd H p (.lst vs)) := ⟨⟨[p], rfl⟩, Keep.laid e, fun b u h _ n => ⟨by rw [upd_ne (ne_of_none h e)]; exact h, fun z => by
    rcases List.mem_append.mp z with z | z
    · exact n z
    · have : b = p := by simpa using z
      exact ne_of_none h e this⟩⟩
  have hp : p ∉ m := fun z => by
    obtain ⟨u, hu⟩ := R.mem z
    rw [e] at hu; cases hu
  refine ⟨⟨by simp [R.len], ?_, fun P hP => tab_upd (R.tb P hP) (fun ps z => by rw [e] at z; cases z), fun i u q h1 h2 => ?_⟩, g⟩
  · rw [List.nodup_append]
    exact ⟨R.nd, by simp, fun a ha b hb => by
      have : b = p := by simpa using hb
      subst this
      intro z
      subst z
      exact hp ha⟩
  · by_cases hi : i < h.length
    · rw [List.getElem?_append_left hi] at h1
      rw [List.getElem?_append_left (by rw [R.len]; exact hi)] at h2
      have r := R.at' i u q h1 h2
      obtain ⟨z, hz⟩ := r.some
      exact r.grow g (upd_ne (ne_of_none hz e))
    · have hi2 : i = h.length := by
        have := (List.getElem?_eq_some_iff.mp h1).1
        simp at this
        omega
      subst hi2
      rw [← R.len] at h2
      simp at h1 h2
      subst h1
      subst h2
      exact ⟨vs, upd_same, r.grow g⟩
/-- a list is rewritten -/
theorem RelH.wrote (R : RelH K m H h) {i : Nat} {p : Addr} {xs ys : List PV} {ws : List V} (ei : h[i]? = some (.lst xs)) (ep : m[i]? = some p) (r : Reps K m H ws ys) :
    RelH K m (upd H p (.lst ws)) (h.set i (.lst ys)) ∧ Grow m H m (upd H p (.lst ws)) := by
  obtain ⟨vs, e, _⟩ := R.at' i _ p ei ep
  have g : Grow m H m (upd H p (.lst ws)) := ⟨⟨[], by simp⟩, Keep.wrote e, fun b u h _ n => ⟨by
    rw [upd_ne (show b ≠ p from fun z => n (by rw [z]; exact List.mem_of_getElem? ep))]
    exact h, n⟩⟩
  have hi : i < h.length := (List.getElem?_eq_some_iff.mp ei).1
  refine ⟨⟨by simp [R.len], R.nd, fun P hP => tab_upd (R.tb P hP) (fun ps z => by rw [e] at z; cases z), fun j u q h1 h2 => ?_⟩, g⟩
  by_cases hj : i = j
  · subst hj
    rw [ep] at h2
    cases h2
    rw [List.getElem?_set_self hi] at h1
    cases h1
    exact ⟨ws, upd_same, r.grow g⟩
  · rw [List.getElem?_set_ne hj] at h1
    have rr := R.at' j u q h1 h2
    refine rr.grow g (upd_ne fun z => ?_)
    subst z
    have a1 := (List.getElem?_eq_some_iff.mp ep)
    have a2 := (List.getElem?_eq_some_iff.mp h2)
    exact hj ((List.getElem_inj R.nd).mp (a1.2.trans a2.2.symm))
end

/-! ### the environment -/
variable [T : Tbs]
/-- the slots bear what the evaluator's names bear -/
structure REnv (K : PySem.W.Frag) (m : List Addr) (H : Hp) (st : L2.St) (ev : Ev) : Prop where
  len : st.length = ev.length
  at' : ∀ (i : Nat) x, ev[i]? = some (some x) → ∃ v, st[i]? = some (some v) ∧ Rep K m H v x
theorem REnv.grow {K : PySem.W.Frag} {m m' : List Addr} {H H' : Hp} {st : L2.St} {ev : Ev} (g : Grow m H m' H') (r : REnv K m H st ev) : REnv K m' H' st ev :=
  ⟨r.len, fun i x e => let ⟨v, h1, h2⟩ := r.at' i x e; ⟨v, h1, h2.grow g⟩⟩
theorem REnv.set {K : PySem.W.Frag} {m : List Addr} {H : Hp} {st : L2.St} {ev : Ev} {v : V} {x : PV} (i : Nat) (r : REnv K m H st ev) (rx : Rep K m H v x) : REnv K m H (st.set i (some v)) (ev.set i (some x)) :=
  ⟨by simp [r.len], fun j y e => by
    by_cases hj : i = j
    · subst hj
      have hi : i < ev.length := by
        have := (List.getElem?_eq_some_iff.mp e).1
        simpa using this
      rw [List.getElem?_set_self hi] at e
      cases e
      exact ⟨v, List.getElem?_set_self (by rw [r.len]; exact hi), rx⟩
    · rw [List.getElem?_set_ne hj] at e
      obtain ⟨u, h1, h2⟩ := r.at' j y e
      exact ⟨u, by rw [List.getElem?_set_ne hj]; exact h1, h2⟩⟩

/-- what is wanted of an error -/
abbrev XI := Nat → List PV → List Addr → Hp → Prop
/-- the machine's end stands for the evaluator's -/
def Post {a : Type} (K : PySem.W.Frag) (xi : XI) (m : List Addr) (H : Hp) (r : Res a) (R : a → List Addr → Hp → Prop) : Prop := match r with
  | .ok x h' => ∀ m' H', Grow m H m' H' → RelH K m' H' h' → R x m' H'
  | .exc c fs h' => ∀ m' H', Grow m H m' H' → RelH K m' H' h' → xi c fs m' H'
  | .stuck => False
theorem Post.grow {a : Type} {K : PySem.W.Frag} {xi : XI} {m m1 : List Addr} {H H1 : Hp} {r : Res a} {R : a → List Addr → Hp → Prop} (g : Grow m H m1 H1) (p : Post K xi m H r R) : Post K xi m1 H1 r R := by
  cases r with
  | ok x h' => exact fun m' H' g' => p m' H' (g.trans g')
  | exc c fs h' => exact fun m' H' g' => p m' H' (g.trans g')
  | stuck => exact p
theorem Post.mono {a : Type} {K : PySem.W.Frag} {xi : XI} {m : List Addr} {H : Hp} {r : Res a} {R R' : a → List Addr → Hp → Prop} (p : Post K xi m H r R) (k : ∀ x m' H', Grow m H m' H' → R x m' H' → R' x m' H') : Post K xi m H r R' := by
  cases r with
  | ok x h' => exact fun m' H' g' q => k x m' H' g' (p m' H' g' q)
  | exc c fs h' => exact p
  | stuck => exact p
/-- the first part's end, then the rest -/
theorem Post.bind {a b : Type} {K : PySem.W.Frag} {xi : XI} {m : List Addr} {H : Hp} {r : Res a} {f : a → IH → Res b} {R : b → List Addr → Hp → Prop} {R1 : a → List Addr → Hp → Prop} (p : Post K xi m H (r.bind f) R)
    (k : ∀ x h1 m1 H1, Grow m H m1 H1 → RelH K m1 H1 h1 → Post K xi m1 H1 (f x h1) R → R1 x m1 H1) : Post K xi m H r R1 := by
  cases r with
  | ok x h1 => exact fun m1 H1 g q => k x h1 m1 H1 g q (Post.grow g p)
  | exc c fs h' => exact p
  | stuck => exact p

/-- an expression's reading by the evaluator -/
def tE (K : PySem.W.Frag) (xi : XI) (f : Ev → IH → Res PV) : TE := fun st H Q => ∃ ev m h, REnv K m H st ev ∧ RelH K m H h ∧ Post K xi m H (f ev h) fun x m' H' => ∀ v, Rep K m' H' v x → Q v H'
def tT (K : PySem.W.Frag) (xi : XI) (f : Ev → IH → Res Bool) : TT := fun st H Q => ∃ ev m h, REnv K m H st ev ∧ RelH K m H h ∧ Post K xi m H (f ev h) fun x _ H' => Q x H'
def tA (K : PySem.W.Frag) (xi : XI) (f : Ev → IH → Res (List PV)) : TA := fun st H Q => ∃ ev m h, REnv K m H st ev ∧ RelH K m H h ∧ Post K xi m H (f ev h) fun xs m' H' => ∀ vs, Reps K m' H' vs xs → Q vs H'

theorem PEm {X : Cx} {e : Expr} {t t' : TE} (h : PE X e t) (k : ∀ st H Q, t' st H Q → t st H Q) : PE X e t' := ⟨fun pins s st H Q I q => h.run pins s st H Q I (k st H Q q)⟩
theorem PTm {X : Cx} {e : Expr} {t t' : TT} (h : PT X e t) (k : ∀ st H Q, t' st H Q → t st H Q) : PT X e t' := ⟨fun pins s st H Q I q => h.run pins s st H Q I (k st H Q q)⟩
theorem PWm {X : Cx} {e : Expr} {t t' : TT} (h : PW X e t) (k : ∀ st H Q, t' st H Q → t st H Q) : PW X e t' := ⟨fun wh pins s st H Q I q => h.run wh pins s st H Q I (k st H Q q)⟩
theorem PAm {X : Cx} {e : List Expr} {t t' : TA} (h : PA X e t) (k : ∀ st H Q, t' st H Q → t st H Q) : PA X e t' := ⟨fun pos pins s st H Q I q => h.run pos pins s st H Q I (k st H Q q)⟩
theorem PSm {X : Cx} {e : Stmt} {t t' : TS} (h : PS X e t) (k : ∀ D st H, t' D st H → t D st H) : PS X e t' := ⟨fun pins s st H D I q => h.run pins s st H D I (k D st H q)⟩
theorem PSsm {X : Cx} {e : List Stmt} {t t' : TS} (h : PSs X e t) (k : ∀ D st H, t' D st H → t D st H) : PSs X e t' := ⟨fun pins s st H D I q => h.run pins s st H D I (k D st H q)⟩
end Vm

set_option Elab.async false
set_option linter.all false
set_option maxRecDepth 100000
set_option maxHeartbeats 4000000
/-! VnA: a generator expression's frame. -/
namespace Vm
open PySem PySem.Spec PyProof.Rows L2
/-- the names of a generator expression's block: its own (with their places in N), or captured -/
structure BlkG (N : List Str) (sc scope : Scope) (own : List (Str × Nat)) : Prop where
  kind : scope.kind = .function
  co : scope.isCoroutine = false
  nocell : ∀ y ∈ scope.names, y.2 ≠ .cell
  dot : scope.names.lookup (".0" : Str) = some NameKind.local
  ix : ∀ p ∈ own, N[p.2]? = some p.1
  free : ∀ y ∈ scope.names, y.2 = .free → sc.names.lookup y.1 = some .cell ∨ sc.names.lookup y.1 = some .free
  own : ∀ y ∈ scope.names, y.2 = .local → y.1 ∈ own.map (·.1) ∨ y.1 ∉ N
abbrev genLoop (elt tg iter : Expr) (scope : Scope) (gpos : Pos) (it : Addr) (cenv : Env) : Code := .compLoop (.GeneratorExp elt [⟨tg, iter, [], 0⟩] scope gpos) 0 (.ref it) .none cenv
abbrev genBegin (elt tg iter : Expr) (scope : Scope) (gpos : Pos) (it : Addr) (cenv : Env) : Code := .compStart (.GeneratorExp elt [⟨tg, iter, [], 0⟩] scope gpos) 0 (.ref it) .none cenv
/-- the around of its frame -/
abbrev genA (X : Cx) (elt tg iter : Expr) (scope : Scope) (gpos : Pos) (it : Addr) (cenv : Env) : Around := X.A.in1.in1.over (genLoop elt tg iter scope gpos it cenv) []
abbrev gen (X : Cx) (s : Shared) (H : Hp) (cenv : Env) (A' : Around) (fp : List Addr) (pn : List (Addr × Obj)) : Cx := { X with s_0 := s, H_0 := H, env := cenv, A := A', outer := X.stack, stack := cenv :: X.stack, ex := fp, fn := fun _ => false, pn := pn, xe := fun _ _ => False }
section
variable {X : Cx} {elt tg iter : Expr} {scope : Scope} {gpos : Pos} {it : Addr} {cenv : Env}
theorem genA_handled : (genA X elt tg iter scope gpos it cenv).handled = X.A.handled := rfl
theorem genA_frames {l : List Env} (h : X.A.frames = some l) : (genA X elt tg iter scope gpos it cenv).frames = some (cenv :: l) := by
  show pushEnvs [cenv] (pushEnvs [] X.A.frames) = _
  rw [h]
  rfl
theorem genA_guards (h : X.A.guards = some []) : (genA X elt tg iter scope gpos it cenv).guards = some [] := by
  show pushGuards [] (pushGuards [] X.A.guards) = _
  rw [h]
  rfl
theorem genA_depth : (genA X elt tg iter scope gpos it cenv).depth = X.A.depth + 1 := rfl
theorem genA_units : (genA X elt tg iter scope gpos it cenv).units ≤ X.A.units + 5 := Nat.le_of_eq rfl
theorem genA_room {k : Nat} (r : Room (k + 1) X.A) : Room k (genA X elt tg iter scope gpos it cenv) :=
  ⟨r.hd, by have := r.dp; rw [genA_depth]; omega, by have := r.un; have := genA_units (X := X) (elt := elt) (tg := tg) (iter := iter) (scope := scope) (gpos := gpos) (it := it) (cenv := cenv); omega⟩
end
section
variable {X : Cx} {pins : List (Addr × Obj)} {σ : L2.St} {H : Hp} {s : Shared}
theorem gen_start {scope : Scope} {own : List (Str × Nat)} {fp : List Addr} {cenv : Env} {code : Value} {A' : Around} {h2 : Heap} {m0 : Str → Option Value} {pn : List (Addr × Obj)} {g' : Array GenState} {tk : Nat}
    (I : Inv X pins σ H s) (ok : BlkG X.N X.env.scope scope own) (hN : X.N.Nodup) (hc : X.calm = true) (hfp : ∀ b ∈ fp, FpOk X pins H b ∧ b < s.heap.objs.size)
    (hce : cenv = genEnv scope (cloFrom X.env.cells scope.names []) s.heap.objs.size code builtinsNs X.env) (hA1 : A'.handled = none) (hA2 : A'.frames = some (cenv :: X.stack))
    (hn : h2.Ns cenv.locals m0) (kp : ∀ b o, s.heap.get? b = some o → h2.get? b = some o) (hpn : ∀ p ∈ pn, h2.get? p.1 = some p.2 ∧ s.heap.objs.size < p.1 ∧ ∀ v, p.2.data ≠ .cell v) (hg : AllBare g') :
    Inv (gen X s H cenv A' fp pn) [] (wipe σ (own.map (·.2))) H { s with gens := g', toks := tk, heap := h2 } := by
  have hfree : ∀ y ∈ scope.names, y.2 = .free → ∃ c, X.env.cells.lookup y.1 = some c := fun y hy e => by
    rcases ok.free y hy e with k | k
    · exact I.ok.has _ (.inl k)
    · exact I.ok.has _ (.inr k)
  have hL : cenv.locals = s.heap.objs.size := by rw [hce]; rfl
  have hcl : cenv.cells = cloFrom X.env.cells scope.names [] := by rw [hce]; rfl
  have hsc : cenv.scope = scope := by rw [hce]; rfl
  have cm : ∀ {y c}, cenv.cells.lookup y = some c → X.env.cells.lookup y = some c ∧ c < s.heap.objs.size := fun {y c} e => by
    rw [hcl] at e
    rcases cloFrom_mem (PySem.mem_of_lookup e) with hm | ⟨h1, rfl⟩
    · cases hm
    · obtain ⟨c, hc⟩ := hfree _ h1 rfl
      rw [hc]
      obtain ⟨w, z⟩ := I.cell _ _ hc
      exact ⟨rfl, z.lt⟩
  have look : ∀ {y}, scope.names.lookup y = some .free → ∃ c, cenv.cells.lookup y = some c ∧ X.env.cells.lookup y = some c := fun {y} hl => by
    have hy : (y, NameKind.free) ∈ scope.names := PySem.mem_of_lookup hl
    obtain ⟨c', e'⟩ := mem_lookup (cloFrom_has (cells := X.env.cells) (acc := []) hy)
    rw [← hcl] at e'
    exact ⟨c', e', (cm e').1⟩
  have okB : (gen X s H cenv A' fp pn).Ok := by
    refine ⟨I.ok.mod, by show cenv.scope.kind = _; rw [hsc]; exact ok.kind, by show cenv.globals = _; rw [hce]; exact I.ok.glob, by show cenv.builtins = _; rw [hce]; rfl, by show s.heap.objs.size ≤ cenv.locals; rw [hL]; exact Nat.le_refl _,
      fun y z c e1 e2 => I.ok.inj y z c (cm e1).1 (cm e2).1, fun y hy => ?_, fun y c z e => (by cases z), fun _ => hA1, hA2, .inr ⟨rfl, by show cenv.frame = some cenv.locals; rw [hce]; rfl⟩, fun b hb => ⟨?_, fun y c e z => ?_⟩, I.bs, Nat.le_trans I.ok.bsz I.sz, fun b o e hb => ?_, fun b hb z => ?_, I.stack, I.stkFree⟩
    · show ∃ c, cenv.cells.lookup y = some c
      have hy : cenv.scope.names.lookup y = some .cell ∨ cenv.scope.names.lookup y = some .free := hy
      rw [hsc] at hy
      rcases hy with hy | hy
      · exact absurd rfl (ok.nocell _ (PySem.mem_of_lookup hy))
      · obtain ⟨c, h1, _⟩ := look hy
        exact ⟨c, h1⟩
    · show b ≠ cenv.locals
      rw [hL]; exact Nat.ne_of_lt (hfp b hb).2
    · exact (hfp b hb).1.2.2.2.2.1 y c (cm e).1 z
    · rcases (hfp b hb).1.2.2.2.1 with z | z
      · exact I.ok.noex b o e z
      · exact absurd (Nat.lt_of_lt_of_le (Heap.lt_size e) (Nat.le_trans I.ok.bsz z)) (Nat.lt_irrefl _)
    · rcases List.mem_cons.mp (I.stkSub b z) with z | z
      · exact (hfp b hb).1.2.1 z
      · exact (hfp b hb).1.2.2.1 z
  refine ⟨okB, rfl, hg, Un.kept kp, ⟨m0, hn, fun i y av e1 e2 e3 => ?_⟩, fun y c e => ?_, ?_, fun y c e => I.freeC y c (cm e).1, fun p hp => ?_, I.hok.kept kp, by rw [wipe_length]; exact I.len⟩
  · obtain ⟨e2, hne⟩ := wipe_some e2
    have e3 : scope.names.lookup y = some .local ∨ scope.names.lookup y = some .cell ∨ scope.names.lookup y = some .free := by
      have e3 : Vis cenv.scope y := e3
      rw [hsc] at e3
      exact e3
    have hfr : scope.names.lookup y = some .free := by
      rcases e3 with k | k | k
      · rcases ok.own _ (PySem.mem_of_lookup k) rfl with e' | e'
        · obtain ⟨p, hp, hpy⟩ := List.mem_map.mp e'
          have e4 := ok.ix p hp
          have : p.1 = y := hpy
          rw [this] at e4
          exact absurd (List.mem_map.mpr ⟨p, hp, nodup_ix hN e4 e1⟩) hne
        · exact absurd (List.mem_of_getElem? e1) e'
      · exact absurd rfl (ok.nocell _ (PySem.mem_of_lookup k))
      · exact k
    obtain ⟨m, hm, hl⟩ := I.loc
    have hvis : Vis X.env.scope y := (ok.free _ (PySem.mem_of_lookup hfr) rfl).elim (fun k => .inr (.inl k)) (fun k => .inr (.inr k))
    obtain ⟨w, r, q⟩ := hl i y av e1 e2 hvis
    refine ⟨w, r, .inr ⟨.inr (by show cenv.scope.names.lookup y = _; rw [hsc]; exact hfr), ?_⟩⟩
    obtain ⟨c, h1, h2⟩ := look hfr
    rcases q with ⟨k, _⟩ | ⟨_, c', e', z⟩
    · have k : X.env.scope.names.lookup y = some .local := k
      rcases ok.free _ (PySem.mem_of_lookup hfr) rfl with k' | k' <;> rw [show X.env.scope.names.lookup y = _ from k'] at k <;> cases k
    · rw [h2] at e'; cases e'
      exact ⟨c, h1, z.keeps kp⟩
  · obtain ⟨w, z⟩ := I.cell y c (cm e).1
    exact ⟨w, z.keeps kp⟩
  · show H cenv.locals = none
    rw [hL]; exact I.hok.fresh (Nat.le_refl _)
  · have hp : p ∈ pn := by simpa using hp
    obtain ⟨p1, p2, p3⟩ := hpn p hp
    refine ⟨p1, I.hok.fresh (Nat.le_of_lt p2), ?_, fun z => ?_, p3⟩
    · show p.1 ≠ cenv.locals
      rw [hL]; exact Nat.ne_of_gt p2
    · obtain ⟨_, o, e, _⟩ := I.stack.mem z
      exact absurd (Nat.lt_trans (Heap.lt_size e) p2) (Nat.lt_irrefl _)
end
end Vm

set_option Elab.async false
set_option linter.all false
set_option maxRecDepth 100000
set_option maxHeartbeats 4000000
/-! VnB: any, all over a generator: the side that asks. -/
namespace Vm
open PySem PySem.Spec PyProof.Rows L2
theorem setGen_bare {s : Shared} {g : Nat} {x : GenState} (h : AllBare s.gens) (hx : x.bare = true) : AllBare (s.setGen g x).gens := fun y hy => by
  obtain ⟨i, hi, rfl⟩ := Array.mem_iff_getElem.mp hy
  have e : (s.setGen g x).gens[i]? = some ((s.setGen g x).gens[i]) := Array.getElem?_eq_getElem hi
  generalize (s.setGen g x).gens[i] = z at e ⊢
  unfold Shared.setGen at e
  simp only [Array.getElem?_setIfInBounds] at e
  by_cases c : g = i
  · rw [if_pos c] at e
    split at e
    · cases e; exact hx
    · cases e
  · rw [if_neg c] at e
    exact h z (Array.mem_of_getElem? e)
theorem setGen_at {s : Shared} {g : Nat} {x : GenState} (h : g < s.gens.size) : (s.setGen g x).gens[g]? = some x := by
  unfold Shared.setGen
  simp [Array.getElem?_setIfInBounds, h]
/-- while it slept nothing of it was touched -/
structure Woke (s s' : Shared) : Prop where
  keep : ∀ b o, s.heap.get? b = some o → s'.heap.get? b = some o
  os : s'.os = s.os
  bare : AllBare s'.gens
/-- the generator at a, number g, may be asked in s -/
structure Live (a : Addr) (g : Nat) (s : Shared) : Prop where
  isg : s.heap.IsGen a g
  lim : s.heap.NoLimit
  bare : AllBare s.gens
def endG (En : Shared → Prop) : GenEnd := fun _ _ r s1 => r = .ok .next ∧ En s1
/-- it hands out truths; a truth like stop ends the walk -/
def handG (a : Addr) (g : Nat) (stop : Bool) (Out : Shared → Prop) : Protocol := fun _ _ v s1 kap => ∃ b, v = .bool b ∧ Live a g s1 ∧ (b ≠ stop → ∀ s2, Woke s1 s2 → kap (.send .none) s2) ∧ (b = stop → Out s1)
section
variable {P : Program} {w : World} {A : Around} {R : Result → Shared → Prop} {a : Addr} {g : Nat} {En Out : Shared → Prop}
/-- one asking -/
theorem ask_gen {stop : Bool} {n : Nat} {gs : GenState} {s : Shared} {E : Value → Shared → Prop} {Q : Option Value → Shared → Prop} (hh : A.handled = none) (hr : A.depth < recursionLimit) (hs : s.gens[g]? = some gs) (L : Live a g s)
    (go : ∀ s2, Woke s s2 → gs.Goes (model P w) A.in1 (endG En) (handG a g stop Out) n (.send .none) s2)
    (hy : ∀ b s1 gs', Live a g s1 → gs'.bare = true → s1.gens[g]? = some gs' → (b ≠ stop → ∃ m, n = m + 1 ∧ ∀ s2, Woke s1 s2 → gs'.Goes (model P w) A.in1 (endG En) (handG a g stop Out) m (.send .none) s2) → (b = stop → ∃ s0, Out s0 ∧ s1 = s0.setGen g gs') → Q (some (.bool b)) s1)
    (he : ∀ s0 h', En s0 → (∀ b o, s0.heap.get? b = some o → h'.get? b = some o) → Q none { s0.setGen g .finished with heap := h' }) :
    wpAny (model P w) A (pyNext (.ref a)) Q E s := by
  have hlt : g + 1 ≤ s.gens.size := (Array.getElem?_eq_some_iff.mp hs).1
  refine GenW.wpAny_gsz (n := g + 1) hlt (wpAny_pyNext_genexpQ (P := fun _ _ s1 => En s1) hh L.lim hr L.isg hs (go _ ⟨fun b o e => e, rfl, setGen_bare L.bare rfl⟩) (fun v s1 gs' hb hv hsz => ?_) fun s1 hp h' hk _ => he s1 h' hp hk)
  obtain ⟨b, rfl, L1, h1, h2⟩ := hv
  have hsz' : g < s1.gens.size := by
    have q : g + 1 ≤ (s1.setGen g gs').gens.size := hsz
    rw [GenW.setGen_size] at q
    exact q
  refine hy b _ gs' ⟨L1.isg, L1.lim, setGen_bare L1.bare hb⟩ hb (setGen_at hsz') (fun nb => ?_) fun eb => ⟨s1, h2 eb, rfl⟩
  cases n with
  | zero => exact (h1 nb s1 ⟨fun _ _ e => e, rfl, L1.bare⟩).elim
  | succ m => exact ⟨m, rfl, fun s2 wk => h1 nb s2 ⟨wk.keep, wk.os, wk.bare⟩⟩
theorem any_loop (hh : A.handled = none) (hr : A.depth < recursionLimit) (hend : ∀ s0 h', En s0 → (∀ b o, s0.heap.get? b = some o → h'.get? b = some o) → R (.ok (.ret (.bool false))) { s0.setGen g .finished with heap := h' })
    (hout : ∀ s0 gs', Out s0 → gs'.bare = true → R (.ok (.ret (.bool true))) (s0.setGen g gs')) : ∀ (n : Nat) (gs : GenState) (s : Shared), s.gens[g]? = some gs → Live a g s →
      (∀ s2, Woke s s2 → gs.Goes (model P w) A.in1.in1 (endG En) (handG a g true Out) n (.send .none) s2) → codeAny (model P w) A (.builtin "any.loop" ⟨[.ref a], []⟩) R s := by
  intro n
  induction n with
  | zero =>
    intro gs s hs L go
    refine codeAny_builtin F.entry_any_loop ?_
    rw [Around.under_plainId F.plain_any_loop _]
    show wpAny _ A.in1 (pyNext (.ref a) >>= _) _ _ s
    refine wpAny_bind (ask_gen (A := A.in1) hh hr hs L go (fun b s1 gs' L1 hb h1 h2 h3 => ?_) fun s0 h' e k => wpAny_bind (wpAny_rule (wpAny_pure (hend s0 h' e k))))
    refine wpAny_bind (wpAny_holding (wpAny_truthy_bool ?_))
    refine wpAny_bind (wpAny_letGo ?_)
    cases b with
    | false =>
      obtain ⟨m, z, _⟩ := h2 (by decide)
      cases z
    | true =>
      simp only [if_true]
      obtain ⟨s0, o, e⟩ := h3 rfl
      subst e
      exact wpAny_bind (wpAny_rule (wpAny_pure (hout s0 gs' o hb)))
  | succ n ih =>
    intro gs s hs L go
    refine codeAny_builtin F.entry_any_loop ?_
    rw [Around.under_plainId F.plain_any_loop _]
    show wpAny _ A.in1 (pyNext (.ref a) >>= _) _ _ s
    refine wpAny_bind (ask_gen (A := A.in1) hh hr hs L go (fun b s1 gs' L1 hb h1 h2 h3 => ?_) fun s0 h' e k => wpAny_bind (wpAny_rule (wpAny_pure (hend s0 h' e k))))
    refine wpAny_bind (wpAny_holding (wpAny_truthy_bool ?_))
    refine wpAny_bind (wpAny_letGo ?_)
    cases b with
    | false =>
      simp only [Bool.false_eq_true, if_false]
      obtain ⟨m, z, k⟩ := h2 (by decide)
      cases z
      exact wpAny_pure ⟨plainId_quiet F.plain_any_loop _, ih gs' _ h1 L1 k⟩
    | true =>
      simp only [if_true]
      obtain ⟨s0, o, e⟩ := h3 rfl
      subst e
      exact wpAny_bind (wpAny_rule (wpAny_pure (hout s0 gs' o hb)))
theorem all_loop (hh : A.handled = none) (hr : A.depth < recursionLimit) (hend : ∀ s0 h', En s0 → (∀ b o, s0.heap.get? b = some o → h'.get? b = some o) → R (.ok (.ret (.bool true))) { s0.setGen g .finished with heap := h' })
    (hout : ∀ s0 gs', Out s0 → gs'.bare = true → R (.ok (.ret (.bool false))) (s0.setGen g gs')) : ∀ (n : Nat) (gs : GenState) (s : Shared), s.gens[g]? = some gs → Live a g s →
      (∀ s2, Woke s s2 → gs.Goes (model P w) A.in1.in1 (endG En) (handG a g false Out) n (.send .none) s2) → codeAny (model P w) A (.builtin "all.loop" ⟨[.ref a], []⟩) R s := by
  intro n
  induction n with
  | zero =>
    intro gs s hs L go
    refine codeAny_builtin F.entry_all_loop ?_
    rw [Around.under_plainId F.plain_all_loop _]
    show wpAny _ A.in1 (pyNext (.ref a) >>= _) _ _ s
    refine wpAny_bind (ask_gen (A := A.in1) hh hr hs L go (fun b s1 gs' L1 hb h1 h2 h3 => ?_) fun s0 h' e k => wpAny_bind (wpAny_rule (wpAny_pure (hend s0 h' e k))))
    refine wpAny_bind (wpAny_holding (wpAny_truthy_bool ?_))
    refine wpAny_bind (wpAny_letGo ?_)
    cases b with
    | true =>
      obtain ⟨m, z, _⟩ := h2 (by decide)
      cases z
    | false =>
      simp only [Bool.false_eq_true, if_false]
      obtain ⟨s0, o, e⟩ := h3 rfl
      subst e
      exact wpAny_bind (wpAny_rule (wpAny_pure (hout s0 gs' o hb)))
  | succ n ih =>
    intro gs s hs L go
    refine codeAny_builtin F.entry_all_loop ?_
    rw [Around.under_plainId F.plain_all_loop _]
    show wpAny _ A.in1 (pyNext (.ref a) >>= _) _ _ s
    refine wpAny_bind (ask_gen (A := A.in1) hh hr hs L go (fun b s1 gs' L1 hb h1 h2 h3 => ?_) fun s0 h' e k => wpAny_bind (wpAny_rule (wpAny_pure (hend s0 h' e k))))
    refine wpAny_bind (wpAny_holding (wpAny_truthy_bool ?_))
    refine wpAny_bind (wpAny_letGo ?_)
    cases b with
    | true =>
      simp only [if_true]
      obtain ⟨m, z, k⟩ := h2 (by decide)
      cases z
      exact wpAny_pure ⟨plainId_quiet F.plain_all_loop _, ih gs' _ h1 L1 k⟩
    | false =>
      simp only [Bool.false_eq_true, if_false]
      obtain ⟨s0, o, e⟩ := h3 rfl
      subst e
      exact wpAny_bind (wpAny_rule (wpAny_pure (hout s0 gs' o hb)))
/-- any(g), all(g) -/
theorem call_any_gen {s : Shared} {E : Value → Shared → Prop} {Q : Value → Shared → Prop} {n : Nat} {gs : GenState} (hh : A.handled = none) (hr : A.depth < recursionLimit) (hs : s.gens[g]? = some gs) (L : Live a g s)
    (go : ∀ s2, Woke s s2 → gs.Goes (model P w) A.in1.in1 (endG En) (handG a g true Out) n (.send .none) s2)
    (hend : ∀ s0 h', En s0 → (∀ b o, s0.heap.get? b = some o → h'.get? b = some o) → Q (.bool false) { s0.setGen g .finished with heap := h' })
    (hout : ∀ s0 gs', Out s0 → gs'.bare = true → Q (.bool true) (s0.setGen g gs')) : wpAny (model P w) A (call (.builtin "any") [.ref a]) Q E s := by
  refine call_function_tree F.kind_any F.plain_any F.entry_any (F.args_any1 _) ?_
  unfold Builtin.«any»
  refine wpAny_bind (m := oneArg "any" _) (wpAny_pure ?_)
  refine wpAny_bind (wpAny_pyIter_gen L.isg ?_)
  exact wpAny_pure ⟨plainId_quiet F.plain_any_loop _, any_loop hh hr (fun s0 h' e k => hend s0 h' e k) (fun s0 gs' o b => hout s0 gs' o b) n gs s hs L go⟩
theorem call_all_gen {s : Shared} {E : Value → Shared → Prop} {Q : Value → Shared → Prop} {n : Nat} {gs : GenState} (hh : A.handled = none) (hr : A.depth < recursionLimit) (hs : s.gens[g]? = some gs) (L : Live a g s)
    (go : ∀ s2, Woke s s2 → gs.Goes (model P w) A.in1.in1 (endG En) (handG a g false Out) n (.send .none) s2)
    (hend : ∀ s0 h', En s0 → (∀ b o, s0.heap.get? b = some o → h'.get? b = some o) → Q (.bool true) { s0.setGen g .finished with heap := h' })
    (hout : ∀ s0 gs', Out s0 → gs'.bare = true → Q (.bool false) (s0.setGen g gs')) : wpAny (model P w) A (call (.builtin "all") [.ref a]) Q E s := by
  refine call_function_tree F.kind_all F.plain_all F.entry_all (F.args_all1 _) ?_
  unfold Builtin.«all»
  refine wpAny_bind (m := oneArg "all" _) (wpAny_pure ?_)
  refine wpAny_bind (wpAny_pyIter_gen L.isg ?_)
  exact wpAny_pure ⟨plainId_quiet F.plain_all_loop _, all_loop hh hr (fun s0 h' e k => hend s0 h' e k) (fun s0 gs' o b => hout s0 gs' o b) n gs s hs L go⟩
end
end Vm

set_option Elab.async false
set_option linter.all false
set_option maxRecDepth 100000
set_option maxHeartbeats 4000000
/-! VnC: the side that hands out: a generator expression's turns. -/
namespace Vm
open PySem PySem.Spec PyProof.Rows L2
/-- the turns: W by the turn and a measure; Qe: wanted where no thing is left; Qo: where a truth like stop was handed out -/
def Turns (J : L2.It) (tgG : TG) (te : TE) (σ : L2.St) (vs : List Nat) (stop : Bool) (W : Nat → Nat → Hp → Prop) (Qe Qo : Hp → Prop) : Prop :=
  ∀ i m H, W i m H → (J.stop i H ∧ Qe H) ∨ (J.go i H ∧ ∀ x H', J.yld i H x H' → tgG x (wipe σ vs) H' fun σ2 H2 => wipe σ2 vs = wipe σ vs ∧ te σ2 H2 fun y H3 => ∃ b, y = .bl b ∧ (b ≠ stop → ∃ m', m' < m ∧ W (i + 1) m' H3) ∧ (b = stop → Qo H3))
section
variable {X : Cx} {s4 : Shared} {H4 : Hp} {cenv : Env} {fp : List Addr} {go : Obj} {elt tg iter : Expr} {scope : Scope} {gpos : Pos} {it a : Addr} {g : Nat} {tn : Nat → Heap → Prop} {J : L2.It} {σ : L2.St} {vs : List Nat} {stop : Bool} {tgG : TG} {te : TE} {W : Nat → Nat → Hp → Prop} {Qe Qo : Hp → Prop}
abbrev gX (X : Cx) (s4 : Shared) (H4 : Hp) (elt tg iter : Expr) (scope : Scope) (gpos : Pos) (it : Addr) (cenv : Env) (fp : List Addr) (a : Addr) (go : Obj) : Cx := gen X s4 H4 cenv (genA X elt tg iter scope gpos it cenv) fp [(a, go)]
theorem seg_gen (hc : X.calm = true) (T : Turn X.prog X.w X.K tg J fp it tn) (pg : PG (gX X s4 H4 elt tg iter scope gpos it cenv fp a go) tg tgG) (pe : PE (gX X s4 H4 elt tg iter scope gpos it cenv fp a go) elt te) (hco : cenv.scope.isCoroutine = false)
    (hgo : ∀ h : Heap, h.get? a = some go → h.IsGen a g) (hfa : a ∉ fp) (tr : Turns J tgG te σ vs stop W Qe Qo) :
    ∀ m n i H s s₀, m < n → Inv (gX X s4 H4 elt tg iter scope gpos it cenv fp a go) [] (wipe σ vs) H s → tn i s.heap → (∀ b ∈ fp, H b = none) → W i m H →
      Seg (model X.prog X.w) X.A.in1.in1 (endG fun s1 => ∃ H, Inv (gX X s4 H4 elt tg iter scope gpos it cenv fp a go) [] (wipe σ vs) H s1 ∧ Qe H)
        (handG a g stop fun s1 => ∃ σ1 pins H, Inv (gX X s4 H4 elt tg iter scope gpos it cenv fp a go) pins σ1 H s1 ∧ Qo H) n s₀ (genLoop elt tg iter scope gpos it cenv)
        ((model X.prog X.w).den (genLoop elt tg iter scope gpos it cenv)) [] s := by
  have stat : ∀ {σ' : L2.St} {H' : Hp} {s' : Shared}, Inv (gX X s4 H4 elt tg iter scope gpos it cenv fp a go) [] σ' H' s' → (∀ b ∈ fp, H' b = none) → ∀ b ∈ fp, FpOk (gX X s4 H4 elt tg iter scope gpos it cenv fp a go) [] H' b := fun {σ' H' s'} I' hn b hb =>
    ⟨hn b hb, (I'.ok.exf b hb).1, I'.ok.exfs b hb, .inl hb, fun x c e => (I'.ok.exf b hb).2 x c e, fun p hp => by
      have hp : p ∈ [(a, go)] := by simpa using hp
      rw [List.mem_singleton.mp hp]
      exact fun z => hfa (by rw [show a = b from z]; exact hb)⟩
  have hy : ∀ v, yieldOut cenv v = yieldValue v := fun v => by simp only [yieldOut, hco, Bool.false_eq_true, if_false]
  intro m
  induction m using Nat.strongRecOn with
  | _ m ih =>
    intro n i H s s₀ hmn I5 st5 n5 w5
    show Seg _ _ _ _ n s₀ _ ((compTurn (.GeneratorExp elt [⟨tg, iter, [], 0⟩] scope gpos) 0 (.ref it) .none cenv).onRaise (leaving cenv)) [] s
    rw [compTurn_gen, Sem.onRaise_eq_wrap]
    refine seg_bind_wrap (wpAny_standAt ?_)
    rcases tr i m H w5 with ⟨sp, qe⟩ | ⟨gg, step⟩
    · refine seg_bind_wrap (wpAny_mono (T.done (gX X s4 H4 elt tg iter scope gpos it cenv fp a go) rfl rfl rfl hc i [] s _ H (fun _ _ => False) I5 (stat I5 n5) st5 sp) (fun r s6 ⟨hr, I6⟩ => ?_) fun _ _ z => z.elim)
      subst hr
      exact seg_end (.ok .next) ⟨rfl, H, I6, qe⟩
    · refine seg_bind_wrap (wpAny_mono (T.item (gX X s4 H4 elt tg iter scope gpos it cenv fp a go) rfl rfl rfl hc i [] s _ H (fun _ _ => False) I5 (stat I5 n5) st5 gg) (fun r s6 ⟨u, hr, h6⟩ => ?_) fun _ _ z => z.elim)
      subst hr
      refine seg_bind_wrap (wpAny_mono h6 (fun _ s7 ⟨x, H7, I7, r7, y7, st7, n7⟩ => ?_) fun _ _ z => z.elim)
      have I7' := I7.pinned (stat I7 n7) (T.obj _ _ st7)
      refine seg_bind_wrap (wpAny_mono (pg.run _ s7 _ H7 x u _ I7' r7 (step x H7 y7)) (fun _ s8 ⟨σ8, H8, I8, hw8, q8⟩ => ?_) fun _ _ z => z.elim)
      refine seg_bind_wrap ?_
      simp only [List.forIn_nil]
      refine wpAny_pure ?_
      simp only [if_true, hy]
      rw [Sem.bind_eq_wrap', Sem.bind_eq_wrap', Sem.wrap_wrap, Sem.wrap_wrap]
      refine seg_wrap (wpAny_mono (pe.run _ s8 σ8 H8 _ I8 q8) (fun v s9 ⟨y, H9, I9, r9, b, ey, hb1, hb2⟩ => ?_) fun _ _ z => z.elim)
      subst ey
      obtain rfl : v = Value.bool b := r9
      obtain ⟨k, rfl⟩ : ∃ k, n = k + 1 := ⟨n - 1, by omega⟩
      have ia : s9.heap.IsGen a g := hgo _ (I9.pin (a, go) (List.mem_append_left _ (List.mem_singleton.mpr rfl))).1
      refine seg_at (seg_yield rfl rfl rfl ⟨b, rfl, ⟨ia, I9.nolimit, I9.bare⟩, fun nb s2 wk => ?_, fun eb => ⟨_, _, _, I9, hb2 eb⟩⟩)
      obtain ⟨m', hm, w'⟩ := hb1 nb
      have I2 : Inv (gX X s4 H4 elt tg iter scope gpos it cenv fp a go) ([] ++ pinsAt fp s7.heap) σ8 H9 s2 := I9.call' (ch := []) wk.os (Un.kept wk.keep) (I9.hok.kept wk.keep) wk.bare fun b z => by simp at z
      have pin' : ∀ b ∈ fp, ∀ o, s7.heap.get? b = some o → s2.heap.get? b = some o ∧ H9 b = none := fun b hb o e =>
        let z := I2.pin (b, o) (List.mem_append_right _ (List.mem_append_right _ (mem_pinsAt hb e)))
        ⟨z.1, z.2.1⟩
      have hl : (wipe σ vs).length = σ8.length := by rw [← hw8, wipe_length]
      refine seg_again rfl (ih m' hm k (i + 1) H9 s2 s2 (by omega) ((I2.unpinned (pins := [])).weak hl fun j v e => ?_) (T.keep _ _ _ st7 fun b hb o e => (pin' b hb o e).1) (fun b hb => ?_) w')
      · rw [← hw8] at e
        exact (wipe_some e).1
      · obtain ⟨o, e, _⟩ := T.obj _ _ st7 b hb
        exact (pin' b hb o e).2
/-- from its beginning -/
theorem seg_begin {En : Shared → Prop} {Y : Protocol} {n : Nat} {s s₀ : Shared} (T : Turn X.prog X.w X.K tg J fp it tn) (st : tn 0 s.heap)
    (loop : Seg (model X.prog X.w) X.A.in1.in1 (endG En) Y n s₀ (genLoop elt tg iter scope gpos it cenv) ((model X.prog X.w).den (genLoop elt tg iter scope gpos it cenv)) [] s) :
    Seg (model X.prog X.w) X.A.in1.in1 (endG En) Y n s₀ (genBegin elt tg iter scope gpos it cenv) ((model X.prog X.w).den (genBegin elt tg iter scope gpos it cenv)) [] s := by
  show Seg _ _ _ _ n s₀ _ ((compStart (.GeneratorExp elt [⟨tg, iter, [], 0⟩] scope gpos) 0 (.ref it) .none cenv).onRaise (leaving cenv)) [] s
  unfold compStart
  rw [Sem.onRaise_eq_wrap]
  show Seg _ _ _ _ n s₀ _ ((ask >>= _).wrap _ _ _ _) [] s
  refine seg_bind_wrap (wpAny_askSetting ?_)
  split
  · exact seg_again rfl loop
  · first
      | exact seg_bind_wrap (wpAny_rule (seg_bind_wrap (wpAny_standAt (seg_bind_wrap (T.self _ 0 s _ _ st (seg_again rfl loop))))))
      | (refine seg_bind_wrap (wpAny_rule ?_); show Seg _ _ _ _ n s₀ _ ((standAt iter.pos >>= _).wrap _ _ _ _) [] s; exact seg_bind_wrap (wpAny_standAt (seg_bind_wrap (T.self _ 0 s _ _ st (seg_again rfl loop)))))
end
end Vm

set_option Elab.async false
set_option linter.all false
set_option maxRecDepth 100000
set_option maxHeartbeats 4000000
/-! VmC: the expressions, rule by rule. -/
namespace Vm
open PySem PySem.Spec PyProof.Rows L2
variable [Tbs]

section
variable {X : Cx} {K : PySem.W.Frag} {xi : XI} {a b c e : Expr} {fa fb fc : Ev → IH → Res PV} {pos : Pos}

/-- the first part of a reading -/
theorem tE_bind {β : Type} {f : Ev → IH → Res PV} {g : PV → IH → Res β} {R : β → List Addr → Hp → Prop} {st : L2.St} {H : Hp} {Q : VK} {ev : Ev} {m : List Addr} {h : IH} (re : REnv K m H st ev) (rh : RelH K m H h)
    (p : Post K xi m H ((f ev h).bind g) R)
    (k : ∀ v x m1 H1 h1, Grow m H m1 H1 → REnv K m1 H1 st ev → RelH K m1 H1 h1 → Rep K m1 H1 v x → Post K xi m1 H1 (g x h1) R → Q v H1) : tE K xi f st H Q :=
  ⟨ev, m, h, re, rh, p.bind fun x h1 m1 H1 g1 q1 p1 v rv => k v x m1 H1 h1 g1 (re.grow g1) q1 rv p1⟩
theorem tA_bind {β : Type} {f : Ev → IH → Res (List PV)} {g : List PV → IH → Res β} {R : β → List Addr → Hp → Prop} {st : L2.St} {H : Hp} {Q : List V → Hp → Prop} {ev : Ev} {m : List Addr} {h : IH} (re : REnv K m H st ev) (rh : RelH K m H h)
    (p : Post K xi m H ((f ev h).bind g) R)
    (k : ∀ vs xs m1 H1 h1, Grow m H m1 H1 → REnv K m1 H1 st ev → RelH K m1 H1 h1 → Reps K m1 H1 vs xs → Post K xi m1 H1 (g xs h1) R → Q vs H1) : tA K xi f st H Q :=
  ⟨ev, m, h, re, rh, p.bind fun x h1 m1 H1 g1 q1 p1 v rv => k v x m1 H1 h1 g1 (re.grow g1) q1 rv p1⟩
theorem tT_bind {β : Type} {f : Ev → IH → Res Bool} {g : Bool → IH → Res β} {R : β → List Addr → Hp → Prop} {st : L2.St} {H : Hp} {Q : Bool → Hp → Prop} {ev : Ev} {m : List Addr} {h : IH} (re : REnv K m H st ev) (rh : RelH K m H h)
    (p : Post K xi m H ((f ev h).bind g) R)
    (k : ∀ x m1 H1 h1, Grow m H m1 H1 → REnv K m1 H1 st ev → RelH K m1 H1 h1 → Post K xi m1 H1 (g x h1) R → Q x H1) : tT K xi f st H Q :=
  ⟨ev, m, h, re, rh, p.bind fun x h1 m1 H1 g1 q1 p1 => k x m1 H1 h1 g1 (re.grow g1) q1 p1⟩
/-- an end that is there at once -/
theorem Post.now {α : Type} {m : List Addr} {H : Hp} {h : IH} {x : α} {R : α → List Addr → Hp → Prop} (p : Post K xi m H (.ok x h) R) (rh : RelH K m H h) : R x m H := p m H (Grow.refl m H) rh
theorem Post.ite {α : Type} {m : List Addr} {H : Hp} {c : Prop} [i : Decidable c] {r : Res α} {R : α → List Addr → Hp → Prop} (p : Post K xi m H (@_root_.ite _ c i r .stuck) R) : c ∧ Post K xi m H r R := by
  by_cases hc : c
  · rw [if_pos hc] at p
    exact ⟨hc, p⟩
  · rw [if_neg hc] at p
    exact p.elim
theorem Post.refl' {m : List Addr} {H : Hp} : Grow m H m H := Grow.refl m H

theorem se_var {i : Nat} {x : Str} (hN : X.N[i]? = some x) (hv : Vis X.env.scope x) (hd : (x == ("__debug__" : Str)) = false) (hcd : (x == ("__classdict__" : Str)) = false) :
    PE X (.Name x pos) (tE K xi fun ev h => match ev[i]? with | some (some x) => .ok x h | _ => .stuck) := by
  refine PEm (pe_var hN hv hd hcd) fun st H Q ⟨ev, m, h, re, rh, p⟩ => ?_
  dsimp only at p
  split at p
  · rename_i x' ex
    obtain ⟨v, h1, h2⟩ := re.at' i x' ex
    exact ⟨v, h1, p.now rh v h2⟩
  · exact p.elim
theorem se_con {v : V} {x : PV} (hp : PE X e (tC v)) (r : ∀ m H, Rep K m H v x) : PE X e (tE K xi fun _ h => .ok x h) :=
  PEm hp fun st H Q ⟨ev, m, h, re, rh, p⟩ => p.now rh v (r m H)

/-- an operator by values -/
def OpOk (K : PySem.W.Frag) (xi : XI) (f : PV → PV → IH → Res PV) (r : R2) : Prop :=
  ∀ (m : List Addr) (H : Hp) (h : IH) (x y : PV) (vx vy : V) (Q : VK), RelH K m H h → Rep K m H vx x → Rep K m H vy y → (Post K xi m H (f x y h) fun z m' H' => ∀ v, Rep K m' H' v z → Q v H') → r vx vy H Q
theorem tOp_of {f : PV → PV → IH → Res PV} {r : R2} (ok : OpOk K xi f r) {st : L2.St} {H : Hp} {Q : VK}
    (t : tE K xi (fun ev h => (fa ev h).bind fun x h1 => (fb ev h1).bind fun y h2 => f x y h2) st H Q) : tOp r (tE K xi fa) (tE K xi fb) st H Q := by
  obtain ⟨ev, m, h, re, rh, p⟩ := t
  refine tE_bind re rh p fun v x m1 H1 h1 g1 re1 rh1 rx p1 => ?_
  refine tE_bind re1 rh1 p1 fun w y m2 H2 h2 g2 re2 rh2 ry p2 => ?_
  exact ok m2 H2 h2 x y v w Q rh2 (rx.grow g2) ry p2
theorem se_bin {op : Operator} {f : PV → PV → IH → Res PV} {r : R2} (ho : OpR X (binaryOp op) r) (ok : OpOk K xi f r) (ha : PE X a (tE K xi fa)) (hb : PE X b (tE K xi fb)) :
    PE X (.BinOp a op b pos) (tE K xi fun ev h => (fa ev h).bind fun x h1 => (fb ev h1).bind fun y h2 => f x y h2) :=
  PEm (pe_op ho ha hb) fun st H Q t => tOp_of ok t
theorem se_cmp {op : CmpOp} {f : PV → PV → IH → Res PV} {r : R2} (ho : OpR X (compareOp op) r) (ok : OpOk K xi f r) (hm : behindInMarks op b = false) (ha : PE X a (tE K xi fa)) (hb : PE X b (tE K xi fb)) :
    PE X (.Compare a [op] [b] pos) (tE K xi fun ev h => (fa ev h).bind fun x h1 => (fb ev h1).bind fun y h2 => f x y h2) :=
  PEm (pe_cmpR ho ha hb hm) fun st H Q t => tOp_of ok t

/-! ### the operators -/
theorem big_iff {i : Int} : big i = true ↔ (-(2 ^ 64) < i ∧ i < 2 ^ 64) := by simp [big]
theorem lst_at {m : List Addr} {H : Hp} {h : IH} {v : V} {a : Nat} {xs : List PV} (rh : RelH K m H h) (r : Rep K m H v (.ref a)) (e : h[a]? = some (.lst xs)) : ∃ p vs, v = .ref p ∧ m[a]? = some p ∧ H p = some (.lst vs) ∧ Reps K m H vs xs := by
  cases r with
  | ref hp =>
    obtain ⟨vs, h1, h2⟩ := rh.at' a _ _ e hp
    exact ⟨_, vs, rfl, hp, h1, h2⟩
/-- a new list -/
theorem new_at {m : List Addr} {H : Hp} {h : IH} {vs : List V} {xs : List PV} {Q : VK} (rh : RelH K m H h) (r : Reps K m H vs xs) (p : Post K xi m H (new h xs) fun z m' H' => ∀ v, Rep K m' H' v z → Q v H') :
    xs.length ≤ sizeLine ∧ ∀ q, H q = none → Q (.ref q) (upd H q (.lst vs)) := by
  obtain ⟨hl, p⟩ := Post.ite p
  refine ⟨hl, fun q nq => ?_⟩
  obtain ⟨rl, gl⟩ := rh.laid nq r
  exact p _ _ gl rl _ (.ref (by rw [← rh.len]; simp))
theorem tup_at {m : List Addr} {H : Hp} {v : V} {xs : List PV} (r : Rep K m H v (.tup xs)) : ∃ p vs, v = .ref p ∧ SqT K H p vs ∧ Reps K m H vs xs := by
  cases r with
  | tup h1 h2 => exact ⟨_, _, rfl, h1, h2⟩
/-- a new tuple -/
theorem newT_at {m : List Addr} {H : Hp} {h : IH} {vs : List V} {xs : List PV} {Q : VK} (rh : RelH K m H h) (r : Reps K m H vs xs) (p : Post K xi m H (.ok (.tup xs) h) fun z m' H' => ∀ v, Rep K m' H' v z → Q v H') :
    ∀ q, H q = none → Q (.ref q) (upd H q (.tup vs)) := fun q nq =>
  p m _ (Grow.junk nq) (rh.junk nq) _ (.tup (.inl (.inl upd_same)) (r.grow (Grow.junk nq)))
theorem ok_add : OpOk K xi (binF .add) (fun x y H Q => (rI0 (fun i j => .int (i + j)) x y H Q ∨ (∃ i j, x = .str i ∧ y = .str j ∧ i.length + j.length ≤ sizeLine ∧ Q (.str (i ++ j)) H)) ∨ (rCatA K x y H Q ∨ rCat x y H Q)) := by
  intro m H h x y vx vy Q rh rx ry p
  cases x <;> cases y <;> try exact p.elim
  · rename_i i j
    cases rx; cases ry
    exact .inl (.inl ⟨i, j, rfl, rfl, p.now rh _ .int⟩)
  · rename_i i j
    cases rx; cases ry
    obtain ⟨hl, p⟩ := Post.ite p
    exact .inl (.inr ⟨i, j, rfl, rfl, hl, p.now rh _ .str⟩)
  · rename_i xs ys
    obtain ⟨a, vs, rfl, h1, r1⟩ := tup_at rx
    obtain ⟨b, ws, rfl, h2, r2⟩ := tup_at ry
    obtain ⟨hl, p⟩ := Post.ite (c := (xs ++ ys).length ≤ sizeLine) p
    refine .inr (.inl ⟨a, b, vs, ws, rfl, rfl, h1, h2, by rw [r1.length, r2.length, ← List.length_append]; exact hl, fun e => ?_, fun _ e => ?_, fun _ _ => newT_at rh (r1.append r2) p⟩)
    · subst e
      cases r1
      exact p.now rh _ ry
    · subst e
      cases r2
      rw [List.append_nil] at p
      exact p.now rh _ rx
  · rename_i a b
    have p' : Post K xi m H (match h[a]?, h[b]? with
      | some (.lst xs), some (.lst ys) => new h (xs ++ ys)
      | _, _ => .stuck) (fun z m' H' => ∀ v, Rep K m' H' v z → Q v H') := p
    clear p
    cases ea : h[a]? with
    | none => rw [ea] at p'; exact p'.elim
    | some oa =>
      cases eb : h[b]? with
      | none => rw [ea, eb] at p'; cases oa <;> exact p'.elim
      | some ob =>
        rw [ea, eb] at p'
        cases oa <;> cases ob <;> try exact p'.elim
        rename_i xs ys
        obtain ⟨pa, vs, rfl, _, h1, r1⟩ := lst_at rh rx ea
        obtain ⟨pb, ws, rfl, _, h2, r2⟩ := lst_at rh ry eb
        obtain ⟨hl, k⟩ := new_at rh (r1.append r2) p'
        exact .inr (.inr ⟨pa, pb, vs, ws, rfl, rfl, h1, h2, by rw [r1.length, r2.length, ← List.length_append]; exact hl, k⟩)
theorem ok_sub : OpOk K xi (binF .sub) (rI0 fun i j => .int (i - j)) := by
  intro m H h x y vx vy Q rh rx ry p
  cases x <;> cases y <;> try exact p.elim
  rename_i i j
  cases rx; cases ry
  exact ⟨i, j, rfl, rfl, p.now rh _ .int⟩
theorem Reps.rep {m : List Addr} {H : Hp} {vs : List V} {xs : List PV} (r : Reps K m H vs xs) : ∀ n : Nat, Reps K m H (List.replicate n vs).flatten (List.replicate n xs).flatten
  | 0 => .nil
  | n + 1 => by
    rw [List.replicate_succ, List.replicate_succ, List.flatten_cons, List.flatten_cons]
    exact r.append (Reps.rep r n)
theorem len_rep {α : Type} (xs : List α) (n : Nat) : (List.replicate n xs).flatten.length = xs.length * n := by
  induction n with
  | zero => rfl
  | succ n ih => rw [List.replicate_succ, List.flatten_cons, List.length_append, ih, Nat.mul_succ, Nat.add_comm]
def rRepS : R2 := fun x y H Q => ∃ (a : Str) (k : Int), x = .str a ∧ y = .int k ∧ 0 ≤ k ∧ k ≤ 1000 ∧ a.length ≤ 1000 ∧ Q (.str (repS a k)) H
theorem fold_len (b : Array Nat) : ∀ (n : Nat) (acc : Array Nat), ((List.replicate n b).foldl (· ++ ·) acc).size = acc.size + n * b.size
  | 0, acc => by simp
  | n + 1, acc => by
    rw [List.replicate_succ, List.foldl_cons, fold_len b n, Array.size_append, Nat.add_mul, Nat.one_mul]
    omega
theorem op_repS : OpR X (binaryOp .Mult) rRepS := by
  intro pins s σ H x y v u Q I rx ry h
  obtain ⟨a, k, rfl, rfl, k0, k1, hl, q⟩ := h
  obtain ⟨t, rfl⟩ := rx
  obtain ⟨t', rfl⟩ := ry
  have hk : k.toNat ≤ 1000 := by omega
  have hm : a.length * k.toNat ≤ 1000 * 1000 := Nat.mul_le_mul hl hk
  refine P.mul_str (by rw [decide_eq_false (by omega), decide_eq_false (by omega)]; rfl) (fun h1 _ => ?_) (fun _ _ => ?_) ?_
  · have e : (1000 : Int) ≤ (2 ^ 63 - 1) / k := (Int.le_ediv_iff_mul_le (by omega)).mpr (by omega)
    omega
  · exact decide_eq_false (by rw [sizeLine_eq]; omega)
  · unfold repS at q
    by_cases c : k < 1
    · rw [if_pos c] at q ⊢
      exact ⟨Nat.zero_le _, .str _, H, I.tok _, ⟨_, rfl⟩, q⟩
    · rw [if_neg c] at q ⊢
      by_cases c2 : (k == 1 || a.length == 0) = true
      · rw [if_pos c2] at q ⊢
        exact ⟨.str _, H, I, ⟨_, rfl⟩, q⟩
      · rw [if_neg c2] at q ⊢
        refine ⟨?_, .str _, H, I.tok _, ⟨_, rfl⟩, q⟩
        show ((List.replicate k.toNat a.cps).foldl (· ++ ·) #[]).size ≤ sizeLine
        rw [fold_len, sizeLine_eq]
        have : k.toNat * a.cps.size = a.length * k.toNat := Nat.mul_comm _ _
        simp only [List.size_toArray, List.length_nil]
        omega
theorem tuple_mul1 (l : Addr) (items : Array Value) (n : Nat) (dd : Option Addr) (sl : Array (Option Value)) (u : Tok) :
    Meets (Builtin.«tuple.__mul__» ⟨[.ref l, .int 1 u], []⟩) (fun _ R s => s.heap.get? l = some { cls := .type "tuple", dict := dd, data := .seq items n, slots := sl } ∧ R (.ok (.ret (Value.ref l))) s) :=
  .of_wp fun prog w A R s h => by
    obtain ⟨hp, g, d, tk, os⟩ := s
    obtain ⟨hl, h⟩ := h
    have f1 := AutoSeq1.idx_int
    have c0 : (decide ((1 : Int) < -(2 ^ 63)) || decide ((1 : Int) ≥ 2 ^ 63)) = false := by decide
    have c1 : (items.isEmpty || (1 : Int) == 1) = true := by simp
    wp_walk using wpAny_loadPart' hl
    repeat (first
      | (refine wpAny_ite_false (decide_eq_false (by rw [c0]; exact Bool.false_ne_true)) ?_; wp_walk using wpAny_loadPart' hl)
      | (refine wpAny_ite_true (decide_eq_true c1) ?_; wp_walk using wpAny_loadPart' hl))
    exact ⟨_, rfl, h⟩
def rRepT1 (K : PySem.W.Frag) : R2 := fun x y H Q => ∃ l xs, x = .ref l ∧ y = .int 1 ∧ SqT K H l xs ∧ Q (.ref l) H
theorem op_repT1 : OpR X (binaryOp .Mult) (rRepT1 X.K) := by
  intro pins s σ H x y v u Q I rx ry h
  obtain ⟨l, xs, rfl, rfl, hT, q⟩ := h
  cases rx
  obtain ⟨t, rfl⟩ := ry
  obtain ⟨its, r, ⟨⟨cls, dd, data, sl⟩, ho, hc, n, hd⟩, hs⟩ := I.tuple hT
  simp only at hc hd
  subst hc hd
  exact wpAny_binaryOp_repeat_ref (T := "tuple") (U := "int") (by decide) ⟨_, ho, rfl⟩ (fun s' => typeIs_int s' 1 t) noFill_tuple_mul F.fills_int_mul F.slot_int_rmul repeat_tuple F.slot_int_index.lookup
    (call_meets F.slot_int_rmul (typeIs_int s 1 t) F.entry_int_rmul (F.args_int_rmul_2 _ _) (int_rmul_tuple 1 t l its.toArray n dd sl)
      ⟨ho, rfl, ⟨_, ho, rfl⟩, call_meets F.slot_tuple_mul ⟨_, ho, rfl⟩ F.entry_tuple_mul (F.args_tuple_mul_2 _ _) (tuple_mul1 l its.toArray n dd sl t) ⟨ho, ⟨.ref l, H, I, rfl, q⟩⟩⟩)
theorem ok_mul : OpOk K xi (binF .mul) (fun x y H Q => rI CMul (fun i j => .int (i * j)) x y H Q ∨ (rRep x y H Q ∨ (rRepS x y H Q ∨ (rRepT K x y H Q ∨ rRepT1 K x y H Q)))) := by
  intro m H h x y vx vy Q rh rx ry p
  cases x <;> cases y <;> try exact p.elim
  · rename_i i j
    cases rx; cases ry
    obtain ⟨hb, p⟩ := Post.ite p
    rw [Bool.or_eq_true, big_iff, big_iff] at hb
    exact .inl ⟨i, j, rfl, rfl, hb, p.now rh _ .int⟩
  · rename_i i k
    cases rx; cases ry
    obtain ⟨hb, p⟩ := Post.ite p
    exact .inr (.inr (.inl ⟨i, k, rfl, rfl, hb.1, hb.2.1, hb.2.2, p.now rh _ .str⟩))
  · rename_i xs k
    cases ry
    obtain ⟨hb, p⟩ := Post.ite p
    obtain ⟨l, vs, rfl, hs, rv⟩ := tup_at rx
    have hl := rv.length
    by_cases c : k = 1
    · subst c
      refine .inr (.inr (.inr (.inr ⟨l, vs, rfl, rfl, hs, ?_⟩)))
      have e : (List.replicate (1 : Int).toNat xs).flatten = xs := by simp
      rw [e] at p
      exact p.now rh _ rx
    · refine .inr (.inr (.inr (.inl ⟨l, k, vs, rfl, rfl, hs, fun z => ?_, by omega, hb.2.1, by omega, fun q nq => ?_⟩)))
      · subst z
        cases rv
        exact absurd hb.2.2.1 (by decide)
      · exact newT_at rh (rv.rep k.toNat) p q nq
  · rename_i a k
    cases ry
    have p' : Post K xi m H (match h[a]? with
      | some (.lst xs) => if -(2 ^ 63) ≤ k ∧ k < 2 ^ 63 then new h (List.replicate k.toNat xs).flatten else .stuck
      | _ => .stuck) (fun z m' H' => ∀ v, Rep K m' H' v z → Q v H') := p
    clear p
    cases ea : h[a]? with
    | none => rw [ea] at p'; exact p'.elim
    | some oa =>
      rw [ea] at p'
      cases oa <;> try exact p'.elim
      rename_i xs
      obtain ⟨pa, vs, rfl, _, h1, r1⟩ := lst_at rh rx ea
      obtain ⟨hk, p'⟩ := Post.ite p'
      obtain ⟨hl, kk⟩ := new_at rh (r1.rep k.toNat) p'
      exact .inr (.inl ⟨pa, k, vs, rfl, rfl, h1, hk.1, hk.2, by rw [r1.length, ← len_rep]; exact hl, kk⟩)
theorem ok_fdiv : OpOk K xi (binF .fdiv) (fun x y H Q => rI CDiv (fun i j => .int (i / j)) x y H Q ∨ rI CDivW (fun i j => .int (i / j)) x y H Q) := by
  intro m H h x y vx vy Q rh rx ry p
  cases x <;> cases y <;> try exact p.elim
  rename_i i j
  cases rx; cases ry
  obtain ⟨hb, p⟩ := Post.ite p
  rcases hb.2 with c | c
  · exact .inl ⟨i, j, rfl, rfl, ⟨hb.1, c⟩, p.now rh _ .int⟩
  · exact .inr ⟨i, j, rfl, rfl, ⟨hb.1, c⟩, p.now rh _ .int⟩
theorem ok_mod : OpOk K xi (binF .mod) (rI (fun _ j => 0 < j) fun i j => .int (i % j)) := by
  intro m H h x y vx vy Q rh rx ry p
  cases x <;> cases y <;> try exact p.elim
  rename_i i j
  cases rx; cases ry
  obtain ⟨hb, p⟩ := Post.ite p
  exact ⟨i, j, rfl, rfl, hb, p.now rh _ .int⟩
theorem ok_pow : OpOk K xi (binF .pow) (rI CPow fun i j => .int (i ^ j.toNat)) := by
  intro m H h x y vx vy Q rh rx ry p
  cases x <;> cases y <;> try exact p.elim
  rename_i i j
  cases rx; cases ry
  obtain ⟨hb, p⟩ := Post.ite p
  exact ⟨i, j, rfl, rfl, hb, p.now rh _ .int⟩
theorem dec_vi {i j : Int} : decide (V.int i = V.int j) = decide (i = j) := by
  by_cases h : i = j
  · subst h; simp
  · rw [decide_eq_false h, decide_eq_false fun z => h (V.int.inj z)]
theorem dec_vs {i j : Str} : decide (V.str i = V.str j) = decide (i = j) := by
  by_cases h : i = j
  · subst h; simp
  · rw [decide_eq_false h, decide_eq_false fun z => h (V.str.inj z)]
theorem seqO_cons {α : Type} {x : Option α} {r : List (Option α)} {ys : List α} (e : seqO (x :: r) = some ys) : ∃ y zs, x = some y ∧ seqO r = some zs ∧ ys = y :: zs := by
  cases x with
  | none => cases e
  | some y =>
    unfold seqO at e
    cases q : seqO r with
    | none => rw [q] at e; cases e
    | some zs => rw [q] at e; cases e; exact ⟨y, zs, rfl, rfl, rfl⟩
theorem data_all {m : List Addr} {H : Hp} {f : PV → Option PyData} (hf : ∀ (x : PV) (v : V) d, Rep K m H v x → f x = some d → Dp K H v d) : ∀ {xs : List PV} {vs : List V} {ds : List PyData}, Reps K m H vs xs → seqO (xs.map f) = some ds → DpAll K H vs ds
  | [], vs, ds, r, e => by
    cases r
    cases e
    exact .nil
  | x :: xs, vs, ds, r, e => by
    cases r with
    | cons r t =>
      obtain ⟨y, zs, e1, e2, rfl⟩ := seqO_cons e
      exact .cons (hf _ _ _ r e1) (data_all hf t e2)
theorem data_ok {m : List Addr} {H : Hp} {h : IH} (rh : RelH K m H h) : ∀ (n : Nat) (x : PV) (v : V) (d : PyData), Rep K m H v x → dataOf h n x = some d → Dp K H v d
  | 0, _, _, _, _, e => by cases e
  | n + 1, x, v, d, r, e => by
    have ih := data_ok rh n
    cases x with
    | non => cases r; cases e; exact .non
    | bl b => cases r; cases e; exact .bl _
    | int i => cases r; cases e; exact .int _
    | str s => cases r; cases e; exact .str _
    | tup xs =>
      cases r with
      | tup h1 h2 =>
        unfold dataOf at e
        dsimp only at e
        cases q : seqO (xs.map (dataOf h n)) with
        | none => rw [q] at e; cases e
        | some ds => rw [q] at e; cases e; exact .tup h1 (data_all ih h2 q)
    | fl xs =>
      cases r with
      | fl h1 h2 =>
        unfold dataOf at e
        dsimp only at e
        cases q : seqO (xs.map (dataOf h n)) with
        | none => rw [q] at e; cases e
        | some ds => rw [q] at e; cases e; exact .lst h1.sq (data_all ih h2 q)
    | ref a =>
      cases r with
      | ref hp =>
        unfold dataOf at e
        dsimp only at e
        cases hy : h[a]? with
        | none => rw [hy] at e; cases e
        | some u =>
          rw [hy] at e
          cases u with
          | dct _ => cases e
          | lst xs =>
            dsimp only at e
            obtain ⟨vs, h1, h2⟩ := rh.at' a _ _ hy hp
            cases q : seqO (xs.map (dataOf h n)) with
            | none => rw [q] at e; cases e
            | some ds => rw [q] at e; cases e; exact .lst (.inl (.inl h1)) (data_all ih h2 q)
theorem eqD_ok {neg : Bool} {m : List Addr} {H : Hp} {h : IH} {x y : PV} {vx vy : V} {Q : VK} (rh : RelH K m H h) (rx : Rep K m H vx x) (ry : Rep K m H vy y) (p : Post K xi m H (eqD neg x y h) fun z m' H' => ∀ v, Rep K m' H' v z → Q v H') :
    ∃ d e, Dp K H vx d ∧ Dp K H vy e ∧ SeqAt.shaped d = true ∧ SeqAt.shaped e = true ∧ Q (.bl (if neg then !PyData.eqv d e else PyData.eqv d e)) H := by
  unfold eqD at p
  cases e1 : dataOf h 40 x with
  | none => rw [e1] at p; exact p.elim
  | some d =>
    cases e2 : dataOf h 40 y with
    | none => rw [e1, e2] at p; exact p.elim
    | some e =>
      rw [e1, e2] at p
      obtain ⟨hs, p⟩ := Post.ite p
      exact ⟨d, e, data_ok rh 40 x vx d rx e1, data_ok rh 40 y vy e ry e2, hs.1, hs.2, p.now rh _ .bl⟩
theorem ok_eq : OpOk K xi (cmpF .eq) (fun x y H Q => rEq x y H Q ∨ rEqD K x y H Q) := by
  intro m H h x y vx vy Q rh rx ry p
  cases x <;> cases y <;> first
    | (cases rx; cases ry; exact .inl ⟨rfl, by rw [dec_vi]; exact p.now rh _ .bl⟩)
    | (cases rx; cases ry; exact .inl ⟨rfl, by rw [dec_vs]; exact p.now rh _ .bl⟩)
    | exact .inr (eqD_ok rh rx ry p)
theorem ok_ne : OpOk K xi (cmpF .ne) (fun x y H Q => rNe x y H Q ∨ rNeD K x y H Q) := by
  intro m H h x y vx vy Q rh rx ry p
  cases x <;> cases y <;> first
    | (cases rx; cases ry; exact .inl ⟨rfl, by rw [dec_vi]; exact p.now rh _ .bl⟩)
    | (cases rx; cases ry; exact .inl ⟨rfl, by rw [dec_vs]; exact p.now rh _ .bl⟩)
    | exact .inr (eqD_ok rh rx ry p)
theorem ok_ltc : OpOk K xi (cmpF .lt) (fun x y H Q => rI0 (fun i j => .bl (decide (i < j))) x y H Q ∨ ∃ i j, x = .str i ∧ y = .str j ∧ Q (.bl (decide (i.cps.toList < j.cps.toList))) H) := by
  intro m H h x y vx vy Q rh rx ry p
  cases x <;> cases y <;> try exact p.elim
  · cases rx; cases ry
    exact .inl ⟨_, _, rfl, rfl, p.now rh _ .bl⟩
  · cases rx; cases ry
    exact .inr ⟨_, _, rfl, rfl, p.now rh _ .bl⟩
theorem ok_lec : OpOk K xi (cmpF .le) (fun x y H Q => rI0 (fun i j => .bl (decide (i ≤ j))) x y H Q ∨ ∃ i j, x = .str i ∧ y = .str j ∧ Q (.bl (!decide (j.cps.toList < i.cps.toList))) H) := by
  intro m H h x y vx vy Q rh rx ry p
  cases x <;> cases y <;> try exact p.elim
  · cases rx; cases ry
    exact .inl ⟨_, _, rfl, rfl, p.now rh _ .bl⟩
  · cases rx; cases ry
    exact .inr ⟨_, _, rfl, rfl, p.now rh _ .bl⟩
theorem ok_gtc : OpOk K xi (cmpF .gt) (rI0 fun i j => .bl (decide (j < i))) := by
  intro m H h x y vx vy Q rh rx ry p
  cases x <;> cases y <;> try exact p.elim
  cases rx; cases ry
  exact ⟨_, _, rfl, rfl, p.now rh _ .bl⟩
theorem ok_gec : OpOk K xi (cmpF .ge) (fun x y H Q => rI0 (fun i j => .bl (decide (j ≤ i))) x y H Q ∨ ∃ i j, x = .str i ∧ y = .str j ∧ Q (.bl (!decide (i.cps.toList < j.cps.toList))) H) := by
  intro m H h x y vx vy Q rh rx ry p
  cases x <;> cases y <;> try exact p.elim
  · cases rx; cases ry
    exact .inl ⟨_, _, rfl, rfl, p.now rh _ .bl⟩
  · cases rx; cases ry
    exact .inr ⟨_, _, rfl, rfl, p.now rh _ .bl⟩

def bopS : BOp → Operator
  | .add => .Add | .sub => .Sub | .mul => .Mult | .fdiv => .FloorDiv | .mod => .Mod | .pow => .Pow
def copS : COp → CmpOp
  | .eq => .Eq | .ne => .NotEq | .lt => .Lt | .le => .LtE | .gt => .Gt | .ge => .GtE
/-- what a context must bear for all this -/
structure Fit (X : Cx) : Prop where
  calm : X.calm = true
  hu : X.A.units + 100 < cLine
  hush : X.A.guards = some []
theorem bop_all (ft : Fit X) (op : BOp) : ∃ r : R2, OpR X (binaryOp (bopS op)) r ∧ ∀ xi, OpOk X.K xi (binF op) r := by
  cases op
  · exact ⟨_, (op_add.or op_add_str).or (op_catA.or op_cat), fun _ => ok_add⟩
  · exact ⟨_, op_sub, fun _ => ok_sub⟩
  · exact ⟨_, op_mul.or (op_rep.or (op_repS.or (op_repT.or op_repT1))), fun _ => ok_mul⟩
  · exact ⟨_, op_fdiv.or op_fdivW, fun _ => ok_fdiv⟩
  · exact ⟨_, op_mod, fun _ => ok_mod⟩
  · exact ⟨_, op_pow, fun _ => ok_pow⟩
theorem cop_all (ft : Fit X) (op : COp) : ∃ r : R2, OpR X (compareOp (copS op)) r ∧ ∀ xi, OpOk X.K xi (cmpF op) r := by
  cases op
  · exact ⟨_, op_eq.or (op_eqD (by have := ft.hu; omega)), fun _ => ok_eq⟩
  · exact ⟨_, op_ne.or (op_neD (by have := ft.hu; omega)), fun _ => ok_ne⟩
  · exact ⟨_, op_lt.or op_lt_str, fun _ => ok_ltc⟩
  · exact ⟨_, op_le.or op_le_str, fun _ => ok_lec⟩
  · exact ⟨_, op_gt, fun _ => ok_gtc⟩
  · exact ⟨_, op_ge.or op_ge_str, fun _ => ok_gec⟩
theorem cop_mark (op : COp) (b : Expr) : behindInMarks (copS op) b = false := nomark b (by cases op <;> decide) (by cases op <;> decide)
end
end Vm

set_option Elab.async false
set_option linter.all false
set_option maxRecDepth 100000
set_option maxHeartbeats 4000000
/-! VnD: any(elt for x in xs), all(..): the element may call. -/
namespace Vm
open PySem PySem.Spec PyProof.Rows L2
open GxR (TabG Tabbed TabB)
/-- any (stop: true), all (stop: false) of a generator expression; the running def's table may have grown -/
def tGen (P : Addr) (stop : Bool) (wi : TI) (g : TG) (te : TE) (vs : List Nat) : TE := fun σ H Q => wi σ H fun J H1 => TabG H1 P ∧ ∀ H2, Tabbed P H1 H2 → ∃ W : Nat → Nat → Hp → Prop, (∃ m, W 0 m H2) ∧ Turns J g te σ vs stop W (fun H => Q (.bl (!stop)) H) (fun H => Q (.bl stop) H)
section
variable {X : Cx} {pins : List (Addr × Obj)} {σ : L2.St} {H : Hp} {s : Shared}
theorem gen_core {c P : Addr} {elt tg iter : Expr} {scope : Scope} {gpos : Pos} {own : List (Str × Nat)} {stop : Bool} {wi : TI} {g : TG} {te : TE} {Q : VK} {Q' : Value → Shared → Prop}
    (hc : X.calm = true) (hN : X.N.Nodup) (hr : Room 1 X.A) (TB : TabB X.base X.mg c P) (hcode : X.env.code = .ref c) (ok : BlkG X.N X.env.scope scope own) (hi : PI X tg iter wi)
    (hg : ∀ (s4 : Shared) (H4 : Hp) (it : Addr) (code : Value) (fp : List Addr) (a : Addr) (go : Obj), PG (gX X s4 H4 elt tg iter scope gpos it (genEnv scope (cloFrom X.env.cells scope.names []) s4.heap.objs.size code builtinsNs X.env) fp a go) tg g)
    (he : ∀ (s4 : Shared) (H4 : Hp) (it : Addr) (code : Value) (fp : List Addr) (a : Addr) (go : Obj), PE (gX X s4 H4 elt tg iter scope gpos it (genEnv scope (cloFrom X.env.cells scope.names []) s4.heap.objs.size code builtinsNs X.env) fp a go) elt te)
    (hs : ∀ v, genFold iter X.env v = pure v) (I : Inv X pins σ H s) (h : tGen P stop wi g te (own.map (·.2)) σ H Q)
    (hQ : ∀ (a : Addr) (g : Nat) (gs : GenState) (n : Nat) (s5 : Shared) (En Out : Shared → Prop), s5.gens[g]? = some gs → Live a g s5 → (∀ s2, Woke s5 s2 → gs.Goes (model X.prog X.w) X.A.in1.in1 (endG En) (handG a g stop Out) n (.send .none) s2) →
      (∀ s0 h', En s0 → (∀ b o, s0.heap.get? b = some o → h'.get? b = some o) → EP X pins σ Q (.bool (!stop)) { s0.setGen g .finished with heap := h' }) → (∀ s0 gs', Out s0 → gs'.bare = true → EP X pins σ Q (.bool stop) (s0.setGen g gs')) → Q' (.ref a) s5) :
    wpAny (model X.prog X.w) X.A (eval (.GeneratorExp elt [⟨tg, iter, [], 0⟩] scope gpos) X.env) Q' X.xe s := by
  have hfree : ∀ y ∈ scope.names, y.2 = .free → ∃ c, X.env.cells.lookup y.1 = some c := fun y hy e => by
    rcases ok.free y hy e with k | k
    · exact I.ok.has _ (.inl k)
    · exact I.ok.has _ (.inr k)
  refine wpAny_GeneratorExp_make ok.co (closure_ok hfree) ok.nocell ok.dot ok.kind (by have := hr.dp; omega) ?_ hs
  refine thn (hi.run pins s σ H _ I h) fun xv s1 hx => thn hx fun itv s2 h2 => ?_
  obtain ⟨it, fp, tn, J, H2, e, I2, T, st2, f2, ⟨ps, hP, ht⟩, q⟩ := h2
  subst e
  refine ⟨I2.nolimit, ?_⟩
  have hPs : s2.heap.get? P = some { cls := .none, data := .fields ps } := I2.hok P _ hP
  have cd : PySem.W.CodeHd s2.heap c P := TB.code.keeps I2.bk
  have sz : ∀ b ∈ fp, b < s2.heap.objs.size := fun b hb => by
    obtain ⟨o, e, _⟩ := T.obj _ _ st2 b hb
    exact Heap.lt_size e
  have fP : ∀ b ∈ fp, b ≠ P := fun b hb z => by
    have := (f2 b hb).1
    rw [z, hP] at this
    cases this
  have cont : ∀ (code : Value) (h3 : Heap) (tk : Nat) (ps' : Array Value), Heap.ExtBut P s2.heap h3 → s2.heap.objs.size ≤ h3.objs.size → h3.get? P = some { cls := .none, data := .fields ps' } → (∃ more, ps' = ps ++ more) → TriplesOk ps'.toList →
      wpAny (model X.prog X.w) X.A (builtinsFor X.env.globals X.env.builtins) (fun bi s₄ =>
        ∀ h', h'.Ns s₄.heap.objs.size (fun y => if y = ".0" then some (.ref it) else none) → Heap.SameBut s₄.heap.objs.size (s₄.heap.push { cls := .type "frame", data := .dict #[] }) h' →
          Q' (.ref h'.objs.size) { s₄ with
            gens := s₄.gens.push (.fresh (.compStart (.GeneratorExp elt [⟨tg, iter, [], 0⟩] scope gpos) 0 (.ref it) .none (genEnv scope (cloFrom X.env.cells scope.names []) s₄.heap.objs.size code bi X.env))),
            toks := s₄.toks + 1 + 1 + 1,
            heap := h'.push { cls := .type "generator", data := .fields #[.int s₄.gens.size 0, .str "<genexpr>" (s₄.toks + 1), .str (X.env.qual ++ "<genexpr>") (s₄.toks + 1 + 1)] } }) X.xe { s2 with heap := h3, toks := tk } := by
    intro code h3 tk ps' hx hsz hP3 hmore ht3
    obtain ⟨more, em⟩ := hmore
    obtain ⟨bm, ob, e1, e2, e3, e4, e5, e6, e7, e8⟩ := TB.bm
    refine wpAny_builtinsFor (m := X.mg) (by rw [I2.ok.glob]; exact (I2.mod.glob.keeps I2.bk).extBut hx TB.gP) e1 e2 (hx _ _ e4 (I2.bk _ _ e5)) e6 e7 e8 ?_
    intro h' hn' hs'
    have I4 := GxR.inv_tab (more := more) (h' := h3) (g' := s2.gens) (d' := s2.drawn) (t' := tk) I2 hP (fun b u hb e => hx b u hb e) (by rw [← em]; exact hP3) I2.bare
    have tb2 : Tabbed P H2 (upd H2 P (.tbl (ps ++ more))) := ⟨⟨ps ++ more, upd_same, by rw [← em]; exact ht3⟩, fun b hb => upd_ne hb⟩
    obtain ⟨W, ⟨m0, w0⟩, tr⟩ := q _ tb2
    generalize upd H2 P (.tbl (ps ++ more)) = H4 at I4 tb2 w0
    generalize hs4 : ({ s2 with heap := h3, toks := tk } : Shared) = s4 at hn' hs' ⊢
    have hs4' : ({ s2 with heap := h3, gens := s2.gens, drawn := s2.drawn, toks := tk } : Shared) = s4 := hs4
    rw [hs4'] at I4
    have hh4 : s4.heap = h3 := by rw [← hs4]
    have f4 : ∀ b ∈ fp, FpOk X pins H4 b ∧ b < s4.heap.objs.size := fun b hb => ⟨⟨by rw [tb2.2 b (fP b hb)]; exact (f2 b hb).1, (f2 b hb).2⟩, Nat.lt_of_lt_of_le (sz b hb) (by rw [hh4]; exact hsz)⟩
    have sz' : h'.objs.size = s4.heap.objs.size + 1 := by rw [hs'.1, Heap.size_push]
    have keep' : ∀ b o, s4.heap.get? b = some o → h'.get? b = some o := fun b o e => hs'.extBut b o (Nat.ne_of_lt (Heap.lt_size e)) (Heap.get?_push_of_some _ e)
    generalize hgo : ({ cls := .type "generator", data := .fields #[.int s4.gens.size 0, .str "<genexpr>" (s4.toks + 1), .str (X.env.qual ++ "<genexpr>") (s4.toks + 1 + 1)] } : Obj) = go
    have kp : ∀ b o, s4.heap.get? b = some o → (h'.push go).get? b = some o := fun b o e => Heap.get?_push_of_some _ (keep' b o e)
    have gat : (h'.push go).get? h'.objs.size = some go := Heap.get?_push_size _ (by rw [← hgo]; rfl)
    have isg : ∀ hh : Heap, hh.get? h'.objs.size = some go → hh.IsGen h'.objs.size s4.gens.size := fun hh e => ⟨go, _, _, e, by rw [← hgo], by rw [← hgo], by rw [← hgo]⟩
    have st5 : tn 0 (h'.push go) := T.keep _ _ _ st2 fun b hb o e => kp b o (by rw [hh4]; exact hx b o (fP b hb) e)
    have nfa : h'.objs.size ∉ fp := fun z => by
      have q1 : h'.objs.size < s4.heap.objs.size := (f4 _ z).2
      rw [sz'] at q1
      exact absurd (Nat.lt_of_succ_lt q1) (Nat.lt_irrefl _)
    have bar5 : AllBare (s4.gens.push (.fresh (genBegin elt tg iter scope gpos it (genEnv scope (cloFrom X.env.cells scope.names []) s4.heap.objs.size code builtinsNs X.env)))) := AllBare.push I4.bare rfl
    have I5 := gen_start (A' := genA X elt tg iter scope gpos it (genEnv scope (cloFrom X.env.cells scope.names []) s4.heap.objs.size code builtinsNs X.env)) (pn := [(h'.objs.size, go)]) (g' := s4.gens.push (.fresh (genBegin elt tg iter scope gpos it (genEnv scope (cloFrom X.env.cells scope.names []) s4.heap.objs.size code builtinsNs X.env)))) (tk := s4.toks + 1 + 1 + 1)
      I4 ok hN hc f4 rfl (I4.ok.hd hc) (genA_frames I4.ok.frames) (hn'.push go) kp (fun p hp => by
        rw [List.mem_singleton.mp hp]
        exact ⟨gat, by show _ < h'.objs.size; omega, fun v z => by rw [← hgo] at z; cases z⟩) bar5
    have back : ∀ {σ1 : L2.St} {pins1 : List (Addr × Obj)} {H9 : Hp} {s0 s' : Shared}, Inv (gX X s4 H4 elt tg iter scope gpos it (genEnv scope (cloFrom X.env.cells scope.names []) s4.heap.objs.size code builtinsNs X.env) fp h'.objs.size go) pins1 σ1 H9 s0 → s'.os = s0.os → (∀ b o, s0.heap.get? b = some o → s'.heap.get? b = some o) → AllBare s'.gens → Inv X pins σ H9 s' := fun {σ1 pins1 H9 s0 s'} J ho k hb => by
      have J' := J.call' (ch := []) ho (Un.kept k) (J.hok.kept k) hb fun b z => by simp at z
      exact I4.call' (ch := fp) J'.os J'.base J'.hok J'.bare fun b hb => ⟨(f4 b hb).1.2.2.2.1, (f4 b hb).1.2.1, (f4 b hb).1.2.2.2.2.1, (f4 b hb).1.2.2.2.2.2⟩
    refine hQ h'.objs.size s4.gens.size _ (m0 + 1) _ _ _ (Array.getElem?_push_size ..) ⟨isg _ gat, I5.nolimit, bar5⟩ (fun s6 wk => ⟨rfl, seg_begin T (T.keep _ _ _ st5 fun b _ o e => wk.keep b o e) (seg_gen hc T (hg s4 H4 it code fp h'.objs.size go) (he s4 H4 it code fp h'.objs.size go) ok.co isg nfa tr m0 (m0 + 1) 0 H4 s6 _ (Nat.lt_succ_self _)
      (I5.call' (ch := []) wk.os (Un.kept wk.keep) (I5.hok.kept wk.keep) wk.bare fun b z => by simp at z) (T.keep _ _ _ st5 fun b _ o e => wk.keep b o e) (fun b hb => (f4 b hb).1.1) w0)⟩) (fun s0 h9 en k => ?_) fun s0 gs' ou hb => ?_
    · obtain ⟨H9, J, qe⟩ := en
      exact ⟨.bl (!stop), H9, back J rfl k (setGen_bare J.bare rfl), rfl, qe⟩
    · obtain ⟨σ1, pins1, H9, J, qo⟩ := ou
      exact ⟨.bl stop, H9, back J rfl (fun _ _ e => e) (setGen_bare J.bare hb), rfl, qo⟩
  cases hf : codeAmong gpos ps.toList with
  | none =>
    refine wpAny_genexprCodeX hcode (cd.code hPs ht) (cd.tab hPs) hf fun c' h' tk hx hge hlt hco' _ htab' _ => ?_
    obtain ⟨o1, vs, f1, tf, fl, tg', inF, tx, tt, op, _, _, _, _, _, _, _, _, _, htr, _⟩ := hco'
    exact cont _ h' tk _ hx (Nat.le_trans hge (Nat.le_of_lt hlt)) htab'.2 ⟨_, rfl⟩ htr
  | some cv =>
    refine wpAny_genexprCode_hit hcode (cd.code hPs ht) hf ?_
    exact cont cv s2.heap s2.toks ps (Heap.ExtBut.refl _ _) (Nat.le_refl _) hPs ⟨#[], by simp⟩ ht
end
section
variable {X : Cx}
theorem pe_anyG {c P : Addr} {elt tg iter : Expr} {scope : Scope} {gpos p pos : Pos} {own : List (Str × Nat)} {wi : TI} {g : TG} {te : TE}
    (hc : X.calm = true) (hN : X.N.Nodup) (hr : Room 1 X.A) (hgl : Gl X "any") (hm : X.mg "any" = none) (TB : TabB X.base X.mg c P) (hcode : X.env.code = .ref c) (ok : BlkG X.N X.env.scope scope own) (hi : PI X tg iter wi)
    (hg : ∀ (s4 : Shared) (H4 : Hp) (it : Addr) (code : Value) (fp : List Addr) (a : Addr) (go : Obj), PG (gX X s4 H4 elt tg iter scope gpos it (genEnv scope (cloFrom X.env.cells scope.names []) s4.heap.objs.size code builtinsNs X.env) fp a go) tg g)
    (he : ∀ (s4 : Shared) (H4 : Hp) (it : Addr) (code : Value) (fp : List Addr) (a : Addr) (go : Obj), PE (gX X s4 H4 elt tg iter scope gpos it (genEnv scope (cloFrom X.env.cells scope.names []) s4.heap.objs.size code builtinsNs X.env) fp a go) elt te)
    (hs : ∀ v, genFold iter X.env v = pure v) : PE X (.Call (.Name "any" p) [.GeneratorExp elt [⟨tg, iter, [], 0⟩] scope gpos] [] pos) (tGen P true wi g te (own.map (·.2))) := by
  have hse : starEach [.GeneratorExp elt [⟨tg, iter, [], 0⟩] scope gpos] X.env = (false, eval (.GeneratorExp elt [⟨tg, iter, [], 0⟩] scope gpos) X.env) :: starEach [] X.env := rfl
  refine ⟨fun pins s σ H Q I h => ?_⟩
  refine wpAny_Call_Name_kw (ld_blt I hgl hm boot_any ?_)
  refine PyProof.Rows.callWith_builtin1 ?_ hse (by rfl)
  rw [hse]
  show wpAny _ _ (spliced ((false, eval (.GeneratorExp elt [⟨tg, iter, [], 0⟩] scope gpos) X.env) :: backTo pos (starEach [] X.env))) _ _ s
  refine Calls.spliced_cons (gen_core hc hN hr TB hcode ok hi hg he hs I h fun a g gs n s5 En Out e L go h1 h2 => ?_)
  refine Calls.spliced_nil ?_
  exact call_any_gen (I.ok.hd hc) (by have := hr.dp; omega) e L go h1 h2
theorem pe_allG {c P : Addr} {elt tg iter : Expr} {scope : Scope} {gpos p pos : Pos} {own : List (Str × Nat)} {wi : TI} {g : TG} {te : TE}
    (hc : X.calm = true) (hN : X.N.Nodup) (hr : Room 1 X.A) (hgl : Gl X "all") (hm : X.mg "all" = none) (TB : TabB X.base X.mg c P) (hcode : X.env.code = .ref c) (ok : BlkG X.N X.env.scope scope own) (hi : PI X tg iter wi)
    (hg : ∀ (s4 : Shared) (H4 : Hp) (it : Addr) (code : Value) (fp : List Addr) (a : Addr) (go : Obj), PG (gX X s4 H4 elt tg iter scope gpos it (genEnv scope (cloFrom X.env.cells scope.names []) s4.heap.objs.size code builtinsNs X.env) fp a go) tg g)
    (he : ∀ (s4 : Shared) (H4 : Hp) (it : Addr) (code : Value) (fp : List Addr) (a : Addr) (go : Obj), PE (gX X s4 H4 elt tg iter scope gpos it (genEnv scope (cloFrom X.env.cells scope.names []) s4.heap.objs.size code builtinsNs X.env) fp a go) elt te)
    (hs : ∀ v, genFold iter X.env v = pure v) : PE X (.Call (.Name "all" p) [.GeneratorExp elt [⟨tg, iter, [], 0⟩] scope gpos] [] pos) (tGen P false wi g te (own.map (·.2))) := by
  have hse : starEach [.GeneratorExp elt [⟨tg, iter, [], 0⟩] scope gpos] X.env = (false, eval (.GeneratorExp elt [⟨tg, iter, [], 0⟩] scope gpos) X.env) :: starEach [] X.env := rfl
  refine ⟨fun pins s σ H Q I h => ?_⟩
  refine wpAny_Call_Name_kw (ld_blt I hgl hm boot_all ?_)
  refine PyProof.Rows.callWith_builtin1 ?_ hse (by rfl)
  rw [hse]
  show wpAny _ _ (spliced ((false, eval (.GeneratorExp elt [⟨tg, iter, [], 0⟩] scope gpos) X.env) :: backTo pos (starEach [] X.env))) _ _ s
  refine Calls.spliced_cons (gen_core hc hN hr TB hcode ok hi hg he hs I h fun a g gs n s5 En Out e L go h1 h2 => ?_)
  refine Calls.spliced_nil ?_
  exact call_all_gen (I.ok.hd hc) (by have := hr.dp; omega) e L go h1 h2
end
end Vm

set_option Elab.async false
set_option linter.all false
set_option maxRecDepth 100000
set_option maxHeartbeats 4000000
/-! VmD: further expressions. -/
namespace Vm
open PySem PySem.Spec PyProof.Rows L2
variable [Tbs]

section
variable {X : Cx} {xi : XI} {a b c e : Expr} {fa fb fc : Ev → IH → Res PV} {pos : Pos}

theorem se_neg {K : PySem.W.Frag} (ha : PE X a (tE K xi fa)) : PE X (.UnaryOp .USub a pos) (tE K xi fun ev h => (fa ev h).bind fun x h1 => match x with
    | .int i => .ok (.int (-i)) h1
    | _ => .stuck) := by
  refine PEm (pe_un un_neg ha) fun st H Q ⟨ev, m, h, re, rh, p⟩ => ?_
  refine tE_bind re rh p fun v x m1 H1 h1 g1 re1 rh1 rx p1 => ?_
  cases x <;> try exact p1.elim
  cases rx
  exact ⟨_, rfl, p1.now rh1 _ .int⟩
theorem isNon_of {K : PySem.W.Frag} {m : List Addr} {H : Hp} {v : V} {x : PV} (r : Rep K m H v x) : decide (v = .non) = isNon x := by
  cases r <;> rfl
theorem se_isn {K : PySem.W.Frag} {j : Nat} {pos' : Pos} (ha : PE X a (tE K xi fa)) : PE X (.Compare a [.Is] [.Constant .none j pos'] pos) (tE K xi fun ev h => (fa ev h).bind fun x h1 => .ok (.bl (isNon x)) h1) := by
  refine PEm (pe_cmp (pc_isN ha) rfl) fun st H Q ⟨ev, m, h, re, rh, p⟩ => ?_
  refine tE_bind re rh p fun v x m1 H1 h1 g1 re1 rh1 rx p1 => ?_
  rw [isNon_of rx]
  exact p1.now rh1 _ .bl
theorem se_notn {K : PySem.W.Frag} {j : Nat} {pos' : Pos} (ha : PE X a (tE K xi fa)) : PE X (.Compare a [.IsNot] [.Constant .none j pos'] pos) (tE K xi fun ev h => (fa ev h).bind fun x h1 => .ok (.bl (!isNon x)) h1) := by
  refine PEm (pe_cmp (pc_notN ha) rfl) fun st H Q ⟨ev, m, h, re, rh, p⟩ => ?_
  refine tE_bind re rh p fun v x m1 H1 h1 g1 re1 rh1 rx p1 => ?_
  rw [isNon_of rx]
  exact p1.now rh1 _ .bl

/-! ### and, or, not, if as values -/
def bandF (fa fb : Ev → IH → Res PV) : Ev → IH → Res PV := fun ev h => (fa ev h).bind fun x h1 => match x with
  | .bl true => fb ev h1
  | .bl false => .ok (.bl false) h1
  | _ => .stuck
def borF (fa fb : Ev → IH → Res PV) : Ev → IH → Res PV := fun ev h => (fa ev h).bind fun x h1 => match x with
  | .bl false => fb ev h1
  | .bl true => .ok (.bl true) h1
  | _ => .stuck
def notF (fa : Ev → IH → Res PV) : Ev → IH → Res PV := fun ev h => (fa ev h).bind fun x h1 => match x with
  | .bl b => .ok (.bl (!b)) h1
  | _ => .stuck
def iteF (fc fa fb : Ev → IH → Res PV) : Ev → IH → Res PV := fun ev h => (fc ev h).bind fun x h1 => match x with
  | .bl true => fa ev h1
  | .bl false => fb ev h1
  | _ => .stuck
variable {K : PySem.W.Frag} {rest : List Expr}
theorem se_band (ha : PE X a (tE K xi fa)) (hb : PE X (.BoolOp .And (b :: rest) pos) (tE K xi fb)) : PE X (.BoolOp .And (a :: b :: rest) pos) (tE K xi (bandF fa fb)) := by
  refine PEm (pe_and ha hb) fun st H Q ⟨ev, m, h, re, rh, p⟩ => ?_
  refine tE_bind re rh p fun v x m1 H1 h1 g1 re1 rh1 rx p1 => ?_
  cases x <;> try exact p1.elim
  rename_i t
  cases rx
  refine ⟨t, rfl, ?_⟩
  cases t with
  | true => exact ⟨ev, m1, h1, re1, rh1, p1⟩
  | false => exact p1.now rh1 _ .bl
theorem se_bor (ha : PE X a (tE K xi fa)) (hb : PE X (.BoolOp .Or (b :: rest) pos) (tE K xi fb)) : PE X (.BoolOp .Or (a :: b :: rest) pos) (tE K xi (borF fa fb)) := by
  refine PEm (pe_or ha hb) fun st H Q ⟨ev, m, h, re, rh, p⟩ => ?_
  refine tE_bind re rh p fun v x m1 H1 h1 g1 re1 rh1 rx p1 => ?_
  cases x <;> try exact p1.elim
  rename_i t
  cases rx
  refine ⟨t, rfl, ?_⟩
  cases t with
  | true => exact p1.now rh1 _ .bl
  | false => exact ⟨ev, m1, h1, re1, rh1, p1⟩
theorem se_not (ha : PE X a (tE K xi fa)) : PE X (.UnaryOp .Not a pos) (tE K xi (notF fa)) := by
  refine PEm (pe_not ha) fun st H Q ⟨ev, m, h, re, rh, p⟩ => ?_
  refine tE_bind re rh p fun v x m1 H1 h1 g1 re1 rh1 rx p1 => ?_
  cases x <;> try exact p1.elim
  cases rx
  exact ⟨_, rfl, p1.now rh1 _ .bl⟩

/-! ### tests -/
/-- the test of a value -/
def bF (f : Ev → IH → Res PV) : Ev → IH → Res Bool := fun ev h => (f ev h).bind fun x h1 => boolOf x h1
theorem boolOf_at {m : List Addr} {H : Hp} {x : PV} {h : IH} {R : Bool → List Addr → Hp → Prop} (p : Post K xi m H (boolOf x h) R) (rh : RelH K m H h) : ∃ b, x = .bl b ∧ R b m H := by
  cases x <;> try exact p.elim
  exact ⟨_, rfl, p.now rh⟩
/-- a value that is a bool, where the test is the value's -/
theorem st_val (ha : PE X a (tE K xi fa)) (he : ∀ whole, isTrue a X.env whole = (do let v ← whole; standAt a.pos; holding [v] (truthy v))) : PT X a (tT K xi (bF fa)) := by
  refine PTm (pt_val ha he) fun st H Q ⟨ev, m, h, re, rh, p⟩ => ?_
  refine tE_bind re rh p fun v x m1 H1 h1 g1 re1 rh1 rx p1 => ?_
  obtain ⟨t, rfl, q⟩ := boolOf_at p1 rh1
  cases rx
  exact ⟨t, rfl, q⟩
theorem tTest_of {f : Ev → IH → Res PV} {t : TE} (k : ∀ st H Q, tE K xi f st H Q → t st H Q) {st : L2.St} {H : Hp} {Q : Bool → Hp → Prop} (q : tT K xi (bF f) st H Q) : tTest t st H Q := by
  obtain ⟨ev, m, h, re, rh, p⟩ := q
  refine k _ _ _ (tE_bind re rh p fun v x m1 H1 h1 g1 re1 rh1 rx p1 => ?_)
  obtain ⟨t, rfl, q⟩ := boolOf_at p1 rh1
  cases rx
  exact ⟨t, rfl, q⟩
theorem st_cmp {op : CmpOp} {f : PV → PV → IH → Res PV} {r : R2} (ho : OpR X (compareOp op) r) (ok : OpOk K xi f r) (hm : behindInMarks op b = false) (ha : PE X a (tE K xi fa)) (hb : PE X b (tE K xi fb)) :
    PT X (.Compare a [op] [b] pos) (tT K xi (bF fun ev h => (fa ev h).bind fun x h1 => (fb ev h1).bind fun y h2 => f x y h2)) :=
  PTm (pt_cmpR ho ha hb hm) fun st H Q t => tTest_of (fun st H Q t => tOp_of ok t) t
theorem tChain_of {o1 o2 : COp} {r1 r2 : R2} (k1 : ∀ xi, OpOk K xi (cmpF o1) r1) (k2 : ∀ xi, OpOk K xi (cmpF o2) r2) {st : L2.St} {H : Hp} {Q : VK} (t : tE K xi (fun ev h => (fa ev h).bind fun x h1 => (fb ev h1).bind fun y h2 => (cmpF o1 x y h2).bind fun z h3 => match z with
      | .bl true => (fc ev h3).bind fun w h4 => cmpF o2 y w h4
      | .bl false => .ok (.bl false) h3
      | _ => .stuck) st H Q) : tChain r1 r2 (tE K xi fa) (tE K xi fb) (tE K xi fc) st H Q := by
  obtain ⟨ev, m, h, re, rh, p⟩ := t
  refine tE_bind re rh p fun v x m1 H1 h1 g1 re1 rh1 rx p1 => ?_
  refine tE_bind re1 rh1 p1 fun w y m2 H2 h2 g2 re2 rh2 ry p2 => ?_
  refine k1 xi m2 H2 h2 x y v w _ rh2 (rx.grow g2) ry (p2.bind fun z h3 m3 H3 g3 rh3 p3 u ru => ?_)
  cases z <;> try exact p3.elim
  rename_i t
  cases ru
  refine ⟨t, rfl, ?_⟩
  cases t with
  | false => exact p3.now rh3 _ .bl
  | true =>
    refine tE_bind ((re2.grow g3)) rh3 p3 fun w' z m4 H4 h4 g4 re4 rh4 rz p4 => ?_
    exact k2 xi m4 H4 h4 y z w w' _ rh4 ((ry.grow g3).grow g4) rz p4
theorem se_chain {o1 o2 : COp} (ft : Fit X) (hK : X.K = K) (ha : PE X a (tE K xi fa)) (hb : PE X b (tE K xi fb)) (hc : PE X c (tE K xi fc)) :
    PE X (.Compare a [copS o1, copS o2] [b, c] pos) (tE K xi fun ev h => (fa ev h).bind fun x h1 => (fb ev h1).bind fun y h2 => (cmpF o1 x y h2).bind fun z h3 => match z with
      | .bl true => (fc ev h3).bind fun w h4 => cmpF o2 y w h4
      | .bl false => .ok (.bl false) h3
      | _ => .stuck) := by
  subst hK
  obtain ⟨r1, q1, k1⟩ := cop_all ft o1
  obtain ⟨r2, q2, k2⟩ := cop_all ft o2
  exact PEm (pe_chain q1 q2 ha hb hc (by show behindInMarks (copS o2) c = false; exact cop_mark o2 c)) fun st H Q t => tChain_of k1 k2 t
theorem st_chain {o1 o2 : COp} (ft : Fit X) (hK : X.K = K) (ha : PE X a (tE K xi fa)) (hb : PE X b (tE K xi fb)) (hc : PE X c (tE K xi fc)) :
    PT X (.Compare a [copS o1, copS o2] [b, c] pos) (tT K xi (bF fun ev h => (fa ev h).bind fun x h1 => (fb ev h1).bind fun y h2 => (cmpF o1 x y h2).bind fun z h3 => match z with
      | .bl true => (fc ev h3).bind fun w h4 => cmpF o2 y w h4
      | .bl false => .ok (.bl false) h3
      | _ => .stuck)) := by
  subst hK
  obtain ⟨r1, q1, k1⟩ := cop_all ft o1
  obtain ⟨r2, q2, k2⟩ := cop_all ft o2
  exact PTm (pt_chain q1 q2 ha hb hc (by show behindInMarks (copS o2) c = false; exact cop_mark o2 c)) fun st H Q t => tTest_of (fun st H Q t => tChain_of k1 k2 t) t
theorem tB_of {f : Ev → IH → Res PV} {t : TE} (k : ∀ st H Q, tE K xi f st H Q → t st H Q) {st : L2.St} {H : Hp} {Q : Bool → Hp → Prop} (q : tT K xi (bF f) st H Q) : tB t st H Q := tTest_of k q
theorem st_isn {j : Nat} {pos' : Pos} (ha : PE X a (tE K xi fa)) : PT X (.Compare a [.Is] [.Constant .none j pos'] pos) (tT K xi (bF fun ev h => (fa ev h).bind fun x h1 => .ok (.bl (isNon x)) h1)) := by
  refine PTm (pt_cmp (pc_isN ha) rfl) fun st H Q t => tB_of (fun st H Q ⟨ev, m, h, re, rh, p⟩ => ?_) t
  refine tE_bind re rh p fun v x m1 H1 h1 g1 re1 rh1 rx p1 => ?_
  rw [isNon_of rx]
  exact p1.now rh1 _ .bl
theorem st_notn {j : Nat} {pos' : Pos} (ha : PE X a (tE K xi fa)) : PT X (.Compare a [.IsNot] [.Constant .none j pos'] pos) (tT K xi (bF fun ev h => (fa ev h).bind fun x h1 => .ok (.bl (!isNon x)) h1)) := by
  refine PTm (pt_cmp (pc_notN ha) rfl) fun st H Q t => tB_of (fun st H Q ⟨ev, m, h, re, rh, p⟩ => ?_) t
  refine tE_bind re rh p fun v x m1 H1 h1 g1 re1 rh1 rx p1 => ?_
  rw [isNon_of rx]
  exact p1.now rh1 _ .bl
/-- a test's first part, its value being x -/
theorem tT_of {β : Type} {f : Ev → IH → Res PV} {g : PV → IH → Res β} {R : β → List Addr → Hp → Prop} {st : L2.St} {H : Hp} {Q : Bool → Hp → Prop} {ev : Ev} {m : List Addr} {h : IH} (re : REnv K m H st ev) (rh : RelH K m H h)
    (p : Post K xi m H ((f ev h).bind g) R) (n : ∀ x h1, (∀ b, x ≠ .bl b) → g x h1 = .stuck)
    (k : ∀ b m1 H1 h1, Grow m H m1 H1 → REnv K m1 H1 st ev → RelH K m1 H1 h1 → Post K xi m1 H1 (g (.bl b) h1) R → Q b H1) : tT K xi (bF f) st H Q := by
  refine ⟨ev, m, h, re, rh, ?_⟩
  unfold bF
  cases e : f ev h with
  | ok x h1 =>
    rw [e] at p
    by_cases hx : ∃ b, x = .bl b
    · obtain ⟨b, rfl⟩ := hx
      exact fun m1 H1 g1 q1 => k b m1 H1 h1 g1 (re.grow g1) q1 (Post.grow g1 p)
    · rw [Res.bind_ok, n x h1 (fun b z => hx ⟨b, z⟩)] at p
      exact p.elim
  | exc c fs h1 =>
    rw [e] at p
    exact p
  | stuck =>
    rw [e] at p
    exact p
theorem bind_bind {α β γ : Type} (r : Res α) (f : α → IH → Res β) (g : β → IH → Res γ) : (r.bind f).bind g = r.bind fun x h => (f x h).bind g := by
  cases r <;> rfl
theorem sw_band (ha : PT X a (tT K xi (bF fa))) (hb : PW X (.BoolOp .And (b :: rest) pos) (tT K xi (bF fb))) : PW X (.BoolOp .And (a :: b :: rest) pos) (tT K xi (bF (bandF fa fb))) := by
  refine PWm (pw_and ha hb) fun st H Q ⟨ev, m, h, re, rh, p⟩ => ?_
  unfold bF bandF at p
  rw [bind_bind] at p
  refine tT_of re rh p (fun x h1 n => ?_) fun t m1 H1 h1 g1 re1 rh1 p1 => ?_
  · cases x <;> try rfl
    exact absurd rfl (n _)
  · cases t with
    | true => exact ⟨ev, m1, h1, re1, rh1, p1⟩
    | false => exact p1.now rh1
theorem sw_bor (ha : PT X a (tT K xi (bF fa))) (hb : PW X (.BoolOp .Or (b :: rest) pos) (tT K xi (bF fb))) : PW X (.BoolOp .Or (a :: b :: rest) pos) (tT K xi (bF (borF fa fb))) := by
  refine PWm (pw_or ha hb) fun st H Q ⟨ev, m, h, re, rh, p⟩ => ?_
  unfold bF borF at p
  rw [bind_bind] at p
  refine tT_of re rh p (fun x h1 n => ?_) fun t m1 H1 h1 g1 re1 rh1 p1 => ?_
  · cases x <;> try rfl
    exact absurd rfl (n _)
  · cases t with
    | true => exact p1.now rh1
    | false => exact ⟨ev, m1, h1, re1, rh1, p1⟩
theorem tT_andOne {f : Ev → IH → Res PV} {st : L2.St} {H : Hp} {Q : Bool → Hp → Prop} (t : tT K xi (bF f) st H Q) : (tT K xi (bF f)) st H Q := t
theorem st_not (ha : PT X a (tT K xi (bF fa))) : PT X (.UnaryOp .Not a pos) (tT K xi (bF (notF fa))) := by
  refine PTm (pt_not ha) fun st H Q ⟨ev, m, h, re, rh, p⟩ => ?_
  unfold bF notF at p
  rw [bind_bind] at p
  refine tT_of re rh p (fun x h1 n => ?_) fun t m1 H1 h1 g1 re1 rh1 p1 => ?_
  · cases x <;> try rfl
    exact absurd rfl (n _)
  · exact p1.now rh1
theorem se_ite (hc : PT X c (tT K xi (bF fc))) (ha : PE X a (tE K xi fa)) (hb : PE X b (tE K xi fb)) : PE X (.IfExp c a b pos) (tE K xi (iteF fc fa fb)) := by
  refine PEm (pe_ifExp hc ha hb) fun st H Q ⟨ev, m, h, re, rh, p⟩ => ?_
  refine tT_of re rh p (fun x h1 n => ?_) fun t m1 H1 h1 g1 re1 rh1 p1 => ?_
  · cases x <;> try rfl
    exact absurd rfl (n _)
  · cases t with
    | true => exact ⟨ev, m1, h1, re1, rh1, p1⟩
    | false => exact ⟨ev, m1, h1, re1, rh1, p1⟩

theorem st_ite (hc : PT X c (tT K xi (bF fc))) (ha : PT X a (tT K xi (bF fa))) (hb : PT X b (tT K xi (bF fb))) : PT X (.IfExp c a b pos) (tT K xi (bF (iteF fc fa fb))) := by
  refine ⟨fun pins s st H Q I ⟨ev, m, h, re, rh, p⟩ => ?_⟩
  unfold bF iteF at p
  rw [bind_bind] at p
  refine isTrue_IfExp (thn (hc.run pins s st H (fun t H1 => if t = true then tT K xi (bF fa) st H1 Q else tT K xi (bF fb) st H1 Q) I (tT_of re rh p (fun x h1 n => ?_) fun t m1 H1 h1 g1 re1 rh1 p1 => ?_)) fun t s1 ⟨H1, I1, q1⟩ => ?_)
  · cases x <;> try rfl
    exact absurd rfl (n _)
  · cases t with
    | true => exact ⟨ev, m1, h1, re1, rh1, p1⟩
    | false => exact ⟨ev, m1, h1, re1, rh1, p1⟩
  · cases t with
    | true => exact ha.run pins s1 st H1 Q I1 q1
    | false => exact hb.run pins s1 st H1 Q I1 q1

/-! ### arguments, displays -/
def notStar : Expr → Bool
  | .Starred .. => false
  | _ => true
theorem star_cons {e : Expr} {es : List Expr} {env : Env} (h : notStar e = true) : starEach (e :: es) env = (false, eval e env) :: starEach es env := by
  cases e <;> first | rfl | cases h
theorem sa_nil : PA X [] (tA K xi fun _ h => .ok [] h) := PAm pa_nil fun st H Q ⟨ev, m, h, re, rh, p⟩ => p.now rh _ .nil
theorem sa_cons {es : List Expr} {fs : Ev → IH → Res (List PV)} (hn : notStar e = true) (ha : PE X e (tE K xi fa)) (hr : PA X es (tA K xi fs)) :
    PA X (e :: es) (tA K xi fun ev h => (fa ev h).bind fun x h1 => (fs ev h1).bind fun xs h2 => .ok (x :: xs) h2) := by
  refine PAm (pa_cons ha hr (star_cons hn)) fun st H Q ⟨ev, m, h, re, rh, p⟩ => ?_
  refine tE_bind re rh p fun v x m1 H1 h1 g1 re1 rh1 rx p1 => ?_
  refine tA_bind re1 rh1 p1 fun vs xs m2 H2 h2 g2 re2 rh2 rxs p2 => ?_
  exact p2.now rh2 _ (.cons (rx.grow g2) rxs)
theorem plain_of {es : List Expr} {env : Env} {pos : Pos} (h : es.all notStar = true) : (backTo pos (starEach es env)).any (·.1) = false := by
  induction es with
  | nil => rfl
  | cons e es ih =>
    rw [List.all_cons, Bool.and_eq_true] at h
    rw [star_cons h.1]
    have := ih h.2
    simp [backTo] at this ⊢
    exact this
theorem se_tup {es : List Expr} {k : Nat} {fs : Ev → IH → Res (List PV)} (hs : PA X es (tA K xi fs)) : PE X (.Tuple es k pos) (tE K xi fun ev h => (fs ev h).bind fun xs h1 => newT h1 xs) := by
  refine PEm (pe_tup hs) fun st H Q ⟨ev, m, h, re, rh, p⟩ => ?_
  refine tA_bind re rh p fun vs xs m1 H1 h1 g1 re1 rh1 rxs p1 => ?_
  obtain ⟨hl, p1⟩ := Post.ite p1
  refine ⟨by rw [rxs.length]; exact hl, fun q nq => ?_⟩
  exact p1 m1 _ (Grow.junk nq) (rh1.junk nq) _ (.tup (.inl (.inl upd_same)) (rxs.grow (Grow.junk nq)))
theorem se_lst {es : List Expr} {fs : Ev → IH → Res (List PV)} (hs : PA X es (tA K xi fs)) : PE X (.List es pos) (tE K xi fun ev h => (fs ev h).bind fun xs h1 => new h1 xs) := by
  refine PEm (pe_lst hs) fun st H Q ⟨ev, m, h, re, rh, p⟩ => ?_
  refine tA_bind re rh p fun vs xs m1 H1 h1 g1 re1 rh1 rxs p1 => ?_
  obtain ⟨hl, p1⟩ := Post.ite p1
  refine ⟨by rw [rxs.length]; exact hl, fun q nq => ?_⟩
  obtain ⟨rl, gl⟩ := rh1.laid nq rxs
  exact p1 _ _ gl rl _ (.ref (by rw [← rh1.len]; simp))

/-! ### subscripts -/
/-- what is read as a list or a tuple -/
theorem rd_ok {m : List Addr} {H : Hp} {h : IH} {x : PV} {v : V} {xs : List PV} (rh : RelH K m H h) (r : Rep K m H v x) (e : rd h x = some xs) : ∃ p vs, v = .ref p ∧ (SqL K H p vs ∨ SqT K H p vs) ∧ Reps K m H vs xs := by
  cases x with
  | tup ys => cases r with | tup h1 h2 => cases e; exact ⟨_, _, rfl, .inr h1, h2⟩
  | fl ys => cases r with | fl h1 h2 => cases e; exact ⟨_, _, rfl, .inl h1.sq, h2⟩
  | ref a =>
    cases r with
    | ref hp =>
      cases hy : h[a]? with
      | none => simp [rd, hy] at e
      | some o =>
        cases o with
        | lst ys =>
          simp [rd, hy] at e
          subst e
          obtain ⟨vs, h1, h2⟩ := rh.at' a _ _ hy hp
          exact ⟨_, vs, rfl, .inl (.inl (.inl h1)), h2⟩
        | dct ys => simp [rd, hy] at e
  | _ => cases e
theorem atI_rep {m : List Addr} {H : Hp} {vs : List V} {xs : List PV} {j : Int} {x : PV} (r : Reps K m H vs xs) (e : atI xs j = some x) : ∃ v, atI vs j = some v ∧ Rep K m H v x := by
  unfold atI at e ⊢
  rw [r.length]
  cases hk : ixN xs.length j with
  | none => rw [hk] at e; cases e
  | some k =>
    rw [hk] at e
    exact r.get e
theorem ok_ix (hK : X.K = K) : OpOk K xi ixF (rIx X.K) := by
  subst hK
  intro m H h x y vx vy Q rh rx ry p
  have gen : ∀ j, y = .int j → (Post X.K xi m H (match rd h x with
    | some xs => match atI xs j with
      | some v => .ok v h
      | none => .stuck
    | none => .stuck) fun z m' H' => ∀ v, Rep X.K m' H' v z → Q v H') → rIx X.K vx vy H Q := fun j ej p' => by
    clear p
    subst ej
    cases ry
    cases e : rd h x with
    | none => rw [e] at p'; exact p'.elim
    | some xs =>
      rw [e] at p'
      obtain ⟨a, vs, rfl, hs, rv⟩ := rd_ok rh rx e
      dsimp only at p'
      cases e2 : atI xs j with
      | none => rw [e2] at p'; exact p'.elim
      | some z =>
        rw [e2] at p'
        have p := p'
        obtain ⟨v, h1, h2⟩ := atI_rep rv e2
        rcases hs with hs | hs
        · exact .inl ⟨a, vs, j, v, rfl, rfl, hs, h1, p.now rh _ h2⟩
        · exact .inr (.inl ⟨a, vs, j, v, rfl, rfl, hs, h1, p.now rh _ h2⟩)
  cases y <;> try (cases x <;> exact p.elim)
  rename_i j
  cases x <;> try exact gen j rfl p
  rename_i z
  cases rx; cases ry
  obtain ⟨hl, p⟩ := Post.ite p
  cases e2 : atI z.cps.toList j with
  | none => rw [e2] at p; exact p.elim
  | some c =>
    rw [e2] at p
    exact .inr (.inr ⟨z, j, c, rfl, rfl, hl, e2, p.now rh _ .str⟩)
def plainIx : Expr → Bool
  | .Slice .. => false
  | _ => true
theorem plainIx_of {e : Expr} (h : plainIx e = true) : PlainIx e := by
  intro o i
  cases e <;> first | rfl | cases h
theorem se_ix (hK : X.K = K) (hb' : plainIx b = true) (ha : PE X a (tE K xi fa)) (hb : PE X b (tE K xi fb)) :
    PE X (.Subscript a b pos) (tE K xi fun ev h => (fa ev h).bind fun x h1 => (fb ev h1).bind fun y h2 => ixF x y h2) :=
  PEm (pe_ix ix_seq ha hb (plainIx_of hb')) fun st H Q t => tOp_of (ok_ix hK) t

/-! ### slices -/
theorem cutP_eq {m : List Addr} {H : Hp} {vs : List V} {xs : List PV} (r : Reps K m H vs xs) (lo hi : Option Int) : Reps K m H (cutV vs lo hi) (cutP xs lo hi) := by
  unfold cutV cutP
  rw [r.length]
  exact (r.drop _).take _
def tO (K : PySem.W.Frag) (xi : XI) (f : Ev → IH → Res (Option Int)) : TO := fun st H Q => ∃ ev m h, REnv K m H st ev ∧ RelH K m H h ∧ Post K xi m H (f ev h) fun o _ H' => Q o H'
theorem POm {e : Option Expr} {t t' : TO} (h : PO X e t) (k : ∀ st H Q, t' st H Q → t st H Q) : PO X e t' := ⟨fun pins s st H Q I q => h.run pins s st H Q I (k st H Q q)⟩
theorem so_none : PO X none (tO K xi fun _ h => .ok none h) := POm po_none fun st H Q ⟨ev, m, h, re, rh, p⟩ => p.now rh
theorem so_some (ha : PE X a (tE K xi fa)) : PO X (some a) (tO K xi fun ev h => (fa ev h).bind fun x h1 => match x with
    | .int i => .ok (some i) h1
    | _ => .stuck) := POm (po_some ha) fun st H Q ⟨ev, m, h, re, rh, p⟩ => by
  refine tE_bind re rh p fun v x m1 H1 h1 g1 re1 rh1 rx p1 => ?_
  cases x <;> try exact p1.elim
  cases rx
  exact ⟨_, rfl, p1.now rh1⟩
theorem se_slc {fl fu : Ev → IH → Res (Option Int)} {lo hi : Option Expr} {p2 : Pos} (hK : X.K = K) (ha : PE X a (tE K xi fa)) (hl : PO X lo (tO K xi fl)) (hu : PO X hi (tO K xi fu)) :
    PE X (.Subscript a (.Slice lo hi none p2) pos) (tE K xi fun ev h => (fa ev h).bind fun x h1 => (fl ev h1).bind fun l h2 => (fu ev h2).bind fun u h3 => slcF x l u h3) := by
  subst hK
  refine PEm (pe_slice (sl_list.or (sl_tupA.or C8.sl_txt)) ha hl hu) fun st H Q ⟨ev, m, h, re, rh, p⟩ => ?_
  refine tE_bind re rh p fun v x m1 H1 h1 g1 re1 rh1 rx p1 => ?_
  refine ⟨ev, m1, h1, re1, rh1, p1.bind fun l h2 m2 H2 g2 rh2 p2 => ?_⟩
  refine ⟨ev, m2, h2, re1.grow g2, rh2, p2.bind fun u h3 m3 H3 g3 rh3 p3 => ?_⟩
  have rx3 := (rx.grow g2).grow g3
  cases x <;> try exact p3.elim
  · cases rx
    obtain ⟨hz, p3⟩ := Post.ite p3
    exact .inr (.inr ⟨_, rfl, hz, p3.now rh3 _ .str⟩)
  · rename_i xs
    obtain ⟨q, vs, rfl, h1', r1⟩ := tup_at rx3
    refine .inr (.inl ⟨q, vs, rfl, h1', fun hw => ?_, fun _ => newT_at rh3 (cutP_eq r1 l u) p3⟩)
    have e : cutP xs l u = xs := by
      unfold cutP
      rw [← r1.length, hw.1, hw.2, List.drop_zero, r1.length]
      exact List.take_of_length_le (by omega)
    have p4 : Post X.K xi m3 H3 (.ok (.tup (cutP xs l u)) h3) fun z m' H' => ∀ v, Rep X.K m' H' v z → Q v H' := p3
    rw [e] at p4
    exact p4.now rh3 _ rx3
  · cases rx3 with
    | fl hs r1 =>
      obtain ⟨_, k⟩ := new_at rh3 (cutP_eq r1 l u) p3
      exact .inl ⟨_, _, rfl, hs.sq, k⟩
  · rename_i a
    have p4 : Post X.K xi m3 H3 (match h3[a]? with
    | some (.lst xs) => new h3 (cutP xs l u)
    | _ => .stuck) fun z m' H' => ∀ v, Rep X.K m' H' v z → Q v H' := p3
    cases ea : h3[a]? with
    | none => rw [ea] at p4; exact p4.elim
    | some oa =>
      rw [ea] at p4
      cases oa <;> try exact p4.elim
      rename_i xs
      obtain ⟨pa, vs, rfl, _, h1, r1⟩ := lst_at rh3 rx3 ea
      obtain ⟨_, k⟩ := new_at rh3 (cutP_eq r1 l u) p4
      exact .inl ⟨_, _, rfl, .inl (.inl h1), k⟩
end
end Vm

set_option Elab.async false
set_option linter.all false
set_option maxRecDepth 100000
set_option maxHeartbeats 4000000
/-! VmE: targets, walks, comprehensions. -/
namespace Vm
open PySem PySem.Spec PyProof.Rows L2
variable [Tbs]

/-! ### targets -/
/-- but for the slots at is the same -/
def Off (is : List Nat) (st st' : L2.St) : Prop := st'.length = st.length ∧ ∀ j : Nat, j ∉ is → st'[j]? = st[j]?
theorem Off.refl (is : List Nat) (st : L2.St) : Off is st st := ⟨rfl, fun _ _ => rfl⟩
theorem Off.set {is : List Nat} {st : L2.St} {i : Nat} {v : Option V} (h : i ∈ is) : Off is st (st.set i v) :=
  ⟨by simp, fun j hj => List.getElem?_set_ne fun e => hj (by rw [← e]; exact h)⟩
theorem Off.trans {is : List Nat} {a b c : L2.St} (h : Off is a b) (k : Off is b c) : Off is a c := ⟨k.1.trans h.1, fun j hj => (k.2 j hj).trans (h.2 j hj)⟩
theorem Off.mono {is js : List Nat} {a b : L2.St} (h : Off is a b) (k : ∀ i ∈ is, i ∈ js) : Off js a b := ⟨h.1, fun j hj => h.2 j fun z => hj (k j z)⟩
theorem wipe_get (st : L2.St) : ∀ (vs : List Nat) (j : Nat), (wipe st vs)[j]? = if j ∈ vs then st[j]?.map (fun _ => none) else st[j]?
  | [], j => by simp [wipe]
  | v :: vs, j => by
    have ih := wipe_get st vs j
    unfold wipe
    by_cases hj : v = j
    · subst hj
      have hl := wipe_length st vs
      by_cases hv : v < st.length
      · rw [List.getElem?_set_self (by rw [hl]; exact hv), if_pos List.mem_cons_self, List.getElem?_eq_getElem hv]
        rfl
      · rw [List.getElem?_eq_none (by simp; omega), if_pos List.mem_cons_self, List.getElem?_eq_none (by omega)]
        rfl
    · rw [List.getElem?_set_ne hj, ih]
      by_cases hm : j ∈ vs
      · rw [if_pos hm, if_pos (List.mem_cons_of_mem _ hm)]
      · rw [if_neg hm, if_neg (fun z => by
          rcases List.mem_cons.mp z with z | z
          · exact hj z.symm
          · exact hm z)]
theorem wipe_off {is : List Nat} {a b : L2.St} (h : Off is a b) : wipe b is = wipe a is := by
  apply List.ext_getElem?
  intro j
  rw [wipe_get, wipe_get]
  by_cases hj : j ∈ is
  · rw [if_pos hj, if_pos hj]
    by_cases hl : j < a.length
    · rw [List.getElem?_eq_getElem hl, List.getElem?_eq_getElem (by rw [h.1]; exact hl)]
      rfl
    · have h1 := h.1
      rw [List.getElem?_eq_none (show a.length ≤ j by omega), List.getElem?_eq_none (show b.length ≤ j by omega)]
  · rw [if_neg hj, if_neg hj, h.2 j hj]
theorem wipe_Off (is : List Nat) (a : L2.St) : Off is a (wipe a is) := ⟨wipe_length a is, fun j hj => by rw [wipe_get, if_neg hj]⟩
theorem REnv.wipe {K : PySem.W.Frag} {m : List Addr} {H : Hp} {st : L2.St} {ev : Ev} (r : REnv K m H st ev) : ∀ (is : List Nat), REnv K m H (wipe st is) (wipeE ev is)
  | [] => r
  | v :: vs => by
    have q := REnv.wipe r vs
    refine ⟨by unfold L2.wipe wipeE; rw [List.length_set, List.length_set]; exact q.len, fun i x e => ?_⟩
    unfold wipeE at e
    by_cases hv : v = i
    · subst hv
      by_cases hl : v < (wipeE ev vs).length
      · rw [List.getElem?_set_self hl] at e; cases e
      · rw [List.getElem?_eq_none (by simpa using hl)] at e; cases e
    · rw [List.getElem?_set_ne hv] at e
      obtain ⟨u, h1, h2⟩ := q.at' i x e
      exact ⟨u, by unfold L2.wipe; rw [List.getElem?_set_ne hv]; exact h1, h2⟩

def tG (K : PySem.W.Frag) (t : Tg) : TG := fun v st H Q => ∃ ev m h x ev', REnv K m H st ev ∧ RelH K m H h ∧ Rep K m H v x ∧ bindT t x h ev = some ev' ∧ ∀ st', REnv K m H st' ev' → Off t.slots st st' → Q st' H
def tGs (K : PySem.W.Frag) (is : List Nat) : TGs := fun vs st H Q => ∃ ev m xs ev', REnv K m H st ev ∧ Reps K m H vs xs ∧ setAll is xs ev = some ev' ∧ ∀ st', REnv K m H st' ev' → Off is st st' → Q st' H
theorem PGm {X : Cx} {e : Expr} {t t' : TG} (h : PG X e t) (k : ∀ v st H Q, t' v st H Q → t v st H Q) : PG X e t' := ⟨fun pins s st H v u Q I r q => h.run pins s st H v u Q I r (k v st H Q q)⟩
theorem PGsm {X : Cx} {e : List Expr} {t t' : TGs} (h : PGs X e t) (k : ∀ v st H Q, t' v st H Q → t v st H Q) : PGs X e t' := ⟨fun pins s st H v u Q I r q => h.run pins s st H v u Q I r (k v st H Q q)⟩
theorem PGor {X : Cx} {e : Expr} {t t' : TG} (h : PG X e t) (h' : PG X e t') : PG X e (fun v st H Q => t v st H Q ∨ t' v st H Q) :=
  ⟨fun pins s st H v u Q I r q => q.elim (fun q => h.run pins s st H v u Q I r q) fun q => h'.run pins s st H v u Q I r q⟩
section
variable {X : Cx} {K : PySem.W.Frag} {pos : Pos}
theorem sg_one {i : Nat} {x : Str} (hN : X.N.Nodup) (hi : X.N[i]? = some x) (hx : Loc X.env.scope x) (hf : X.fn x = true ∨ X.env.scope.names.lookup x = some .local) : PG X (.Name x pos) (tG K (.one i)) :=
  PGm (pg_name hN hi hx hf) fun v st H Q ⟨ev, m, h, y, ev', re, rh, rx, e, k⟩ => by
    cases e
    exact k _ (re.set i rx) (Off.set (by simp [Tg.slots]))
theorem sgs_nil : PGs X [] (tGs K []) := PGsm pgs_nil fun vs st H Q ⟨ev, m, xs, ev', re, rx, e, k⟩ => by
  cases rx with
  | nil => cases e; exact ⟨rfl, k _ re (Off.refl _ _)⟩
  | cons _ _ => cases e
theorem sgs_cons {i : Nat} {is : List Nat} {x : Str} {es : List Expr} (hN : X.N.Nodup) (hi : X.N[i]? = some x) (hx : Loc X.env.scope x) (hf : X.fn x = true ∨ X.env.scope.names.lookup x = some .local) (h : PGs X es (tGs K is)) :
    PGs X (.Name x pos :: es) (tGs K (i :: is)) := by
  refine PGsm (pgs_cons (pg_name hN hi hx hf) h (by rfl)) fun vs st H Q ⟨ev, m, xs, ev', re, rx, e, k⟩ => ?_
  cases rx with
  | nil => cases e
  | cons r t =>
    refine ⟨_, _, rfl, ev.set i (some _), m, _, ev', re.set i r, t, e, fun st' re' o => k st' re' ?_⟩
    exact (Off.set List.mem_cons_self).trans (o.mono fun _ z => List.mem_cons_of_mem _ z)
theorem setAll_len : ∀ {is : List Nat} {xs : List PV} {ev ev' : Ev}, setAll is xs ev = some ev' → xs.length = is.length
  | [], [], _, _, _ => rfl
  | [], _ :: _, _, _, h => by cases h
  | _ :: _, [], _, _, h => by cases h
  | i :: is, x :: xs, ev, ev', h => by
    rw [List.length_cons, List.length_cons, setAll_len (is := is) (xs := xs) (ev := ev.set i (some x)) h]
def namesOnly : List Expr → Bool
  | [] => true
  | .Name _ _ :: es => namesOnly es
  | _ => false
theorem each_name {x : Str} {p : Pos} {es : List Expr} {env : Env} : ∃ f, assignEach (.Name x p :: es) env = (false, f) :: assignEach es env := ⟨_, rfl⟩
theorem names_each {env : Env} : ∀ {es : List Expr}, namesOnly es = true → (assignEach es env).length = es.length ∧ (assignEach es env).findIdx? (·.1) = none := by
  intro es
  induction es with
  | nil => intro _; exact ⟨rfl, rfl⟩
  | cons e es ih =>
    intro h
    cases e <;> try (cases h)
    obtain ⟨h1, h2⟩ := ih h
    obtain ⟨f, ef⟩ := each_name (x := _) (p := _) (es := es) (env := env)
    rw [ef]
    refine ⟨by rw [List.length_cons, List.length_cons, h1], ?_⟩
    rw [List.findIdx?_cons, h2]
    rfl
theorem sg_many {is : List Nat} {es : List Expr} {k : Nat} (hc : X.calm = true) (hK : X.K = K) (hn : namesOnly es = true) (hl : es.length = is.length) (h : PGs X es (tGs K is)) : PG X (.Tuple es k pos) (tG K (.many is)) := by
  subst hK
  obtain ⟨n1, n2⟩ := names_each (env := X.env) hn
  refine PGm (PGor (pg_lst hc h (by rw [n1, hl]) n2) (pg_tup hc h (by rw [n1, hl]) n2)) fun v st H Q ⟨ev, m, h, y, ev', re, rh, rx, e, k⟩ => ?_
  unfold bindT at e
  dsimp only at e
  cases e2 : rd h y with
  | none => rw [e2] at e; cases e
  | some xs =>
    rw [e2] at e
    obtain ⟨a, vs, rfl, hs, rv⟩ := rd_ok rh rx e2
    have hlen : vs.length = is.length := rv.length.trans (setAll_len e)
    rcases hs with hs | hs
    · exact .inl ⟨a, vs, rfl, hs, hlen, ev, m, xs, ev', re, rv, e, k⟩
    · exact .inr ⟨a, vs, rfl, hs, hlen, ev, m, xs, ev', re, rv, e, k⟩
end

/-! ### walks -/
/-- the machine's walk J is the walk of src -/
def ItOk (K : PySem.W.Frag) (m0 : List Addr) (H0 : Hp) (J : L2.It) (src : Src) : Prop :=
  ∀ (m : List Addr) (H : Hp) (h : IH) (k : Nat), Grow m0 H0 m H → RelH K m H h →
    (src.get h k = some none → J.stop k H) ∧ ∀ x, src.get h k = some (some x) → J.go k H ∧ ∀ v H', J.yld k H v H' → Grow m H m H' ∧ RelH K m H' h ∧ Rep K m H' v x
def tI (K : PySem.W.Frag) (xi : XI) (f : Ev → IH → Res Src) : TI := fun st H R => ∃ ev m h, REnv K m H st ev ∧ RelH K m H h ∧ Post K xi m H (f ev h) fun src m' H' => ∀ J, ItOk K m' H' J src → R J H'
theorem PIm {X : Cx} {tg e : Expr} {t t' : TI} (h : PI X tg e t) (k : ∀ st H R, t' st H R → t st H R) : PI X tg e t' := ⟨fun pins s st H R I q => h.run pins s st H R I (k st H R q)⟩
theorem PIor {X : Cx} {tg e : Expr} {t t' : TI} (h : PI X tg e t) (h' : PI X tg e t') : PI X tg e (fun st H R => t st H R ∨ t' st H R) :=
  ⟨fun pins s st H R I q => q.elim (fun q => h.run pins s st H R I q) fun q => h'.run pins s st H R I q⟩
section
variable {X : Cx} {K : PySem.W.Frag} {xi : XI} {tg a b : Expr} {pos p : Pos} {fa fb : Ev → IH → Res PV}
theorem it_rng {m0 : List Addr} {H0 : Hp} {lo : Int} {n : Nat} : ItOk K m0 H0 (Itr lo n) (.items (rngs lo n)) := by
  intro m H h k g rh
  refine ⟨fun e => ?_, fun x e => ?_⟩
  · have e' : (rngs lo n)[k]? = none := Option.some.inj e
    rw [List.getElem?_eq_none_iff] at e'
    simp [rngs] at e'
    exact e'
  · have e' : (rngs lo n)[k]? = some x := Option.some.inj e
    obtain ⟨hk, hx⟩ := List.getElem?_eq_some_iff.mp e'
    simp [rngs] at hk hx
    subst hx
    refine ⟨hk, fun v H' y => ?_⟩
    obtain ⟨rfl, rfl⟩ := y
    exact ⟨Grow.refl _ _, rh, .int⟩
theorem si_rng (hg : Gl X "range") (hm : X.mg "range" = none) (hn : notStar a = true) (ha : PE X a (tE K xi fa)) : PI X tg (.Call (.Name "range" p) [a] [] pos) (tI K xi fun ev h => (fa ev h).bind fun x h1 => match x with
    | .int j => if -(2 ^ 62) ≤ j ∧ j < 2 ^ 62 then .ok (.items (rngs 0 j.toNat)) h1 else .stuck
    | _ => .stuck) := by
  refine PIm (pi_range1 hg hm (pa_cons ha pa_nil (star_cons hn)) (star_cons hn)) fun st H R ⟨ev, m, h, re, rh, q⟩ => ?_
  refine tE_bind re rh q fun v x m1 H1 h1 g1 re1 rh1 rx p1 => ?_
  cases x <;> try exact p1.elim
  rename_i j
  cases rx
  obtain ⟨hb, p1⟩ := Post.ite p1
  exact ⟨j, rfl, hb.1, hb.2, p1.now rh1 _ it_rng⟩
theorem si_rng2 (hg : Gl X "range") (hm : X.mg "range" = none) (hn : notStar a = true) (hn2 : notStar b = true) (ha : PE X a (tE K xi fa)) (hb : PE X b (tE K xi fb)) : PI X tg (.Call (.Name "range" p) [a, b] [] pos)
    (tI K xi fun ev h => (fa ev h).bind fun x h1 => (fb ev h1).bind fun y h2 => match x, y with
    | .int i, .int j => if -(2 ^ 62) ≤ i ∧ i < 2 ^ 62 ∧ -(2 ^ 62) ≤ j ∧ j < 2 ^ 62 then .ok (.items (rngs i (j - i).toNat)) h2 else .stuck
    | _, _ => .stuck) := by
  refine PIm (pi_range2 hg hm (pa_cons ha (pa_cons hb pa_nil (star_cons hn2)) (star_cons hn)) (by rw [star_cons hn, star_cons hn2]; rfl) (star_cons hn2)) fun st H R ⟨ev, m, h, re, rh, q⟩ => ?_
  refine tE_bind re rh q fun v x m1 H1 h1 g1 re1 rh1 rx p1 => ?_
  refine tE_bind re1 rh1 p1 fun w y m2 H2 h2 g2 re2 rh2 ry p2 => ?_
  cases x <;> cases y <;> try exact p2.elim
  rename_i i j
  cases rx
  cases ry
  obtain ⟨hb, p2⟩ := Post.ite p2
  exact ⟨i, j, rfl, hb, p2.now rh2 _ it_rng⟩
theorem it_list {m0 : List Addr} {H0 : Hp} {q : Addr} {vs : List V} {xs : List PV} (hs : SqF K H0 q vs) (r : Reps K m0 H0 vs xs) : ItOk K m0 H0 (Itl K q) (.items xs) := by
  intro m H h k g rh
  have hs' := (hs.keep g.kp).sq
  have r' := r.grow g
  refine ⟨fun e => ?_, fun x e => ?_⟩
  · have e' : xs[k]? = none := Option.some.inj e
    exact ⟨vs, hs', by rw [r.length]; exact List.getElem?_eq_none_iff.mp e'⟩
  · have e' : xs[k]? = some x := Option.some.inj e
    obtain ⟨v, h1, h2⟩ := r'.get e'
    refine ⟨⟨vs, v, hs', h1⟩, fun u H' y => ?_⟩
    obtain ⟨rfl, y⟩ := y
    have := y vs hs'
    rw [h1] at this
    cases this
    exact ⟨Grow.refl _ _, rh, h2⟩
theorem it_tup {m0 : List Addr} {H0 : Hp} {q : Addr} {vs : List V} {xs : List PV} (hs : SqT K H0 q vs) (r : Reps K m0 H0 vs xs) : ItOk K m0 H0 (Itt K q) (.items xs) := by
  intro m H h k g rh
  have hs' := Vm.SqT.keep g.kp hs
  have r' := r.grow g
  refine ⟨fun e => ?_, fun x e => ?_⟩
  · have e' : xs[k]? = none := Option.some.inj e
    exact ⟨vs, hs', by rw [r.length]; exact List.getElem?_eq_none_iff.mp e'⟩
  · have e' : xs[k]? = some x := Option.some.inj e
    obtain ⟨v, h1, h2⟩ := r'.get e'
    refine ⟨⟨vs, v, hs', h1⟩, fun u H' y => ?_⟩
    obtain ⟨rfl, y⟩ := y
    have := y vs hs'
    rw [h1] at this
    cases this
    exact ⟨Grow.refl _ _, rh, h2⟩
theorem it_heap {m0 : List Addr} {H0 : Hp} {q : Addr} {i : Nat} (hq : m0[i]? = some q) : ItOk K m0 H0 (Itl K q) (.heap i) := by
  intro m H h k g rh
  have hq' := g.at hq
  have key : ∀ o, Src.get (.heap i) h k = some o → ∃ xs vs, h[i]? = some (.lst xs) ∧ xs[k]? = o ∧ H q = some (.lst vs) ∧ Reps K m H vs xs := fun o e => by
    cases hy : h[i]? with
    | none => simp [Src.get, hy] at e
    | some u =>
      cases u with
      | lst xs =>
        simp [Src.get, hy] at e
        obtain ⟨vs, h1, h2⟩ := rh.at' i _ _ hy hq'
        exact ⟨xs, vs, rfl, e, h1, h2⟩
      | dct _ => simp [Src.get, hy] at e
  refine ⟨fun e => ?_, fun x e => ?_⟩
  · obtain ⟨xs, vs, h0, e', h1, r⟩ := key _ e
    exact ⟨vs, .inl (.inl h1), by rw [r.length]; exact List.getElem?_eq_none_iff.mp e'⟩
  · obtain ⟨xs, vs, h0, e', h1, r⟩ := key _ e
    obtain ⟨v, h2, h3⟩ := r.get e'
    refine ⟨⟨vs, v, .inl (.inl h1), h2⟩, fun u H' y => ?_⟩
    obtain ⟨rfl, y⟩ := y
    have := y vs (.inl (.inl h1))
    rw [h2] at this
    cases this
    exact ⟨Grow.refl _ _, rh, h3⟩
theorem key_heap {K : PySem.W.Frag} {m0 m : List Addr} {H0 H : Hp} {h : IH} {q : Addr} {i : Nat} (hq : m0[i]? = some q) (g : Grow m0 H0 m H) (rh : RelH K m H h) {xs : List PV} (e : h[i]? = some (.lst xs)) : ∃ vs, H q = some (.lst vs) ∧ Reps K m H vs xs := rh.at' i _ _ e (g.at hq)
theorem it_enum {m0 : List Addr} {H0 : Hp} {q : Addr} {i : Nat} (hq : m0[i]? = some q) : ItOk K m0 H0 (Ite K q) (.enum i) := by
  intro m H h k g rh
  have key : ∀ o, Src.get (.enum i) h k = some o → ∃ xs vs, h[i]? = some (.lst xs) ∧ (xs[k]?.map fun x => PV.tup [.int k, x]) = o ∧ H q = some (.lst vs) ∧ Reps K m H vs xs := fun o e => by
    cases hy : h[i]? with
    | none => simp [Src.get, hy] at e
    | some u =>
      cases u with
      | lst xs =>
        simp [Src.get, hy] at e
        obtain ⟨vs, h1, h2⟩ := key_heap hq g rh hy
        exact ⟨xs, vs, rfl, e, h1, h2⟩
      | dct _ => simp [Src.get, hy] at e
  refine ⟨fun e => ?_, fun x e => ?_⟩
  · obtain ⟨xs, vs, h0, e', h1, r⟩ := key _ e
    have e' : xs[k]? = none := by simpa using e'
    exact ⟨vs, .inl (.inl h1), by rw [r.length]; exact List.getElem?_eq_none_iff.mp e'⟩
  · obtain ⟨xs, vs, h0, e', h1, r⟩ := key _ e
    cases ex : xs[k]? with
    | none => rw [ex] at e'; cases e'
    | some y =>
      rw [ex] at e'
      cases e'
      obtain ⟨v, h2, h3⟩ := r.get ex
      refine ⟨⟨vs, v, .inl (.inl h1), h2⟩, fun u H' yl => ?_⟩
      obtain ⟨T, w, rfl, nT, rfl, yl⟩ := yl
      have := yl vs (.inl (.inl h1))
      rw [h2] at this
      cases this
      exact ⟨Grow.junk nT, rh.junk nT, .tup (.inl (.inl upd_same)) (.cons .int (.cons (h3.grow (Grow.junk nT)) .nil))⟩
theorem it_zip {m0 : List Addr} {H0 : Hp} {q q2 : Addr} {i j : Nat} (hq : m0[i]? = some q) (hq2 : m0[j]? = some q2) : ItOk K m0 H0 (Itz K q q2) (.zip i j) := by
  intro m H h k g rh
  have key : ∀ o, Src.get (.zip i j) h k = some o → ∃ xs ys vs ws, (match xs[k]?, ys[k]? with
      | some x, some y => some (PV.tup [x, y])
      | _, _ => none) = o ∧ H q = some (.lst vs) ∧ Reps K m H vs xs ∧ H q2 = some (.lst ws) ∧ Reps K m H ws ys := fun o e => by
    cases hy : h[i]? with
    | none => simp [Src.get, hy] at e
    | some u =>
      cases u with
      | dct _ => simp [Src.get, hy] at e
      | lst xs =>
        cases hy2 : h[j]? with
        | none => simp [Src.get, hy, hy2] at e
        | some u =>
          cases u with
          | dct _ => simp [Src.get, hy, hy2] at e
          | lst ys =>
            simp only [Src.get, hy, hy2] at e
            obtain ⟨vs, h1, h2⟩ := key_heap hq g rh hy
            obtain ⟨ws, h3, h4⟩ := key_heap hq2 g rh hy2
            exact ⟨xs, ys, vs, ws, Option.some.inj e, h1, h2, h3, h4⟩
  refine ⟨fun e => ?_, fun x e => ?_⟩
  · obtain ⟨xs, ys, vs, ws, e', h1, r1, h2, r2⟩ := key _ e
    refine ⟨vs, ws, .inl (.inl h1), .inl (.inl h2), ?_⟩
    rw [r1.length, r2.length]
    cases ex : xs[k]? with
    | none => exact .inl (List.getElem?_eq_none_iff.mp ex)
    | some x =>
      cases ey : ys[k]? with
      | none => exact .inr (List.getElem?_eq_none_iff.mp ey)
      | some y => rw [ex, ey] at e'; cases e'
  · obtain ⟨xs, ys, vs, ws, e', h1, r1, h2, r2⟩ := key _ e
    cases ex : xs[k]? with
    | none => rw [ex] at e'; cases e'
    | some x0 =>
      cases ey : ys[k]? with
      | none => rw [ex, ey] at e'; cases e'
      | some y0 =>
        rw [ex, ey] at e'
        cases e'
        obtain ⟨v, a1, a2⟩ := r1.get ex
        obtain ⟨w, b1, b2⟩ := r2.get ey
        refine ⟨⟨vs, ws, v, w, .inl (.inl h1), .inl (.inl h2), a1, b1⟩, fun u H' yl => ?_⟩
        obtain ⟨T, v', w', rfl, nT, rfl, y1, y2⟩ := yl
        have z1 := y1 vs (.inl (.inl h1))
        have z2 := y2 ws (.inl (.inl h2))
        rw [a1] at z1
        rw [b1] at z2
        cases z1
        cases z2
        exact ⟨Grow.junk nT, rh.junk nT, .tup (.inl (.inl upd_same)) (.cons (a2.grow (Grow.junk nT)) (.cons (b2.grow (Grow.junk nT)) .nil))⟩
theorem si_enum {elts : List Expr} {kk : Nat} {tpos : Pos} (hK : X.K = K) (hg : Gl X "enumerate") (hm : X.mg "enumerate" = none) (hn : notStar a = true) (ha : PE X a (tE K xi fa)) : PI X (.Tuple elts kk tpos) (.Call (.Name "enumerate" p) [a] [] pos) (tI K xi fun ev h => (fa ev h).bind fun x h1 => enumF x h1) := by
  subst hK
  refine PIm (pi_enum hg hm (pa_cons ha pa_nil (star_cons hn)) (star_cons hn)) fun st H R ⟨ev, m, h, re, rh, q⟩ => ?_
  refine tE_bind re rh q fun v x m1 H1 h1 g1 re1 rh1 rx p1 => ?_
  cases x <;> try exact p1.elim
  rename_i i
  cases rx with
  | ref hq =>
    cases hy : h1[i]? with
    | none => simp only [enumF, hy] at p1; exact p1.elim
    | some u =>
      cases u with
      | dct _ => simp only [enumF, hy] at p1; exact p1.elim
      | lst xs =>
        simp only [enumF, hy] at p1
        obtain ⟨vs, e1, r1⟩ := rh1.at' i _ _ hy hq
        exact ⟨_, vs, rfl, .inl (.inl e1), p1.now rh1 _ (it_enum hq)⟩
theorem si_zip {elts : List Expr} {kk : Nat} {tpos : Pos} (hK : X.K = K) (hg : Gl X "zip") (hm : X.mg "zip" = none) (hn : notStar a = true) (hn2 : notStar b = true) (ha : PE X a (tE K xi fa)) (hb : PE X b (tE K xi fb)) : PI X (.Tuple elts kk tpos) (.Call (.Name "zip" p) [a, b] [] pos)
    (tI K xi fun ev h => (fa ev h).bind fun x h1 => (fb ev h1).bind fun y h2 => zipF x y h2) := by
  subst hK
  refine PIm (pi_zip hg hm (pa_cons ha (pa_cons hb pa_nil (star_cons hn2)) (star_cons hn)) (by rw [star_cons hn, star_cons hn2]) (by rw [star_cons hn2]; rfl)) fun st H R ⟨ev, m, h, re, rh, q⟩ => ?_
  refine tE_bind re rh q fun v x m1 H1 h1 g1 re1 rh1 rx p1 => ?_
  refine tE_bind re1 rh1 p1 fun w y m2 H2 h2 g2 re2 rh2 ry p2 => ?_
  cases x <;> cases y <;> try exact p2.elim
  rename_i i j
  have rx2 := rx.grow g2
  cases rx2 with
  | ref hq =>
    cases ry with
    | ref hq2 =>
      cases hy : h2[i]? with
      | none => simp only [zipF, hy] at p2; exact p2.elim
      | some u =>
        cases u with
        | dct _ => simp only [zipF, hy] at p2; exact p2.elim
        | lst xs =>
          cases hy2 : h2[j]? with
          | none => simp only [zipF, hy, hy2] at p2; exact p2.elim
          | some u =>
            cases u with
            | dct _ => simp only [zipF, hy, hy2] at p2; exact p2.elim
            | lst ys =>
              simp only [zipF, hy, hy2] at p2
              obtain ⟨vs, e1, r1⟩ := rh2.at' i _ _ hy hq
              obtain ⟨ws, e2, r2⟩ := rh2.at' j _ _ hy2 hq2
              exact ⟨_, _, vs, ws, rfl, .inl (.inl e1), .inl (.inl e2), p2.now rh2 _ (it_zip hq hq2)⟩
theorem si_seq (hK : X.K = K) (ha : PE X a (tE K xi fa)) : PI X tg a (tI K xi fun ev h => (fa ev h).bind fun x h1 => match x with
    | .tup xs => .ok (.items xs) h1
    | .fl xs => .ok (.items xs) h1
    | .ref b => match h1[b]? with
      | some (.lst _) => .ok (.heap b) h1
      | _ => .stuck
    | _ => .stuck) := by
  subst hK
  refine PIm (PIor (pi_list ha) (pi_tup ha)) fun st H R ⟨ev, m, h, re, rh, q⟩ => ?_
  dsimp only at q
  cases e : fa ev h with
  | stuck => rw [e] at q; exact q.elim
  | exc c fs h1 =>
    refine .inl ⟨ev, m, h, re, rh, ?_⟩
    rw [e] at q ⊢
    exact q
  | ok x h1 =>
    rw [e] at q
    rw [Res.bind_ok] at q
    cases x <;> dsimp only at q <;> try exact q.elim
    · rename_i xs
      refine .inr ⟨ev, m, h, re, rh, ?_⟩
      rw [e]
      intro m1 H1 g1 rh1 v rv
      cases rv with
      | tup h1 h2 => exact ⟨_, rfl, ⟨_, h1⟩, q m1 H1 g1 rh1 _ (it_tup h1 h2)⟩
    · rename_i xs
      refine .inl ⟨ev, m, h, re, rh, ?_⟩
      rw [e]
      intro m1 H1 g1 rh1 v rv
      cases rv with
      | fl h1 h2 => exact ⟨_, rfl, ⟨_, h1.sq⟩, q m1 H1 g1 rh1 _ (it_list h1 h2)⟩
    · rename_i i
      refine .inl ⟨ev, m, h, re, rh, ?_⟩
      rw [e]
      intro m1 H1 g1 rh1 v rv
      cases rv with
      | ref hp =>
        cases hy : h1[i]? with
        | none => rw [hy] at q; exact q.elim
        | some o =>
          cases o with
          | dct _ => rw [hy] at q; exact q.elim
          | lst xs =>
            rw [hy] at q
            obtain ⟨vs, hv, _⟩ := rh1.at' i _ _ hy hp
            exact ⟨_, rfl, ⟨vs, .inl (.inl hv)⟩, q m1 H1 g1 rh1 _ (it_heap hp)⟩
end
end Vm

set_option Elab.async false
set_option linter.all false
set_option maxRecDepth 100000
set_option maxHeartbeats 4000000
/-! VmF: comprehensions. -/
namespace Vm
open PySem PySem.Spec PyProof.Rows L2
variable [Tbs]

def xi0 : XI := fun _ _ _ _ => False

def lcF (t : Tg) (fi : Ev → IH → Res Src) (fc fe : Ev → IH → Res PV) : Ev → IH → Res PV := fun ev h => (fi ev h).bind fun src h1 =>
  (lcLoop src (lcTurn t (wipeE ev t.slots) fc fe) (src.fuel h1) 0 [] h1).bind fun acc h2 => .ok (.ref h2.length) (h2 ++ [.lst acc])

theorem lcTurn_ok {t : Tg} {ev : Ev} {fc fe : Ev → IH → Res PV} {y : PV} {h h' : IH} {o : Option PV} (e : lcTurn t ev fc fe y h = .ok o h') :
    ∃ ev1 b h3, bindT t y h ev = some ev1 ∧ fc ev1 h = .ok (.bl b) h3 ∧ ((b = true ∧ ∃ z, fe ev1 h3 = .ok z h' ∧ o = some z) ∨ (b = false ∧ h' = h3 ∧ o = none)) := by
  unfold lcTurn at e
  cases e1 : bindT t y h ev with
  | none => rw [e1] at e; cases e
  | some ev1 =>
    rw [e1] at e
    cases e2 : fc ev1 h with
    | exc c fs h3 => simp [e2, Res.calm] at e
    | stuck => simp [e2, Res.calm] at e
    | ok c h3 =>
      cases c <;> try (simp [e2, Res.calm] at e; done)
      rename_i b
      cases b with
      | false =>
        simp [e2, Res.calm] at e
        obtain ⟨rfl, rfl⟩ := e
        exact ⟨ev1, false, _, rfl, e2, .inr ⟨rfl, rfl, rfl⟩⟩
      | true =>
        cases e3 : fe ev1 h3 with
        | exc c fs h4 => simp [e2, e3, Res.calm] at e
        | stuck => simp [e2, e3, Res.calm] at e
        | ok z h4 =>
          simp [e2, e3, Res.calm] at e
          obtain ⟨rfl, rfl⟩ := e
          exact ⟨ev1, true, h3, rfl, e2, .inl ⟨rfl, z, e3, rfl⟩⟩
theorem calm_no {α : Type} (r : Res α) : (∃ o h, r.calm = .ok o h) ∨ r.calm = .stuck := by
  cases r with
  | ok o h' => exact .inl ⟨o, h', rfl⟩
  | exc _ _ _ => exact .inr rfl
  | stuck => exact .inr rfl
theorem lcTurn_no {t : Tg} {ev : Ev} {fc fe : Ev → IH → Res PV} {y : PV} {h : IH} : (∃ o h', lcTurn t ev fc fe y h = .ok o h') ∨ lcTurn t ev fc fe y h = .stuck := calm_no _

section
variable {X : Cx} {K : PySem.W.Frag} {xi : XI} {t : Tg} {fi : Ev → IH → Res Src} {fc fe : Ev → IH → Res PV} {tt : TT}
theorem tLc_of (htt : ∀ st H Q, tT K xi0 (bF fc) st H Q → tt st H Q) {st : L2.St} {H : Hp} {Q : VK} (q : tE K xi (lcF t fi fc fe) st H Q) : tLc (tI K xi fi) (tG K t) tt (tE K xi0 fe) t.slots st H Q := by
  obtain ⟨ev, m, h, re, rh, p⟩ := q
  unfold lcF at p
  refine ⟨ev, m, h, re, rh, p.bind fun src h1 m1 H1 g1 rh1 p1 J itok D nD => ?_⟩
  have reA := re.grow g1
  let W : Nat → Nat → Hp → Prop := fun i n H2 => ∃ mu h2 acc vacc, Grow m1 H1 mu H2 ∧ RelH K mu H2 h2 ∧ H2 D = some (.lst vacc) ∧ D ∉ mu ∧ Reps K mu H2 vacc acc ∧
    Post K xi m1 H1 ((lcLoop src (lcTurn t (wipeE ev t.slots) fc fe) n i acc h2).bind fun acc h2 => .ok (.ref h2.length) (h2 ++ [.lst acc])) fun x m' H' => ∀ v, Rep K m' H' v x → Q v H'
  refine ⟨W, ⟨src.fuel h1, m1, h1, [], [], Grow.junk nD, rh1.junk nD, upd_same, fun z => ?_, .nil, p1⟩, fun i n H2 w => ?_⟩
  · obtain ⟨u, hu⟩ := rh1.mem z
    rw [nD] at hu; cases hu
  obtain ⟨mu, h2, acc, vacc, g2, rh2, eD, hD, ra, p2⟩ := w
  cases n with
  | zero => exact p2.elim
  | succ n =>
    obtain ⟨stp, gon⟩ := itok mu H2 h2 i g2 rh2
    unfold lcLoop at p2
    cases eg : src.get h2 i with
    | none => rw [eg] at p2; exact p2.elim
    | some o =>
      rw [eg] at p2
      cases o with
      | none =>
        refine .inl ⟨stp eg, ?_⟩
        dsimp only [Res.bind_ok] at p2
        exact p2 _ _ (g2.take nD) (rh2.take eD hD ra) _ (.ref (by rw [← rh2.len]; simp))
      | some x =>
        obtain ⟨go, yl⟩ := gon x eg
        dsimp only at p2
        rw [bind_bind] at p2
        rcases lcTurn_no (t := t) (ev := wipeE ev t.slots) (fc := fc) (fe := fe) (y := x) (h := h2) with ⟨o, h3, et⟩ | et
        · rw [et, Res.bind_ok] at p2
          obtain ⟨ev1, b, h4, eb, ec, alt⟩ := lcTurn_ok et
          refine .inr ⟨go, W (i + 1) n, fun H' w => ⟨n, Nat.lt_succ_self n, w⟩, fun v H3 y => ?_⟩
          obtain ⟨g3, rh3, rx⟩ := yl v H3 y
          have reW := ((reA.grow g2).grow g3).wipe t.slots
          refine ⟨wipeE ev t.slots, mu, h2, x, ev1, reW, rh3, rx, eb, fun st' re' off => ⟨?_, htt _ _ _ ?_⟩⟩
          · rw [wipe_off off, wipe_off (wipe_Off t.slots st)]
          · refine ⟨ev1, mu, h2, re', rh3, ?_⟩
            unfold bF
            rw [ec, Res.bind_ok]
            intro m4 H4 g4 rh4
            obtain ⟨eD4, hD4⟩ := g4.fr D _ (g3.fr D _ eD (fun _ z => nomatch z) hD).1 (fun _ z => nomatch z) (g3.fr D _ eD (fun _ z => nomatch z) hD).2
            have g24 := (g2.trans g3).trans g4
            rcases alt with ⟨rfl, z, ez, rfl⟩ | ⟨rfl, rfl, rfl⟩
            · rw [if_pos rfl]
              refine ⟨ev1, m4, h4, re'.grow g4, rh4, ?_⟩
              rw [ez]
              intro m5 H5 g5 rh5 w rw'
              obtain ⟨eD5, hD5⟩ := g5.fr D _ eD4 (fun _ z => nomatch z) hD4
              dsimp only at p2
              by_cases hl : acc.length < sizeLine
              · rw [if_pos hl] at p2
                refine ⟨vacc, eD5, by rw [ra.length]; exact hl, m5, h3, acc ++ [z], vacc ++ [w], (g24.trans g5).own nD, rh5.own eD5 hD5, upd_same, hD5, ?_, p2⟩
                exact ((((ra.grow g3).grow g4).grow g5).append (.cons rw' .nil)).grow0 ⟨[], by simp⟩ (Keep.wrote eD5)
              · rw [if_neg hl] at p2
                exact p2.elim
            · rw [if_neg Bool.false_ne_true]
              dsimp only at p2
              exact ⟨m4, h3, acc, vacc, g24, rh4, eD4, hD4, (ra.grow g3).grow g4, p2⟩
        · rw [et] at p2
          exact p2.elim
end
end Vm

set_option Elab.async false
set_option linter.all false
set_option maxRecDepth 100000
set_option maxHeartbeats 4000000
/-! VnE: any, all of a generator expression, by the evaluator. -/
namespace Vm
open PySem PySem.Spec PyProof.Rows L2
variable [T : Tbs]
def agF (al : Bool) (t : Tg) (fi : Ev → IH → Res Src) (fe : Ev → IH → Res PV) : Ev → IH → Res PV := fun ev h => (fi ev h).bind fun src h1 => agLoop al src (agTurn t (wipeE ev t.slots) fe) (src.fuel h1) 0 h1
theorem agTurn_ok {t : Tg} {ev : Ev} {fe : Ev → IH → Res PV} {y : PV} {h h' : IH} {b : Bool} (e : agTurn t ev fe y h = .ok b h') : ∃ ev1, bindT t y h ev = some ev1 ∧ fe ev1 h = .ok (.bl b) h' := by
  unfold agTurn at e
  cases e1 : bindT t y h ev with
  | none => rw [e1] at e; cases e
  | some ev1 =>
    rw [e1] at e
    cases e2 : fe ev1 h with
    | exc c fs h3 => simp [e2, Res.calm] at e
    | stuck => simp [e2, Res.calm] at e
    | ok c h3 =>
      cases c <;> try (simp [e2, Res.calm] at e; done)
      simp [e2, Res.calm] at e
      obtain ⟨rfl, rfl⟩ := e
      exact ⟨ev1, rfl, e2⟩
section
variable {K : PySem.W.Frag} {xi : XI} {t : Tg} {fi : Ev → IH → Res Src} {fe : Ev → IH → Res PV} {al : Bool} {P : Addr}
theorem tGen_of (hP : P ∈ T.at') {st : L2.St} {H : Hp} {Q : VK} (q : tE K xi (agF al t fi fe) st H Q) : tGen P (!al) (tI K xi fi) (tG K t) (tE K xi0 fe) t.slots st H Q := by
  obtain ⟨ev, m, h, re, rh, p⟩ := q
  unfold agF at p
  refine ⟨ev, m, h, re, rh, p.bind fun src h1 m1 H1 g1 rh1 p1 J itok => ⟨rh1.tb P hP, fun H2 tb => ?_⟩⟩
  have reA := re.grow g1
  obtain ⟨rt, gt⟩ := rh1.tabbed hP tb
  let W : Nat → Nat → Hp → Prop := fun i n H2 => ∃ mu h2, Grow m1 H1 mu H2 ∧ RelH K mu H2 h2 ∧ Post K xi m1 H1 (agLoop al src (agTurn t (wipeE ev t.slots) fe) n i h2) fun x m' H' => ∀ v, Rep K m' H' v x → Q v H'
  refine ⟨W, ⟨src.fuel h1, m1, h1, gt, rt, p1⟩, fun i n Hx w => ?_⟩
  obtain ⟨mu, h2, g2, rh2, p2⟩ := w
  cases n with
  | zero => exact p2.elim
  | succ n =>
    obtain ⟨stp, gon⟩ := itok mu Hx h2 i g2 rh2
    unfold agLoop at p2
    cases eg : src.get h2 i with
    | none => rw [eg] at p2; exact p2.elim
    | some o =>
      rw [eg] at p2
      cases o with
      | none =>
        refine .inl ⟨stp eg, ?_⟩
        have z : Q (.bl al) Hx := p2 _ _ g2 rh2 _ .bl
        rw [Bool.not_not]
        exact z
      | some x =>
        obtain ⟨go, yl⟩ := gon x eg
        dsimp only at p2
        rcases calm_no (match bindT t x h2 (wipeE ev t.slots) with
          | none => .stuck
          | some ev1 => (fe ev1 h2).bind fun z h3 => match z with
            | .bl b => .ok b h3
            | _ => .stuck : Res Bool) with ⟨b, h3, et⟩ | et
        · have et' : agTurn t (wipeE ev t.slots) fe x h2 = .ok b h3 := et
          rw [et', Res.bind_ok] at p2
          obtain ⟨ev1, eb, ee⟩ := agTurn_ok et'
          refine .inr ⟨go, fun v H3 y => ?_⟩
          obtain ⟨g3, rh3, rx⟩ := yl v H3 y
          have reW := ((reA.grow g2).grow g3).wipe t.slots
          refine ⟨wipeE ev t.slots, mu, h2, x, ev1, reW, rh3, rx, eb, fun st' re' off => ⟨?_, ?_⟩⟩
          · rw [wipe_off off, wipe_off (wipe_Off t.slots st)]
          · refine ⟨ev1, mu, h2, re', rh3, ?_⟩
            rw [ee]
            intro m5 H5 g5 rh5 w rw'
            cases rw'
            refine ⟨b, rfl, fun nb => ?_, fun e2 => ?_⟩
            · have ea : b = al := by cases b <;> cases al <;> first | rfl | exact absurd rfl nb
              rw [if_pos ea] at p2
              exact ⟨n, Nat.lt_succ_self n, m5, h3, (g2.trans g3).trans g5, rh5, p2⟩
            · have na : ¬ b = al := by rw [e2]; cases al <;> decide
              rw [if_neg na] at p2
              exact p2 m5 H5 ((g2.trans g3).trans g5) rh5 _ .bl
        · have et' : agTurn t (wipeE ev t.slots) fe x h2 = .stuck := et
          rw [et'] at p2
          exact p2.elim
end
/-- a generator expression's names, asked -/
def blkGB (N : List Str) (sc scope : Scope) (own : List (Str × Nat)) : Bool :=
  (match scope.kind with | .function => true | _ => false) && !scope.isCoroutine && (scope.names.all fun y => decide (y.2 ≠ .cell)) && decide (scope.names.lookup (".0" : Str) = some NameKind.local) && (own.all fun p => decide (N[p.2]? = some p.1)) &&
    (scope.names.all fun y => decide (y.2 ≠ .free) || (decide (sc.names.lookup y.1 = some .cell) || decide (sc.names.lookup y.1 = some .free))) && (scope.names.all fun y => decide (y.2 ≠ .local) || (decide (y.1 ∈ own.map (·.1)) || decide (y.1 ∉ N)))
theorem blkG_by {N : List Str} {sc scope : Scope} {own : List (Str × Nat)} (h : blkGB N sc scope own = true) : BlkG N sc scope own := by
  unfold blkGB at h
  simp only [Bool.and_eq_true, Bool.or_eq_true, decide_eq_true_eq, List.all_eq_true, Bool.not_eq_true'] at h
  obtain ⟨⟨⟨⟨⟨⟨h1, h2⟩, h3⟩, h4⟩, h5⟩, h6⟩, h7⟩ := h
  refine ⟨?_, h2, fun y hy => h3 y hy, h4, fun p hp => h5 p hp, fun y hy e => ?_, fun y hy e => ?_⟩
  · split at h1
    · rename_i e; exact e
    · cases h1
  · rcases h6 y hy with z | z
    · exact absurd e z
    · exact z
  · rcases h7 y hy with z | z
    · exact absurd e z
    · exact z
/-- nothing is folded ahead of the walk -/
def plainIt : Expr → Bool
  | .Set .. => false
  | .List .. => false
  | _ => true
theorem genFold_of {e : Expr} {env : Env} (h : plainIt e = true) (x : Value) : genFold e env x = pure x := by
  cases e <;> first | rfl | cases h
end Vm

set_option Elab.async false
set_option linter.all false
set_option maxRecDepth 100000
set_option maxHeartbeats 4000000
/-! VnG: a list turned about. -/
namespace Vm
open PySem PySem.Spec PyProof.Rows L2
variable [Tbs]
theorem Reps.reverse {K : PySem.W.Frag} {m : List Addr} {H : Hp} : ∀ {vs : List V} {xs : List PV}, Reps K m H vs xs → Reps K m H vs.reverse xs.reverse
  | _, _, .nil => .nil
  | v :: vs, x :: xs, .cons r t => by
    rw [List.reverse_cons, List.reverse_cons]
    exact (Reps.reverse t).append (.cons r .nil)
theorem adj_back (n : Nat) : Builtin.Slice.sliceAdjust none none (-1) (n : Int) = ((n : Int) - 1, -1) := by
  unfold Builtin.Slice.sliceAdjust
  simp
theorem plc_back (n : Nat) : Builtin.Slice.slicePlaces ((n : Int) - 1) (-1) (-1) = n := by
  unfold Builtin.Slice.slicePlaces
  rw [if_neg (by decide)]
  split
  · simp
  · omega
theorem fm_same {α β : Type} {f g : α → Option β} : ∀ l : List α, (∀ k ∈ l, f k = g k) → l.filterMap f = l.filterMap g
  | [], _ => rfl
  | x :: l, h => by rw [List.filterMap_cons, List.filterMap_cons, h x List.mem_cons_self, fm_same l fun k hk => h k (List.mem_cons_of_mem _ hk)]
theorem pick_back (xs : Array Value) : ((List.range xs.size).filterMap fun (k : Nat) => xs[((xs.size : Int) - 1 + (k : Int) * (-1)).toNat]?) = xs.toList.reverse := by
  have h1 : ((List.range xs.size).filterMap fun (k : Nat) => xs[((xs.size : Int) - 1 + (k : Int) * (-1)).toNat]?) = (List.range xs.size).filterMap fun (k : Nat) => xs.toList.reverse[k]? := by
    refine fm_same _ fun k hk => ?_
    have lt := List.mem_range.mp hk
    rw [List.getElem?_reverse (by simpa using lt), Array.getElem?_toList, Array.length_toList]
    congr 1
    omega
  rw [h1]
  have h2 : ∀ l : List Value, (List.range l.length).filterMap (fun (k : Nat) => l[k]?) = l := fun l => by
    induction l with
    | nil => rfl
    | cons x l ih =>
      rw [List.length_cons, List.range_succ_eq_map, List.filterMap_cons, List.filterMap_map]
      simp only [List.getElem?_cons_zero, Function.comp_def, List.getElem?_cons_succ, ih]
  have := h2 xs.toList.reverse
  rw [List.length_reverse, Array.length_toList] at this
  exact this
theorem sliced_back {prog : Program} {w : World} {A : Around} {E : Value → Shared → Prop} {s : Shared} {sl : Addr} {vl vu vs : Value} {n : Nat} {Q : Int × Int × Nat → Shared → Prop} (hs : s.heap.IsSliceOf sl vl vu vs) (pl : IsPart vl none) (pu : IsPart vu none) (ps : IsPart vs (some (-1))) (h : Q ((n : Int) - 1, -1, n) s) :
    wpAny (model prog w) A (Builtin.Slice.sliceApplied (.ref sl) (pure (n : Int))) Q E s := by
  obtain ⟨os, hos, hcs, hds⟩ := id hs
  unfold Builtin.Slice.sliceApplied
  unfold Builtin.Slice.sliceFields
  refine wpAny_bind (wpAny_bind (wpAny_field hos hds rfl (wpAny_bind (wpAny_field hos hds rfl (wpAny_bind (wpAny_field hos hds rfl (wpAny_pure ?_)))))))
  refine wpAny_bind (HT.slicePart_ ps ?_)
  dsimp only
  rw [if_neg (by decide)]
  refine wpAny_bind (HT.slicePart_ pl (wpAny_bind (HT.slicePart_ pu (wpAny_bind (wpAny_pure ?_)))))
  dsimp only [Option.getD_some]
  rw [adj_back]
  dsimp only
  rw [plc_back]
  exact wpAny_pure h
theorem getItem_back {prog : Program} {w : World} {A : Around} {E : Value → Shared → Prop} {s : Shared} {t sl : Addr} {items : Array Value} {vl vu vs : Value} {Q : Value → Shared → Prop} (ht : IsTup s.heap t items) (hs : s.heap.IsSliceOf sl vl vu vs) (pl : IsPart vl none) (pu : IsPart vu none) (ps : IsPart vs (some (-1)))
    (h : Q (.ref s.heap.objs.size) { heap := s.heap.push { cls := Value.type "tuple", data := Data.seq items.toList.reverse.toArray }, gens := s.gens, drawn := s.drawn, toks := s.toks, os := s.os }) (hsz : items.size ≤ sizeLine) : wpAny (model prog w) A (getItem (.ref t) (.ref sl)) Q E s := by
  obtain ⟨os, hos, hcs, hds⟩ := id hs
  have hTs : s.TypeIs (.ref sl) "slice" := ⟨os, hos, hcs⟩
  unfold getItem
  refine wpAny_holding (wpAny_bind (wpAny_sequenceKey ht.typeIs (by decide) (wpAny_bind (wpAny_callSpecial?_slot ht.typeIs slot_tuple_getitem (wpAny_call_entry slot_tuple_getitem ht.typeIs entry_tuple_getitem ?_ (args_tuple_getitem _ _))))))
  unfold Builtin.«tuple.__getitem__»
  refine wpAny_bind ?_
  have e : slotArgs "__getitem__" 1 { pos := [Value.ref t, Value.ref sl] } = pure (.ref t, [.ref sl]) := rfl
  rw [e]
  refine wpAny_pure ?_
  dsimp only
  refine wpAny_bind (tupleItemsOf_ ht (wpAny_bind (wpAny_typeOf hTs ?_)))
  rw [if_pos (by decide)]
  refine wpAny_bind (sliced_back hs pl pu ps ?_)
  dsimp only
  rw [if_neg (by simp)]
  rw [pick_back]
  refine wpAny_bind (wpAny_newObj_type (wpAny_pure ⟨_, rfl, wpAny_pure h⟩) ?_)
  show items.toList.reverse.toArray.size ≤ sizeLine
  simpa using hsz
def rTurned (K : PySem.W.Frag) (x : V) (H : Hp) (Q : VK) : Prop := ∃ a xs, x = .ref a ∧ ((SqL K H a xs ∧ ∀ p : Addr, H p = none → Q (.ref p) (upd H p (.lst xs.reverse))) ∨ (SqT K H a xs ∧ ∀ p : Addr, H p = none → Q (.ref p) (upd H p (.tup xs.reverse))))
theorem turned_item {X : Cx} {pins : List (Addr × Obj)} {s : Shared} {σ : L2.St} {H : Hp} {x : V} {v vl vu vs : Value} {sl : Addr} {Q : VK} (I : L2.Inv X pins σ H s) (rx : L2.RelV x v) (hs : s.heap.IsSliceOf sl vl vu vs) (pl : IsPart vl none) (pu : IsPart vu none) (ps : IsPart vs (some (-1))) (h : rTurned X.K x H Q) :
    ∃ T id, typeLookup (Value.type T) (Str.ofString "__getitem__") = pure (some (Value.builtin id)) ∧ s.TypeIs v T ∧ wpAny (model X.prog X.w) X.A (getItem v (Value.ref sl)) (EP X pins σ Q) X.xe s := by
  obtain ⟨a, xs, rfl, ⟨hx, q⟩ | ⟨hx, q⟩⟩ := h
  · cases rx
    obtain ⟨its, r, ht, hz⟩ := I.list hx
    have hl := r.length
    refine ⟨"list", "list.__getitem__", slot_list_getitem.lookup, ht.isList.typeIs, wpAny_getItem_list_slice ht.isList hs pl pu ps (by decide) ?_ (by simp; omega)⟩
    rw [PySem.W.krv_pick]
    refine ⟨.ref s.heap.objs.size, upd H s.heap.objs.size (.lst xs.reverse), ?_, rfl, q _ (I.hok.fresh (Nat.le_refl _))⟩
    exact I.laid (fun b ob e => Heap.get?_push_of_some _ e) (Nat.le_refl _) ⟨by rw [List.length_reverse]; exact hz, its.reverse, 0, r.reverse, Heap.get?_push_size s.heap rfl⟩
  · cases rx
    obtain ⟨its, r, ht, hz⟩ := I.tuple hx
    have hl := r.length
    refine ⟨"tuple", "tuple.__getitem__", slot_tuple_getitem.lookup, ht.typeIs, getItem_back ht hs pl pu ps ?_ (by simp; omega)⟩
    refine ⟨.ref s.heap.objs.size, upd H s.heap.objs.size (.tup xs.reverse), ?_, rfl, q _ (I.hok.fresh (Nat.le_refl _))⟩
    exact I.laid (fun b ob e => Heap.get?_push_of_some _ e) (Nat.le_refl _) ⟨by rw [List.length_reverse]; exact hz, its.reverse, r.reverse, _, Heap.get?_push_size s.heap rfl, rfl, 0, rfl⟩
theorem pe_turned {X : Cx} {e st : Expr} {te : TE} {ts : TO} {pos p2 : Pos} (he : PE X e te) (hs : PO X (some st) ts) :
    PE X (.Subscript e (.Slice none none (some st) p2) pos) fun σ H Q => te σ H fun x H1 => ts σ H1 fun k H2 => k = some (-1) ∧ rTurned X.K x H2 Q := by
  refine ⟨fun pins s σ H Q I h => ?_⟩
  refine Subscript_ (thn (he.run pins s σ H _ I h) fun v s1 hx => ?_)
  obtain ⟨x, H1, I1, r1, q1⟩ := hx
  refine wpAny_Slice ?_
  rw [evalPart_none]
  refine wpAny_pure (wpAny_pure ?_)
  refine thn (hs.run pins s1 σ H1 _ I1 q1) fun vs s2 hk => ?_
  obtain ⟨k, H2, I2, pk, rfl, q2⟩ := hk
  have I3 := I2.kept (h' := s2.heap.push { cls := Value.type "slice", data := Data.fields #[.none, .none, vs] }) (t' := s2.toks) fun b ob q => Heap.get?_push_of_some _ q
  obtain ⟨T, id, hT, ht, hg⟩ := turned_item (sl := s2.heap.objs.size) I3 r1 (Heap.IsSliceOf.new s2.1 .none .none vs) IsPart.none IsPart.none pk q2
  exact tail_any ht hT hg rfl
section
variable {K : PySem.W.Frag} {X : Cx} {xi : XI} {a : Expr} {fa : Ev → IH → Res PV} {pos p2 p3 p4 : Pos} {j : Nat}
theorem se_rev (hK : X.K = K) (ha : PE X a (tE K xi fa)) : PE X (.Subscript a (.Slice none none (some (.UnaryOp .USub (.Constant (.int 1) j p3) p4)) p2) pos) (tE K xi fun ev h => (fa ev h).bind fun x h1 => revF x h1) := by
  subst hK
  refine PEm (pe_turned ha (po_some (pe_un un_neg pe_int))) fun st H Q ⟨ev, m, h, re, rh, p⟩ => ?_
  refine tE_bind re rh p fun v x m1 H1 h1 g1 re1 rh1 rx p1 => ?_
  refine ⟨1, rfl, -1, rfl, rfl, ?_⟩
  unfold revF at p1
  cases x <;> try exact p1.elim
  · rename_i xs
    obtain ⟨q, vs, rfl, h1', r1⟩ := tup_at rx
    have p2 : Post X.K xi m1 H1 (.ok (.tup xs.reverse) h1) fun z m' H' => ∀ v, Rep X.K m' H' v z → Q v H' := p1
    exact ⟨q, vs, rfl, .inr ⟨h1', newT_at rh1 r1.reverse p2⟩⟩
  · cases rx with
    | fl hs r1 =>
      obtain ⟨_, k⟩ := new_at rh1 r1.reverse p1
      exact ⟨_, _, rfl, .inl ⟨hs.sq, k⟩⟩
  · rename_i a
    dsimp only at p1
    cases ea : h1[a]? with
    | none => rw [ea] at p1; exact p1.elim
    | some oa =>
      rw [ea] at p1
      cases oa <;> try exact p1.elim
      rename_i xs
      obtain ⟨pa, vs, rfl, _, h1', r1⟩ := lst_at rh1 rx ea
      obtain ⟨_, k⟩ := new_at rh1 r1.reverse p1
      exact ⟨_, _, rfl, .inl ⟨.inl (.inl h1'), k⟩⟩
end
end Vm

set_option Elab.async false
set_option linter.all false
set_option maxRecDepth 100000
set_option maxHeartbeats 4000000
/-! VmY: promises of defs where nothing is being shown. -/
namespace Vm
open PySem PySem.Spec PyProof.Rows L2
section
variable {P : Program} {w : World} {K : PySem.W.Frag} {mg : Str → Option Value} {base : Heap}
/-- nothing is being shown -/
abbrev Hush (A : Around) : Prop := A.guards = some []
/-- a def's promise there (it lets nothing out) -/
structure FnG (P : Program) (w : World) (K : PySem.W.Frag) (mg : Str → Option Value) (base : Heap) (k : Nat) (f : Addr) (fd : FuncData) (n : Nat) (ps : List Str) (sp : Sp) : Prop where
  many : ps.length = n
  len : ∀ vs H Q E, sp vs H Q E → vs.length = n
  go : ∀ {A : Around} {outer : List Env} {s : Shared} {H : Hp} {args : Args} {us : List Value} {vs : List V} {Q : VK} {E : XK}, Hush A → Room k A → Env0 P w K mg base A outer s H → BindsTo s fd args (ps.zip us) → Vals vs us → sp vs H Q E →
    codeAny (model P w) A (.call (.ref f) args) (CR CX0 outer P w H s Q E) s
/-- what a context's call of such a def comes to -/
theorem FnG.call {X : Cx} {pins : List (Addr × Obj)} {σ : L2.St} {H : Hp} {s : Shared} {Q : VK} {E : XK} {us : List Value} {vs : List V} {k n : Nat} {f : Addr} {fd : FuncData} {ps : List Str} {sp : Sp} (F : FnG X.prog X.w X.K X.mg X.base k f fd n ps sp)
    (hh : Hush X.A) (hr : Room k X.A) (hb : Binds X.K fd ps []) (I : Inv X pins σ H s) (r : Vals vs us) (h : sp vs H Q E) : wpAny (model X.prog X.w) X.A (call (.ref f) us) (EP X pins σ Q) X.xe s := by
  have hl : us.length = ps.length := by rw [F.many, ← r.length, F.len _ _ _ _ h]
  have bt := hb s us I.kIn (by rw [List.append_nil]; exact hl)
  rw [List.append_nil] at bt
  have c := F.go (args := ⟨us, []⟩) hh hr I.env0 bt r h
  refine wpAny_call (codeAny_mono c fun res s' q => ?_)
  match res, q with
  | .ok (.ret u), q => exact I.after q
theorem pe_callG {X : Cx} {k n : Nat} {f : Addr} {fd : FuncData} {ps : List Str} {sp : Sp} {E : XK} {x : Str} {p pos : Pos} {e : Expr} {es : List Expr} {t : TA} (F : FnG X.prog X.w X.K X.mg X.base k f fd n ps sp) (hh : Hush X.A) (hr : Room k X.A) (hg : Gl X x) (hm : X.mg x = some (.ref f))
    (hk : PySem.W.keepIn X.K (.ref f) = true) (hb : Binds X.K fd ps []) (ha : PA X (e :: es) t) (hdb : (x == ("__debug__" : Str)) = false) (he : starEach (e :: es) X.env = (false, eval e X.env) :: starEach es X.env) (hpl : (backTo pos (starEach es X.env)).any (·.1) = false) :
    PE X (.Call (.Name x p) (e :: es) [] pos) (fun σ H Q => t σ H fun vs H1 => sp vs H1 Q E) where
  run pins s σ H Q I h := by
    have args := ha.run pos pins s σ H (fun vs H1 => sp vs H1 Q E) I h
    exact wpAny_Call_Name_kw (ld_glob I hg hm (PySem.W.callWith_K (h₀ := X.base) I.ok.mod.kin hk (thn args fun us s1 ⟨vs, H1, I1, r, q⟩ => ⟨I1.kIn, F.call hh hr hb I1 r q⟩) he hpl) hdb)
/-- a plain def's promise, by its body -/
theorem FnG.of {x qual : Str} {params : Arguments} {body : List Stmt} {scope : Scope} {f : Addr} {fd : FuncData} {N ps : List Str} {k : Nat} {sp : Sp} (D : FunD K x qual params body scope [] [] f fd) (S : FnScope N ps scope) (len : ∀ vs H Q E, sp vs H Q E → vs.length = ps.length)
    (hbody : ∀ (cd : Value) (A : Around) (outer : List Env) (s : Shared) (H : Hp) (vs : List V) (Q : VK) (E : XK), fd.code = cd → Hush A → Room k (A.deeper (envOfC qual scope s.heap.objs.size f cd)) → sp vs H Q E →
      ∃ t, PSs (cxOf CX0 P w K mg base N qual scope f cd A outer s H E) body t ∧ t { nx := fun _ H' => Q .non H', rt := Q } (L2.start N vs) H) : FnG P w K mg base (k + 1) f fd ps.length ps sp where
  many := rfl
  len := len
  go {A outer s H args us vs Q E} hh hr e0 hb r hsp := by
    obtain ⟨oc, od, dV, kV, doc, pm, an, cd, ct, osl, rfl, lk, hcd, _, _⟩ := D.ex
    have old : ∀ b o, base.get? b = some o → s.heap.get? b = some o := fun b o e => (e0.bs b o e).1
    have inH : K.In s.heap := e0.mod.kin.keeps old
    obtain ⟨t, pt, q⟩ := hbody cd A outer s H vs Q E rfl hh (hr.deeper _) hsp
    refine codeAny_call_function hr.depth (inH _ _ lk) rfl S.co S.gen rfl (PySem.W.codeRec_of inH hcd) (hb _ _ _ _ (wpAny_newFunctionEnv_cells S.kind ?_ ?_))
    · intro z hz
      have hp := S.par z.1 (List.of_mem_zip (show (z.1, z.2) ∈ ps.zip us from hz)).1
      exact hp.imp id fun c => ⟨c, PySem.W.cellsFrom_some _ _ _ (.inl c)⟩
    · rintro env rfl s1 x
      have I := inv_start (CX := CX0) (mg := mg) (E := E) S hr.hd e0 (len _ _ _ _ hsp) r x
      refine ⟨(e0.mod.nolimit.keeps old).keeps x.toInCall.keep, codeAny_func (wpAny_mono (pt.run [] s1 _ H _ I q) (fun fl s' hs => ?_) fun _ _ z => z)⟩
      match fl, hs with
      | .next, ⟨σ', H', J, q'⟩ => exact ⟨V.non, H', J.os, J.bare, J.base, J.hok, rfl, q'⟩
      | .ret u, ⟨v, σ', H', J, rv, q'⟩ => exact ⟨v, H', J.os, J.bare, J.base, J.hok, rv, q'⟩
      | .brk, ⟨_, _, _, q'⟩ => exact q'.elim
      | .cont, ⟨_, _, _, q'⟩ => exact q'.elim
end
end Vm

set_option Elab.async false
set_option linter.all false
set_option maxRecDepth 100000
set_option maxHeartbeats 4000000
/-! VmG: calls, statements. -/
namespace Vm
open PySem PySem.Spec PyProof.Rows L2
variable [Tbs]

/-- a def's promise by the evaluator -/
def spOf (K : PySem.W.Frag) (n : Nat) (F : List PV → IH → Res PV) : Sp := fun vs H Q _ => vs.length = n ∧ ∃ m h xs, RelH K m H h ∧ Reps K m H vs xs ∧ Post K xi0 m H (F xs h) fun x m' H' => ∀ v, Rep K m' H' v x → Q v H'

def noComp : Expr → Bool
  | .ListComp .. => false
  | .SetComp .. => false
  | .DictComp .. => false
  | _ => true
theorem swaps_of {e : Expr} (h : noComp e = true) (t : Option Expr) (l : Nat) (env : Env) : swapsWith e t l env = pure false := by
  cases e <;> first | rfl | cases h
def noTup : Expr → Bool
  | .Tuple .. => false
  | _ => true
theorem swapped_of {t e : Expr} {env : Env} (h : noTup e = true) : swappedStores [t] e env = pure none := by
  cases e <;> first | (cases h; done) | (cases t <;> rfl)
theorem swapped_name {x : Str} {p : Pos} {e : Expr} {env : Env} : swappedStores [.Name x p] e env = pure none := by
  cases e <;> rfl
theorem swapped_sub {o i : Expr} {p : Pos} {e : Expr} {env : Env} : swappedStores [.Subscript o i p] e env = pure none := by
  cases e <;> rfl
def noSet : Expr → Bool
  | .Set .. => false
  | _ => true
theorem folded_of {e : Expr} {env : Env} (h : noSet e = true) (x : Value) : foldedSetIterable e env x = pure x := by
  cases e <;> first | rfl | cases h

section
variable {X : Cx} {K : PySem.W.Frag} {xi : XI} {a b c e : Expr} {fa fb fc : Ev → IH → Res PV} {pos p : Pos} {x : Str}
theorem se_call {f : Addr} {fd : FuncData} {ps : List Str} {k n : Nat} {F : List PV → IH → Res PV} {es : List Expr} {fs : Ev → IH → Res (List PV)}
    (G : FnG X.prog X.w X.K X.mg X.base k f fd n ps (spOf K n F)) (hh : X.A.guards = some []) (hr : Room k X.A) (hg : Gl X x) (hm : X.mg x = some (.ref f)) (hk : PySem.W.keepIn X.K (.ref f) = true) (hb : Binds X.K fd ps [])
    (ha : PA X (e :: es) (tA K xi0 fs)) (hfs : ∀ ev h xs h1, fs ev h = .ok xs h1 → xs.length = n) (hst : (e :: es).all notStar = true) (hdb : (x == ("__debug__" : Str)) = false) :
    PE X (.Call (.Name x p) (e :: es) [] pos) (tE K xi0 fun ev h => (fs ev h).bind fun xs h1 => F xs h1) := by
  rw [List.all_cons, Bool.and_eq_true] at hst
  refine PEm (pe_callG (E := fun _ _ _ => False) G hh hr hg hm hk hb ha hdb (star_cons hst.1) (plain_of hst.2)) fun st H Q ⟨ev, m, h, re, rh, q⟩ => ?_
  dsimp only at q
  refine ⟨ev, m, h, re, rh, ?_⟩
  cases e : fs ev h with
  | stuck => rw [e] at q; exact q.elim
  | exc c fs h1 => rw [e] at q; exact q
  | ok xs h1 =>
    rw [e, Res.bind_ok] at q
    intro m1 H1 g1 rh1 vs rvs
    exact ⟨by rw [rvs.length, hfs _ _ _ _ e], m1, h1, xs, rh1, rvs, Post.grow g1 q⟩

/-- a built-in's call by values -/
def BiOk (K : PySem.W.Frag) (F : List PV → IH → Res PV) (r : List V → Hp → VK → Prop) : Prop :=
  ∀ (xi : XI) (m : List Addr) (H : Hp) (h : IH) (xs : List PV) (vs : List V) (Q : VK), RelH K m H h → Reps K m H vs xs → (Post K xi m H (F xs h) fun z m' H' => ∀ v, Rep K m' H' v z → Q v H') → r vs H Q
theorem tCB_of {F : List PV → IH → Res PV} {r : List V → Hp → VK → Prop} (ok : BiOk K F r) {fs : Ev → IH → Res (List PV)} {st : L2.St} {H : Hp} {Q : VK} (t : tE K xi (fun ev h => (fs ev h).bind fun xs h1 => F xs h1) st H Q) : tCB r (tA K xi fs) st H Q := by
  obtain ⟨ev, m, h, re, rh, q⟩ := t
  exact tA_bind re rh q fun vs xs m1 H1 h1 g1 re1 rh1 rx p1 => ok xi m1 H1 h1 xs vs Q rh1 rx p1
theorem se_biB {id : String} {F : List PV → IH → Res PV} {r : List V → Hp → VK → Prop} {es : List Expr} {fs : Ev → IH → Res (List PV)} (hc : CallR X (.builtin id) r) (ok : BiOk K F r) (hg : Gl X x) (hm : X.mg x = none) (hv : bootBuiltins x = some (.builtin id))
    (ha : PA X (e :: es) (tA K xi fs)) (hst : (e :: es).all notStar = true) (hn : x ≠ "__name__") (hdb : (x == ("__debug__" : Str)) = false) :
    PE X (.Call (.Name x p) (e :: es) [] pos) (tE K xi fun ev h => (fs ev h).bind fun xs h1 => F xs h1) := by
  rw [List.all_cons, Bool.and_eq_true] at hst
  exact PEm (pe_callB hc hg hm hv ha hn hdb (star_cons hst.1) (plain_of hst.2)) fun st H Q t => tCB_of ok t
theorem se_biT {T : String} {F : List PV → IH → Res PV} {r : List V → Hp → VK → Prop} {es : List Expr} {fs : Ev → IH → Res (List PV)} (hc : CallR X (.type T) r) (ok : BiOk K F r) (hg : Gl X x) (hm : X.mg x = none) (hv : bootBuiltins x = some (.type T))
    (ha : PA X (e :: es) (tA K xi fs)) (hst : (e :: es).all notStar = true) (hn : x ≠ "__name__") (hdb : (x == ("__debug__" : Str)) = false) :
    PE X (.Call (.Name x p) (e :: es) [] pos) (tE K xi fun ev h => (fs ev h).bind fun xs h1 => F xs h1) := by
  rw [List.all_cons, Bool.and_eq_true] at hst
  exact PEm (pe_callTy hc hg hm hv ha hn hdb (star_cons hst.1) (plain_of hst.2)) fun st H Q t => tCB_of ok t

/-! ### statements -/
def toD (K : PySem.W.Frag) (D : Ends) : Fl → List Addr → Hp → Prop := fun o m' H' => match o with
  | .nx ev' => ∀ st', REnv K m' H' st' ev' → D.nx st' H'
  | .rt x => ∀ v, Rep K m' H' v x → D.rt v H'
def tS (K : PySem.W.Frag) (xi : XI) (f : Ev → IH → Res Fl) : TS := fun D st H => ∃ ev m h, REnv K m H st ev ∧ RelH K m H h ∧ Post K xi m H (f ev h) (toD K D)
variable {tgt : Tg} {tg : Expr}
def asgF (t : Tg) (fa : Ev → IH → Res PV) : Ev → IH → Res Fl := fun ev h => (fa ev h).bind fun x h1 => match bindT t x h1 ev with
  | some ev' => .ok (.nx ev') h1
  | none => .stuck
theorem tG_post {t : Tg} {m : List Addr} {H : Hp} {h : IH} {x : PV} {v : V} {ev : Ev} {st : L2.St} {D : Ends} (re : REnv K m H st ev) (rh : RelH K m H h) (rx : Rep K m H v x)
    (q : Post K xi m H (match bindT t x h ev with
      | some ev' => .ok (.nx ev') h
      | none => .stuck : Res Fl) (toD K D)) : tG K t v st H D.nx := by
  cases e : bindT t x h ev with
  | none => rw [e] at q; exact q.elim
  | some ev' =>
    rw [e] at q
    exact ⟨ev, m, h, x, ev', re, rh, rx, e, fun st' re' _ => q.now rh st' re'⟩
theorem ss_asg (hn : noComp e = true) (hw : swappedStores [tg] e X.env = pure none) (ht : notStar tg = true) (ha : PE X e (tE K xi fa)) (hg : PG X tg (tG K tgt)) : PS X (.Assign [tg] e pos) (tS K xi (asgF tgt fa)) := by
  refine PSm (ps_asg ha hg (swaps_of hn _ _ _) hw (by cases tg <;> first | rfl | cases ht)) fun D st H ⟨ev, m, h, re, rh, q⟩ => ?_
  exact tE_bind re rh q fun v x m1 H1 h1 g1 re1 rh1 rx p1 => tG_post re1 rh1 rx p1
/-- name = [..] -/
theorem ss_lcs {t : TE} {i : Nat} (hp : PS X (.Assign [tg] e pos) (tAsg t (gName i))) (k : ∀ st H Q, tE K xi fa st H Q → t st H Q) : PS X (.Assign [tg] e pos) (tS K xi (asgF (.one i) fa)) := by
  refine PSm hp fun D st H ⟨ev, m, h, re, rh, q⟩ => k _ _ _ ?_
  exact tE_bind re rh q fun v x m1 H1 h1 g1 re1 rh1 rx p1 => p1.now rh1 _ (re1.set i rx)
theorem ss_drop (hn : noComp e = true) (ha : PE X e (tE K xi fa)) : PS X (.Expr e pos) (tS K xi fun ev h => (fa ev h).bind fun _ h1 => .ok (.nx ev) h1) := by
  refine PSm (ps_expr ha (swaps_of hn _ _ _)) fun D st H ⟨ev, m, h, re, rh, q⟩ => ?_
  exact tE_bind re rh q fun v x m1 H1 h1 g1 re1 rh1 rx p1 => p1.now rh1 _ re1
theorem ss_ret (ha : PE X e (tE K xi fa)) : PS X (.Return (some e) pos) (tS K xi fun ev h => (fa ev h).bind fun x h1 => .ok (.rt x) h1) := by
  refine PSm (ps_ret ha) fun D st H ⟨ev, m, h, re, rh, q⟩ => ?_
  exact tE_bind re rh q fun v x m1 H1 h1 g1 re1 rh1 rx p1 => p1.now rh1 _ rx
theorem ss_retn : PS X (.Return none pos) (tS K xi fun ev h => (Res.ok PV.non h).bind fun x h1 => .ok (.rt x) h1) :=
  PSm ps_retN fun D st H ⟨ev, m, h, re, rh, q⟩ => q.now rh _ .non
theorem ss_pass : PS X (.Pass pos) (tS K xi fun ev h => (Res.ok PV.non h).bind fun _ h1 => .ok (.nx ev) h1) :=
  PSm ps_pass fun D st H ⟨ev, m, h, re, rh, q⟩ => q.now rh _ re
theorem ss_doc {s : Str} {j : Nat} {p1 p2 : Pos} : PS X (.Expr (.Constant (.str s) j p1) p2) (tS K xi fun ev h => (Res.ok PV.non h).bind fun _ h1 => .ok (.nx ev) h1) :=
  PSm ps_doc fun D st H ⟨ev, m, h, re, rh, q⟩ => q.now rh _ re
/-- a, b = x, y -/
theorem ss_par {i j : Nat} {x y : Str} {px py pt pt2 : Pos} {kt k2 : Nat} (hc : X.calm = true) (hN : X.N.Nodup) (hi : X.N[i]? = some x) (hj : X.N[j]? = some y) (hij : i ≠ j)
    (hx : X.env.scope.names.lookup x = some .local) (hy : X.env.scope.names.lookup y = some .local) (hna : notStar a = true) (hnb : notStar b = true) (ha : PE X a (tE K xi fa)) (hb : PE X b (tE K xi fb))
    (hw : swappedStores [.Tuple [.Name x px, .Name y py] kt pt] (.Tuple [a, b] k2 pt2) X.env = pure (some [x, y])) :
    PS X (.Assign [.Tuple [.Name x px, .Name y py] kt pt] (.Tuple [a, b] k2 pt2) pos) (tS K xi fun ev h => (fa ev h).bind fun x h1 => (fb ev h1).bind fun y h2 => .ok (.nx ((ev.set i (some x)).set j (some y))) h2) := by
  refine PSm (ps_par hc hN hi hj hij hx hy (pa_cons ha (pa_cons hb pa_nil (star_cons hnb)) (star_cons hna)) hw rfl) fun D st H ⟨ev, m, h, re, rh, q⟩ => ?_
  refine tE_bind re rh q fun v x m1 H1 h1 g1 re1 rh1 rx p1 => ?_
  refine tE_bind re1 rh1 p1 fun w y m2 H2 h2 g2 re2 rh2 ry p2 => ?_
  exact ⟨v, w, rfl, p2.now rh2 _ ((re2.set i (rx.grow g2)).set j ry)⟩
theorem putF_at {m : List Addr} {H : Hp} {h : IH} {x y z : PV} {vx vy vz : V} {R : Unit → List Addr → Hp → Prop} {Q : Hp → Prop} (rh : RelH K m H h) (rx : Rep K m H vx x) (ry : Rep K m H vy y) (rz : Rep K m H vz z) (q : Post K xi m H (putF x y z h) R)
    (k : ∀ m' H', Grow m H m' H' → RelH K m' H' ((match putF x y z h with | .ok _ h' => h' | _ => h)) → R () m' H' → Q H') : rSetL vx vy vz H Q := by
  cases x <;> cases y <;> try exact q.elim
  rename_i r j
  cases rx with
  | ref hp =>
    cases ry
    unfold putF at q k
    dsimp only at q k
    cases eh : h[r]? with
    | none => rw [eh] at q; exact q.elim
    | some o =>
      cases o with
      | dct _ => rw [eh] at q; exact q.elim
      | lst xs =>
        rw [eh] at q k
        dsimp only at q k
        obtain ⟨vs, hv, rv⟩ := rh.at' r _ _ eh hp
        cases ex : ixN xs.length j with
        | none => rw [ex] at q; exact q.elim
        | some n =>
          rw [ex] at q k
          obtain ⟨rl, gl⟩ := rh.wrote eh hp (rv.set rz n)
          refine ⟨_, vs, j, n, rfl, rfl, hv, by rw [rv.length]; exact ex, ?_⟩
          exact k m _ gl rl (q m _ gl rl)
theorem putF_ok {m : List Addr} {H : Hp} {h : IH} {x y z : PV} {vx vy vz : V} {R : Fl → List Addr → Hp → Prop} {ev : Ev} {st : L2.St} {Q : Hp → Prop} (re : REnv K m H st ev) (rh : RelH K m H h) (rx : Rep K m H vx x) (ry : Rep K m H vy y) (rz : Rep K m H vz z)
    (q : Post K xi m H ((putF x y z h).bind fun _ h4 => .ok (.nx ev) h4) R) (k : ∀ m' H', REnv K m' H' st ev → R (.nx ev) m' H' → Q H') : rSetL vx vy vz H Q := by
  refine putF_at (R := fun _ m' H' => R (.nx ev) m' H') rh rx ry rz (q.bind fun _ h1 m1 H1 g1 rh1 p1 => p1.now rh1) fun m' H' g _ r => k m' H' (re.grow g) r
/-- o[i] = v -/
theorem ss_put {o i : Expr} {fo fi fv : Ev → IH → Res PV} {tpos : Pos} (hn : noComp e = true) (hi : plainIx i = true) (hv : PE X e (tE K xi fv)) (ho : PE X o (tE K xi fo)) (hi' : PE X i (tE K xi fi)) :
    PS X (.Assign [.Subscript o i tpos] e pos) (tS K xi fun ev h => (fv ev h).bind fun z h1 => (fo ev h1).bind fun x h2 => (fi ev h2).bind fun y h3 => (putF x y z h3).bind fun _ h4 => .ok (.nx ev) h4) := by
  refine PSm (ps_asg hv (pg_sub ho hi' set_list (by intro v; cases i <;> first | rfl | cases hi)) (by show swapsWith e (some (.Subscript o i tpos)) pos.line X.env = pure false; exact swaps_of hn _ _ _) swapped_sub rfl) fun D st H ⟨ev, m, h, re, rh, q⟩ => ?_
  refine tE_bind re rh q fun vz z m1 H1 h1 g1 re1 rh1 rz p1 => ?_
  refine tE_bind re1 rh1 p1 fun vx x m2 H2 h2 g2 re2 rh2 rx p2 => ?_
  refine tE_bind re2 rh2 p2 fun vy y m3 H3 h3 g3 re3 rh3 ry p3 => ?_
  exact putF_ok re3 rh3 (rx.grow g3) ry ((rz.grow g2).grow g3) p3 fun m' H' re' r => r st re'

def ipR : BOp → TIp
  | .add => fun x y H Q => rI0 (fun i j => .int (i + j)) x y H Q ∨ (∃ i j, x = .str i ∧ y = .str j ∧ i.length + j.length ≤ sizeLine ∧ Q (.str (i ++ j)) H)
  | .sub => rI0 fun i j => .int (i - j)
  | .mul => rI CMul fun i j => .int (i * j)
  | .fdiv => rI CDiv fun i j => .int (i / j)
  | .mod => rI (fun _ j => 0 < j) fun i j => .int (i % j)
  | .pow => fun _ _ _ _ => False
theorem ip_all (op : BOp) : PIp X (bopS op) (ipR op) := by
  cases op
  · exact OpR.or iop_add iop_add_str
  · exact iop_sub
  · exact iop_mul
  · exact iop_fdiv
  · exact iop_mod
  · intro _ _ _ _ _ _ _ _ _ _ _ _ h; exact h.elim
theorem ok_ip (op : BOp) (hp : op ≠ .pow) : OpOk K xi (augF op) (ipR op) := by
  cases op
  · intro m H h x y vx vy Q rh rx ry p
    cases x <;> cases y <;> try exact p.elim
    · rename_i i j
      cases rx; cases ry
      exact .inl ⟨i, j, rfl, rfl, p.now rh _ .int⟩
    · rename_i i j
      cases rx; cases ry
      obtain ⟨hl, p⟩ := Post.ite p
      exact .inr ⟨i, j, rfl, rfl, hl, p.now rh _ .str⟩
  · intro m H h x y vx vy Q rh rx ry p
    cases x <;> cases y <;> try exact p.elim
    cases rx; cases ry
    exact ⟨_, _, rfl, rfl, p.now rh _ .int⟩
  · intro m H h x y vx vy Q rh rx ry p
    cases x <;> cases y <;> try exact p.elim
    cases rx; cases ry
    obtain ⟨hb, p⟩ := Post.ite p
    rw [Bool.or_eq_true, big_iff, big_iff] at hb
    exact ⟨_, _, rfl, rfl, hb, p.now rh _ .int⟩
  · intro m H h x y vx vy Q rh rx ry p
    cases x <;> cases y <;> try exact p.elim
    cases rx; cases ry
    obtain ⟨hb, p⟩ := Post.ite p
    exact ⟨_, _, rfl, rfl, hb, p.now rh _ .int⟩
  · intro m H h x y vx vy Q rh rx ry p
    cases x <;> cases y <;> try exact p.elim
    cases rx; cases ry
    obtain ⟨hb, p⟩ := Post.ite p
    exact ⟨_, _, rfl, rfl, hb, p.now rh _ .int⟩
  · exact absurd rfl hp
/-- name op= e -/
theorem ss_augv {i : Nat} {x : Str} {op : BOp} {pos' : Pos} (hp : op ≠ .pow) (hN : X.N.Nodup) (hi : X.N[i]? = some x) (hx : Loc X.env.scope x) (hf : X.fn x = true ∨ X.env.scope.names.lookup x = some .local) (ha : PE X e (tE K xi fa)) :
    PS X (.AugAssign (.Name x pos') (bopS op) e pos) (tS K xi fun ev h => match ev[i]? with
      | some (some x) => (fa ev h).bind fun y h1 => (augF op x y h1).bind fun z h2 => .ok (.nx (ev.set i (some z))) h2
      | _ => .stuck) := by
  refine PSm (ps_aug hN hi hx ha (ip_all op) hf) fun D st H ⟨ev, m, h, re, rh, q⟩ => ?_
  dsimp only at q
  split at q
  · rename_i x' ex
    obtain ⟨v, h1, h2⟩ := re.at' i x' ex
    refine ⟨v, h1, tE_bind re rh q fun vy y m1 H1 h1 g1 re1 rh1 ry p1 => ?_⟩
    refine ok_ip (xi := xi) op hp m1 H1 h1 x' y v vy _ rh1 (h2.grow g1) ry (p1.bind fun z h2 m2 H2 g2 rh2 p2 w rw' => ?_)
    exact p2.now rh2 _ ((re1.grow g2).set i rw')
  · exact q.elim
theorem get_list : PGet X (rIxL X.K) := by
  intro pins s st H o i ov iv Q I ro ri h
  obtain ⟨p, xs, i, z, rfl, rfl, hq, he, q⟩ := h
  cases ro
  obtain ⟨t, rfl⟩ := ri
  obtain ⟨its, r, pl, hz⟩ := I.list hq
  obtain ⟨j, h1, h2, h3, h4, h5⟩ := atI_get he
  obtain ⟨w, ew, rw'⟩ := r.get h2
  have hl := r.length
  have hn := line63
  have fin : EP X pins st Q w s := ⟨z, H, I, rw', q⟩
  by_cases h0 : 0 ≤ i
  · have hj : i.toNat = j := by
      rw [seqIndex_of h0 h5] at h1
      exact Option.some.inj h1
    exact wpAny_getItem_list pl.isList h0 (by omega) (by rw [hj]; simpa using ew) fin
  · have hj : (i + (its.toArray.size : Int)).toNat = j := by
      rw [seqIndex_neg (by omega) h4] at h1
      rw [List.size_toArray, ← hl]
      exact Option.some.inj h1
    exact wpAny_getItem_list_neg pl.isList (by omega) (by rw [List.size_toArray] <;> omega) (by omega) (by rw [hj]; simpa using ew) fin
/-- ixF of a list that is written to -/
theorem ixF_list {m : List Addr} {H : Hp} {h : IH} {x y : PV} {vx vy : V} {Q : VK} {R : PV → List Addr → Hp → Prop} (rh : RelH K m H h) (rx : Rep K m H vx x) (ry : Rep K m H vy y) (hr : ∃ r, x = .ref r) (q : Post K xi m H (ixF x y h) R)
    (k : ∀ v z, Rep K m H v z → R z m H → Q v H) : rIxL K vx vy H Q := by
  obtain ⟨r, rfl⟩ := hr
  cases y <;> try exact q.elim
  rename_i j
  unfold ixF at q
  dsimp only at q
  cases e : rd h (.ref r) with
  | none => rw [e] at q; exact q.elim
  | some xs =>
    rw [e] at q
    dsimp only at q
    cases rx with
    | ref hp =>
      cases ry
      cases hy : h[r]? with
      | none => simp [rd, hy] at e
      | some o =>
        cases o with
        | dct _ => simp [rd, hy] at e
        | lst ys =>
          simp [rd, hy] at e
          subst e
          obtain ⟨vs, hv, rv⟩ := rh.at' r _ _ hy hp
          cases e2 : atI ys j with
          | none => rw [e2] at q; exact q.elim
          | some z =>
            rw [e2] at q
            obtain ⟨v, h1, h2⟩ := atI_rep rv e2
            exact ⟨_, vs, j, v, rfl, rfl, .inl (.inl hv), h1, k v z h2 (q.now rh)⟩
theorem put_ref {x y z : PV} {h : IH} (n : ∀ r, x ≠ .ref r) : putF x y z h = .stuck := by
  cases x <;> try rfl
  exact absurd rfl (n _)
/-- o[i] op= e -/
theorem ss_augp {o i : Expr} {fo fi fv : Ev → IH → Res PV} {op : BOp} {tpos : Pos} (hK : X.K = K) (hp : op ≠ .pow) (hi : plainIx i = true) (ho : PE X o (tE K xi0 fo)) (hi' : PE X i (tE K xi0 fi)) (hv : PE X e (tE K xi0 fv)) :
    PS X (.AugAssign (.Subscript o i tpos) (bopS op) e pos) (tS K xi0 fun ev h => (fo ev h).bind fun x h1 => match x with
      | .ref r => (fi ev h1).bind fun y h2 => (ixF (.ref r) y h2).bind fun old h3 => (fv ev h3).bind fun v h4 => (augF op old v h4).bind fun z h5 => (putF (.ref r) y z h5).bind fun _ h6 => .ok (.nx ev) h6
      | _ => .stuck) := by
  subst hK
  refine PSm (ps_augS ho hi' get_list hv (ip_all op) set_list (by intros; cases i <;> first | rfl | cases hi)) fun D st H ⟨ev, m, h, re, rh, q⟩ => ?_
  refine tE_bind re rh q fun vx x m1 H1 h1 g1 re1 rh1 rx p1 => ?_
  cases x <;> try exact p1.elim
  rename_i r
  refine tE_bind re1 rh1 p1 fun vy y m2 H2 h2 g2 re2 rh2 ry p2 => ?_
  refine ixF_list (xi := xi0) (R := fun old m' H' => ∃ h3, RelH X.K m' H' h3 ∧ Grow m2 H2 m' H' ∧ Post X.K xi0 m' H' ((fv ev h3).bind fun v h4 => (augF op old v h4).bind fun z h5 => (putF (.ref r) y z h5).bind fun _ h6 => .ok (.nx ev) h6) (toD X.K D)) rh2 (rx.grow g2) ry ⟨r, rfl⟩
    (p2.bind fun old h3 m3 H3 g3 rh3 p3 => ⟨h3, rh3, g3, p3⟩) fun vo old ro ⟨h3, rh3, _, p3⟩ => ?_
  refine tE_bind re2 rh3 p3 fun vv v m4 H4 h4 g4 re4 rh4 rv p4 => ?_
  refine ok_ip (xi := xi0) op hp m4 H4 h4 old v vo vv _ rh4 (ro.grow g4) rv (p4.bind fun z h5 m5 H5 g5 rh5 p5 w rw' => ?_)
  exact putF_ok (re4.grow g5) rh5 (((rx.grow g2).grow g4).grow g5) ((ry.grow g4).grow g5) rw' p5 fun m' H' re' r => r st re'
/-- o.append(e) -/
theorem ss_app {o : Expr} {fo : Ev → IH → Res PV} {apos cpos : Pos} (hn : notStar e = true) (hline : (apos.endLine == cpos.line) = true) (hbase : attributeBase o "append" X.env (eval o X.env) = eval o X.env) (ho : PE X o (tE K xi0 fo)) (ha : PE X e (tE K xi0 fa)) (hK : X.K = K) :
    PS X (.Expr (.Call (.Attribute o "append" apos) [e] [] cpos) pos) (tS K xi0 fun ev h => (fo ev h).bind fun x h1 => match x with
      | .ref r => (match h1[r]? with
        | some (.lst _) => (fa ev h1).bind fun y h2 => (appF (.ref r) y h2).bind fun _ h3 => .ok (.nx ev) h3
        | _ => .stuck)
      | _ => .stuck) := by
  subst hK
  refine PSm (ps_expr (pe_bm PySem.F.plainAttrs_list PySem.F.slot_list_append PySem.F.type_list_append mt_append ho (pa_cons ha pa_nil (star_cons hn)) hbase (by rw [star_cons hn]; rfl) hline (star_cons hn) rfl) rfl) fun D st H ⟨ev, m, h, re, rh, q⟩ => ?_
  refine tE_bind re rh q fun vx x m1 H1 h1 g1 re1 rh1 rx p1 => ?_
  cases x <;> try exact p1.elim
  rename_i r
  cases rx with
  | ref hp =>
    dsimp only at p1
    cases eh : h1[r]? with
    | none => rw [eh] at p1; exact p1.elim
    | some ob =>
      cases ob with
      | dct _ => rw [eh] at p1; exact p1.elim
      | lst xs =>
        rw [eh] at p1
        obtain ⟨vs, hv, _⟩ := rh1.at' r _ _ eh hp
        refine ⟨.inl ⟨rfl, vs, .inl (.inl hv)⟩, ?_⟩
        refine tE_bind re1 rh1 p1 fun vy y m2 H2 h2 g2 re2 rh2 ry p2 => ?_
        have hp2 := g2.at hp
        unfold appF at p2
        dsimp only at p2
        cases eh2 : h2[r]? with
        | none => rw [eh2] at p2; exact p2.elim
        | some ob =>
          cases ob with
          | dct _ => rw [eh2] at p2; exact p2.elim
          | lst ys =>
            rw [eh2] at p2
            dsimp only at p2
            obtain ⟨vs2, hv2, rv2⟩ := rh2.at' r _ _ eh2 hp2
            by_cases hl : ys.length < sizeLine
            · rw [if_pos hl] at p2
              obtain ⟨rl, gl⟩ := rh2.wrote eh2 hp2 (rv2.append (.cons ry .nil))
              refine ⟨_, vs2, vy, rfl, rfl, hv2, by rw [rv2.length]; exact hl, ?_⟩
              exact p2 m2 _ gl rl st (re2.grow gl)
            · rw [if_neg hl] at p2; exact p2.elim

/-! ### blocks, if, for, while -/
theorem sss_nil : PSs X [] (tS K xi fun ev h => .ok (.nx ev) h) := PSsm pss_nil fun D st H ⟨ev, m, h, re, rh, q⟩ => q.now rh _ re
theorem sss_cons {s : Stmt} {ss : List Stmt} {f g : Ev → IH → Res Fl} (h1 : PS X s (tS K xi f)) (h2 : PSs X ss (tS K xi g)) : PSs X (s :: ss) (tS K xi fun ev h => (f ev h).bind fun o h1 => match o with
    | .nx ev' => g ev' h1
    | .rt y => .ok (.rt y) h1) := by
  refine PSsm (pss_cons h1 h2) fun D st H ⟨ev, m, h, re, rh, q⟩ => ⟨ev, m, h, re, rh, q.bind fun o h1 m1 H1 g1 rh1 p1 => ?_⟩
  cases o with
  | nx ev' => exact fun st' re' => ⟨ev', m1, h1, re', rh1, p1⟩
  | rt x => exact fun v rv => p1.now rh1 v rv
theorem ss_if {as bs : List Stmt} {f g : Ev → IH → Res Fl} (hc : PT X c (tT K xi (bF fc))) (h1 : PSs X as (tS K xi f)) (h2 : PSs X bs (tS K xi g)) : PS X (.If c as bs pos) (tS K xi fun ev h => (fc ev h).bind fun x h1 => match x with
    | .bl true => f ev h1
    | .bl false => g ev h1
    | _ => .stuck) := by
  refine PSm (ps_if hc h1 h2) fun D st H ⟨ev, m, h, re, rh, q⟩ => ?_
  refine tT_of re rh q (fun x h1 n => ?_) fun t m1 H1 h1 g1 re1 rh1 p1 => ?_
  · cases x <;> try rfl
    exact absurd rfl (n _)
  · cases t with
    | true => exact ⟨ev, m1, h1, re1, rh1, p1⟩
    | false => exact ⟨ev, m1, h1, re1, rh1, p1⟩
theorem ss_for {iter : Expr} {body : List Stmt} {fi : Ev → IH → Res Src} {f : Ev → IH → Res Fl} (hp : PassesOwn (model X.prog X.w) X.A X.env X.xe) (hc : X.calm = true) (hns : noSet iter = true) (hi : PI X tg iter (tI K xi fi)) (hg : PG X tg (tG K tgt)) (hb : PSs X body (tS K xi f)) :
    PS X (.For tg iter body [] pos) (tS K xi fun ev h => (fi ev h).bind fun src h1 => forLoop src (forTurn tgt f) (src.fuel h1) 0 ev h1) := by
  refine PSm (ps_for hp hc hi hg hb (folded_of hns)) fun D st H ⟨ev, m, h, re, rh, q⟩ => ?_
  refine ⟨ev, m, h, re, rh, q.bind fun src h1 m1 H1 g1 rh1 p1 J itok => ?_⟩
  let W : Nat → Nat → L2.St → Hp → Prop := fun i n st2 H2 => ∃ ev2 mu h2, Grow m1 H1 mu H2 ∧ REnv K mu H2 st2 ev2 ∧ RelH K mu H2 h2 ∧ Post K xi m1 H1 (forLoop src (forTurn tgt f) n i ev2 h2) (toD K D)
  refine ⟨W, ⟨src.fuel h1, ev, m1, h1, Grow.refl _ _, re.grow g1, rh1, p1⟩, fun i n st2 H2 w => ?_⟩
  obtain ⟨ev2, mu, h2, g2, re2, rh2, p2⟩ := w
  cases n with
  | zero => exact p2.elim
  | succ n =>
    obtain ⟨stp, gon⟩ := itok mu H2 h2 i g2 rh2
    unfold forLoop at p2
    cases eg : src.get h2 i with
    | none => rw [eg] at p2; exact p2.elim
    | some o =>
      rw [eg] at p2
      cases o with
      | none => exact .inl ⟨stp eg, p2 _ _ g2 rh2 _ re2⟩
      | some x =>
        obtain ⟨go, yl⟩ := gon x eg
        dsimp only at p2
        unfold forTurn at p2
        cases eb : bindT tgt x h2 ev2 with
        | none => rw [eb] at p2; exact p2.elim
        | some ev3 =>
          rw [eb] at p2
          dsimp only at p2
          refine .inr ⟨go, W (i + 1) n, fun st' H' w => ⟨n, Nat.lt_succ_self n, w⟩, fun v H3 y => ?_⟩
          obtain ⟨g3, rh3, rx⟩ := yl v H3 y
          refine ⟨ev2, mu, h2, x, ev3, re2.grow g3, rh3, rx, eb, fun st' re' _ => ⟨ev3, mu, h2, re', rh3, ?_⟩⟩
          cases e4 : f ev3 h2 with
          | stuck => rw [e4] at p2; exact p2.elim
          | exc c fs h4 =>
            rw [e4] at p2
            exact fun m4 H4 g4 rh4 => p2 m4 H4 ((g2.trans g3).trans g4) rh4
          | ok o h4 =>
            rw [e4, Res.bind_ok] at p2
            intro m4 H4 g4 rh4
            cases o with
            | nx ev4 => exact fun st4 re4 => ⟨ev4, m4, h4, (g2.trans g3).trans g4, re4, rh4, p2⟩
            | rt z => exact p2 m4 H4 ((g2.trans g3).trans g4) rh4
theorem ss_whl {body : List Stmt} {f : Ev → IH → Res Fl} (hp : PassesOwn (model X.prog X.w) X.A X.env X.xe) (hc : PT X c (tT K xi (bF fc))) (hb : PSs X body (tS K xi f)) (N : Nat) :
    PS X (.While c body [] pos) (tS K xi fun ev h => whlLoop fc f N ev h) := by
  refine PSm (ps_while hp hc hb) fun D st H ⟨ev, m, h, re, rh, q⟩ => ?_
  let W : Nat → L2.St → Hp → Prop := fun n st2 H2 => ∃ ev2 mu h2, Grow m H mu H2 ∧ REnv K mu H2 st2 ev2 ∧ RelH K mu H2 h2 ∧ Post K xi m H (whlLoop fc f n ev2 h2) (toD K D)
  refine ⟨W, ⟨N, ev, m, h, Grow.refl _ _, re, rh, q⟩, fun n st2 H2 w => ?_⟩
  obtain ⟨ev2, mu, h2, g2, re2, rh2, p2⟩ := w
  cases n with
  | zero => exact p2.elim
  | succ n =>
    unfold whlLoop at p2
    refine ⟨ev2, mu, h2, re2, rh2, ?_⟩
    unfold bF
    cases e3 : fc ev2 h2 with
    | stuck => rw [e3] at p2; exact p2.elim
    | exc c fs h4 =>
      rw [e3] at p2
      exact fun m4 H4 g4 rh4 => p2 m4 H4 (g2.trans g4) rh4
    | ok b h3 =>
      rw [e3, Res.bind_ok] at p2
      cases b <;> try exact p2.elim
      rename_i b
      rw [Res.bind_ok]
      intro m3 H3 g3 rh3
      cases b with
      | false =>
        rw [if_neg Bool.false_ne_true]
        exact p2 m3 H3 (g2.trans g3) rh3 _ (re2.grow g3)
      | true =>
        rw [if_pos rfl]
        refine ⟨W n, fun st' H' w => ⟨n, Nat.lt_succ_self n, w⟩, ev2, m3, h3, re2.grow g3, rh3, ?_⟩
        dsimp only at p2
        cases e4 : f ev2 h3 with
        | stuck => rw [e4] at p2; exact p2.elim
        | exc c fs h4 =>
          rw [e4] at p2
          exact fun m4 H4 g4 rh4 => p2 m4 H4 ((g2.trans g3).trans g4) rh4
        | ok o h4 =>
          rw [e4, Res.bind_ok] at p2
          intro m4 H4 g4 rh4
          cases o with
          | nx ev4 => exact fun st4 re4 => ⟨ev4, m4, h4, (g2.trans g3).trans g4, re4, rh4, p2⟩
          | rt z => exact p2 m4 H4 ((g2.trans g3).trans g4) rh4
end
end Vm

set_option Elab.async false
set_option linter.all false
set_option maxRecDepth 100000
set_option maxHeartbeats 8000000
/-! VmP: set(list of ints), sorted of it; the least of a list of pairs. -/
namespace Vm
open PySem PySem.Spec PyProof.Rows L2

/-! ### set(xs) of a list of ints -/
/-- an empty set, as it is made -/
abbrev noneIn (w : World) : Obj := { cls := .type "set", dict := none, data := .set #[] 0 (.fresh 0 0 (!w.params.followText "set-order")) }
section
variable {P : Program} {w : World} {A : Around} {E : Value → Shared → Prop} {s : Shared}
theorem set_listI {l : Addr} {us : Array Value} (ns : List Int) {Q : Value → Shared → Prop} (hh : A.handled = none) (hl : s.heap.IsList l us) (hi : IntsAre us.toList ns) (hb : ns.length + 1 < scanBound)
    (q : ∀ (g : Heap) (tk c : Nat), SetR w g s.heap.objs.size (fun j => decide (j ∈ ns)) c → c ≤ ns.length → (∀ b o, s.heap.get? b = some o → g.get? b = some o) → Q (.ref s.heap.objs.size) { s with heap := g, toks := tk }) :
    wpAny (model P w) A (call (.type "set") [.ref l]) Q E s := by
  have hn : us.size = ns.length := by have z := hi.length; rwa [Array.length_toList] at z
  obtain ⟨c0, tl, m1⟩ := PySem.F.called_set.mro
  have m2 := PySem.F.called_set.made
  have m3 := PySem.F.called_set.sub
  refine wpAny_call (codeAny_of_tree ?_)
  show wpAny _ _ (callAny (.type "set") _) _ _ _
  refine wpAny_pure ⟨Code.quiet_builtin _ (by decide +kernel), codeAny_builtin PySem.F.entry_type_call ?_⟩
  rw [Around.under_plain (weight_type_call_type "set" [.ref l] []) rfl]
  have m4 := PySem.F.called_set.notType
  have m5 := PySem.F.called_set.canCreate
  have m6 := PySem.F.typeCall_set_1 (.ref l)
  repeat (any_goals (first | assumption | wp_step))
  refine codeAny_mono (code_set_led1 (.ref l) (E := E) (Q₁ := fun x t => x = .ref s.heap.objs.size ∧ t = { s with heap := s.heap.push (noneIn w) }) ⟨rfl, rfl⟩) fun r t hr => ?_
  rcases r with e | fl
  · exact hr
  cases fl <;> try exact hr.elim
  obtain ⟨rfl, rfl⟩ := hr
  generalize hg0 : s.heap.push (noneIn w) = g0
  have z0 : g0.objs.size = s.heap.objs.size + 1 := by rw [← hg0]; exact Heap.size_push ..
  have oS : g0.get? s.heap.objs.size = some (noneIn w) := by rw [← hg0]; exact Heap.get?_push_size _ rfl
  have k0 : ∀ b o, s.heap.get? b = some o → g0.get? b = some o := fun b o e => by rw [← hg0]; exact Heap.get?_push_of_some _ e
  have tS : Shared.TypeIs { s with heap := g0 } (.ref s.heap.objs.size) "set" := ⟨_, oS, rfl⟩
  have m7 := PySem.F.called_set.init.lookup
  have m8 := PySem.F.called_set.init.bind (.ref s.heap.objs.size)
  repeat (any_goals (first | assumption | wp_step))
  refine codeAny_mono (codeAny_call_builtin (R := wants (fun r t => r = .none ∧ ∃ g tk c, t = { s with heap := g, toks := tk } ∧ SetR w g s.heap.objs.size (fun j => decide (j ∈ ns)) c ∧ c ≤ ns.length ∧ (∀ b o, s.heap.get? b = some o → g.get? b = some o)) E)
    PySem.F.called_set.init.plain PySem.F.entry_set_init (check_set_init_1 tS ?_)) fun r t hr => ?_
  · obtain ⟨⟨c1, d1, e1, f1⟩, o1, h1, n1, h2⟩ := hl
    simp only at h1 h2
    subst h1 h2
    have o2 := k0 _ _ o1
    have b1 := PySem.F.sub_list_set
    have b2 := PySem.F.sub_list_frozenset
    have b3 : (Value.type "list" == Value.type "dict") = false := by decide
    have l0 : g0.IsList l us := ⟨_, o2, rfl, n1, rfl⟩
    have lS := Heap.lt_size o1
    unfold Builtin.«set.__init__» noKeywords Builtin.Frozenset.updateFrom
    generalize hw : pyIter = walk
    wp_walk
    subst hw
    refine wpAny_pyIter_list l0 (wpAny_bind (wpAny_runValue ?_))
    have nI : l ≠ g0.objs.size := by (rw [z0]; exact Nat.ne_of_lt (Nat.lt_succ_of_lt lS))
    have nS : s.heap.objs.size ∉ [g0.objs.size, l] := by
      intro z
      rcases List.mem_cons.mp z with z | z
      · exact Nat.ne_of_lt (by rw [z0]; exact Nat.lt_succ_self _) z
      · exact Nat.ne_of_gt lS (List.mem_singleton.mp z)
    refine set_update_ints ((Walks.list (by simp [hh]) _ l nI us).toS) s.heap.objs.size nS ns hn hb (fun i v hv => ?_) (us.size - 0) 0 _ (by omega) (Nat.zero_le _) ⟨⟨_, Heap.get?_push_size _ rfl, rfl, rfl⟩, l0.push _⟩ ?_ ?_
    · obtain ⟨t, e⟩ := PyProof.Rows.IntsAre.int_at hi i v (by rw [Array.getElem?_toList]; exact hv)
      have lt : i < ns.length := by rw [← hn]; exact (Array.getElem?_eq_some_iff.mp hv).1
      refine ⟨ns[i], t, List.getElem?_eq_getElem lt, ?_⟩
      rw [e, List.getD_eq_getElem?_getD, List.getElem?_eq_getElem lt] <;> rfl
    · exact ⟨0, Nat.le_refl 0, setR_new_at (Heap.get?_push_of_some _ oS)⟩
    · rintro ⟨g, ge, dr, tk, os⟩ c mv hc hR
      obtain rfl : ge = s.gens := mv.gens
      obtain rfl : dr = s.drawn := mv.drawn
      obtain rfl : os = s.os := mv.os
      show wpAny _ _ _ _ _ _
      refine wpAny_pure ?_
      show wpAny _ _ (ret Value.none) _ _ _
      refine wpAny_pure ⟨rfl, g, tk, c, rfl, hR, by omega, fun b o e => mv.heap b o (fun z => ?_) (Heap.get?_push_of_some _ (k0 b o e))⟩
      have lb := Heap.lt_size e
      rcases List.mem_cons.mp z with z | z
      · exact Nat.ne_of_lt lb z
      · exact Nat.ne_of_lt (by rw [z0]; exact Nat.lt_succ_of_lt lb) (List.mem_singleton.mp z)
  · rcases r with e | fl
    · exact hr
    cases fl <;> try exact hr.elim
    obtain ⟨rfl, g, tk, c, rfl, hR, hc, hk⟩ := hr
    repeat (any_goals (first | assumption | wp_step))
    exact q _ _ _ hR hc hk
end
section
variable {X : Cx}
def rSetL (K : PySem.W.Frag) (w : World) : List V → Hp → VK → Prop := fun vs H Q => ∃ (a : Addr) (ns : List Int), vs = [V.ref a] ∧ (SqL K H a (ns.map V.int) ∨ SqT K H a (ns.map V.int)) ∧ ns.length + 1 < scanBound ∧
  ∀ (p : Addr) (c : Nat), c ≤ ns.length → H p = none → Q (.ref p) (upd H p (SetO w p (fun j => decide (j ∈ ns)) c))
theorem cr_setL (hc : X.calm = true) : CallR X (.type "set") (rSetL X.K X.w) := by
  intro pins s st H vs us Q I r h
  obtain ⟨a, ns, rfl, hs, hb, q⟩ := h
  rw [Vals.ref1 r]
  rcases hs with hs | hs
  · obtain ⟨its, rv, hl, _⟩ := I.list hs
    refine set_listI ns (I.ok.hd hc) hl.isList (by simpa using rv.ints) hb fun g tk c R hc' hk => ?_
    exact ⟨.ref _, _, I.laid (t' := tk) (o := SetO X.w s.heap.objs.size (fun j => decide (j ∈ ns)) c) hk (Nat.le_refl _) (setO_new R), rfl, q _ c hc' (I.hok.fresh (Nat.le_refl _))⟩
  · obtain ⟨its, rv, hl, _⟩ := I.tuple hs
    refine call_set_tupI ns (I.ok.hd hc) hl (by simpa using rv.ints) hb fun g tk c R hc' hk => ?_
    exact ⟨.ref _, _, I.laid (t' := tk) (o := SetO X.w s.heap.objs.size (fun j => decide (j ∈ ns)) c) hk (Nat.le_refl _) (setO_new R), rfl, q _ c hc' (I.hok.fresh (Nat.le_refl _))⟩
end
end Vm

set_option Elab.async false
set_option linter.all false
set_option maxRecDepth 100000
set_option maxHeartbeats 4000000
/-! VmK: further calls: list(range(n)), t[:n].count(x), sorted(set(xs)), min of pairs. -/
namespace Vm
open PySem PySem.Spec PyProof.Rows L2
variable [Tbs]

/-! ### list(range(n)) -/
section
variable {K : PySem.W.Frag}
/-- what is read as ints -/
theorem ints_at {m : List Addr} {H : Hp} {h : IH} {x : PV} {v : V} {ns : List Int} (rh : RelH K m H h) (r : Rep K m H v x) (e : (rd h x).bind intsOf = some ns) : ∃ p, v = .ref p ∧ (SqL K H p (ns.map V.int) ∨ SqT K H p (ns.map V.int)) := by
  cases e1 : rd h x with
  | none => rw [e1] at e; cases e
  | some xs =>
    rw [e1] at e
    obtain ⟨a, vs, rfl, hs, rv⟩ := rd_ok rh r e1
    have e2 := intsOf_eq (show intsOf xs = some ns from e)
    subst e2
    rw [rv.ints] at hs
    exact ⟨a, rfl, hs⟩
end
theorem reps_rng {K : PySem.W.Frag} {m : List Addr} {H : Hp} (n : Int) : Reps K m H (rgV 0 n) (rngs 0 n.toNat) := by
  have e1 : rgV 0 n = ((List.range n.toNat).map fun (i : Nat) => (0 + (i : Int))).map V.int := by
    unfold rgV
    rw [List.map_map, Int.sub_zero]
    rfl
  have e2 : rngs 0 n.toNat = ((List.range n.toNat).map fun (i : Nat) => (0 + (i : Int))).map PV.int := by
    unfold rngs
    rw [List.map_map]
    rfl
  rw [e1, e2]
  exact Reps.ofInts _
section
variable {X : Cx} {xi : XI} {a b e : Expr} {fa fb fe : Ev → IH → Res PV} {p p2 pos cpos apos : Pos}
theorem se_lrng (hc : X.calm = true) (hg : Gl X "list") (hm : X.mg "list" = none) (hg2 : Gl X "range") (hm2 : X.mg "range" = none) (hn : notStar a = true) (ha : PE X a (tE X.K xi fa)) :
    PE X (.Call (.Name "list" p) [.Call (.Name "range" p2) [a] [] cpos] [] pos) (tE X.K xi fun ev h => (fa ev h).bind fun x h1 => lrngF x h1) := by
  refine PEm (pe_listRg hc hg hm (prg_1 hg2 hm2 ha (star_cons hn)) rfl) fun st H Q ⟨ev, m, h, re, rh, q⟩ => ?_
  refine tE_bind re rh q fun v x m1 H1 h1 g1 re1 rh1 rx p1 => ?_
  cases x <;> try exact p1.elim
  rename_i n
  cases rx
  obtain ⟨hb, p1⟩ := Post.ite p1
  refine ⟨n, rfl, ⟨by decide, by decide, hb.1, hb.2.1, by rw [Int.sub_zero]; exact hb.2.2⟩, (new_at rh1 (reps_rng n) p1).2⟩

/-! ### t[:n].count(k), of ints -/
theorem countP_eqU {k : Int} : ∀ {ns : List Int} {us : List Value}, Vals (ns.map V.int) us → us.countP (eqU (.int k)) = ns.count k
  | [], _, .nil => rfl
  | n :: ns, _, .cons r t => by
    obtain ⟨tk, rfl⟩ := r
    rw [List.countP_cons, countP_eqU t, List.count_cons]
    show _ + (if (n == k) = true then 1 else 0) = _
    rfl
theorem se_scnt (hn : notStar e = true) (hline : (apos.endLine == cpos.line) = true) (ha : PE X a (tE X.K xi fa)) (hb : PE X b (tE X.K xi fb)) (he : PE X e (tE X.K xi fe)) {p3 : Pos} :
    PE X (.Call (.Attribute (.Subscript a (.Slice none (some b) none p2) p3) "count" apos) [e] [] cpos) (tE X.K xi fun ev h => (fa ev h).bind fun x h1 => (fb ev h1).bind fun u h2 => scntG fe ev x u h2) := by
  refine ⟨fun pins s st H Q I ⟨ev, m, h, re, rh, q⟩ => ?_⟩
  refine wpAny_Call_method_late rfl (by rw [star_cons hn]; rfl) hline rfl ?_
  refine Subscript_ (thn (ha.run pins s st H _ I (tE_bind re rh q fun v x m1 H1 h1 g1 re1 rh1 rx p1 => (⟨m1, h1, x, re1, rh1, rx, p1⟩ : ∃ m1 h1 x, REnv X.K m1 H1 st ev ∧ RelH X.K m1 H1 h1 ∧ Rep X.K m1 H1 v x ∧
    Post X.K xi m1 H1 ((fb ev h1).bind fun u h2 => scntG fe ev x u h2) fun x m' H' => ∀ v, Rep X.K m' H' v x → Q v H'))) fun v s1 ⟨x, H1, I1, r1, m1, h1, xp, re1, rh1, rx, p1⟩ => ?_)
  refine wpAny_Slice ?_
  rw [evalPart_none]
  refine wpAny_pure ?_
  have pb : PO X (some b) (tPart (tE X.K xi fb)) := po_some hb
  refine thn (pb.run pins s1 st H1 (fun o H2 => ∃ n m2 h2, o = some n ∧ REnv X.K m2 H2 st ev ∧ RelH X.K m2 H2 h2 ∧ Rep X.K m2 H2 x xp ∧ Post X.K xi m2 H2 (scntG fe ev xp (.int n) h2) fun x m' H' => ∀ v, Rep X.K m' H' v x → Q v H') I1 (tE_bind re1 rh1 p1 fun w u m2 H2 h2 g2 re2 rh2 ru p2 => ?_)) fun vu s2 ⟨o, H2, I2, pu, n, m2, h2, eo, re2, rh2, rx2, p2⟩ => ?_
  · cases u <;> try (cases xp <;> exact p2.elim)
    rename_i n
    cases ru
    exact ⟨n, rfl, n, m2, h2, rfl, re2, rh2, rx.grow g2, p2⟩
  subst eo
  obtain ⟨xs, rfl⟩ : ∃ xs, xp = .tup xs := by cases xp <;> first | exact ⟨_, rfl⟩ | exact p2.elim
  obtain ⟨hw, p2⟩ := Post.ite p2
  obtain ⟨ad, vs, rfl, hs, rv⟩ := tup_at rx2
  cases r1
  refine wpAny_pure ?_
  have I3 : L2.Inv X pins st H2 { s2 with heap := s2.heap.push { cls := .type "slice", data := .fields #[.none, vu, .none] } } := I2.kept (t' := s2.toks) fun b ob q => Heap.get?_push_of_some _ q
  obtain ⟨its, r, ht, hz⟩ := I3.tuple hs
  have hlen : its.toArray.size = xs.length := by rw [List.size_toArray, ← r.length, rv.length]
  refine tail_any (ops := [.ref s2.heap.objs.size, .ref ad]) ht.typeIs PyProof.Rows.slot_tuple_getitem.lookup ?_ (by with_unfolding_all rfl)
  refine HT.getItem_tuple_cut ht (Heap.IsSliceOf.new ..) .none pu (by rw [hlen]; exact fun z => hw z.2) ?_ (by rw [hlen, ← rv.length]; exact hz)
  dsimp only
  generalize hT : (s2.heap.push { cls := .type "slice", data := .fields #[.none, vu, .none] }).objs.size = T
  generalize hcut : ((its.toArray.toList.drop (HT.sIx its.toArray.size 0 none)).take (HT.sIx its.toArray.size its.toArray.size (some n) - HT.sIx its.toArray.size 0 none)) = cut
  have oT : ((s2.heap.push { cls := .type "slice", data := .fields #[.none, vu, .none] }).push { cls := .type "tuple", data := .seq cut.toArray }).get? T = some { cls := .type "tuple", data := .seq cut.toArray } := by
    rw [← hT]
    exact Heap.get?_push_size _ rfl
  have hcutV : Vals (vs.take (HT.sIx xs.length xs.length (some n))) cut := by
    rw [← hcut, hlen, HT.sIx_none]
    have := (r.drop 0).take (HT.sIx xs.length xs.length (some n) - 0)
    simpa using this
  have hlc : (vs.take (HT.sIx xs.length xs.length (some n))).length ≤ sizeLine := Nat.le_trans (by rw [List.length_take]; exact Nat.min_le_right _ _) hz
  have hTn : H2 T = none := by rw [← hT]; exact I3.hok.fresh (Nat.le_refl _)
  have I4 : L2.Inv X pins st (upd H2 T (.tup (vs.take (HT.sIx xs.length xs.length (some n))))) { s2 with heap := (s2.heap.push { cls := .type "slice", data := .fields #[.none, vu, .none] }).push { cls := .type "tuple", data := .seq cut.toArray } } := by
    rw [← hT]
    exact I3.laid (t' := s2.toks) (fun b ob q => Heap.get?_push_of_some _ q) (Nat.le_refl _) ⟨hlc, cut, hcutV, IsTup.new _ _⟩
  refine ⟨"tuple", "tuple.count", PySem.F.plainAttrs_tuple, PySem.F.slot_tuple_count, PySem.F.type_tuple_count, ⟨_, oT, rfl⟩, fun b hb => ?_, ?_⟩
  · cases hb
    exact ⟨_, oT, rfl⟩
  have g3 : Grow m2 H2 m2 (upd H2 T (.tup (vs.take (HT.sIx xs.length xs.length (some n))))) := Grow.junk hTn
  have hA := (pa_cons he pa_nil (star_cons hn)).run cpos pins _ st _ (fun ys H5 => ∃ y m5 h5 vy, ys = [vy] ∧ RelH X.K m5 H5 h5 ∧ Rep X.K m5 H5 vy y ∧ H5 T = some (.tup (vs.take (HT.sIx xs.length xs.length (some n)))) ∧ Post X.K xi m5 H5 (scntF (.tup xs) (.int n) y h5) fun x m' H' => ∀ v, Rep X.K m' H' v x → Q v H') I4
    (tE_bind (re2.grow g3) (rh2.junk hTn) (Post.grow g3 p2) fun w y m5 H5 h5 g5 re5 rh5 ry p5 => ⟨y, m5, h5, w, rfl, rh5, ry, g5.kp.tup _ _ upd_same, p5⟩)
  rw [star_cons hn] at hA ⊢
  refine Calls.callWith_builtin rfl (Calls.evalArgs_plain (thn hA fun us s5 ⟨ys, H5, I5, r5, y, m5, h5, vy, ey, rh5, ry, eT, p5⟩ => ?_))
  subst ey
  obtain ⟨uy, rfl, ruy⟩ := vals1 r5
  cases y <;> try exact p5.elim
  rename_i k
  cases ry
  obtain ⟨tk, rfl⟩ := ruy
  unfold scntF at p5
  dsimp only at p5
  cases ei : intsOf xs with
  | none => rw [ei] at p5; exact p5.elim
  | some ns =>
    rw [ei] at p5
    dsimp only at p5
    obtain ⟨_, p5⟩ := Post.ite p5
    obtain ⟨hz5, its5, rv5, o5, ho5, hc5, n5, hd5⟩ := I5.hok T _ eT
    obtain ⟨cls, dd, data, sl⟩ := o5
    simp only at hc5 hd5
    subst hc5 hd5
    have e1 := intsOf_eq ei
    subst e1
    have e2 := rv.ints
    subst e2
    rw [← List.map_take] at rv5
    refine call_meets PySem.F.slot_tuple_count ⟨_, ho5, rfl⟩ PySem.F.entry_tuple_count (PySem.F.args_tuple_count_2 _ _) (SeqAt.tuple_countAt T its5.toArray n5 dd sl (.int k tk) (eqU (.int k))) ⟨ho5, fun y hy => ?_, ?_⟩
    · exact mem_eqAt (x := .int k) ⟨tk, rfl⟩ rfl rv5 (List.all_eq_true.mpr fun z hz => by
        obtain ⟨i, _, rfl⟩ := List.mem_map.mp hz
        rfl) y (by simpa using hy)
    · refine ⟨.int _, H5, I5.tok _, ⟨_, rfl⟩, ?_⟩
      rw [show (its5.toArray.toList.countP (eqU (.int k))) = _ from countP_eqU rv5]
      exact p5.now rh5 _ .int
end

/-! ### sorted(set(xs)) -/
theorem insS_mem {k j : Int} : ∀ {xs : List Int}, j ∈ insS k xs ↔ j = k ∨ j ∈ xs
  | [] => by simp [insS]
  | x :: xs => by
    unfold insS
    split
    · simp
    · split
      · rename_i e
        subst e
        simp
      · rw [List.mem_cons, insS_mem (xs := xs), List.mem_cons]
        constructor
        · rintro (h | h | h) <;> simp [h]
        · rintro (h | h | h) <;> simp [h]
theorem insS_asc {k : Int} : ∀ {xs : List Int}, xs.Pairwise (· < ·) → (insS k xs).Pairwise (· < ·)
  | [], _ => by simp [insS]
  | x :: xs, h => by
    obtain ⟨h1, h2⟩ := List.pairwise_cons.mp h
    unfold insS
    split
    · rename_i e
      refine List.pairwise_cons.mpr ⟨fun y hy => ?_, h⟩
      rcases List.mem_cons.mp hy with rfl | hy
      · exact e
      · have := h1 y hy; omega
    · split
      · exact h
      · refine List.pairwise_cons.mpr ⟨fun y hy => ?_, insS_asc h2⟩
        rcases insS_mem.mp hy with rfl | hy
        · omega
        · exact h1 y hy
theorem ssetL_mem {j : Int} : ∀ {ns : List Int}, j ∈ ssetL ns ↔ j ∈ ns
  | [] => by simp [ssetL]
  | n :: ns => by
    show j ∈ insS n (ssetL ns) ↔ _
    rw [insS_mem, ssetL_mem, List.mem_cons]
theorem ssetL_asc : ∀ {ns : List Int}, (ssetL ns).Pairwise (· < ·)
  | [] => by simp [ssetL]
  | n :: ns => insS_asc ssetL_asc
theorem asc_one : ∀ {xs ys : List Int}, xs.Pairwise (· < ·) → ys.Pairwise (· < ·) → (∀ k, k ∈ xs ↔ k ∈ ys) → xs = ys
  | [], [], _, _, _ => rfl
  | [], y :: ys, _, _, h => by
    have := (h y).mpr List.mem_cons_self
    cases this
  | x :: xs, [], _, _, h => by
    have := (h x).mp List.mem_cons_self
    cases this
  | x :: xs, y :: ys, hx, hy, h => by
    obtain ⟨a1, a2⟩ := List.pairwise_cons.mp hx
    obtain ⟨b1, b2⟩ := List.pairwise_cons.mp hy
    have e : x = y := by
      rcases List.mem_cons.mp ((h x).mp List.mem_cons_self) with e | e
      · exact e
      · rcases List.mem_cons.mp ((h y).mpr List.mem_cons_self) with e2 | e2
        · exact e2.symm
        · have := a1 y e2
          have := b1 x e
          omega
    subst e
    rw [asc_one a2 b2 fun k => ?_]
    have hk := h k
    rw [List.mem_cons, List.mem_cons] at hk
    constructor
    · intro m
      rcases hk.mp (.inr m) with e | m2
      · have := a1 k m; omega
      · exact m2
    · intro m
      rcases hk.mpr (.inr m) with e | m2
      · have := b1 k m; omega
      · exact m2
section
variable {X : Cx} {xi : XI} {a : Expr} {fa : Ev → IH → Res PV} {p p2 pos cpos : Pos}
theorem se_sset (hc : X.calm = true) (hg : Gl X "sorted") (hm : X.mg "sorted" = none) (hg2 : Gl X "set") (hm2 : X.mg "set" = none) (hn : notStar a = true) (ha : PE X a (tE X.K xi fa)) :
    PE X (.Call (.Name "sorted" p) [.Call (.Name "set" p2) [a] [] cpos] [] pos) (tE X.K xi fun ev h => (fa ev h).bind fun x h1 => ssetF x h1) := by
  have inner := pe_callTy (pos := cpos) (p := p2) (cr_setL hc) hg2 hm2 (by rfl) (pa_cons ha pa_nil (star_cons hn)) (by decide) (by decide) (star_cons hn) (plain_of (es := []) rfl)
  have outer := pe_callB (pos := pos) (p := p) (cr_sortedSet hc) hg hm (by rfl) (pa_cons inner pa_nil (star_cons rfl)) (by decide) (by decide) (star_cons rfl) (plain_of (es := []) rfl)
  refine PEm outer fun st H Q ⟨ev, m, h, re, rh, q⟩ => ?_
  refine tE_bind re rh q fun v x m1 H1 h1 g1 re1 rh1 rx p1 => ?_
  unfold ssetF at p1
  cases e : (rd h1 x).bind intsOf with
  | none => rw [e] at p1; exact p1.elim
  | some ns =>
    rw [e] at p1
    obtain ⟨hl, p1⟩ := Post.ite p1
    obtain ⟨b, rfl, hs⟩ := ints_at rh1 rx e
    refine ⟨b, ns, rfl, hs, by unfold scanBound; omega, fun l c hcn hl1 => ⟨l, _, c, rfl, upd_same, by omega, fun ns' l2 asc mem len hl2 => ?_⟩⟩
    have es : ns' = ssetL ns := asc_one asc ssetL_asc fun k => by
      rw [mem k, ssetL_mem]
      simp
    subst es
    obtain ⟨r, g⟩ := RelH.laid (rh1.junk hl1) hl2 (Reps.ofInts (ssetL ns))
    have ne : l2 ≠ l := fun z => by rw [z, upd_same] at hl2; cases hl2
    have hl2' := hl2
    exact (new_at (rh1.junk hl1) (Reps.ofInts (ssetL ns)) (Post.grow (Grow.junk hl1) p1)).2 l2 hl2
end

/-! ### isinstance(x, int) -/
theorem kit_all (t : Ty) : ∀ a ∈ (["NoneType", "bool", "int", "str", "tuple", "list", "dict"] : List String), kitB a t.word = some (decide (a = t.word) || (decide (a = "bool") && decide (t = .int))) := by
  cases t <;> decide +kernel
theorem tyOf_mem {h : IH} {x : PV} {a : String} (e : tyOf h x = some a) : a ∈ (["NoneType", "bool", "int", "str", "tuple", "list", "dict"] : List String) := by
  cases x with
  | ref i =>
    cases hy : h[i]? with
    | none => simp [tyOf, hy] at e
    | some u => cases u <;> (simp [tyOf, hy] at e; subst e; decide)
  | _ => cases e; decide
theorem ty_of {K : PySem.W.Frag} {m : List Addr} {H : Hp} {h : IH} {x : PV} {v : V} {a : String} (rh : RelH K m H h) (r : Rep K m H v x) (e : tyOf h x = some a) : TyX K H v (.type a) := by
  cases x with
  | non => cases r; cases e; exact .base .non
  | bl b => cases r; cases e; exact .base (.bl _)
  | int i => cases r; cases e; exact .base (.int _)
  | str i => cases r; cases e; exact .base (.str _)
  | tup xs =>
    cases e
    cases r with
    | tup h1 h2 =>
      rcases h1 with (h1 | ⟨o, h1⟩) | ⟨o, its, n, h1, hc, _⟩
      · exact .base (.tup h1)
      · exact .fTuple h1
      · exact .kTuple h1 hc
  | fl xs =>
    cases e
    cases r with
    | fl h1 h2 =>
      rcases h1 with ⟨o, h1⟩ | ⟨o, its, n, h1, hc, _⟩
      · exact .base (.frz h1)
      · exact .kList h1 hc
  | ref i =>
    cases r with
    | ref hp =>
      cases hy : h[i]? with
      | none => simp [tyOf, hy] at e
      | some u =>
        have q := rh.at' i _ _ hy hp
        cases u with
        | lst ys =>
          simp [tyOf, hy] at e
          subst e
          obtain ⟨vs, h1, _⟩ := q
          exact .base (.lst h1)
        | dct ys =>
          simp [tyOf, hy] at e
          subst e
          obtain ⟨ws, h1, _⟩ := q
          exact .base (.dK h1)
def Ty.name : Ty → Str
  | .int => "int" | .bool => "bool" | .str => "str" | .tuple => "tuple" | .list => "list"
theorem Ty.boot (t : Ty) : bootBuiltins t.name = some (.type t.word) := by cases t <;> decide +kernel
section
variable {X : Cx} {xi : XI} {a : Expr} {fa : Ev → IH → Res PV} {p p2 pos : Pos}
theorem se_isin (t : Ty) (hg : Gl X "isinstance") (hm : X.mg "isinstance" = none) (hg2 : Gl X t.name) (hm2 : X.mg t.name = none) (hn : notStar a = true) (ha : PE X a (tE X.K xi fa)) :
    PE X (.Call (.Name "isinstance" p) [a, .Name t.name p2] [] pos) (tE X.K xi fun ev h => (fa ev h).bind fun x h1 => isF t x h1) := by
  have hw : PE X (.Name t.name p2) (tC (.ty t.word)) := pe_bltn hg2 hm2 t.boot rfl (by cases t <;> decide) (by cases t <;> decide)
  have q := pe_callB (pos := pos) (p := p) call_isi hg hm boot_isinstance (pa_cons ha (pa_cons hw pa_nil (star_cons rfl)) (star_cons hn)) (by decide) (by decide) (star_cons hn) (plain_of (es := [.Name t.name p2]) rfl)
  refine PEm q fun st H Q ⟨ev, m, h, re, rh, q⟩ => ?_
  refine tE_bind re rh q fun v x m1 H1 h1 g1 re1 rh1 rx p1 => ?_
  unfold isF at p1
  cases e : tyOf h1 x with
  | none => rw [e] at p1; exact p1.elim
  | some n =>
    rw [e] at p1
    exact ⟨v, .ty t.word, .type n, .type t.word, _, rfl, .ty t.word, ty_of rh1 rx e, kit_ty (kit_all t n (tyOf_mem e)), p1.now rh1 _ .bl⟩
end
end Vm

set_option Elab.async false
set_option linter.all false
set_option maxRecDepth 100000
set_option maxHeartbeats 8000000
/-! VmW: set(list of texts), sorted of it. -/
namespace Vm
open PySem PySem.Spec PyProof.Rows L2

/-- an entry's text -/
def txE (e : Int × Value) : Str := match e.2 with
  | .str z _ => z
  | _ => Str.empty
def TxOk (P : Program) (w : World) (e : Int × Value) : Prop := ∃ z t, e.2 = Value.str z t ∧ e.1 = (PySem.strKind P w).hash z
/-- a set of texts, as its table stands -/
def TxS (P : Program) (w : World) (h : Heap) (a : Addr) (M : Str → Bool) (c : Nat) : Prop :=
  ∃ ob tb ep t, h.get? a = some ob ∧ ob.ExactSet ∧ ob.data = .set tb ep t ∧ (∀ e ∈ tb.toList, TxOk P w e) ∧ (tb.toList.map txE).Nodup ∧ (∀ z, M z = true ↔ z ∈ tb.toList.map txE) ∧
    tb.size < scanBound ∧ t.fits tb.size = true ∧ tb.size = c ∧ Ris t.place.toList ∧ (w.params.followText "set-order" = true ∨ t.led = true)
section
variable {P : Program} {w : World} {h h' : Heap} {a : Addr} {M : Str → Bool} {c : Nat}
theorem TxS.stay (R : TxS P w h a M c) (k : ∀ ob, h.get? a = some ob → h'.get? a = some ob) : TxS P w h' a M c := by
  obtain ⟨ob, tb, ep, t, ho, r⟩ := R
  exact ⟨ob, tb, ep, t, k ob ho, r⟩
theorem TxS.as {M' : Str → Bool} (R : TxS P w h a M c) (e : ∀ z, M' z = M z) : TxS P w h a M' c := by
  have : M' = M := funext e
  rw [this]
  exact R
theorem tx_elems {l : List (Int × Value)} (g : ∀ e ∈ l, TxOk P w e) : ElemsOf (PySem.strKind P w) l := fun e he => by
  obtain ⟨z, t, e1, e2⟩ := g e he
  exact ⟨⟨z, by rw [e1]; exact strKind_is P w z t, e2⟩, by rw [e1]; rfl⟩
theorem tx_is {e : Int × Value} (g : TxOk P w e) (z : Str) : (PySem.strKind P w).is z e.2 = true ↔ txE e = z := by
  obtain ⟨y, t, e1, _⟩ := g
  have his : (PySem.strKind P w).is y e.2 = true := by rw [e1]; exact strKind_is P w y t
  have ek : txE e = y := by unfold txE; rw [e1]
  rw [ek]
  constructor
  · intro q
    have := KeyKind.is_eq_decide his z
    rw [this] at q
    exact (of_decide_eq_true q).symm
  · intro q
    rw [← q]
    exact his
theorem tx_mem {l : List (Int × Value)} (g : ∀ e ∈ l, TxOk P w e) (z : Str) : z ∈ l.map txE ↔ ∃ e ∈ l, (PySem.strKind P w).is z e.2 = true := by
  constructor
  · intro q
    obtain ⟨e, he, q⟩ := List.mem_map.mp q
    exact ⟨e, he, (tx_is (g e he) z).mpr q⟩
  · intro ⟨e, he, q⟩
    exact List.mem_map.mpr ⟨e, he, (tx_is (g e he) z).mp q⟩
end
section
variable {P : Program} {w : World} {A : Around} {E : Value → Shared → Prop} {s : Shared} {a : Addr} {M : Str → Bool} {c : Nat}
theorem tx_tail {gv : Bool → Sem Unit} (hg : ∀ (b : Bool) (s1 : Shared) (Q1 : Unit → Shared → Prop), Q1 () s1 → wpAny (model P w) A (gv b) Q1 E s1)
    {ob : Obj} {tb : Array (Int × Value)} {ep : Nat} {t : SetTable} (ho : s.heap.get? a = some ob) (hx : ob.ExactSet) (hd : ob.data = .set tb ep t)
    {tb1 : Array (Int × Value)} {t1 : SetTable} {M1 : Str → Bool} (ok1 : ∀ e ∈ tb1.toList, TxOk P w e) (nd1 : (tb1.toList.map txE).Nodup) (m1 : ∀ z, M1 z = true ↔ z ∈ tb1.toList.map txE)
    (sm1 : tb1.size < scanBound) (ft1 : t1.fits tb1.size = true) (ri1 : Ris t1.place.toList) (ld1 : w.params.followText "set-order" = true ∨ t1.led = true) {wd : Bool} {R : Option Bool → Shared → Prop}
    (hR : ∀ h1, Heap.SameBut a s.heap h1 → TxS P w h1 a M1 tb1.size → R (some true) { s with heap := h1 }) :
    wpAny (model P w) A (storeSet a tb1 t1 >>= fun _ => if (!wd && t1.tooFull) = true then (do
        gv (relayAll t1 tb1 (SetTable.grown tb1.size)).2.2
        storeSet a (relayAll t1 tb1 (SetTable.grown tb1.size)).1 (relayAll t1 tb1 (SetTable.grown tb1.size)).2.1
        pure (some true)) else pure (some true)) R E s := by
  refine wpAny_bind (wpAny_storeSet_of ho hd ?_ (fits_of_scanBound sm1))
  have ho1 := store_at (es' := tb1) (t' := t1) ho hd
  have sb1 := Heap.SameBut.update s.heap a (Obj.putSet tb1 t1)
  split
  · have q1 := relayAll_perm t1 tb1 (SetTable.grown tb1.size)
    have q2 := relayAll_fits t1 tb1 (SetTable.grown tb1.size)
    have q3 := relayAll_ris t1 tb1 (SetTable.grown tb1.size)
    have q4 := relayAll_led t1 tb1 (SetTable.grown tb1.size)
    generalize relayAll t1 tb1 (SetTable.grown tb1.size) = Z at q1 q2 q3 q4 ⊢
    obtain ⟨tb2, t2, gw⟩ := Z
    dsimp only at q1 q2 q3 q4 ⊢
    have sz : tb2.size = tb1.size := by rw [← Array.length_toList, q1.length_eq, Array.length_toList]
    have sm2 : tb2.size < scanBound := by omega
    refine wpAny_bind (hg _ _ _ ?_)
    refine wpAny_bind (wpAny_storeSet_of ho1 rfl ?_ (fits_of_scanBound sm2))
    have ho2 := store_at (es' := tb2) (t' := t2) ho1 rfl
    refine wpAny_pure (hR _ (sb1.trans (Heap.SameBut.update _ a _)) ?_)
    refine ⟨_, tb2, _, t2, ho2, hx, rfl, fun e he => ok1 e (q1.mem_iff.mp he), (q1.map txE).nodup_iff.mpr nd1, fun z => (m1 z).trans (q1.map txE).mem_iff.symm, sm2, q2, sz, q3, ?_⟩
    rcases ld1 with z | z
    · exact .inl z
    · exact .inr (by rw [q4]; exact z)
  · exact wpAny_pure (hR _ sb1 ⟨_, tb1, _, t1, ho1, hx, rfl, ok1, nd1, m1, sm1, ft1, rfl, ri1, ld1⟩)

theorem tx_put {z : Str} {tk : Tok} {Q : Bool → Shared → Prop} (R : TxS P w s.heap a M c) (room : c + 1 < scanBound)
    (hQ : ∀ h1, Heap.SameBut a s.heap h1 → TxS P w h1 a (fun j => M j || decide (j = z)) (if M z = true then c else c + 1) → Q (!M z) { s with heap := h1 }) :
    wpAny (model P w) A (setAddHashed a (.str z tk) ((PySem.strKind P w).hash z)) Q E s := by
  obtain ⟨ob, tb, ep, t, ho, hx, hd, g, nd, hm, sm, ft, hn, ri, ld⟩ := R
  have key : (PySem.strKind P w).is z (.str z tk) = true := strKind_is P w z tk
  have sc : (Value.str z tk).scannable = true := rfl
  have el : ElemsOf (PySem.strKind P w) tb.toList := tx_elems g
  unfold setAddHashed setAddHashedIn
  refine wpAny_holding (wpAny_bind (wpAny_setState_of ho hd ft ?_))
  dsimp only
  rw [byScan_of sc sm el]
  simp only [↓reduceIte]
  unfold setAddByScan
  refine wpAny_bind (wpAny_bind (wpAny_rule (wpAny_bind (wpAny_setScan_of key ho hd ft el ?_))))
  cases fi : List.findIdx? (fun e => (PySem.strKind P w).is z e.2) tb.toList with
  | some j =>
    dsimp only
    obtain ⟨hj, pj, _⟩ := List.findIdx?_eq_some_iff_getElem.mp fi
    have hz : M z = true := (hm z).mpr ((tx_mem g z).mpr ⟨tb.toList[j], List.getElem_mem hj, pj⟩)
    refine wpAny_pure (wpAny_pure ?_)
    have q := hQ s.heap (Heap.SameBut.refl a s.heap) ⟨ob, tb, ep, t, ho, hx, hd, g, nd, fun i => ?_, sm, ft, by rw [if_pos hz]; exact hn, ri, ld⟩
    · rw [hz] at q
      exact q
    · rw [Bool.or_eq_true, decide_eq_true_eq, ← hm i]
      exact ⟨fun y => y.elim id (fun e => by rw [e]; exact hz), .inl⟩
  | none =>
    dsimp only
    have nz : z ∉ tb.toList.map txE := fun y => by
      obtain ⟨e, he, q⟩ := (tx_mem g z).mp y
      have d := List.findIdx?_eq_none_iff.mp fi e he
      rw [q] at d
      cases d
    have hz : M z = false := by
      cases q : M z with
      | false => rfl
      | true => exact absurd ((hm z).mp q) nz
    have gw : ∀ (b : Bool) {s1 : Shared} {Q1 : Unit → Shared → Prop}, Q1 () s1 → wpAny (model P w) A (match b with | true => rule "set.scan.the-table-gave-way" | false => pure ()) Q1 E s1 :=
      fun b s1 Q1 q => by
        cases b
        · exact wpAny_pure q
        · exact wpAny_rule q
    have q1 := layNew_perm t tb ((PySem.strKind P w).hash z) (.str z tk)
    have q2 := layNew_fits t tb ((PySem.strKind P w).hash z) (.str z tk)
    have q3 := layNew_ris t tb ((PySem.strKind P w).hash z) (.str z tk) ri
    have q4 := layNew_led t tb ((PySem.strKind P w).hash z) (.str z tk)
    generalize layNew t tb ((PySem.strKind P w).hash z) (.str z tk) = Z at q1 q2 q3 q4 ⊢
    obtain ⟨tb1, t1, wd, gave⟩ := Z
    dsimp only at q1 q2 q3 q4 ⊢
    rw [Array.toList_push] at q1
    have pc : tb1.toList.Perm (((PySem.strKind P w).hash z, Value.str z tk) :: tb.toList) := q1.trans (List.perm_append_singleton _ _)
    have pk : (tb1.toList.map txE).Perm (z :: tb.toList.map txE) := pc.map txE
    have ok1 : ∀ e ∈ tb1.toList, TxOk P w e := fun e he => by
      rcases List.mem_cons.mp (pc.mem_iff.mp he) with y | y
      · rw [y]; exact ⟨z, tk, rfl, rfl⟩
      · exact g e y
    have nd1 : (tb1.toList.map txE).Nodup := pk.nodup_iff.mpr (List.nodup_cons.mpr ⟨nz, nd⟩)
    have m1 : ∀ i, (M i || decide (i = z)) = true ↔ i ∈ tb1.toList.map txE := fun i => by
      rw [pk.mem_iff, Bool.or_eq_true, decide_eq_true_eq, hm i, List.mem_cons]
      exact Or.comm
    have sz : tb1.size = c + 1 := by rw [← Array.length_toList, pc.length_eq, List.length_cons, Array.length_toList, hn]
    have sm1 : tb1.size < scanBound := by omega
    have ld1 : w.params.followText "set-order" = true ∨ t1.led = true := by
      rcases ld with y | y
      · exact .inl y
      · exact .inr (by rw [q4]; exact y)
    have fin : ∀ h1, Heap.SameBut a s.heap h1 → TxS P w h1 a (fun j => M j || decide (j = z)) tb1.size → Q true { s with heap := h1 } := fun h1 sb r => by
      have q := hQ h1 sb
      rw [hz] at q
      rw [sz] at r
      exact q r
    refine wpAny_bind (gw _ ?_)
    split
    · refine wpAny_bind ?_
      rw [hashByValue_scannable 8 sc]
      refine wpAny_pure ?_
      refine tx_tail ?_ ho hx hd ok1 nd1 m1 sm1 ?_ ?_ ?_ ?_
      · intro b s1 Q1 q
        cases b
        · exact wpAny_pure q
        · exact wpAny_rule q
      · first | (split <;> first | exact q2 | exact SetTable.fits_plain_off q2) | exact q2
      · first | (split <;> exact q3) | exact q3
      · first | (split <;> exact ld1) | exact ld1
      · intro h1 sb r
        dsimp only
        exact wpAny_pure (fin h1 sb r)
    · refine wpAny_bind (wpAny_pure ?_)
      simp only [↓reduceIte]
      refine tx_tail ?_ ho hx hd ok1 nd1 m1 sm1 q2 q3 ld1 ?_
      · intro b s1 Q1 q
        cases b
        · exact wpAny_pure q
        · exact wpAny_rule q
      · intro h1 sb r
        dsimp only
        exact wpAny_pure (fin h1 sb r)
end

/-! ### set(xs), xs a list of texts -/
section
variable {P : Program} {w : World} {A : Around} {E : Value → Shared → Prop} {s : Shared}
theorem tx_fill {I : Addr} {fp wr : List Addr} {G : Array GenState → Array GenState → Prop} {n : Nat} {Pv : Nat → Value → Prop} {St : Nat → Shared → Prop} {R : Result → Shared → Prop}
    (W : WalksS P w A.in1 I fp wr G n Pv St) (D : Addr) (hf : D ∉ fp) (zs : List Str) (hn : n = zs.length) (hb : zs.length + 1 < scanBound) (val : ∀ i v, Pv i v → ∃ z t, zs[i]? = some z ∧ v = .str z t) :
    ∀ (k i : Nat) (s : Shared), n - i = k → i ≤ n → St i s → (∃ c, c ≤ i ∧ TxS P w s.heap D (fun j => decide (j ∈ zs.take i)) c) →
      (∀ s1 c, Moved (D :: wr) G s s1 → c ≤ n → TxS P w s1.heap D (fun j => decide (j ∈ zs)) c → R (.ok (.ret .none)) s1) →
      codeAny (model P w) A (.builtin "set.update.loop" ⟨[.ref D, .ref I], []⟩) R s := by
  have hw : D ∉ wr := fun q => hf (W.sub _ q)
  have sub : ∀ b ∈ wr, b ∈ D :: wr := fun b q => List.mem_cons_of_mem _ q
  intro k
  induction k with
  | zero =>
    intro i s hk hi st ⟨c, hc, T⟩ hR
    have hin : i = n := by omega
    subst hin
    refine codeAny_builtin F.entry_set_update_loop ?_
    rw [Around.under_plainId F.plain_set_update_loop _]
    show wpAny _ A.in1 (pyNext (.ref I) >>= _) _ _ s
    refine wpAny_bind (W.done s _ _ st fun s1 mv => ?_)
    show wpAny _ A.in1 (ret Value.none) _ _ s1
    rw [List.take_of_length_le (show zs.length ≤ i by omega)] at T
    exact wpAny_pure (hR s1 c (mv.mono sub) hc (T.stay fun ob e => mv.heap D ob hw e))
  | succ k ih =>
    intro i s hk hi st ⟨c, hc, T⟩ hR
    have lt : i < n := by omega
    refine codeAny_builtin F.entry_set_update_loop ?_
    rw [Around.under_plainId F.plain_set_update_loop _]
    show wpAny _ A.in1 (pyNext (.ref I) >>= _) _ _ s
    refine wpAny_bind (W.item i s _ _ lt st fun v s1 pv st1 mv => ?_)
    obtain ⟨z, t, hz, rfl⟩ := val i v pv
    have T1 : TxS P w s1.heap D (fun j => decide (j ∈ zs.take i)) c := T.stay fun ob e => mv.heap D ob hw e
    show wpAny _ A.in1 (holding [Value.str z t] (setAdd D (.str z t)) >>= _) _ _ s1
    refine wpAny_bind (wpAny_holding ?_)
    unfold setAdd
    refine wpAny_holding (wpAny_bind ((PySem.strKind P w).pyHash (k := z) (strKind_is _ _ _ _) ?_))
    refine tx_put (s := { s1 with toks := s1.toks + 1 }) T1 (by omega) fun h1 sb T2 => ?_
    have T3 : TxS P w h1 D (fun j => decide (j ∈ zs.take (i + 1))) (if decide (z ∈ zs.take i) = true then c else c + 1) := T2.as fun j => by
      rw [List.take_add_one, hz]
      simp [List.mem_append]
    have hc3 : (if decide (z ∈ zs.take i) = true then c else c + 1) ≤ i + 1 := by
      split
      · omega
      · omega
    refine wpAny_pure ⟨plainId_quiet F.plain_set_update_loop _, ih (i + 1) _ (by omega) lt (W.frame _ s1 _ _ st1 (Nat.le_succ _) fun b q ob e => ?_) ⟨_, hc3, T3⟩ fun s2 c2 mv2 hc2 T4 => ?_⟩
    · rw [sb.2 b (fun y : b = D => hf (by rw [← y]; exact q))]
      exact e
    · refine hR s2 c2 (Moved.trans W.gtrans ((mv.mono sub).then_heap (Nat.le_succ _) fun b ob q e => ?_) mv2) hc2 T4
      rw [sb.2 b (fun y : b = D => q (by rw [y]; exact List.mem_cons_self))]
      exact e
/-- an empty set, as it is made -/
abbrev voidS (w : World) : Obj := { cls := .type "set", dict := none, data := .set #[] 0 (.fresh 0 0 (!w.params.followText "set-order")) }
theorem tx_void {h : Heap} {a : Addr} (e : h.get? a = some (voidS w)) : TxS P w h a (fun _ => false) 0 := by
  refine ⟨_, #[], 0, _, e, ⟨rfl, rfl, rfl⟩, rfl, fun x hx => by simp at hx, by simp, fun z => by simp, by decide, rfl, rfl, ?_, ?_⟩
  · exact List.Pairwise.nil
  · cases q : w.params.followText "set-order" with
    | true => exact .inl rfl
    | false => exact .inr rfl
theorem strs_in : ∀ {us : List Value} {zs : List Str}, StrsAre us zs → ∀ (i : Nat) (v : Value), us[i]? = some v → ∃ t, v = .str (zs.getD i Str.empty) t
  | _, _, .nil, i, v, e => by simp at e
  | _, _, .cons z t r, 0, v, e => by
    simp at e
    exact ⟨t, e.symm⟩
  | _, _, .cons z t r, i + 1, v, e => by
    obtain ⟨u, q⟩ := strs_in r i v (by simpa using e)
    exact ⟨u, by simpa using q⟩
theorem set_listT {l : Addr} {us : Array Value} (zs : List Str) {Q : Value → Shared → Prop} (hh : A.handled = none) (hl : s.heap.IsList l us) (hi : StrsAre us.toList zs) (hb : zs.length + 1 < scanBound)
    (q : ∀ (g : Heap) (tk c : Nat), TxS P w g s.heap.objs.size (fun j => decide (j ∈ zs)) c → c ≤ zs.length → (∀ b o, s.heap.get? b = some o → g.get? b = some o) → Q (.ref s.heap.objs.size) { s with heap := g, toks := tk }) :
    wpAny (model P w) A (call (.type "set") [.ref l]) Q E s := by
  have hn : us.size = zs.length := by
    have z := congrArg List.length hi.strs
    rw [List.length_map, Array.length_toList] at z
    exact z
  obtain ⟨c0, tl, m1⟩ := PySem.F.called_set.mro
  have m2 := PySem.F.called_set.made
  have m3 := PySem.F.called_set.sub
  refine wpAny_call (codeAny_of_tree ?_)
  show wpAny _ _ (callAny (.type "set") _) _ _ _
  refine wpAny_pure ⟨Code.quiet_builtin _ (by decide +kernel), codeAny_builtin PySem.F.entry_type_call ?_⟩
  rw [Around.under_plain (weight_type_call_type "set" [.ref l] []) rfl]
  have m4 := PySem.F.called_set.notType
  have m5 := PySem.F.called_set.canCreate
  have m6 := PySem.F.typeCall_set_1 (.ref l)
  repeat (any_goals (first | assumption | wp_step))
  refine codeAny_mono (code_set_led1 (.ref l) (E := E) (Q₁ := fun x t => x = .ref s.heap.objs.size ∧ t = { s with heap := s.heap.push (voidS w) }) ⟨rfl, rfl⟩) fun r t hr => ?_
  rcases r with e | fl
  · exact hr
  cases fl <;> try exact hr.elim
  obtain ⟨rfl, rfl⟩ := hr
  generalize hg0 : s.heap.push (voidS w) = g0
  have z0 : g0.objs.size = s.heap.objs.size + 1 := by rw [← hg0]; exact Heap.size_push ..
  have oS : g0.get? s.heap.objs.size = some (voidS w) := by rw [← hg0]; exact Heap.get?_push_size _ rfl
  have k0 : ∀ b o, s.heap.get? b = some o → g0.get? b = some o := fun b o e => by rw [← hg0]; exact Heap.get?_push_of_some _ e
  have tS : Shared.TypeIs { s with heap := g0 } (.ref s.heap.objs.size) "set" := ⟨_, oS, rfl⟩
  have m7 := PySem.F.called_set.init.lookup
  have m8 := PySem.F.called_set.init.bind (.ref s.heap.objs.size)
  repeat (any_goals (first | assumption | wp_step))
  refine codeAny_mono (codeAny_call_builtin (R := wants (fun r t => r = .none ∧ ∃ g tk c, t = { s with heap := g, toks := tk } ∧ TxS P w g s.heap.objs.size (fun j => decide (j ∈ zs)) c ∧ c ≤ zs.length ∧ (∀ b o, s.heap.get? b = some o → g.get? b = some o)) E)
    PySem.F.called_set.init.plain PySem.F.entry_set_init (check_set_init_1 tS ?_)) fun r t hr => ?_
  · obtain ⟨⟨c1, d1, e1, f1⟩, o1, h1, n1, h2⟩ := hl
    simp only at h1 h2
    subst h1 h2
    have o2 := k0 _ _ o1
    have b1 := PySem.F.sub_list_set
    have b2 := PySem.F.sub_list_frozenset
    have b3 : (Value.type "list" == Value.type "dict") = false := by decide
    have l0 : g0.IsList l us := ⟨_, o2, rfl, n1, rfl⟩
    have lS := Heap.lt_size o1
    unfold Builtin.«set.__init__» noKeywords Builtin.Frozenset.updateFrom
    generalize hw : pyIter = walk
    wp_walk
    subst hw
    refine wpAny_pyIter_list l0 (wpAny_bind (wpAny_runValue ?_))
    have nI : l ≠ g0.objs.size := by (rw [z0]; exact Nat.ne_of_lt (Nat.lt_succ_of_lt lS))
    have nS : s.heap.objs.size ∉ [g0.objs.size, l] := by
      intro z
      rcases List.mem_cons.mp z with z | z
      · exact Nat.ne_of_lt (by rw [z0]; exact Nat.lt_succ_self _) z
      · exact Nat.ne_of_gt lS (List.mem_singleton.mp z)
    refine tx_fill ((Walks.list (by simp [hh]) _ l nI us).toS) s.heap.objs.size nS zs hn hb (fun i v hv => ?_) (us.size - 0) 0 _ (by omega) (Nat.zero_le _) ⟨⟨_, Heap.get?_push_size _ rfl, rfl, rfl⟩, l0.push _⟩ ?_ ?_
    · obtain ⟨t, e⟩ := strs_in hi i v (by rw [Array.getElem?_toList]; exact hv)
      have lt : i < zs.length := by rw [← hn]; exact (Array.getElem?_eq_some_iff.mp hv).1
      refine ⟨zs[i], t, List.getElem?_eq_getElem lt, ?_⟩
      rw [e, List.getD_eq_getElem?_getD, List.getElem?_eq_getElem lt] <;> rfl
    · exact ⟨0, Nat.le_refl 0, (tx_void (Heap.get?_push_of_some _ oS)).as fun z => by simp⟩
    · rintro ⟨g, ge, dr, tk, os⟩ c mv hc hR
      obtain rfl : ge = s.gens := mv.gens
      obtain rfl : dr = s.drawn := mv.drawn
      obtain rfl : os = s.os := mv.os
      show wpAny _ _ _ _ _ _
      refine wpAny_pure ?_
      show wpAny _ _ (ret Value.none) _ _ _
      refine wpAny_pure ⟨rfl, g, tk, c, rfl, hR, by omega, fun b o e => mv.heap b o (fun z => ?_) (Heap.get?_push_of_some _ (k0 b o e))⟩
      have lb := Heap.lt_size e
      rcases List.mem_cons.mp z with z | z
      · exact Nat.ne_of_lt lb z
      · exact Nat.ne_of_lt (by rw [z0]; exact Nat.lt_succ_of_lt lb) (List.mem_singleton.mp z)
  · rcases r with e | fl
    · exact hr
    cases fl <;> try exact hr.elim
    obtain ⟨rfl, g, tk, c, rfl, hR, hc, hk⟩ := hr
    repeat (any_goals (first | assumption | wp_step))
    exact q _ _ _ hR hc hk
/-! ### sorted of it -/
theorem strs_back : ∀ (l : List Value), (∀ v ∈ l, ∃ z t, v = Value.str z t) → StrsAre l (l.map fun v => match v with | .str z _ => z | _ => Str.empty)
  | [], _ => .nil
  | v :: l, k => by
    obtain ⟨z, t, rfl⟩ := k v List.mem_cons_self
    exact .cons z t (strs_back l fun u hu => k u (List.mem_cons_of_mem _ hu))
theorem sorted_setT {a : Addr} {M : Str → Bool} {c : Nat} {Q : Value → Shared → Prop} (R : TxS P w s.heap a M c) (hh : A.handled = none)
    (hQ : ∀ s1 p (out : Array Value) (e : Nat) (zs : List Str), (∀ b o, s.heap.get? b = some o → s1.heap.get? b = some o) → s1.gens = s.gens → s1.os = s.os → s.heap.objs.size ≤ p →
      s1.heap.get? p = some (seqObj "list" out e) → StrsAre out.toList zs → sortedS zs = true → zs.Nodup → (∀ z, z ∈ zs ↔ M z = true) → zs.length = c → Q (.ref p) s1) :
    wpAny (model P w) A (call (.builtin "sorted") [.ref a]) Q E s := by
  obtain ⟨ob, tb, ep, t, ho, hx, hd, g, nd, hm, sm, ft, hn, ri, ld⟩ := R
  refine Calls.call_function_entry kind_sorted plain_sorted entry_sorted (args_sorted1 _) ?_
  unfold Builtin.«sorted»
  refine wpAny_bind (m := checkCount "sorted" 1 1 _) (wpAny_pure ?_)
  refine wpAny_bind (collect_set (A := A.in1) hh ⟨ob, ho, hx.1, hd⟩ ft sm ri ld fun s1 vs k1 hz g1 o1 pm => ?_)
  have vl : vs.length = c := by rw [pm.length_eq, List.length_map, Array.length_toList]; exact hn
  have hS : StrsAre vs (vs.map fun v => match v with | .str z _ => z | _ => Str.empty) := strs_back vs fun v hv => by
    obtain ⟨e, he, q⟩ := List.mem_map.mp (pm.mem_iff.mp hv)
    obtain ⟨z, tk, e1, _⟩ := g e he
    exact ⟨z, tk, by rw [← q]; exact e1⟩
  have pk : (vs.map fun v => match v with | .str z _ => z | _ => Str.empty).Perm (tb.toList.map txE) := by
    have q := pm.map (fun v => match v with | Value.str z _ => z | _ => Str.empty)
    rw [List.map_map] at q
    exact q
  have vz : vs.length ≤ sizeLine := by
    have : c < scanBound := by omega
    rw [vl, sizeLine_eq]
    unfold scanBound at this
    omega
  refine wpAny_bind (wpAny_newList ?_ vz)
  have oL : (s1.heap.push (seqObj "list" vs.toArray 0)).get? s1.heap.objs.size = some (seqObj "list" vs.toArray 0) := Heap.get?_push_size _ rfl
  refine wpAny_bind (wpAny_holding (wpAny_call_entry slot_list_sort ⟨_, oL, rfl⟩ entry_list_sort (list_sort_treeKAny strKind_oneLt oL hS.keysOf (fun v1 v2 rest e => keyKind_strs (by rw [← e]; exact hS)) vz fun st hp hs => ⟨_, rfl, ?_⟩) (args_list_sort _)))
  obtain ⟨zs, a1, a2, a3⟩ := sorted_out_str hS hp hs
  obtain ⟨e, he⟩ := sortedHeap_at (vs := vs) (out := (arrOf st).map (·.2)) oL
  have pn : zs.Perm (tb.toList.map txE) := a2.trans pk
  refine wpAny_pure ⟨_, rfl, hQ _ s1.heap.objs.size ((arrOf st).map (·.2)) e zs (fun b u q => ?_) g1 o1 hz he a1 a3 (pn.nodup_iff.mpr nd) (fun z => by rw [pn.mem_iff, ← hm z]) ?_⟩
  · have q1 := k1 b u q
    have lt := Heap.lt_size q1
    show (sortedHeap (s1.heap.push (seqObj "list" vs.toArray 0)) s1.heap.objs.size vs ((arrOf st).map (·.2))).get? b = some u
    rw [sortedHeap_old (Nat.ne_of_lt lt) (by rw [size_push']; exact Nat.lt_succ_of_lt lt)]
    exact Heap.get?_push_of_some _ q1
  · rw [pn.length_eq, List.length_map, Array.length_toList]
    exact hn
end
end Vm

set_option Elab.async false
set_option linter.all false
set_option maxRecDepth 100000
set_option maxHeartbeats 8000000
/-! VmN: texts, dicts with text keys, x in xs, pop, extend. -/
namespace Vm
open PySem PySem.Spec PyProof.Rows L2
variable [Tbs]
section
variable {X : Cx} {K : PySem.W.Frag} {xi : XI} {a b e : Expr} {fa fb : Ev → IH → Res PV} {pos p p2 cpos apos : Pos} {m : List Addr} {H : Hp} {h : IH}
/-! ### x in xs -/
theorem flat_rep {x : PV} {v u : V} (r : Rep K m H v x) (q : flatP x = some u) : v = u ∧ flatV u = true := by
  cases x <;> first | (cases q; done) | (cases r; cases q; exact ⟨rfl, rfl⟩)
theorem flats_rep : ∀ {vs : List V} {xs : List PV} {us : List V}, Reps K m H vs xs → flatsP xs = some us → vs = us ∧ us.all flatV = true
  | _, _, us, .nil, q => by cases q; exact ⟨rfl, rfl⟩
  | _, _, us, .cons (v := v) (x := x) (vs := vs) (xs := xs) r t, q => by
    unfold flatsP at q
    cases e1 : flatP x with
    | none => rw [e1] at q; cases q
    | some w =>
      cases e2 : flatsP xs with
      | none => rw [e1, e2] at q; cases q
      | some ws =>
        rw [e1, e2] at q
        cases q
        obtain ⟨rfl, f1⟩ := flat_rep r e1
        obtain ⟨rfl, f2⟩ := flats_rep t e2
        exact ⟨rfl, by rw [List.all_cons, f1, f2]; rfl⟩
theorem ok_contV {neg : Bool} {x y : PV} {vx vy : V} {Q : VK} (rh : RelH K m H h) (rx : Rep K m H vx x) (ry : Rep K m H vy y) (q : Post K xi m H (contV neg x y h) fun z m' H' => ∀ v, Rep K m' H' v z → Q v H') : rIn K neg vx vy H Q := by
  unfold contV at q
  cases e1 : flatP x with
  | none => rw [e1] at q; exact q.elim
  | some u =>
    rw [e1] at q
    cases e2 : (rd h y).bind flatsP with
    | none => rw [e2] at q; exact q.elim
    | some us =>
      rw [e2] at q
      cases e3 : rd h y with
      | none => rw [e3] at e2; cases e2
      | some ys =>
        rw [e3] at e2
        obtain ⟨l, vs, rfl, hs, rs⟩ := rd_ok rh ry e3
        obtain ⟨rfl, f1⟩ := flat_rep rx e1
        obtain ⟨rfl, f2⟩ := flats_rep rs (show flatsP ys = some us from e2)
        exact ⟨l, _, rfl, hs, f1, f2, q.now rh _ .bl⟩
theorem ok_cont (neg : Bool) : OpOk K xi (contF neg) (fun x y H Q => (∃ (c : Nat) (z : Str), x = .str ⟨#[c]⟩ ∧ y = .str z ∧ Q (.bl (if neg then !decide (c ∈ z.cps.toList) else decide (c ∈ z.cps.toList))) H) ∨ rIn K neg x y H Q) := by
  intro m H h x y vx vy Q rh rx ry q
  unfold contF at q
  split at q
  · rename_i u z
    cases rx
    cases ry
    split at q
    · rename_i c e
      have eu : u = ⟨#[c]⟩ := by
        obtain ⟨⟨l⟩⟩ := u
        simp at e
        rw [e]
      subst eu
      exact .inl ⟨c, z, rfl, rfl, q.now rh _ .bl⟩
    · exact q.elim
  · exact .inr (ok_contV rh rx ry q)
theorem se_cont (hK : X.K = K) (neg : Bool) (hm : behindInMarks (if neg then .NotIn else .In) b = false) (ha : PE X a (tE K xi fa)) (hb : PE X b (tE K xi fb)) :
    PE X (.Compare a [if neg then .NotIn else .In] [b] pos) (tE K xi fun ev h => (fa ev h).bind fun x h1 => (fb ev h1).bind fun y h2 => contF neg x y h2) ∧
    PT X (.Compare a [if neg then .NotIn else .In] [b] pos) (tT K xi (bF fun ev h => (fa ev h).bind fun x h1 => (fb ev h1).bind fun y h2 => contF neg x y h2)) := by
  subst hK
  cases neg with
  | false => exact ⟨se_cmp (op_in_sign.or op_in_seq) (ok_cont false) hm ha hb, st_cmp (op_in_sign.or op_in_seq) (ok_cont false) hm ha hb⟩
  | true => exact ⟨se_cmp (op_notIn_sign.or op_notIn_seq) (ok_cont true) hm ha hb, st_cmp (op_notIn_sign.or op_notIn_seq) (ok_cont true) hm ha hb⟩
/-! ### pop, index, join -/
theorem lstC_at {x : PV} {v : V} (rh : RelH K m H h) (rx : Rep K m H v x) (c : lstC x h = true) : ∃ r q vs xs, x = .ref r ∧ v = .ref q ∧ m[r]? = some q ∧ h[r]? = some (.lst xs) ∧ H q = some (.lst vs) ∧ Reps K m H vs xs := by
  unfold lstC at c
  split at c
  · rename_i r
    split at c
    · rename_i xs e
      obtain ⟨q, vs, rfl, hm, hq, rv⟩ := lst_at rh rx e
      exact ⟨r, q, vs, xs, rfl, rfl, hm, e, hq, rv⟩
    · cases c
  · cases c
theorem reps_erase : ∀ {vs : List V} {xs : List PV} (i : Nat), Reps K m H vs xs → Reps K m H (vs.eraseIdx i) (xs.eraseIdx i)
  | _, _, _, .nil => .nil
  | _, _, 0, .cons r t => t
  | _, _, i + 1, .cons r t => .cons r (reps_erase i t)
theorem se_pop (hK : X.K = K) (hn : notStar e = true) (hline : (apos.endLine == cpos.line) = true) (hbase : attributeBase a "pop" X.env (eval a X.env) = eval a X.env) (ha : PE X a (tE K xi fa)) (he : PE X e (tE K xi fb)) :
    PE X (.Call (.Attribute a "pop" apos) [e] [] cpos) (tE K xi fun ev h => (fa ev h).bind fun x h1 => if lstC x h1 = true then (fb ev h1).bind fun y h2 => popF x y h2 else .stuck) := by
  subst hK
  refine PEm (pe_bm PySem.F.plainAttrs_list PySem.F.slot_list_pop PySem.F.type_list_pop mt_popAt ha (pa_cons he pa_nil (star_cons hn)) hbase (by rw [star_cons hn]; rfl) hline (star_cons hn) rfl) fun st H Q ⟨ev, m, h, re, rh, q⟩ => ?_
  refine tE_bind re rh q fun vx x m1 H1 h1 g1 re1 rh1 rx p1 => ?_
  obtain ⟨hc, p1⟩ := Post.ite p1
  obtain ⟨r, l, vs, xs, rfl, rfl, hm, eh, hl, rv⟩ := lstC_at rh1 rx hc
  refine ⟨.inl ⟨rfl, vs, .inl (.inl hl)⟩, ?_⟩
  refine tE_bind re1 rh1 p1 fun vy y m2 H2 h2 g2 re2 rh2 ry p2 => ?_
  have hm2 := g2.at hm
  cases y <;> try exact p2.elim
  rename_i j
  cases ry
  unfold popF at p2
  dsimp only at p2
  cases eh2 : h2[r]? with
  | none => rw [eh2] at p2; exact p2.elim
  | some ob =>
    cases ob with
    | dct _ => rw [eh2] at p2; exact p2.elim
    | lst ys =>
      rw [eh2] at p2
      dsimp only at p2
      obtain ⟨⟨h0, h3, h4⟩, p2⟩ := Post.ite p2
      obtain ⟨us, hu, ru⟩ := rh2.at' r _ _ eh2 hm2
      cases ey : ys[j.toNat]? with
      | none => rw [ey] at p2; exact p2.elim
      | some z =>
        rw [ey] at p2
        obtain ⟨w, ew, rw'⟩ := ru.get ey
        obtain ⟨rl, gl⟩ := rh2.wrote eh2 hm2 (reps_erase j.toNat ru)
        have hl2 := ru.length
        have h63 := line63
        refine ⟨l, us, j, j.toNat, w, rfl, rfl, hu, by omega, by omega, ?_, ew, ?_⟩
        · exact seqIndex_of h0 (by omega)
        · exact p2 m2 _ gl rl w (rw'.grow gl)
theorem strs_ok {y : PV} {v : V} {zs : List Str} (rh : RelH K m H h) (r : Rep K m H v y) (q : (rd h y).bind strsOf = some zs) : ∃ l, v = .ref l ∧ (SqL K H l (zs.map V.str) ∨ SqT K H l (zs.map V.str)) := by
  cases e1 : rd h y with
  | none => rw [e1] at q; cases q
  | some xs =>
    rw [e1] at q
    obtain ⟨l, vs, rfl, hs, rv⟩ := rd_ok rh r e1
    have e2 := strsOf_eq (show strsOf xs = some zs from q)
    subst e2
    rw [rv.strs] at hs
    exact ⟨l, rfl, hs⟩
theorem strC_at {x : PV} {v : V} (rx : Rep K m H v x) (c : strC x = true) : ∃ z, x = .str z ∧ v = .str z := by
  cases x <;> try (cases c; done)
  cases rx
  exact ⟨_, rfl, rfl⟩
theorem se_sidx (hn : notStar e = true) (hline : (apos.endLine == cpos.line) = true) (hbase : attributeBase a "index" X.env (eval a X.env) = eval a X.env) (ha : PE X a (tE K xi fa)) (he : PE X e (tE K xi fb)) :
    PE X (.Call (.Attribute a "index" apos) [e] [] cpos) (tE K xi fun ev h => (fa ev h).bind fun x h1 => if strC x = true then (fb ev h1).bind fun y h2 => sidxF x y h2 else .stuck) := by
  refine PEm (pe_m1 PySem.F.slot_str_index PySem.F.type_str_index mt_sindex ha he (star_cons hn) hbase hline) fun st H Q ⟨ev, m, h, re, rh, q⟩ => ?_
  refine tE_bind re rh q fun vx x m1 H1 h1 g1 re1 rh1 rx p1 => ?_
  obtain ⟨hc, p1⟩ := Post.ite p1
  obtain ⟨z, rfl, rfl⟩ := strC_at rx hc
  refine ⟨⟨z, rfl⟩, ?_⟩
  refine tE_bind re1 rh1 p1 fun vy y m2 H2 h2 g2 re2 rh2 ry p2 => ?_
  cases y <;> try exact p2.elim
  rename_i u
  cases ry
  unfold sidxF at p2
  dsimp only at p2
  split at p2
  · rename_i i rest eo
    exact ⟨z, u, i, rest, rfl, rfl, eo, p2.now rh2 _ .int⟩
  · exact p2.elim
theorem se_join (hK : X.K = K) (hn : notStar e = true) (hline : (apos.endLine == cpos.line) = true) (hbase : attributeBase a "join" X.env (eval a X.env) = eval a X.env) (ha : PE X a (tE K xi fa)) (he : PE X e (tE K xi fb)) :
    PE X (.Call (.Attribute a "join" apos) [e] [] cpos) (tE K xi fun ev h => (fa ev h).bind fun x h1 => if strC x = true then (fb ev h1).bind fun y h2 => joinF x y h2 else .stuck) := by
  subst hK
  refine PEm (pe_join ha he (star_cons hn) hbase hline) fun st H Q ⟨ev, m, h, re, rh, q⟩ => ?_
  refine tE_bind re rh q fun vx x m1 H1 h1 g1 re1 rh1 rx p1 => ?_
  obtain ⟨hc, p1⟩ := Post.ite p1
  obtain ⟨z, rfl, rfl⟩ := strC_at rx hc
  refine ⟨⟨z, rfl⟩, ?_⟩
  refine tE_bind re1 rh1 p1 fun vy y m2 H2 h2 g2 re2 rh2 ry p2 => ?_
  unfold joinF at p2
  dsimp only at p2
  cases e2 : (rd h2 y).bind strsOf with
  | none => rw [e2] at p2; exact p2.elim
  | some zs =>
    rw [e2] at p2
    obtain ⟨hz, p2⟩ := Post.ite p2
    obtain ⟨l, rfl, hs⟩ := strs_ok rh2 ry e2
    exact ⟨z, l, zs, rfl, rfl, hs, hz, p2.now rh2 _ .str⟩
theorem bindA {α β γ : Type} (r : Res α) (f : α → IH → Res β) (g : β → IH → Res γ) : (r.bind f).bind g = r.bind fun a h => (f a h).bind g := by cases r <;> rfl
/-! ### not xs -/
theorem se_nemp (hK : X.K = K) (ha : PE X a (tE K xi fa)) : PE X (.UnaryOp .Not a pos) (tE K xi fun ev h => (fa ev h).bind fun x h1 => nempF x h1) := by
  subst hK
  refine PEm (pe_notT ha) fun st H Q ⟨ev, m, h, re, rh, q⟩ => ?_
  refine tE_bind re rh q fun vx x m1 H1 h1 g1 re1 rh1 rx p1 => ?_
  unfold nempF at p1
  cases e1 : rd h1 x with
  | none => rw [e1] at p1; exact p1.elim
  | some xs =>
    rw [e1] at p1
    obtain ⟨l, vs, rfl, hs, rv⟩ := rd_ok rh1 rx e1
    have ee : vs.isEmpty = xs.isEmpty := by cases rv <;> rfl
    have fin : Q (.bl (!(!vs.isEmpty))) H1 := by
      rw [Bool.not_not, ee]
      exact p1.now rh1 _ .bl
    rcases hs with hs | hs
    · exact ⟨_, .inl ⟨vs, hs, rfl⟩, fin⟩
    · exact ⟨_, .inr (.inl ⟨vs, hs, rfl⟩), fin⟩
theorem st_nemp (hK : X.K = K) (hi : ∀ whole, isTrue a X.env whole = (do let v ← whole; standAt a.pos; holding [v] (truthy v))) (ha : PE X a (tE K xi fa)) : PT X (.UnaryOp .Not a pos) (tT K xi (bF fun ev h => (fa ev h).bind fun x h1 => nempF x h1)) := by
  subst hK
  refine PTm (pt_not (pt_truth ha hi)) fun st H Q ⟨ev, m, h, re, rh, q⟩ => ?_
  dsimp only [bF] at q
  rw [bindA] at q
  refine tE_bind re rh q fun vx x m1 H1 h1 g1 re1 rh1 rx p1 => ?_
  unfold nempF at p1
  cases e1 : rd h1 x with
  | none => rw [e1] at p1; exact p1.elim
  | some xs =>
    rw [e1] at p1
    obtain ⟨l, vs, rfl, hs, rv⟩ := rd_ok rh1 rx e1
    have ee : vs.isEmpty = xs.isEmpty := by cases rv <;> rfl
    have fin : Q (!(!vs.isEmpty)) H1 := by
      rw [Bool.not_not, ee]
      exact Post.now p1 rh1
    rcases hs with hs | hs
    · exact ⟨_, .inl ⟨vs, hs, rfl⟩, fin⟩
    · exact ⟨_, .inr (.inl ⟨vs, hs, rfl⟩), fin⟩
end

/-! ### dicts with text keys -/
abbrev KVs (K : PySem.W.Frag) (m : List Addr) (H : Hp) : List (Key × V) → List (Str × PV) → Prop := Paired fun a b => a.1 = .inr b.1 ∧ Rep K m H a.2 b.2
section
variable {X : Cx} {K : PySem.W.Frag} {xi : XI} {a b e : Expr} {fa fb : Ev → IH → Res PV} {pos p p2 cpos apos : Pos} {m m' : List Addr} {H H' : Hp} {h : IH}
theorem kvs_len {ws : List (Key × V)} {kvs : List (Str × PV)} (r : KVs K m H ws kvs) : ws.length = kvs.length := Paired.length r
theorem kvs_get : ∀ {ws : List (Key × V)} {kvs : List (Str × PV)} {k : Str} {x : PV}, KVs K m H ws kvs → kvs.lookup k = some x → ∃ v, valV ws (Sum.inr k : Key) = some v ∧ Rep K m H v x
  | _, _, k, x, .nil, q => by cases q
  | _, _, k, x, .cons (a := a) (b := b) r t, q => by
    obtain ⟨a1, a2⟩ := a
    obtain ⟨b1, b2⟩ := b
    obtain ⟨r1, r2⟩ := r
    dsimp only at r1 r2
    subst r1
    by_cases hk : k = b1
    · subst hk
      rw [List.lookup_cons_self] at q
      cases q
      exact ⟨a2, valV_pos rfl, r2⟩
    · have hk' : (k == b1) = false := beq_eq_false_iff_ne.mpr hk
      rw [List.lookup_cons, hk'] at q
      obtain ⟨v, e1, e2⟩ := kvs_get t q
      refine ⟨v, ?_, e2⟩
      rw [valV_neg (fun z => hk (Sum.inr.inj z).symm)]
      exact e1
theorem kvs_any : ∀ {ws : List (Key × V)} {kvs : List (Str × PV)} (k : Str), KVs K m H ws kvs → (ws.any fun kv => decide (kv.1 = (Sum.inr k : Key))) = kvs.any fun q => decide (q.1 = k)
  | _, _, k, .nil => rfl
  | _, _, k, .cons (a := a) (b := b) r t => by
    rw [List.any_cons, List.any_cons, kvs_any k t, r.1]
    congr 1
    by_cases hk : b.1 = k
    · simp [hk]
    · have : ¬ ((Sum.inr b.1 : Key) = Sum.inr k) := fun z => hk (Sum.inr.inj z)
      simp [hk]
theorem kvs_set {v : V} {x : PV} (rv : Rep K m H v x) : ∀ {ws : List (Key × V)} {kvs : List (Str × PV)} (k : Str), KVs K m H ws kvs → KVs K m H (ws.map fun kv => if kv.1 = (Sum.inr k : Key) then (kv.1, v) else kv) (dsetK kvs k x)
  | _, _, k, .nil => .nil
  | _, _, k, .cons (a := a) (b := b) r t => by
    obtain ⟨a1, a2⟩ := a
    obtain ⟨b1, b2⟩ := b
    obtain ⟨r1, r2⟩ := r
    dsimp only at r1 r2
    subst r1
    refine .cons ?_ (kvs_set rv k t)
    by_cases hk : b1 = k
    · subst hk
      simp
      exact rv
    · have : ¬ ((Sum.inr b1 : Key) = Sum.inr k) := fun z => hk (Sum.inr.inj z)
      simp [hk]
      exact r2
theorem kvs_grow (g : Grow m H m' H') {ws : List (Key × V)} {kvs : List (Str × PV)} (r : KVs K m H ws kvs) : KVs K m' H' ws kvs := Paired.mapP r fun a b z => ⟨z.1, z.2.grow g⟩
/-- a dict is rewritten -/
theorem RelH.wroteD (R : RelH K m H h) {i : Nat} {p : Addr} {kvs ls : List (Str × PV)} {ws : List (Key × V)} (ei : h[i]? = some (.dct kvs)) (ep : m[i]? = some p) (r : KVs K m H ws ls) :
    RelH K m (upd H p (.dK ws)) (h.set i (.dct ls)) ∧ Grow m H m (upd H p (.dK ws)) := by
  obtain ⟨vs, e, _⟩ := R.at' i _ p ei ep
  have g : Grow m H m (upd H p (.dK ws)) := ⟨⟨[], by simp⟩, Keep.wroteD e, fun b u h _ n => ⟨by
    rw [upd_ne (show b ≠ p from fun z => n (by rw [z]; exact List.mem_of_getElem? ep))]
    exact h, n⟩⟩
  have hi : i < h.length := (List.getElem?_eq_some_iff.mp ei).1
  refine ⟨⟨by simp [R.len], R.nd, fun P hP => tab_upd (R.tb P hP) (fun ps z => by rw [e] at z; cases z), fun j u q h1 h2 => ?_⟩, g⟩
  by_cases hj : i = j
  · subst hj
    rw [ep] at h2
    cases h2
    rw [List.getElem?_set_self hi] at h1
    cases h1
    exact ⟨ws, upd_same, kvs_grow g r⟩
  · rw [List.getElem?_set_ne hj] at h1
    have rr := R.at' j u q h1 h2
    refine rr.grow g (upd_ne fun z => ?_)
    subst z
    have a1 := (List.getElem?_eq_some_iff.mp ep)
    have a2 := (List.getElem?_eq_some_iff.mp h2)
    exact hj ((List.getElem_inj R.nd).mp (a1.2.trans a2.2.symm))
/-- a dict that was not the evaluator's becomes so, filled -/
theorem RelH.takeD (R : RelH K m H h) {p : Addr} {ls : List (Str × PV)} {ws : List (Key × V)} (e : H p = some (.dK [])) (hp : p ∉ m) (r : KVs K m H ws ls) : RelH K (m ++ [p]) (upd H p (.dK ws)) (h ++ [.dct ls]) := by
  have k : Keep H (upd H p (.dK ws)) := Keep.wroteD e
  refine ⟨by simp [R.len], ?_, fun P hP => tab_upd (R.tb P hP) (fun ps z => by rw [e] at z; cases z), fun i u q h1 h2 => ?_⟩
  · rw [List.nodup_append]
    exact ⟨R.nd, by simp, fun a ha b hb => by
      have : b = p := by simpa using hb
      subst this
      intro z
      subst z
      exact hp ha⟩
  · by_cases hi : i < h.length
    · rw [List.getElem?_append_left hi] at h1
      rw [List.getElem?_append_left (by rw [R.len]; exact hi)] at h2
      refine (R.at' i u q h1 h2).grow0 ⟨[p], rfl⟩ k (upd_ne fun z => hp ?_)
      rw [← z]
      exact List.mem_of_getElem? h2
    · have hi2 : i = h.length := by
        have := (List.getElem?_eq_some_iff.mp h1).1
        simp at this
        omega
      subst hi2
      rw [← R.len] at h2
      simp at h1 h2
      subst h1
      subst h2
      exact ⟨ws, upd_same, Paired.mapP r fun a b z => ⟨z.1, z.2.grow0 ⟨[p], rfl⟩ k⟩⟩
theorem dct_at {x : PV} {v : V} {r : Nat} {kvs : List (Str × PV)} (rh : RelH K m H h) (rx : Rep K m H v (.ref r)) (e : h[r]? = some (.dct kvs)) : ∃ q ws, v = .ref q ∧ m[r]? = some q ∧ H q = some (.dK ws) ∧ KVs K m H ws kvs := by
  cases rx with
  | ref hp =>
    obtain ⟨ws, e1, e2⟩ := rh.at' r _ _ e hp
    exact ⟨_, ws, rfl, hp, e1, e2⟩
theorem se_dix {k : Str} {j : Nat} {p3 : Pos} (hu : X.A.units + 1 < cLine) (ha : PE X a (tE K xi fa)) : PE X (.Subscript a (.Constant (.str k) j p3) pos) (tE K xi fun ev h => (fa ev h).bind fun x h1 => dixF x k h1) := by
  refine PEm (pe_dget hu ha pe_str (fun _ _ => rfl)) fun st H Q ⟨ev, m, h, re, rh, q⟩ => ?_
  refine tE_bind re rh q fun vx x m1 H1 h1 g1 re1 rh1 rx p1 => ?_
  cases x <;> try exact p1.elim
  rename_i r
  unfold dixF at p1
  dsimp only at p1
  cases e1 : h1[r]? with
  | none => rw [e1] at p1; exact p1.elim
  | some o =>
    cases o with
    | lst _ => rw [e1] at p1; exact p1.elim
    | dct kvs =>
      rw [e1] at p1
      dsimp only at p1
      cases e2 : kvs.lookup k with
      | none => rw [e2] at p1; exact p1.elim
      | some y =>
        rw [e2] at p1
        obtain ⟨l, ws, rfl, hm, hl, rk⟩ := dct_at (x := .ref r) rh1 rx e1
        obtain ⟨v, e3, rv⟩ := kvs_get rk e2
        refine ⟨l, v, rfl, ?_, p1.now rh1 _ rv⟩
        rw [← e3]
        exact DGet.k (k := Sum.inr k) hl
end

section
variable {X : Cx} {K : PySem.W.Frag} {xi : XI} {a b e : Expr} {fa fb fv : Ev → IH → Res PV} {pos p p2 cpos apos : Pos} {m m' : List Addr} {H H' : Hp} {h : IH}
theorem ss_dput {o : Expr} {k : Str} {j : Nat} {p3 tpos : Pos} (hu : X.A.units + 1 < cLine) (hn : noComp e = true) (hv : PE X e (tE K xi fv)) (ho : PE X o (tE K xi fa)) :
    PS X (.Assign [.Subscript o (.Constant (.str k) j p3) tpos] e pos) (tS K xi fun ev h => (fv ev h).bind fun z h1 => (fa ev h1).bind fun x h2 => (dputF x k z h2).bind fun _ h3 => .ok (.nx ev) h3) := by
  refine PSm (ps_asg hv (pg_sub ho pe_str (set_dict hu) (by intro v; rfl)) (by show swapsWith e (some (.Subscript o (.Constant (.str k) j p3) tpos)) pos.line X.env = pure false; exact swaps_of hn _ _ _) swapped_sub rfl) fun D st H ⟨ev, m, h, re, rh, q⟩ => ?_
  refine tE_bind re rh q fun vz z m1 H1 h1 g1 re1 rh1 rz p1 => ?_
  refine tE_bind re1 rh1 p1 fun vx x m2 H2 h2 g2 re2 rh2 rx p2 => ?_
  cases x <;> try exact p2.elim
  rename_i r
  unfold dputF at p2
  dsimp only at p2
  cases e1 : h2[r]? with
  | none => rw [e1] at p2; exact p2.elim
  | some o =>
    cases o with
    | lst _ => rw [e1] at p2; exact p2.elim
    | dct kvs =>
      rw [e1] at p2
      dsimp only at p2
      by_cases hc : (kvs.any fun p => decide (p.1 = k)) = true ∧ kvs.length < sizeLine
      · rw [if_pos hc] at p2
        obtain ⟨l, ws, rfl, hm, hl, rk⟩ := dct_at (x := .ref r) rh2 rx e1
        obtain ⟨rl, gl⟩ := RelH.wroteD rh2 e1 hm (kvs_set (rz.grow g2) k rk)
        refine ⟨l, _, rfl, .inl ⟨ws, Sum.inr k, hl, rfl, by rw [kvs_len rk]; exact hc.2, rfl⟩, ?_⟩
        have ep : putK ws (Sum.inr k : Key) vz = ws.map fun kv => if kv.1 = (Sum.inr k : Key) then (kv.1, vz) else kv := by
          unfold putK
          rw [kvs_any k rk, if_pos hc.1]
        rw [ep]
        exact p2 m2 _ gl rl st (re2.grow gl)
      · rw [if_neg hc] at p2; exact p2.elim
/-- the written pairs of a display -/
def conT (ks : List (Str × Int)) : List (TE × TE) := ks.map fun p => (tC (.str p.1), tC (.int p.2))
theorem con_run : ∀ (ks : List (Str × Int)) {st : L2.St} {H : Hp} {Q : List (V × V) → Hp → Prop}, Q (ks.map fun p => (V.str p.1, V.int p.2)) H → tPairs (conT ks) st H Q
  | [], _, _, _, q => q
  | (k, i) :: ks, st, H, Q, q => con_run ks (Q := fun ps H3 => Q ((V.str k, V.int i) :: ps) H3) q
/-- written keys and ints -/
inductive ConD : List (Str × Int) → List (Option Expr) → List Expr → Prop
  | nil : ConD [] [] []
  | cons {k : Str} {i : Int} {j j2 : Nat} {p p2 : Pos} {ks : List (Str × Int)} {es : List (Option Expr)} {vs : List Expr} : ConD ks es vs → ConD ((k, i) :: ks) (some (.Constant (.str k) j p) :: es) (.Constant (.int i) j2 p2 :: vs)
theorem con_pps {ks : List (Str × Int)} {es : List (Option Expr)} {vs : List Expr} (c : ConD ks es vs) : PPs X pos es vs (conT ks) := by
  induction c with
  | nil => exact pps_nil
  | cons c ih => exact pps_cons pe_str pe_int ih
theorem con_all {ks : List (Str × Int)} {es : List (Option Expr)} {vs : List Expr} (c : ConD ks es vs) : es.all (·.isSome) = true ∧ es.length = vs.length ∧ es.length = ks.length := by
  induction c with
  | nil => exact ⟨rfl, rfl, rfl⟩
  | cons c ih => exact ⟨by rw [List.all_cons, ih.1]; rfl, by rw [List.length_cons, List.length_cons, ih.2.1], by rw [List.length_cons, List.length_cons, ih.2.2]⟩
theorem merge_nodup : ∀ (more acc : List (Key × V)), ((acc ++ more).map (·.1)).Nodup → mergeK acc more = acc ++ more
  | [], acc, _ => by rw [List.append_nil]; rfl
  | (k, v) :: more, acc, hn => by
    show mergeK (putK acc k v) more = _
    have e : putK acc k v = acc ++ [(k, v)] := by
      unfold putK
      rw [if_neg]
      intro z
      obtain ⟨q, hq, z⟩ := List.any_eq_true.mp z
      rw [List.map_append, List.map_cons, List.nodup_append] at hn
      exact hn.2.2 q.1 (List.mem_map.mpr ⟨q, hq, rfl⟩) k List.mem_cons_self (of_decide_eq_true z)
    rw [e, merge_nodup more (acc ++ [(k, v)]) (by rw [List.append_assoc]; exact hn), List.append_assoc]
    rfl
theorem con_kv (m : List Addr) (H : Hp) : ∀ ks : List (Str × Int), KVs K m H (ks.map fun p => (Sum.inr p.1, V.int p.2)) (ks.map fun p => (p.1, PV.int p.2))
  | [] => .nil
  | z :: ks => .cons ⟨rfl, .int⟩ (con_kv m H ks)
theorem con_keys {k : Str} {v : V} {ks : List (Str × Int)} (hn : (k :: ks.map (·.1)).Nodup) : ((((Sum.inr k : Key), v) :: ks.map fun p => ((Sum.inr p.1 : Key), V.int p.2)).map (·.1)).Nodup := by
  have e : (((Sum.inr k : Key), v) :: ks.map fun p => ((Sum.inr p.1 : Key), V.int p.2)).map (·.1) = (k :: ks.map (·.1)).map fun z => (Sum.inr z : Key) := by
    simp [List.map_map]
  rw [e]
  have hn' : List.Pairwise (fun a b => a ≠ b) (k :: ks.map (·.1)) := hn
  exact List.Pairwise.map (fun z => (Sum.inr z : Key)) (fun a b n z => n (Sum.inr.inj z)) hn'
theorem se_dlit {k : Str} {j : Nat} {p3 : Pos} {ks : List (Str × Int)} {es : List (Option Expr)} {vs : List Expr} (c : ConD ks es vs) (ha : PE X a (tE K xi fa)) (hl : ks.length < 15) :
    PE X (.Dict (some (.Constant (.str k) j p3) :: es) (a :: vs) pos) (tE K xi fun ev h => (fa ev h).bind fun x h1 => dlitF k x ks h1) := by
  obtain ⟨c1, c2, c3⟩ := con_all c
  refine PEm (pe_disp (trs := (tC (.str k), tE K xi fa) :: conT ks) (pps_cons pe_str ha (con_pps c)) (by rw [List.all_cons, c1]; rfl) (by rw [List.length_cons, List.length_cons, c2]) (by intro z; cases z) (by rw [List.length_cons, c3]; omega)) fun st H Q ⟨ev, m, h, re, rh, q⟩ => ?_
  intro p hp
  have gj : Grow m H m (upd H p (.dK [])) := Grow.junk hp
  have hpm : p ∉ m := fun z => by
    obtain ⟨u, hu⟩ := rh.mem z
    rw [hp] at hu; cases hu
  refine ⟨ev, m, h, re.grow gj, rh.junk hp, ?_⟩
  dsimp only at q
  cases e : fa ev h with
  | stuck => rw [e] at q; exact q.elim
  | exc cc fs h1 =>
    rw [e] at q
    exact fun m1 H1 g1 rh1 => q m1 H1 (gj.trans g1) rh1
  | ok x h1 =>
    rw [e, Res.bind_ok] at q
    intro m1 H1 g1 rh1 v rx
    refine con_run ks ?_
    obtain ⟨hd, hn⟩ := g1.fr p _ upd_same (fun _ z => nomatch z) hpm
    obtain ⟨hc, q⟩ := Post.ite q
    refine ⟨hd, (Sum.inr k, v) :: ks.map fun p => (Sum.inr p.1, V.int p.2), ?_, by rw [List.length_cons, List.length_map]; omega, ?_⟩
    · rw [List.map_cons, List.map_map]
      rfl
    · rw [merge_nodup _ [] (by rw [List.nil_append]; exact con_keys hc.1), List.nil_append]
      have kv : KVs K m1 H1 ((Sum.inr k, v) :: ks.map fun p => (Sum.inr p.1, V.int p.2)) ((k, x) :: ks.map fun p => (p.1, PV.int p.2)) := .cons ⟨rfl, rx⟩ (con_kv m1 H1 ks)
      have rl := RelH.takeD rh1 hd hn kv
      refine q _ _ (((gj.trans g1).own hp).take hp) rl _ (.ref ?_)
      rw [← rh1.len]
      simp
end

/-! ### texts in order -/
theorem ln_cons {a b : Nat} {r t : List Nat} : (a :: r < b :: t) ↔ (a < b ∨ (a = b ∧ r < t)) := by
  have e := StrLaws.lt_cons_cons a b r t
  constructor
  · intro q
    rw [decide_eq_true q] at e
    have e' := e.symm
    rw [Bool.or_eq_true, Bool.and_eq_true, decide_eq_true_eq, decide_eq_true_eq, beq_iff_eq] at e'
    exact e'
  · intro q
    refine of_decide_eq_true ?_
    rw [e, Bool.or_eq_true, Bool.and_eq_true, decide_eq_true_eq, decide_eq_true_eq, beq_iff_eq]
    exact q
theorem ln_nil (r : List Nat) : ¬ r < [] := by
  cases r with
  | nil => exact of_decide_eq_false StrLaws.lt_nil_nil
  | cons a r => exact of_decide_eq_false (StrLaws.lt_cons_nil a r)
theorem ln_pos (b : Nat) (t : List Nat) : [] < b :: t := of_decide_eq_true (StrLaws.lt_nil_cons b t)
theorem ln_irr : ∀ a : List Nat, ¬ a < a
  | [] => ln_nil []
  | a :: r => fun q => by
    rcases ln_cons.mp q with z | ⟨_, z⟩
    · omega
    · exact ln_irr r z
theorem ln_tr : ∀ {a b c : List Nat}, a < b → b < c → a < c
  | a, [], c, q, _ => absurd q (ln_nil a)
  | a, b :: s, [], _, q => absurd q (ln_nil _)
  | [], b :: s, c :: t, _, _ => ln_pos c t
  | a :: r, b :: s, c :: t, q1, q2 => by
    rcases ln_cons.mp q1 with z1 | ⟨z1, y1⟩ <;> rcases ln_cons.mp q2 with z2 | ⟨z2, y2⟩
    · exact ln_cons.mpr (.inl (by omega))
    · exact ln_cons.mpr (.inl (by omega))
    · exact ln_cons.mpr (.inl (by omega))
    · exact ln_cons.mpr (.inr ⟨by omega, ln_tr y1 y2⟩)
theorem ln_tri : ∀ {a b : List Nat}, ¬ a < b → ¬ b < a → a = b
  | [], [], _, _ => rfl
  | [], b :: t, q, _ => absurd (ln_pos b t) q
  | a :: r, [], _, q => absurd (ln_pos a r) q
  | a :: r, b :: t, q1, q2 => by
    have h1 : ¬ a < b := fun z => q1 (ln_cons.mpr (.inl z))
    have h2 : ¬ b < a := fun z => q2 (ln_cons.mpr (.inl z))
    have e : a = b := by omega
    subst e
    rw [ln_tri (fun z => q1 (ln_cons.mpr (.inr ⟨rfl, z⟩))) fun z => q2 (ln_cons.mpr (.inr ⟨rfl, z⟩))]
/-- one text below another -/
abbrev TLt (x y : Str) : Prop := x.cps.toList < y.cps.toList
theorem tl_eq {x y : Str} (h1 : ¬ TLt x y) (h2 : ¬ TLt y x) : x = y := by
  obtain ⟨⟨x⟩⟩ := x
  obtain ⟨⟨y⟩⟩ := y
  have e : x = y := ln_tri h1 h2
  rw [e]
theorem tl_le {x y z : Str} (h1 : ¬ TLt y x) (h2 : ¬ TLt z y) : ¬ TLt z x := fun q => by
  by_cases c : TLt x y
  · exact h2 (ln_tr q c)
  · have e := tl_eq c h1
    subst e
    exact h2 q
theorem tl_uniq : ∀ {l m : List Str}, l.Pairwise (fun a b => ¬ TLt b a) → m.Pairwise (fun a b => ¬ TLt b a) → l.Perm m → l = m
  | [], m, _, _, p => (List.Perm.nil_eq p)
  | x :: l, [], _, _, p => by cases p.eq_nil
  | x :: l, y :: m, hl, hm, p => by
    obtain ⟨a1, a2⟩ := List.pairwise_cons.mp hl
    obtain ⟨b1, b2⟩ := List.pairwise_cons.mp hm
    have h1 : ¬ TLt y x := by
      rcases List.mem_cons.mp (p.mem_iff.mpr (List.mem_cons_self (a := y) (l := m))) with e | e
      · rw [e]; exact ln_irr _
      · exact a1 y e
    have h2 : ¬ TLt x y := by
      rcases List.mem_cons.mp (p.mem_iff.mp (List.mem_cons_self (a := x) (l := l))) with e | e
      · rw [e]; exact ln_irr _
      · exact b1 x e
    have e := tl_eq h2 h1
    subst e
    rw [tl_uniq a2 b2 p.cons_inv]
theorem tl_asc : ∀ {l m : List Str}, l.Pairwise TLt → m.Pairwise TLt → (∀ z, z ∈ l ↔ z ∈ m) → l = m := by
  intro l m hl hm he
  have wk : ∀ {k : List Str}, k.Pairwise TLt → k.Pairwise (fun a b => ¬ TLt b a) ∧ k.Nodup := fun {k} hk =>
    ⟨hk.imp fun {a b} q z => ln_irr _ (ln_tr q z), hk.imp fun {a b} q z => by subst z; exact ln_irr _ q⟩
  exact tl_uniq (wk hl).1 (wk hm).1 ((List.perm_ext_iff_of_nodup (wk hl).2 (wk hm).2).mpr he)
theorem insT_perm (z : Str) : ∀ xs : List Str, (insT z xs).Perm (z :: xs)
  | [] => List.Perm.refl _
  | x :: xs => by
    unfold insT
    split
    · exact ((insT_perm z xs).cons x).trans (List.Perm.swap z x xs)
    · exact List.Perm.refl _
theorem insT_srt (z : Str) : ∀ {xs : List Str}, xs.Pairwise (fun a b => ¬ TLt b a) → (insT z xs).Pairwise (fun a b => ¬ TLt b a)
  | [], _ => by simp [insT]
  | x :: xs, q => by
    obtain ⟨q1, q2⟩ := List.pairwise_cons.mp q
    unfold insT
    split
    · rename_i c
      refine List.pairwise_cons.mpr ⟨fun y hy => ?_, insT_srt z q2⟩
      rcases List.mem_cons.mp ((insT_perm z xs).mem_iff.mp hy) with e | e
      · subst e
        exact fun w => ln_irr _ (ln_tr c w)
      · exact q1 y e
    · rename_i c
      refine List.pairwise_cons.mpr ⟨fun y hy => ?_, q⟩
      rcases List.mem_cons.mp hy with e | e
      · subst e; exact c
      · exact tl_le c (q1 y e)
theorem srtT_perm : ∀ zs : List Str, (srtT zs).Perm zs
  | [] => List.Perm.refl _
  | z :: zs => (insT_perm z (srtT zs)).trans ((srtT_perm zs).cons z)
theorem srtT_srt : ∀ zs : List Str, (srtT zs).Pairwise (fun a b => ¬ TLt b a)
  | [] => List.Pairwise.nil
  | z :: zs => insT_srt z (srtT_srt zs)
theorem insU_mem {z y : Str} : ∀ {xs : List Str}, y ∈ insU z xs ↔ y = z ∨ y ∈ xs
  | [] => by simp [insU]
  | x :: xs => by
    unfold insU
    split
    · rw [List.mem_cons, insU_mem (xs := xs), List.mem_cons]
      constructor
      · rintro (q | q | q) <;> simp [q]
      · rintro (q | q | q) <;> simp [q]
    · split
      · rename_i e
        subst e
        simp
      · simp
theorem insU_asc (z : Str) : ∀ {xs : List Str}, xs.Pairwise TLt → (insU z xs).Pairwise TLt
  | [], _ => by simp [insU]
  | x :: xs, q => by
    obtain ⟨q1, q2⟩ := List.pairwise_cons.mp q
    unfold insU
    split
    · rename_i c
      refine List.pairwise_cons.mpr ⟨fun y hy => ?_, insU_asc z q2⟩
      rcases insU_mem.mp hy with e | e
      · subst e; exact c
      · exact q1 y e
    · rename_i c
      split
      · exact q
      · rename_i ne
        have lt : TLt z x := Decidable.byContradiction fun w => ne (tl_eq c w)
        refine List.pairwise_cons.mpr ⟨fun y hy => ?_, q⟩
        rcases List.mem_cons.mp hy with e | e
        · subst e; exact lt
        · exact ln_tr lt (q1 y e)
theorem srtU_mem {y : Str} : ∀ {zs : List Str}, y ∈ srtU zs ↔ y ∈ zs
  | [] => by simp [srtU]
  | z :: zs => by
    show y ∈ insU z (srtU zs) ↔ _
    rw [insU_mem, srtU_mem, List.mem_cons]
theorem srtU_asc : ∀ {zs : List Str}, (srtU zs).Pairwise TLt
  | [] => List.Pairwise.nil
  | z :: zs => insU_asc z srtU_asc
theorem rising_srt : ∀ (p : Str) (l : List Str), risingS p l = true → (p :: l).Pairwise (fun a b => ¬ TLt b a)
  | p, [], _ => by simp
  | p, x :: r, q => by
    have q' : (!ltCps x.cps.toList p.cps.toList && risingS x r) = true := q
    rw [Bool.and_eq_true, Bool.not_eq_true', ltCps_eq, decide_eq_false_iff_not] at q'
    have t := rising_srt x r q'.2
    refine List.pairwise_cons.mpr ⟨fun y hy => ?_, t⟩
    rcases List.mem_cons.mp hy with e | e
    · subst e; exact q'.1
    · exact tl_le q'.1 ((List.pairwise_cons.mp t).1 y e)
theorem sorted_srt : ∀ {l : List Str}, sortedS l = true → l.Pairwise (fun a b => ¬ TLt b a)
  | [], _ => List.Pairwise.nil
  | x :: r, q => rising_srt x r q
theorem srt_asc {l : List Str} (h : l.Pairwise (fun a b => ¬ TLt b a)) (n : l.Nodup) : l.Pairwise TLt := by
  induction l with
  | nil => exact List.Pairwise.nil
  | cons x l ih =>
    obtain ⟨h1, h2⟩ := List.pairwise_cons.mp h
    obtain ⟨n1, n2⟩ := List.nodup_cons.mp n
    refine List.pairwise_cons.mpr ⟨fun y hy => ?_, ih h2 n2⟩
    exact Decidable.byContradiction fun w => n1 (by rw [tl_eq w (h1 y hy)]; exact hy)
/-- the set of texts at a -/
def SetX (P : Program) (w : World) (a : Addr) (M : Str → Bool) (c : Nat) : HO := .ext fun h => TxS P w h a M c
theorem setX_new {P : Program} {w : World} {H : Hp} {h : Heap} {a : Addr} {M : Str → Bool} {c : Nat} (R : TxS P w h a M c) : ObjOk P w H h a (SetX P w a M c) := by
  have ⟨o, _, _, _, ho, _⟩ := R
  exact ⟨R, ⟨o, ho⟩, fun h1 h2 q k => TxS.stay q k⟩
section
variable {X : Cx} {K : PySem.W.Frag} {xi : XI} {a e : Expr} {fa fb : Ev → IH → Res PV} {pos p p2 cpos apos : Pos} {m m' : List Addr} {H H' : Hp} {h : IH}
def rSetX (K : PySem.W.Frag) (P : Program) (w : World) : List V → Hp → VK → Prop := fun vs H Q => ∃ (l : Addr) (zs : List Str), vs = [V.ref l] ∧ SqL K H l (zs.map V.str) ∧ zs.length + 1 < scanBound ∧
  ∀ (q : Addr) (c : Nat), c ≤ zs.length → H q = none → Q (.ref q) (upd H q (SetX P w q (fun j => decide (j ∈ zs)) c))
theorem cr_setX (hc : X.calm = true) : CallR X (.type "set") (rSetX X.K X.prog X.w) := by
  intro pins s st H vs us Q I r h
  obtain ⟨l, zs, rfl, hs, hb, q⟩ := h
  rw [Vals.ref1 r]
  obtain ⟨its, rv, hl, _⟩ := I.list hs
  refine set_listT zs (I.ok.hd hc) hl.isList (by simpa using rv.strs) hb fun g tk c R hc' hk => ?_
  exact ⟨.ref _, _, I.laid (t' := tk) (o := SetX X.prog X.w s.heap.objs.size (fun j => decide (j ∈ zs)) c) hk (Nat.le_refl _) (setX_new R), rfl, q _ c hc' (I.hok.fresh (Nat.le_refl _))⟩
def rSortX (P : Program) (w : World) : List V → Hp → VK → Prop := fun vs H Q => ∃ (l : Addr) (M : Str → Bool) (c : Nat), vs = [V.ref l] ∧ H l = some (SetX P w l M c) ∧ c ≤ 1000 ∧
  ∀ (zs : List Str) (q : Addr), sortedS zs = true → zs.Nodup → (∀ z, z ∈ zs ↔ M z = true) → H q = none → Q (.ref q) (upd H q (.lst (zs.map V.str)))
theorem cr_sortX (hc : X.calm = true) : CallR X (.builtin "sorted") (rSortX X.prog X.w) := by
  intro pins s st H vs us Q I r h
  obtain ⟨l, M, c, rfl, ha, h64, q⟩ := h
  have R : TxS X.prog X.w s.heap l M c := (I.hok l _ ha).1
  rw [Vals.ref1 r]
  refine sorted_setT R (I.ok.hd hc) fun s1 q1 out ep zs k g o hp hg hi hs hn hm hl => ?_
  have hz : (zs.map V.str).length ≤ sizeLine := by rw [List.length_map, hl, sizeLine_eq]; omega
  have hf : H q1 = none := I.hok.fresh hp
  have J : Inv X pins st (upd H q1 (.lst (zs.map V.str))) { s with heap := s1.heap, gens := s1.gens, drawn := s1.drawn, toks := s1.toks } :=
    I.call (ch := []) (Un.laid k hp hf) (I.hok.laid k hp ⟨hz, out.toList, ep, vals_of_strs hi, hg⟩) (by rw [g]; exact I.bare) (fun _ z => nomatch z)
  have e : s1 = { s with heap := s1.heap, gens := s1.gens, drawn := s1.drawn, toks := s1.toks } := by
    cases s1
    cases s
    cases o
    rfl
  rw [e]
  exact ⟨.ref q1, _, J, rfl, q zs q1 hs hn hm hf⟩
theorem lstr_at {x : PV} {v : V} {r : Nat} {xs : List PV} {zs : List Str} (rh : RelH K m H h) (rx : Rep K m H v (.ref r)) (e1 : h[r]? = some (.lst xs)) (e2 : strsOf xs = some zs) : ∃ q, v = .ref q ∧ SqL K H q (zs.map V.str) := by
  obtain ⟨q, vs, rfl, hm, hq, rv⟩ := lst_at rh rx e1
  have e3 := strsOf_eq e2
  subst e3
  rw [rv.strs] at hq
  exact ⟨q, rfl, .inl (.inl hq)⟩
theorem se_tsrt (hg : Gl X "sorted") (hm : X.mg "sorted" = none) (hn : notStar a = true) (ha : PE X a (tE X.K xi fa)) :
    PE X (.Call (.Name "sorted" p) [a] [] pos) (tE X.K xi fun ev h => (fa ev h).bind fun x h1 => tsrtF x h1) := by
  refine PEm (pe_callB (pos := pos) (p := p) cr_sortedS hg hm (by rfl) (pa_cons ha pa_nil (star_cons hn)) (by decide) (by decide) (star_cons hn) (plain_of (es := []) rfl)) fun st H Q ⟨ev, m, h, re, rh, q⟩ => ?_
  refine tE_bind re rh q fun v x m1 H1 h1 g1 re1 rh1 rx p1 => ?_
  cases x <;> try exact p1.elim
  rename_i r
  unfold tsrtF at p1
  dsimp only at p1
  split at p1
  · rename_i xs e1
    split at p1
    · rename_i zs e2
      obtain ⟨hl, p1⟩ := Post.ite p1
      obtain ⟨l, rfl, hs⟩ := lstr_at (x := .ref r) rh1 rx e1 e2
      refine ⟨l, zs, rfl, hs, hl, fun ys q pm so hq => ?_⟩
      have es : ys = srtT zs := tl_uniq (sorted_srt so) (srtT_srt zs) (pm.trans (srtT_perm zs).symm)
      subst es
      exact (new_at rh1 (Reps.ofStrs (srtT zs)) p1).2 q hq
    · exact p1.elim
  · exact p1.elim
theorem se_tset (hc : X.calm = true) (hg : Gl X "sorted") (hm : X.mg "sorted" = none) (hg2 : Gl X "set") (hm2 : X.mg "set" = none) (hn : notStar a = true) (ha : PE X a (tE X.K xi fa)) :
    PE X (.Call (.Name "sorted" p) [.Call (.Name "set" p2) [a] [] cpos] [] pos) (tE X.K xi fun ev h => (fa ev h).bind fun x h1 => tsetF x h1) := by
  have inner := pe_callTy (pos := cpos) (p := p2) (cr_setX hc) hg2 hm2 (by rfl) (pa_cons ha pa_nil (star_cons hn)) (by decide) (by decide) (star_cons hn) (plain_of (es := []) rfl)
  have outer := pe_callB (pos := pos) (p := p) (cr_sortX hc) hg hm (by rfl) (pa_cons inner pa_nil (star_cons rfl)) (by decide) (by decide) (star_cons rfl) (plain_of (es := []) rfl)
  refine PEm outer fun st H Q ⟨ev, m, h, re, rh, q⟩ => ?_
  refine tE_bind re rh q fun v x m1 H1 h1 g1 re1 rh1 rx p1 => ?_
  cases x <;> try exact p1.elim
  rename_i r
  unfold tsetF at p1
  dsimp only at p1
  split at p1
  · rename_i xs e1
    split at p1
    · rename_i zs e2
      obtain ⟨hl, p1⟩ := Post.ite p1
      obtain ⟨l, rfl, hs⟩ := lstr_at (x := .ref r) rh1 rx e1 e2
      refine ⟨l, zs, rfl, hs, by unfold scanBound; omega, fun q c hcn hq => ⟨q, _, c, rfl, upd_same, by omega, fun ys q2 so nd mem hq2 => ?_⟩⟩
      have es : ys = srtU zs := tl_asc (srt_asc (sorted_srt so) nd) srtU_asc fun z => by
        rw [mem z, srtU_mem]
        simp
      subst es
      exact (new_at (rh1.junk hq) (Reps.ofStrs (srtU zs)) (Post.grow (Grow.junk hq) p1)).2 q2 hq2
    · exact p1.elim
  · exact p1.elim
end
/-! ### extend -/
theorem ext_tup (l : Addr) (us : Array Value) (n : Nat) (b : Addr) (dd : Option Addr) (sl : Array (Option Value)) (ws : Array Value) (n2 : Nat) (h0 : ¬(!us.isEmpty && Builtin.List.listTooLong (us.size + ws.size)) = true) (h1 : us.size ≤ sizeLine) (h2 : us.size + ws.size ≤ sizeLine + 1) :
    Meets (Builtin.«list.extend» ⟨[.ref l, .ref b], []⟩) (fun _ R s => s.heap.get? l = some (seqObj "list" us n) ∧ s.heap.get? b = some { cls := .type "tuple", dict := dd, data := .seq ws n2, slots := sl } ∧
      R (.ok (.ret Value.none)) { s with heap := s.heap.update l (Obj.mapSeq fun x => x ++ ws), toks := s.toks }) :=
  .of_wp fun prog w A R s q => by
    obtain ⟨hp, g, d, tk, os⟩ := s
    obtain ⟨hl, hb, q⟩ := q
    have f1 := AutoSeq1.idx_int
    have f2 := AutoSeq1.sub_tuple_tuple
    have f3 := AutoSeq1.sub_list_list
    have f4 := AutoSeq1.sub_tuple_list
    have f5 := AutoSeq1.sub_list_tuple
    have hz : (us ++ ws).size ≤ sizeLine + 1 := by rw [Array.size_append]; exact h2
    wp_walk using (wpAny_updateSeq hl rfl (hz := h1) (_hz' := hz)), wpAny_loadPart' hl, wpAny_loadPart' hb
    exact ⟨_, rfl, q⟩
section
variable {X : Cx} {K : PySem.W.Frag} {xi : XI} {a e tg : Expr} {fa fb : Ev → IH → Res PV} {pos p p2 cpos apos : Pos} {m m' : List Addr} {H H' : Hp} {h : IH}
def rExtT (K : PySem.W.Frag) : V → List V → Hp → VK → Prop := fun x vs H Q => ∃ l b xs zs, x = V.ref l ∧ vs = [V.ref b] ∧ H l = some (.lst xs) ∧ SqT K H b zs ∧ xs.length + zs.length ≤ sizeLine ∧ Q .non (upd H l (.lst (xs ++ zs)))
theorem mt_extT : MtR X "list.extend" (fun x vs H Q => rExtend x vs H Q ∨ rExtT X.K x vs H Q) := by
  intro pins s st H x vs v us Q I rx rv h
  rcases h with h | ⟨l, b, xs, zs, rfl, rfl, hl, hb, hz, q⟩
  · exact mt_extend pins s st H x vs v us Q I rx rv h
  · cases rx
    obtain ⟨u, rfl, ru⟩ := rv.one
    cases ru
    obtain ⟨z, its, n, r, el, e⟩ := I.lstM hl
    obtain ⟨its2, r2, ⟨⟨cl, dd, data, sl⟩, ho, hc, n2, hd⟩, hz2⟩ := I.tuple hb
    simp only at hc hd
    subst hc hd
    have len2 := r2.length
    have sz : its.toArray.size + its2.toArray.size ≤ sizeLine := by rw [List.size_toArray, List.size_toArray]; omega
    have long : ¬ (!its.toArray.isEmpty && Builtin.List.listTooLong (its.toArray.size + its2.toArray.size)) = true := by
      rw [notLongL sz, Bool.and_false]
      exact Bool.false_ne_true
    refine call_meets F.slot_list_extend ⟨_, e, rfl⟩ F.entry_list_extend (F.args_list_extend_2 _ _) (ext_tup l its.toArray n b dd sl its2.toArray n2 long (by rw [List.size_toArray]; omega) (by omega)) ⟨e, ho, ?_⟩
    refine ⟨.non, _, I.lset (its' := its ++ its2) hl e (by simp) (r.append r2) ?_, rfl, q⟩
    rw [List.length_append]
    omega
theorem ss_ext (hn : notStar e = true) (hline : (apos.endLine == cpos.line) = true) (hbase : attributeBase a "extend" X.env (eval a X.env) = eval a X.env) (ha : PE X a (tE K xi fa)) (he : PE X e (tE K xi fb)) (hK : X.K = K) :
    PS X (.Expr (.Call (.Attribute a "extend" apos) [e] [] cpos) pos) (tS K xi fun ev h => (fa ev h).bind fun x h1 => if lstC x h1 = true then (fb ev h1).bind fun y h2 => (extF x y h2).bind fun _ h3 => .ok (.nx ev) h3 else .stuck) := by
  subst hK
  refine PSm (ps_expr (pe_bm PySem.F.plainAttrs_list PySem.F.slot_list_extend PySem.F.type_list_extend mt_extT ha (pa_cons he pa_nil (star_cons hn)) hbase (by rw [star_cons hn]; rfl) hline (star_cons hn) rfl) rfl) fun D st H ⟨ev, m, h, re, rh, q⟩ => ?_
  refine tE_bind re rh q fun vx x m1 H1 h1 g1 re1 rh1 rx p1 => ?_
  obtain ⟨hc, p1⟩ := Post.ite p1
  obtain ⟨r, l, vs, xs, rfl, rfl, hm, eh, hl, rv⟩ := lstC_at rh1 rx hc
  refine ⟨.inl ⟨rfl, vs, .inl (.inl hl)⟩, ?_⟩
  refine tE_bind re1 rh1 p1 fun vy y m2 H2 h2 g2 re2 rh2 ry p2 => ?_
  have hm2 := g2.at hm
  unfold extF at p2
  dsimp only at p2
  cases eh2 : h2[r]? with
  | none => rw [eh2] at p2; exact p2.elim
  | some ob =>
    cases ob with
    | dct _ => rw [eh2] at p2; exact p2.elim
    | lst ys =>
      rw [eh2] at p2
      cases ey : rdX h2 y with
      | none => rw [ey] at p2; exact p2.elim
      | some zs =>
        rw [ey] at p2
        dsimp only at p2
        by_cases hz : ys.length + zs.length ≤ sizeLine
        · rw [if_pos hz] at p2
          obtain ⟨us, hu, ru⟩ := rh2.at' r _ _ eh2 hm2
          have l1 := ru.length
          have fin : ∀ ws : List V, Reps X.K m2 H2 ws zs → D.nx st (upd H2 l (.lst (us ++ ws))) := fun ws rw' => by
            obtain ⟨rl, gl⟩ := rh2.wrote eh2 hm2 (ru.append rw')
            exact p2 m2 _ gl rl st (re2.grow gl)
          cases y <;> try (cases ey; done)
          · obtain ⟨b, ws, rfl, hb, rw'⟩ := tup_at ry
            cases ey
            have l2 := rw'.length
            exact .inr ⟨l, b, us, ws, rfl, rfl, hu, hb, by omega, fin ws rw'⟩
          · rename_i i
            unfold rdX at ey
            dsimp only at ey
            split at ey
            · rename_i ks e3
              cases ey
              obtain ⟨b, ws, rfl, hb, hq, rw'⟩ := lst_at rh2 ry e3
              have l2 := rw'.length
              exact .inl ⟨l, b, us, ws, rfl, rfl, hu, hq, by omega, fin ws rw'⟩
            · cases ey
        · rw [if_neg hz] at p2; exact p2.elim
/-! ### the signs of a text -/
theorem it_sgn {m0 : List Addr} {H0 : Hp} {z : Str} : ItOk K m0 H0 (Its z) (.items (signs z)) := by
  intro m H h k g rh
  refine ⟨fun e => ?_, fun x e => ?_⟩
  · have e' : (signs z)[k]? = none := Option.some.inj e
    rw [List.getElem?_eq_none_iff] at e'
    simp [signs] at e'
    exact e'
  · have e' : (signs z)[k]? = some x := Option.some.inj e
    unfold signs at e'
    rw [List.getElem?_map] at e'
    cases ec : z.cps.toList[k]? with
    | none => rw [ec] at e'; cases e'
    | some c =>
      rw [ec] at e'
      cases e'
      have hk : k < z.cps.size := by
        have := (List.getElem?_eq_some_iff.mp ec).1
        simpa using this
      refine ⟨hk, fun v H' y => ?_⟩
      obtain ⟨rfl, c', e2, rfl⟩ := y
      have e3 : z.cps[k]? = some c := by rw [← Array.getElem?_toList]; exact ec
      rw [e3] at e2
      cases e2
      exact ⟨Grow.refl _ _, rh, .str⟩
theorem si_sgn (ha : PE X a (tE K xi fa)) : PI X tg a (tI K xi fun ev h => (fa ev h).bind fun x h1 => match x with
    | .str z => .ok (.items (signs z)) h1
    | _ => .stuck) := by
  refine PIm (pi_str ha) fun st H R ⟨ev, m, h, re, rh, q⟩ => ?_
  refine tE_bind re rh q fun v x m1 H1 h1 g1 re1 rh1 rx p1 => ?_
  cases x <;> try exact p1.elim
  rename_i z
  cases rx
  exact ⟨z, rfl, p1.now rh1 _ it_sgn⟩
end
end Vm

set_option Elab.async false
set_option linter.all false
set_option maxRecDepth 100000
set_option maxHeartbeats 8000000
/-! VmL: sorted(xs), xs a list of rows of ints, of any length, below 0 too. -/
namespace Vm
open PySem PySem.Spec PyProof.Rows L2
variable [Tbs]
/-- a row as data -/
def tupD (r : List Int) : PyData := .tuple (r.map PyData.int)
theorem tupD_le : PySem.W.dataLe false tupD = rowLe := by
  funext p q
  show (!PySem.W.dataLt (.tuple (q.map .int)) (.tuple (p.map .int))) = _
  rw [PySem.W.dataLt_tuple]
  show (!PySem.W.rowLt (q.map .int) (p.map .int)) = _
  rw [PySem.W.dataLt_ints]
  unfold rowLe
  by_cases h : q < p
  · have h' : ¬ p ≤ q := fun r => List.not_lt.mpr r h
    simp [h, h']
  · have h' : p ≤ q := List.not_lt.mp h
    simp [h, h']
inductive Rws (K : PySem.W.Frag) (H : Hp) : List V → List (List Int) → Prop
  | nil : Rws K H [] []
  | cons {t : Addr} {r : List Int} {vs : List V} {rs : List (List Int)} : SqT K H t (r.map V.int) → Rws K H vs rs → Rws K H (.ref t :: vs) (r :: rs)
theorem Rws.length {K : PySem.W.Frag} {H : Hp} : ∀ {vs : List V} {rs : List (List Int)}, Rws K H vs rs → vs.length = rs.length
  | _, _, .nil => rfl
  | _, _, .cons _ t => by rw [List.length_cons, List.length_cons, Rws.length t]
/-- the machine's value is such a row -/
def RowV (K : PySem.W.Frag) (H : Hp) (u : Value) (r : List Int) : Prop := ∃ t, u = .ref t ∧ SqT K H t (r.map V.int)
theorem rws_each {K : PySem.W.Frag} {H : Hp} : ∀ {vs : List V} {us : List Value} {rs : List (List Int)}, Rws K H vs rs → Vals vs us → PySem.W.EachIs (RowV K H) us rs
  | _, _, _, .nil, .nil => .nil
  | _, _, _, .cons h t, .cons r v => by
    cases r
    exact .cons ⟨_, rfl, h⟩ (rws_each t v)
theorem each_rws {K : PySem.W.Frag} {H : Hp} : ∀ {us : List Value} {rs : List (List Int)}, PySem.W.EachIs (RowV K H) us rs → ∃ vs, Rws K H vs rs ∧ Vals vs us
  | _, _, .nil => ⟨[], .nil, .nil⟩
  | _, _, .cons ⟨t, e, h⟩ r => by
    obtain ⟨vs, h1, h2⟩ := each_rws r
    subst e
    exact ⟨.ref t :: vs, .cons h h1, .cons rfl h2⟩
theorem reads_ints {h : Heap} : ∀ {us : List Value} {ns : List Int}, IntsAre us ns → ReadsAll h us (ns.map PyData.int) []
  | _, _, .nil => .nil
  | _, _, .cons n t r => .cons (as := []) (bs := []) (.int n t) (reads_ints r)
section
variable {X : Cx} {K : PySem.W.Frag} {xi : XI} {a : Expr} {fa : Ev → IH → Res PV} {pos p : Pos} {pins : List (Addr × Obj)} {σ : L2.St} {s : Shared} {m : List Addr} {H : Hp} {h : IH}
theorem rowV_reads (I : Inv X pins σ H s) {u : Value} {r : List Int} (h : RowV X.K H u r) : ∃ as, Reads s.heap u (tupD r) as := by
  obtain ⟨t, rfl, h⟩ := h
  obtain ⟨its, rv, ⟨o, e1, e2, n, e3⟩, _⟩ := I.tuple h
  exact ⟨[], .tuple e1 e2 e3 (reads_ints (by simpa using rv.ints))⟩
def rSortR (K : PySem.W.Frag) : List V → Hp → VK → Prop := fun vs H Q => ∃ (a : Addr) (xs : List V) (rs : List (List Int)), vs = [V.ref a] ∧ SqL K H a xs ∧ Rws K H xs rs ∧ (∀ r ∈ rs, r ≠ []) ∧
  ∀ (ys : List V) (p : Addr), Rws K H ys (srtR rs) → H p = none → Q (.ref p) (upd H p (.lst ys))
theorem cr_sortR (hu : X.A.units + 100 < cLine) : CallR X (.builtin "sorted") (rSortR X.K) := by
  intro pins s σ H vs us Q I r h
  obtain ⟨a, xs, rs, rfl, hs, hx, hne, q⟩ := h
  obtain ⟨its, rv, hl, hz⟩ := I.list hs
  rw [Vals.ref1 r]
  have e := rws_each hx rv
  have er : PySem.W.EachIs (fun v b => ∃ as, Reads s.heap v (tupD b) as) its rs := e.mono fun u r h => rowV_reads I h
  have hlen : rs.length ≤ sizeLine := by rw [← hx.length]; exact hz
  refine PySem.W.sorted_data (enc := tupD) (R := RowV X.K H) hl.isList e er (PySem.W.AllAlike.of fun x y => ?_) (.inl fun d hd => ?_) hlen (fun b hb => ?_) fun out ol eo => ?_
  · show PySem.W.alike (.tuple (x.map .int)) (.tuple (y.map .int)) = true
    rw [PySem.W.alike]
    exact PySem.W.alike_ints x y
  · obtain ⟨b, hb, rfl⟩ := List.mem_map.mp hd
    cases b with
    | nil => exact absurd rfl (hne _ hb)
    | cons z zs => exact ⟨.int z, zs.map .int, rfl⟩
  · have : (tupD b).depth ≤ 1 := by
      show (PyData.tuple (b.map .int)).depth ≤ 1
      rw [PyData.depth, PySem.W.depth_ints]
      omega
    omega
  · rw [tupD_le] at eo
    obtain ⟨ys, hy, vy⟩ := each_rws eo
    obtain ⟨ep, he'⟩ := PyProof.Rows.sortedAll_at s.heap its (List.toArray out)
    have hl2 : ys.length ≤ sizeLine := by
      rw [hy.length]
      show (rs.mergeSort rowLe).length ≤ _
      rw [List.length_mergeSort]
      exact hlen
    exact ⟨.ref _, upd H (s.heap.objs.size + 1) (.lst ys), I.laid (t' := s.toks) (fun _ _ => PyProof.Rows.sortedAll_old) (Nat.le_succ _) ⟨hl2, out, ep, vy, he'⟩, rfl, q _ _ hy (I.hok.fresh (Nat.le_succ _))⟩
theorem rows_rws : ∀ {vs : List V} {xs : List PV} {rs : List (List Int)}, Reps K m H vs xs → rowsZ xs = some rs → Rws K H vs rs
  | _, _, rs, .nil, q => by cases q; exact .nil
  | _, _, rs, .cons (v := v) (x := x) (vs := vs) (xs := xs) r t, q => by
    have e := rowsZ_eq q
    cases rs with
    | nil => cases e
    | cons z zs =>
      rw [List.map_cons] at e
      injection e with e1 e2
      subst e1
      subst e2
      unfold rowP at r
      cases r with
      | tup h hr =>
        rw [hr.ints] at h
        exact .cons h (rows_rws t (rowsZ_map zs))
theorem rws_reps : ∀ {vs : List V} {rs : List (List Int)}, Rws K H vs rs → Reps K m H vs (rs.map rowP)
  | _, _, .nil => .nil
  | _, _, .cons (r := r) h t => .cons (.tup h (Reps.ofInts r)) (rws_reps t)
theorem se_psrt (hu : X.A.units + 100 < cLine) (hg : Gl X "sorted") (hm : X.mg "sorted" = none) (hn : notStar a = true) (ha : PE X a (tE X.K xi fa)) :
    PE X (.Call (.Name "sorted" p) [a] [] pos) (tE X.K xi fun ev h => (fa ev h).bind fun x h1 => psrtF x h1) := by
  refine PEm (pe_callB (pos := pos) (p := p) (cr_sortR hu) hg hm (by rfl) (pa_cons ha pa_nil (star_cons hn)) (by decide) (by decide) (star_cons hn) (plain_of (es := []) rfl)) fun st H Q ⟨ev, m, h, re, rh, q⟩ => ?_
  refine tE_bind re rh q fun v x m1 H1 h1 g1 re1 rh1 rx p1 => ?_
  cases x <;> try exact p1.elim
  rename_i r
  unfold psrtF at p1
  dsimp only at p1
  split at p1
  · rename_i xs e1
    split at p1
    · rename_i rs e2
      obtain ⟨hc, p1⟩ := Post.ite p1
      obtain ⟨q, vs, rfl, hm, hq, rv⟩ := lst_at rh1 rx e1
      refine ⟨q, vs, rs, rfl, .inl (.inl hq), rows_rws rv e2, fun z hz e => ?_, fun ys p hy hp => ?_⟩
      · have := List.all_eq_true.mp hc z hz
        subst e
        simp at this
      · exact (new_at rh1 (rws_reps hy) p1).2 p hp
    · exact p1.elim
  · exact p1.elim
end
end Vm

set_option Elab.async false
set_option linter.all false
set_option maxRecDepth 100000
set_option maxHeartbeats 8000000
/-! VmM: dicts by any text, how often an int stands in a list, a module's names. -/
namespace Vm
open PySem PySem.Spec PyProof.Rows L2
variable [Tbs]
section
variable {X : Cx} {K : PySem.W.Frag} {xi : XI} {a b e : Expr} {fa fb fv : Ev → IH → Res PV} {pos p p2 cpos apos : Pos} {m m' : List Addr} {H H' : Hp} {h : IH}
theorem kvs_val : ∀ {ws : List (Key × V)} {kvs : List (Str × PV)} (k : Str), KVs K m H ws kvs → (valV ws (Sum.inr k : Key)).isSome = (kvs.lookup k).isSome
  | _, _, k, .nil => rfl
  | _, _, k, .cons (a := a) (b := b) r t => by
    obtain ⟨a1, a2⟩ := a
    obtain ⟨b1, b2⟩ := b
    obtain ⟨r1, r2⟩ := r
    dsimp only at r1 r2
    subst r1
    by_cases hk : k = b1
    · subst hk
      rw [List.lookup_cons_self, valV_pos rfl]
      rfl
    · have hk' : (k == b1) = false := beq_eq_false_iff_ne.mpr hk
      rw [List.lookup_cons, hk', valV_neg (fun z => hk (Sum.inr.inj z).symm)]
      exact kvs_val k t
theorem kvs_app : ∀ {ws us : List (Key × V)} {kvs ls : List (Str × PV)}, KVs K m H ws kvs → KVs K m H us ls → KVs K m H (ws ++ us) (kvs ++ ls)
  | _, _, _, _, .nil, s => s
  | _, _, _, _, .cons r t, s => .cons r (kvs_app t s)
/-- a dict of texts at x, by the text y -/
def dkM {β : Type} (x y : PV) (h : IH) (f : Nat → List (Str × PV) → Str → Res β) : Res β := match x, y with
  | .ref r, .str k => (match h[r]? with
    | some (.dct kvs) => f r kvs k
    | _ => .stuck)
  | _, _ => .stuck
theorem dk_at {β : Type} {x y : PV} {vx vy : V} {f : Nat → List (Str × PV) → Str → Res β} {R : β → List Addr → Hp → Prop} (rh : RelH K m H h) (rx : Rep K m H vx x) (ry : Rep K m H vy y) (q : Post K xi m H (dkM x y h f) R) :
    ∃ r kvs k l ws, x = .ref r ∧ y = .str k ∧ h[r]? = some (.dct kvs) ∧ vx = .ref l ∧ vy = .str k ∧ m[r]? = some l ∧ H l = some (.dK ws) ∧ KVs K m H ws kvs ∧ Post K xi m H (f r kvs k) R := by
  unfold dkM at q
  split at q
  · rename_i r k
    split at q
    · rename_i kvs e
      obtain ⟨l, ws, rfl, hm, hl, rk⟩ := dct_at (x := .ref r) rh rx e
      cases ry
      exact ⟨r, kvs, k, l, ws, rfl, rfl, e, rfl, rfl, hm, hl, rk, q⟩
    · exact q.elim
  · exact q.elim
theorem dget_dk (x y : PV) (h : IH) : dgetF x y h = dkM x y h fun _ kvs k => match kvs.lookup k with
    | some v => .ok v h
    | none => .stuck := rfl
theorem dput_dk (x y z : PV) (h : IH) : dputkF x y z h = dkM x y h fun r kvs k => if kvs.length < sizeLine then .ok () (h.set r (.dct (dputL kvs k z))) else .stuck := rfl
theorem se_dget (hu : X.A.units + 1 < cLine) (hi : plainIx b = true) (ha : PE X a (tE K xi fa)) (hb : PE X b (tE K xi fb)) :
    PE X (.Subscript a b pos) (tE K xi fun ev h => (fa ev h).bind fun x h1 => (fb ev h1).bind fun y h2 => dgetF x y h2) := by
  refine PEm (pe_dget hu ha hb (plainIx_of hi)) fun st H Q ⟨ev, m, h, re, rh, q⟩ => ?_
  refine tE_bind re rh q fun vx x m1 H1 h1 g1 re1 rh1 rx p1 => ?_
  refine tE_bind re1 rh1 p1 fun vy y m2 H2 h2 g2 re2 rh2 ry p2 => ?_
  rw [dget_dk] at p2
  obtain ⟨r, kvs, k, l, ws, rfl, rfl, e, rfl, rfl, hm, hl, rk, p3⟩ := dk_at rh2 (rx.grow g2) ry p2
  cases e2 : kvs.lookup k with
  | none => rw [e2] at p3; exact p3.elim
  | some z =>
    rw [e2] at p3
    obtain ⟨v, e3, rv⟩ := kvs_get rk e2
    refine ⟨l, v, rfl, ?_, p3.now rh2 _ rv⟩
    rw [← e3]
    exact DGet.k (k := Sum.inr k) hl
theorem din_at {β : Type} {neg : Bool} {y x : PV} {vx vy : V} {g : PV → IH → Res β} {R : β → List Addr → Hp → Prop} (rh : RelH K m H h) (rx : Rep K m H vx x) (ry : Rep K m H vy y) (p : Post K xi m H ((dinF neg y x h).bind g) R) :
    ∃ (l : Addr) (o : Option V), vx = .ref l ∧ DGet H l vy o ∧ Post K xi m H (g (.bl (if neg then !o.isSome else o.isSome)) h) R := by
  cases x <;> cases y <;> try exact p.elim
  rename_i r k
  cases ry
  unfold dinF at p
  dsimp only at p
  cases e : h[r]? with
  | none => rw [e] at p; exact p.elim
  | some o =>
    cases o with
    | lst _ => rw [e] at p; exact p.elim
    | dct kvs =>
      rw [e] at p
      obtain ⟨l, ws, rfl, hm, hl, rk⟩ := dct_at (x := .ref r) rh rx e
      refine ⟨l, _, rfl, DGet.k (k := Sum.inr k) hl, ?_⟩
      rw [kvs_val k rk]
      exact p
theorem din_tail {neg : Bool} {y x : PV} {vx vy : V} {Q : VK} (rh : RelH K m H h) (rx : Rep K m H vx x) (ry : Rep K m H vy y) (p : Post K xi m H (dinF neg y x h) fun z m' H' => ∀ v, Rep K m' H' v z → Q v H') :
    ∃ (l : Addr) (o : Option V), vx = .ref l ∧ DGet H l vy o ∧ Q (.bl (if neg then !o.isSome else o.isSome)) H := by
  have e : dinF neg y x h = (dinF neg y x h).bind fun z h1 => .ok z h1 := by cases dinF neg y x h <;> rfl
  rw [e] at p
  obtain ⟨l, o, h1, h2, p⟩ := din_at rh rx ry p
  exact ⟨l, o, h1, h2, p.now rh _ .bl⟩
theorem se_din (neg : Bool) (hu : X.A.units + 1 < cLine) (hm : behindInMarks (if neg then .NotIn else .In) b = false) (ha : PE X a (tE K xi fa)) (hb : PE X b (tE K xi fb)) :
    PE X (.Compare a [if neg then .NotIn else .In] [b] pos) (tE K xi fun ev h => (fa ev h).bind fun y h1 => (fb ev h1).bind fun x h2 => dinF neg y x h2) := by
  cases neg with
  | false =>
    refine PEm (pe_cmp (pc_dinN hu ha hb) hm) fun st H Q ⟨ev, m, h, re, rh, q⟩ => ?_
    refine tE_bind re rh q fun vy y m1 H1 h1 g1 re1 rh1 ry p1 => ?_
    refine tE_bind re1 rh1 p1 fun vx x m2 H2 h2 g2 re2 rh2 rx p2 => ?_
    exact .inl (din_tail (neg := false) rh2 rx (ry.grow g2) p2)
  | true =>
    refine PEm (pe_cmp (pc_dnotinN hu ha hb) hm) fun st H Q ⟨ev, m, h, re, rh, q⟩ => ?_
    refine tE_bind re rh q fun vy y m1 H1 h1 g1 re1 rh1 ry p1 => ?_
    refine tE_bind re1 rh1 p1 fun vx x m2 H2 h2 g2 re2 rh2 rx p2 => ?_
    exact .inl (din_tail (neg := true) rh2 rx (ry.grow g2) p2)
theorem st_din (neg : Bool) (hu : X.A.units + 1 < cLine) (hm : behindInMarks (if neg then .NotIn else .In) b = false) (ha : PE X a (tE K xi fa)) (hb : PE X b (tE K xi fb)) :
    PT X (.Compare a [if neg then .NotIn else .In] [b] pos) (tT K xi (bF fun ev h => (fa ev h).bind fun y h1 => (fb ev h1).bind fun x h2 => dinF neg y x h2)) := by
  cases neg with
  | false =>
    refine PTm (pt_cmp (pc_dinN hu ha hb) hm) fun st H Q ⟨ev, m, h, re, rh, q⟩ => ?_
    dsimp only [bF] at q
    rw [bindA] at q
    refine tE_bind re rh q fun vy y m1 H1 h1 g1 re1 rh1 ry p1 => ?_
    rw [bindA] at p1
    refine tE_bind re1 rh1 p1 fun vx x m2 H2 h2 g2 re2 rh2 rx p2 => ?_
    obtain ⟨l, o, e1, e2, p3⟩ := din_at (neg := false) rh2 rx (ry.grow g2) p2
    exact .inl ⟨l, o, e1, e2, _, rfl, Post.now p3 rh2⟩
  | true =>
    refine PTm (pt_cmp (pc_dnotinN hu ha hb) hm) fun st H Q ⟨ev, m, h, re, rh, q⟩ => ?_
    dsimp only [bF] at q
    rw [bindA] at q
    refine tE_bind re rh q fun vy y m1 H1 h1 g1 re1 rh1 ry p1 => ?_
    rw [bindA] at p1
    refine tE_bind re1 rh1 p1 fun vx x m2 H2 h2 g2 re2 rh2 rx p2 => ?_
    obtain ⟨l, o, e1, e2, p3⟩ := din_at (neg := true) rh2 rx (ry.grow g2) p2
    exact .inl ⟨l, o, e1, e2, _, rfl, Post.now p3 rh2⟩
/-- d[k] = v -/
theorem ss_dputk {o i : Expr} {fo fi : Ev → IH → Res PV} {tpos : Pos} (hu : X.A.units + 1 < cLine) (hn : noComp e = true) (hi : plainIx i = true) (hv : PE X e (tE K xi fv)) (ho : PE X o (tE K xi fo)) (hi' : PE X i (tE K xi fi)) :
    PS X (.Assign [.Subscript o i tpos] e pos) (tS K xi fun ev h => (fv ev h).bind fun z h1 => (fo ev h1).bind fun x h2 => (fi ev h2).bind fun y h3 => (dputkF x y z h3).bind fun _ h4 => .ok (.nx ev) h4) := by
  refine PSm (ps_asg hv (pg_sub ho hi' (set_dict hu) (by intro v; cases i <;> first | rfl | cases hi)) (by show swapsWith e (some (.Subscript o i tpos)) pos.line X.env = pure false; exact swaps_of hn _ _ _) swapped_sub rfl) fun D st H ⟨ev, m, h, re, rh, q⟩ => ?_
  refine tE_bind re rh q fun vz z m1 H1 h1 g1 re1 rh1 rz p1 => ?_
  refine tE_bind re1 rh1 p1 fun vx x m2 H2 h2 g2 re2 rh2 rx p2 => ?_
  refine tE_bind re2 rh2 p2 fun vy y m3 H3 h3 g3 re3 rh3 ry p3 => ?_
  have p4 : Post K xi m3 H3 (dputkF x y z h3) fun _ m' H' => toD K D (.nx ev) m' H' := p3.bind fun _ h1 m1 H1 g1 rh1 p1 => p1.now rh1
  rw [dput_dk] at p4
  obtain ⟨r, kvs, k, l, ws, rfl, rfl, e1, rfl, rfl, hm, hl, rk, p5⟩ := dk_at rh3 (rx.grow g3) ry p4
  obtain ⟨hc, p5⟩ := Post.ite p5
  have rz3 := (rz.grow g2).grow g3
  have key : KVs K m3 H3 (putK ws (Sum.inr k : Key) vz) (dputL kvs k z) := by
    unfold putK dputL
    rw [kvs_any k rk]
    by_cases c : (kvs.any fun p => decide (p.1 = k)) = true
    · rw [if_pos c, if_pos c]
      exact kvs_set rz3 k rk
    · rw [if_neg c, if_neg c]
      exact kvs_app rk (.cons ⟨rfl, rz3⟩ .nil)
  obtain ⟨rl, gl⟩ := RelH.wroteD rh3 e1 hm key
  exact ⟨l, _, rfl, .inl ⟨ws, Sum.inr k, hl, rfl, by rw [kvs_len rk]; exact hc, rfl⟩, p5 m3 _ gl rl st (re3.grow gl)⟩
theorem se_cnt (hK : X.K = K) (hn : notStar e = true) (hline : (apos.endLine == cpos.line) = true) (hbase : attributeBase a "count" X.env (eval a X.env) = eval a X.env) (ha : PE X a (tE K xi fa)) (he : PE X e (tE K xi fb)) :
    PE X (.Call (.Attribute a "count" apos) [e] [] cpos) (tE K xi fun ev h => (fa ev h).bind fun x h1 => if lstC x h1 = true then (fb ev h1).bind fun y h2 => cntF x y h2 else .stuck) := by
  subst hK
  refine PEm (pe_bm PySem.F.plainAttrs_list PySem.F.slot_list_count PySem.F.type_list_count mt_lcount ha (pa_cons he pa_nil (star_cons hn)) hbase (by rw [star_cons hn]; rfl) hline (star_cons hn) rfl) fun st H Q ⟨ev, m, h, re, rh, q⟩ => ?_
  refine tE_bind re rh q fun vx x m1 H1 h1 g1 re1 rh1 rx p1 => ?_
  obtain ⟨hc, p1⟩ := Post.ite p1
  obtain ⟨r, l, vs, xs, rfl, rfl, hm, eh, hl, rv⟩ := lstC_at rh1 rx hc
  refine ⟨.inl ⟨rfl, vs, .inl (.inl hl)⟩, ?_⟩
  refine tE_bind re1 rh1 p1 fun vy y m2 H2 h2 g2 re2 rh2 ry p2 => ?_
  have hm2 := g2.at hm
  cases y <;> try exact p2.elim
  rename_i k
  cases ry
  unfold cntF at p2
  dsimp only at p2
  cases eh2 : h2[r]? with
  | none => rw [eh2] at p2; exact p2.elim
  | some ob =>
    cases ob with
    | dct _ => rw [eh2] at p2; exact p2.elim
    | lst ys =>
      rw [eh2] at p2
      dsimp only at p2
      cases e2 : intsOf ys with
      | none => rw [e2] at p2; exact p2.elim
      | some ns =>
        rw [e2] at p2
        obtain ⟨us, hu, ru⟩ := rh2.at' r _ _ eh2 hm2
        have e3 := intsOf_eq e2
        subst e3
        rw [ru.ints] at hu
        exact ⟨l, ns, k, rfl, rfl, .inl (.inl hu), p2.now rh2 _ .int⟩
/-! ### a module's names -/
def ConGood (X : Cx) (x : Str) (k : Cst) : Prop := ∃ u v, X.mg x = some u ∧ RelV v u ∧ ∀ m H, Rep X.K m H v k.pv
theorem se_gcon {x : Str} {k : Cst} (hg : Gl X x) (h : ConGood X x k) (hd : (x == ("__debug__" : Str)) = false) : PE X (.Name x pos) (tE X.K xi fun _ h => .ok k.pv h) := by
  obtain ⟨u, v, h1, h2, h3⟩ := h
  exact se_con (C8.pe_gc hg ⟨u, h1, h2⟩ hd) h3
end
end Vm

set_option Elab.async false
set_option linter.all false
set_option maxRecDepth 100000
set_option maxHeartbeats 4000000
/-! VnJ: displays with text keys and any values; range by steps. -/
namespace Vm
open PySem PySem.Spec PyProof.Rows L2
variable [Tbs]
def trsOf (K : PySem.W.Frag) (G B : Fns) : List Str → Es → List (TE × TE)
  | k :: ks, .cons e es => (tC (.str k), tE K xi0 (evE G B e)) :: trsOf K G B ks es
  | _, _ => []
def esLen : Es → Nat
  | .nil => 0
  | .cons _ es => esLen es + 1
theorem trs_run {K : PySem.W.Frag} {G B : Fns} : ∀ (es : Es) (ks : List Str), esLen es = ks.length → ∀ {st : L2.St} {H : Hp} {ev : Ev} {m : List Addr} {h : IH} {Q : List (V × V) → Hp → Prop}, REnv K m H st ev → RelH K m H h →
    Post K xi0 m H (evEs G B es ev h) (fun xs m' H' => ∀ vs, Reps K m' H' vs xs → Q ((ks.map V.str).zip vs) H') → tPairs (trsOf K G B ks es) st H Q
  | .nil, [], _, st, H, ev, m, h, Q, re, rh, p => p.now rh [] .nil
  | .nil, _ :: _, l, _, _, _, _, _, _, _, _, _ => by cases l
  | .cons e es, [], l, _, _, _, _, _, _, _, _, _ => by cases l
  | .cons e es, k :: ks, l, st, H, ev, m, h, Q, re, rh, p => by
    have l' : esLen es = ks.length := by simpa [esLen] using l
    have p1 : Post K xi0 m H ((evE G B e ev h).bind fun x h1 => (evEs G B es ev h1).bind fun xs h2 => .ok (x :: xs) h2) (fun xs m' H' => ∀ vs, Reps K m' H' vs xs → Q (((k :: ks).map V.str).zip vs) H') := p
    show tE K xi0 (evE G B e) st H fun y H2 => tPairs (trsOf K G B ks es) st H2 fun ps H3 => Q ((V.str k, y) :: ps) H3
    refine ⟨ev, m, h, re, rh, p1.bind fun x h1 m1 H1 g1 rh1 p2 => ?_⟩
    intro v rv
    refine trs_run es ks l' (re.grow g1) rh1 (p2.bind fun xs h2 m2 H2 g2 rh2 p3 => ?_)
    intro vs rvs
    exact p3.now rh2 (v :: vs) (.cons (rv.grow g2) rvs)
theorem zip_kv {K : PySem.W.Frag} {m : List Addr} {H : Hp} : ∀ {ks : List Str} {vs : List V} {xs : List PV}, Reps K m H vs xs → KVs K m H ((ks.zip vs).map fun q => ((Sum.inr q.1 : Key), q.2)) (ks.zip xs)
  | [], _, _, _ => by
    rw [List.zip_nil_left, List.zip_nil_left]
    exact .nil
  | k :: ks, _, _, .nil => by
    rw [List.zip_nil_right, List.zip_nil_right]
    exact .nil
  | k :: ks, _, _, .cons r t => .cons ⟨rfl, r⟩ (zip_kv (ks := ks) t)
theorem se_ddis {X : Cx} {G B : Fns} {pos : Pos} {keys : List (Option Expr)} {ys : List Expr} {ks : List Str} {es : Es} (hp : PPs X pos keys ys (trsOf X.K G B ks es)) (k1 : keys.all (·.isSome) = true) (k2 : keys.length = ys.length) (k3 : keys ≠ []) (k4 : keys.length ≤ 15) (k5 : esLen es = ks.length) :
    PE X (.Dict keys ys pos) (tE X.K xi0 fun ev h => (evEs G B es ev h).bind fun xs h1 => ddisF ks xs h1) := by
  refine PEm (pe_disp hp k1 k2 k3 k4) fun st H Q ⟨ev, m, h, re, rh, q⟩ => ?_
  intro p hp
  have gj : Grow m H m (upd H p (.dK [])) := Grow.junk hp
  have hpm : p ∉ m := fun z => by
    obtain ⟨u, hu⟩ := rh.mem z
    rw [hp] at hu; cases hu
  refine trs_run es ks k5 (re.grow gj) (rh.junk hp) ?_
  dsimp only at q
  cases e : evEs G B es ev h with
  | stuck => rw [e] at q; exact q.elim
  | exc cc fs h1 =>
    rw [e] at q
    exact fun m1 H1 g1 rh1 => q m1 H1 (gj.trans g1) rh1
  | ok xs h1 =>
    rw [e, Res.bind_ok] at q
    intro m1 H1 g1 rh1 vs rx
    obtain ⟨hd, hn⟩ := g1.fr p _ upd_same (fun _ z => nomatch z) hpm
    obtain ⟨hc, q⟩ := Post.ite q
    have lv : vs.length = ks.length := by rw [rx.length]; exact hc.2.1
    have lz : (ks.zip vs).length = ks.length := by rw [List.length_zip, lv]; omega
    refine ⟨hd, (ks.zip vs).map fun q => ((Sum.inr q.1 : Key), q.2), ?_, by rw [List.length_map, lz]; exact hc.2.2, ?_⟩
    · rw [List.map_map, List.zip_map_left]
      rfl
    · have nd : (((ks.zip vs).map fun q => ((Sum.inr q.1 : Key), q.2)).map (·.1)).Nodup := by
        have e1 : ((ks.zip vs).map fun q => ((Sum.inr q.1 : Key), q.2)).map (·.1) = ks.map fun z => (Sum.inr z : Key) := by
          rw [List.map_map]
          have : ((fun x : Key × V => x.1) ∘ fun q : Str × V => ((Sum.inr q.1 : Key), q.2)) = (fun z => (Sum.inr z : Key)) ∘ Prod.fst := rfl
          rw [this, ← List.map_map, List.map_fst_zip (by omega)]
        rw [e1]
        have hn' : List.Pairwise (fun a b => a ≠ b) ks := hc.1
        exact List.Pairwise.map (fun z => (Sum.inr z : Key)) (fun a b n z => n (Sum.inr.inj z)) hn'
      rw [merge_nodup _ [] (by rw [List.nil_append]; exact nd), List.nil_append]
      have kv := zip_kv (ks := ks) rx
      have rl := RelH.takeD rh1 hd hn kv
      refine q _ _ (((gj.trans g1).own hp).take hp) rl _ (.ref ?_)
      rw [← rh1.len]
      simp
/-! ### range by steps -/
theorem it_rng3 {K : PySem.W.Frag} {m0 : List Addr} {H0 : Hp} {lo c : Int} {n : Nat} : ItOk K m0 H0 (Itc lo c n) (.items (rng3L lo c n)) := by
  intro m H h k g rh
  refine ⟨fun e => ?_, fun x e => ?_⟩
  · have e' : (rng3L lo c n)[k]? = none := Option.some.inj e
    rw [List.getElem?_eq_none_iff] at e'
    simp [rng3L] at e'
    exact e'
  · have e' : (rng3L lo c n)[k]? = some x := Option.some.inj e
    obtain ⟨hk, hx⟩ := List.getElem?_eq_some_iff.mp e'
    simp [rng3L] at hk hx
    subst hx
    refine ⟨hk, fun v H' y => ?_⟩
    obtain ⟨rfl, rfl⟩ := y
    exact ⟨Grow.refl _ _, rh, .int⟩
theorem rgc_ok {i j k : Int} (h : 0 ≤ i ∧ i ≤ 1000000 ∧ 0 ≤ j ∧ j ≤ 1000000 ∧ 0 < k ∧ k ≤ 1000000) : RgC i j k (if i < j then ((j - i - 1) / k + 1).toNat else 0) := by
  obtain ⟨h1, h2, h3, h4, h5, h6⟩ := h
  have q0 : i < j → 0 ≤ (j - i - 1) / k ∧ (j - i - 1) / k ≤ j - i - 1 := fun c => ⟨Int.ediv_nonneg (by omega) (by omega), Int.ediv_le_self _ (by omega)⟩
  have e : Builtin.Range.rangeSize i j k = ((if i < j then ((j - i - 1) / k + 1).toNat else 0 : Nat) : Int) := by
    unfold Builtin.Range.rangeSize
    rw [if_pos h5]
    split
    · have := q0 ‹_›
      omega
    · rfl
  refine ⟨by omega, by omega, ?_, e⟩
  unfold Builtin.Range.small
  rw [e]
  have s : ((if i < j then ((j - i - 1) / k + 1).toNat else 0 : Nat) : Int) ≤ 1000000 := by
    split
    · have := q0 ‹_›
      omega
    · omega
  have s0 : 0 ≤ ((if i < j then ((j - i - 1) / k + 1).toNat else 0 : Nat) : Int) := Int.natCast_nonneg _
  generalize ((if i < j then ((j - i - 1) / k + 1).toNat else 0 : Nat) : Int) = z at s s0
  have f : ∀ x : Int, 0 ≤ x → x ≤ 3000000 → Builtin.Range.rangeFitsLong x = true := fun x a b => by
    unfold Builtin.Range.rangeFitsLong
    simp
    omega
  rw [f i h1 (by omega), f j h3 (by omega), f k (by omega) (by omega), f z s0 (by omega), if_pos h5, f (j + (k - 1)) (by omega) (by omega)]
  simp
theorem si_rng3 {X : Cx} {K : PySem.W.Frag} {xi : XI} {tg a b c : Expr} {pos p : Pos} {fa fb fc : Ev → IH → Res PV} (hg : Gl X "range") (hm : X.mg "range" = none) (hn : notStar a = true) (hn2 : notStar b = true) (hn3 : notStar c = true) (ha : PE X a (tE K xi fa)) (hb : PE X b (tE K xi fb)) (hc : PE X c (tE K xi fc)) : PI X tg (.Call (.Name "range" p) [a, b, c] [] pos)
    (tI K xi fun ev h => (fa ev h).bind fun x h1 => (fb ev h1).bind fun y h2 => (fc ev h2).bind fun z h3 => rng3F x y z h3) := by
  refine PIm (pi_range3 hg hm (pa_cons ha (pa_cons hb (pa_cons hc pa_nil (star_cons hn3)) (star_cons hn2)) (star_cons hn)) (by rw [star_cons hn]) (by rw [star_cons hn2, star_cons hn3]; rfl)) fun st H R ⟨ev, m, h, re, rh, q⟩ => ?_
  refine tE_bind re rh q fun v x m1 H1 h1 g1 re1 rh1 rx p1 => ?_
  refine tE_bind re1 rh1 p1 fun w y m2 H2 h2 g2 re2 rh2 ry p2 => ?_
  refine tE_bind re2 rh2 p2 fun u z m3 H3 h3 g3 re3 rh3 rz p3 => ?_
  cases x <;> cases y <;> cases z <;> try exact p3.elim
  rename_i i j k
  cases rx
  cases ry
  cases rz
  obtain ⟨hb, p3⟩ := Post.ite p3
  exact ⟨i, j, k, _, rfl, rgc_ok hb, p3.now rh3 _ it_rng3⟩
end Vm

set_option Elab.async false
set_option linter.all false
set_option maxRecDepth 100000
set_option maxHeartbeats 8000000
/-! VmH: the evaluator's text against the program's, and that the evaluator tells true of expressions. -/
namespace Vm
open PySem PySem.Spec PyProof.Rows L2
variable [T : Tbs]

/-- the names of a def by slot, the defs with how many parameters, the built-ins -/
structure Tb where
  N : List Str
  T : List (Str × Nat)
  B : List Str
  C : List (Str × Cst)
  gn : Bool

def visB (sc : Scope) (x : Str) : Bool := match sc.names.lookup x with
  | some .local => true
  | some .cell => true
  | some .free => true
  | _ => false
theorem visB_ok {sc : Scope} {x : Str} (h : visB sc x = true) : Vis sc x := by
  unfold visB at h
  unfold Vis
  split at h <;> first | (rename_i e; simp [e]; done) | cases h
def globB (sc : Scope) (x : Str) : Bool := decide (sc.names.lookup x = some .globalImplicit)
def okName (x : Str) : Bool := !(x == ("__debug__" : Str)) && !(x == ("__classdict__" : Str))
/-- a name that is stored in a def's body -/
def locB (sc : Scope) (x : Str) : Bool := match sc.names.lookup x with
  | some .local => true
  | some .cell => true
  | _ => false
/-- .. in a comprehension's block -/
def locC (scope sc : Scope) (x : Str) : Bool := match (relS scope sc).names.lookup x with
  | some .local => true
  | some .cell => decide (scope.names.lookup x = some .cell)
  | _ => false
/-- .. in a generator expression's block -/
def locG (scope : Scope) (x : Str) : Bool := decide (scope.names.lookup x = some .local)
def chkNames (N : List Str) (loc : Str → Bool) : List Nat → List Expr → Bool
  | [], [] => true
  | i :: is, .Name x _ :: es => decide (N[i]? = some x) && loc x && chkNames N loc is es
  | _, _ => false
def chkTg (N : List Str) (loc : Str → Bool) : Tg → Expr → Bool
  | .one i, .Name x _ => decide (N[i]? = some x) && loc x
  | .many is, .Tuple es _ _ => chkNames N loc is es
  | _, _ => false
def ownNs : List Nat → List Expr → List (Str × Nat)
  | i :: is, .Name x _ :: es => (x, i) :: ownNs is es
  | _, _ => []
def ownOf : Tg → Expr → List (Str × Nat)
  | .one i, .Name x _ => [(x, i)]
  | .many is, .Tuple es _ _ => ownNs is es
  | _, _ => []
theorem ownNs_slots {N : List Str} {loc : Str → Bool} : ∀ {is : List Nat} {es : List Expr}, chkNames N loc is es = true → (ownNs is es).map (·.2) = is
  | [], [], _ => rfl
  | [], _ :: _, h => by cases h
  | i :: is, [], h => by cases h
  | i :: is, e :: es, h => by
    cases e <;> try (cases h; done)
    unfold chkNames at h
    rw [Bool.and_eq_true] at h
    show i :: (ownNs is es).map (·.2) = i :: is
    rw [ownNs_slots h.2]
theorem ownOf_slots {N : List Str} {loc : Str → Bool} {t : Tg} {e : Expr} (h : chkTg N loc t e = true) : (ownOf t e).map (·.2) = t.slots := by
  cases t <;> cases e <;> try (cases h; done)
  · rfl
  · exact ownNs_slots h
theorem chkNames_only {N : List Str} {loc : Str → Bool} : ∀ {is : List Nat} {es : List Expr}, chkNames N loc is es = true → namesOnly es = true ∧ es.length = is.length
  | [], [], _ => ⟨rfl, rfl⟩
  | [], _ :: _, h => by cases h
  | i :: is, [], h => by cases h
  | i :: is, e :: es, h => by
    cases e <;> try (cases h; done)
    unfold chkNames at h
    rw [Bool.and_eq_true] at h
    obtain ⟨h1, h2⟩ := chkNames_only h.2
    exact ⟨h1, by rw [List.length_cons, List.length_cons, h2]⟩
theorem snd_names {X : Cx} {K : PySem.W.Frag} {loc : Str → Bool} (nd : X.N.Nodup) (hl : ∀ x, loc x = true → L2.Loc X.env.scope x ∧ (X.fn x = true ∨ X.env.scope.names.lookup x = some .local)) :
    ∀ {is : List Nat} {es : List Expr}, chkNames X.N loc is es = true → PGs X es (tGs K is)
  | [], [], _ => sgs_nil
  | [], _ :: _, h => by cases h
  | i :: is, [], h => by cases h
  | i :: is, e :: es, h => by
    cases e <;> try (cases h; done)
    unfold chkNames at h
    rw [Bool.and_eq_true, Bool.and_eq_true, decide_eq_true_eq] at h
    obtain ⟨⟨h1, h2⟩, h3⟩ := h
    obtain ⟨a, b⟩ := hl _ h2
    exact sgs_cons nd h1 a b (snd_names nd hl h3)
theorem snd_tg {X : Cx} {loc : Str → Bool} (nd : X.N.Nodup) (hc : X.calm = true) (hl : ∀ x, loc x = true → L2.Loc X.env.scope x ∧ (X.fn x = true ∨ X.env.scope.names.lookup x = some .local)) {t : Tg} {e : Expr} (h : chkTg X.N loc t e = true) : PG X e (tG X.K t) := by
  cases t <;> cases e <;> try (cases h; done)
  · unfold chkTg at h
    rw [Bool.and_eq_true, decide_eq_true_eq] at h
    obtain ⟨a, b⟩ := hl _ h.2
    exact sg_one nd h.1 a b
  · obtain ⟨h1, h2⟩ := chkNames_only h
    exact sg_many hc rfl h1 h2 (snd_names nd hl h)

def keysB : List Str → List (Option Expr) → Bool
  | [], [] => true
  | k :: ks, some (.Constant (.str z) _ _) :: es => decide (k = z) && keysB ks es
  | _, _ => false
theorem keysB_cons {k : Str} {ks : List Str} {es : List (Option Expr)} (h : keysB (k :: ks) es = true) : ∃ j p es', es = some (.Constant (.str k) j p) :: es' ∧ keysB ks es' = true := by
  unfold keysB at h
  split at h
  · cases ‹k :: ks = []›
  · rename_i a b z j p es' e1
    cases e1
    rw [Bool.and_eq_true, decide_eq_true_eq] at h
    obtain ⟨rfl, h⟩ := h
    exact ⟨_, _, _, rfl, h⟩
  · cases h
theorem keysB_some : ∀ {ks : List Str} {es : List (Option Expr)}, keysB ks es = true → es.all (·.isSome) = true
  | [], [], _ => rfl
  | [], _ :: _, h => by cases h
  | k :: ks, es, h => by
    obtain ⟨j, p, es', rfl, h'⟩ := keysB_cons h
    rw [List.all_cons, keysB_some h']
    rfl
theorem keysB_len : ∀ {ks : List Str} {es : List (Option Expr)}, keysB ks es = true → es.length = ks.length
  | [], [], _ => rfl
  | [], _ :: _, h => by cases h
  | k :: ks, es, h => by
    obtain ⟨j, p, es', rfl, h'⟩ := keysB_cons h
    rw [List.length_cons, List.length_cons, keysB_len h']
def noSuper : Expr → Bool
  | .Call .. => false
  | _ => true
theorem base_of {o : Expr} {f : Str} {env : Env} (h : noSuper o = true) : attributeBase o f env (eval o env) = eval o env := by
  cases o <;> first | rfl | cases h
def conB : List (Str × Int) → List (Option Expr) → List Expr → Bool
  | [], [], [] => true
  | (k, i) :: ks, some (.Constant (.str z) _ _) :: es, .Constant (.int n) _ _ :: vs => decide (k = z) && decide (i = n) && conB ks es vs
  | _, _, _ => false
theorem conB_ok : ∀ {ks : List (Str × Int)} {es : List (Option Expr)} {vs : List Expr}, conB ks es vs = true → ConD ks es vs := by
  intro ks
  induction ks with
  | nil =>
    intro es vs h
    cases es <;> cases vs <;> first | exact .nil | (simp [conB] at h)
  | cons p ks ih =>
    obtain ⟨k, i⟩ := p
    intro es vs h
    unfold conB at h
    split at h
    · rename_i e4
      cases e4
    · rename_i k' i' ks' z q1 q2 es' n q3 q4 vs' e1
      cases e1
      simp only [Bool.and_eq_true, decide_eq_true_eq] at h
      obtain ⟨⟨h1, h2⟩, h3⟩ := h
      subst h1
      subst h2
      exact .cons (ih h3)
    · cases h
def isNm : Expr → Bool
  | .Name .. => true
  | _ => false

def Es.len : Es → Nat
  | .nil => 0
  | .cons _ es => es.len + 1
/-- what unpacks the pairs of a walk by twos -/
def tgOk : It → Expr → Bool
  | .enum _, .Tuple _ _ _ => true
  | .enum _, _ => false
  | .zip _ _, .Tuple _ _ _ => true
  | .zip _ _, _ => false
  | _, _ => true
mutual
def chkE : E → Tb → Scope → Expr → Bool
  | .var i => fun c sc y => match y with
    | .Name x _ => decide (c.N[i]? = some x) && visB sc x && okName x
    | _ => false
  | .int i => fun _ _ y => match y with
    | .Constant (.int j) _ _ => decide (i = j)
    | _ => false
  | .str i => fun _ _ y => match y with
    | .Constant (.str j) _ _ => decide (i = j)
    | _ => false
  | .bl i => fun _ _ y => match y with
    | .Constant (.bool j) _ _ => decide (i = j)
    | _ => false
  | .non => fun _ _ y => match y with
    | .Constant .none _ _ => true
    | _ => false
  | .bin op a b => fun c sc y => match y with
    | .BinOp x o z _ => decide (o = bopS op) && chkE a c sc x && chkE b c sc z
    | _ => false
  | .neg a => fun c sc y => match y with
    | .UnaryOp .USub x _ => chkE a c sc x
    | _ => false
  | .cmp op a b => fun c sc y => match y with
    | .Compare x [o] [z] _ => decide (o = copS op) && chkE a c sc x && chkE b c sc z
    | _ => false
  | .chain o1 o2 a b d => fun c sc y => match y with
    | .Compare x [p, q] [z, u] _ => decide (p = copS o1) && decide (q = copS o2) && chkE a c sc x && chkE b c sc z && chkE d c sc u
    | _ => false
  | .isn a => fun c sc y => match y with
    | .Compare x [.Is] [.Constant .none _ _] _ => chkE a c sc x
    | _ => false
  | .notn a => fun c sc y => match y with
    | .Compare x [.IsNot] [.Constant .none _ _] _ => chkE a c sc x
    | _ => false
  | .band a b => fun c sc y => match y with
    | .BoolOp .And (x :: z :: r) p => chkE a c sc x && (match r with
      | [] => chkE b c sc z
      | u :: r => chkE b c sc (.BoolOp .And (z :: u :: r) p))
    | _ => false
  | .bor a b => fun c sc y => match y with
    | .BoolOp .Or (x :: z :: r) p => chkE a c sc x && (match r with
      | [] => chkE b c sc z
      | u :: r => chkE b c sc (.BoolOp .Or (z :: u :: r) p))
    | _ => false
  | .not a => fun c sc y => match y with
    | .UnaryOp .Not x _ => chkE a c sc x
    | _ => false
  | .ite d a b => fun c sc y => match y with
    | .IfExp t x z _ => chkE d c sc t && chkE a c sc x && chkE b c sc z
    | _ => false
  | .tup es => fun c sc y => match y with
    | .Tuple xs _ _ => chkEs es c sc xs
    | _ => false
  | .lst es => fun c sc y => match y with
    | .List xs _ => chkEs es c sc xs
    | _ => false
  | .ix a i => fun c sc y => match y with
    | .Subscript x z _ => plainIx z && chkE a c sc x && chkE i c sc z
    | _ => false
  | .call f es => fun c sc y => match y with
    | .Call (.Name x _) (z :: zs) [] _ => decide (c.T[f]? = some (x, es.len)) && globB sc x && okName x && chkEs es c sc (z :: zs)
    | _ => false
  | .bi b es => fun c sc y => match y with
    | .Call (.Name x _) (z :: zs) [] _ => decide (c.B[b]? = some x) && globB sc x && okName x && chkEs es c sc (z :: zs)
    | _ => false
  | .lc elt tg it cond => fun c sc y => match y with
    | .ListComp e [⟨t, iter, ifs, a⟩] scope _ => decide (a = 0) && noSet iter && chkIt it c sc iter && tgOk it t && blkC c.N sc scope (ownOf tg t) && chkTg c.N (locC scope sc) tg t && (match ifs with
      | [] => (match cond with
        | .bl true => true
        | _ => false)
      | [f] => chkE cond c (relS scope sc) f
      | _ => false) && chkE elt c (relS scope sc) e
    | _ => false
  | .anyg al elt tg it => fun c sc y => match y with
    | .Call (.Name x _) [.GeneratorExp e [⟨t, iter, [], a⟩] scope _] [] _ => decide (x = if al then ("all" : Str) else ("any" : Str)) && globB sc x && decide (a = 0) && c.gn && plainIt iter && chkIt it c sc iter && tgOk it t && blkGB c.N sc scope (ownOf tg t) && chkTg c.N (locG scope) tg t && chkE elt { c with gn := false } scope e
    | _ => false
  | .slc a lo hi => fun c sc y => match y with
    | .Subscript x (.Slice l u none _) _ => chkE a c sc x && chkPt lo c sc l && chkPt hi c sc u
    | _ => false
  | .isin t a => fun c sc y => match y with
    | .Call (.Name x _) [z, .Name w _] [] _ => decide (x = ("isinstance" : Str)) && decide (w = t.name) && globB sc x && globB sc w && chkE a c sc z
    | _ => false
  | .lrng a => fun c sc y => match y with
    | .Call (.Name x _) [.Call (.Name x2 _) [z] [] _] [] _ => decide (x = ("list" : Str)) && decide (x2 = ("range" : Str)) && globB sc x && globB sc x2 && chkE a c sc z
    | _ => false
  | .sset a => fun c sc y => match y with
    | .Call (.Name x _) [.Call (.Name x2 _) [z] [] _] [] _ => decide (x = ("sorted" : Str)) && decide (x2 = ("set" : Str)) && globB sc x && globB sc x2 && chkE a c sc z
    | _ => false
  | .scnt a u e => fun c sc y => match y with
    | .Call (.Attribute (.Subscript x (.Slice none (some z) none _) _) f apos) [k] [] cpos => decide (f = ("count" : Str)) && (apos.endLine == cpos.line) && chkE a c sc x && chkE u c sc z && chkE e c sc k
    | _ => false
  | .cont neg a b => fun c sc y => match y with
    | .Compare x [o] [z] _ => decide (o = if neg then .NotIn else .In) && !(behindInMarks (if neg then .NotIn else .In) z) && chkE a c sc x && chkE b c sc z
    | _ => false
  | .pop a i => fun c sc y => match y with
    | .Call (.Attribute o f apos) [z] [] cpos => decide (f = ("pop" : Str)) && (apos.endLine == cpos.line) && noSuper o && chkE a c sc o && chkE i c sc z
    | _ => false
  | .sidx a i => fun c sc y => match y with
    | .Call (.Attribute o f apos) [z] [] cpos => decide (f = ("index" : Str)) && (apos.endLine == cpos.line) && noSuper o && chkE a c sc o && chkE i c sc z
    | _ => false
  | .join a i => fun c sc y => match y with
    | .Call (.Attribute o f apos) [z] [] cpos => decide (f = ("join" : Str)) && (apos.endLine == cpos.line) && noSuper o && chkE a c sc o && chkE i c sc z
    | _ => false
  | .dlit k a ks => fun c sc y => match y with
    | .Dict (some (.Constant (.str z) _ _) :: es) (v :: vs) _ => decide (z = k) && decide (ks.length < 15) && conB ks es vs && chkE a c sc v
    | _ => false
  | .dix a k => fun c sc y => match y with
    | .Subscript x (.Constant (.str z) _ _) _ => decide (z = k) && chkE a c sc x
    | _ => false
  | .tset a => fun c sc y => match y with
    | .Call (.Name x _) [.Call (.Name x2 _) [z] [] _] [] _ => decide (x = ("sorted" : Str)) && decide (x2 = ("set" : Str)) && globB sc x && globB sc x2 && chkE a c sc z
    | _ => false
  | .tsrt a => fun c sc y => match y with
    | .Call (.Name x _) [z] [] _ => decide (x = ("sorted" : Str)) && globB sc x && chkE a c sc z
    | _ => false
  | .psrt a => fun c sc y => match y with
    | .Call (.Name x _) [z] [] _ => decide (x = ("sorted" : Str)) && globB sc x && chkE a c sc z
    | _ => false
  | .ddis ks es => fun c sc y => match y with
    | .Dict keys ys _ => keysB ks keys && decide (esLen es = ks.length) && decide (ks ≠ []) && decide (ks.length ≤ 15) && chkEs es c sc ys
    | _ => false
  | .rev a => fun c sc y => match y with
    | .Subscript x (.Slice none none (some (.UnaryOp .USub (.Constant (.int 1) _ _) _)) _) _ => chkE a c sc x
    | _ => false
  | .nemp a => fun c sc y => match y with
    | .UnaryOp .Not x _ => isNm x && chkE a c sc x
    | _ => false
  | .gcon x k => fun c sc y => match y with
    | .Name z _ => decide (z = x) && globB sc x && okName x && decide ((x, k) ∈ c.C)
    | _ => false
  | .dget a k => fun c sc y => match y with
    | .Subscript x z _ => plainIx z && chkE a c sc x && chkE k c sc z
    | _ => false
  | .din neg k d => fun c sc y => match y with
    | .Compare x [o] [z] _ => decide (o = if neg then .NotIn else .In) && !(behindInMarks (if neg then .NotIn else .In) z) && chkE k c sc x && chkE d c sc z
    | _ => false
  | .cnt a i => fun c sc y => match y with
    | .Call (.Attribute o f apos) [z] [] cpos => decide (f = ("count" : Str)) && (apos.endLine == cpos.line) && noSuper o && chkE a c sc o && chkE i c sc z
    | _ => false
def chkEs : Es → Tb → Scope → List Expr → Bool
  | .nil => fun _ _ ys => match ys with
    | [] => true
    | _ => false
  | .cons e es => fun c sc ys => match ys with
    | y :: ys => chkE e c sc y && chkEs es c sc ys
    | _ => false
def chkIt : It → Tb → Scope → Expr → Bool
  | .rng a => fun c sc y => match y with
    | .Call (.Name x _) [z] [] _ => decide (x = ("range" : Str)) && globB sc x && chkE a c sc z
    | _ => false
  | .rng2 a b => fun c sc y => match y with
    | .Call (.Name x _) [z, u] [] _ => decide (x = ("range" : Str)) && globB sc x && chkE a c sc z && chkE b c sc u
    | _ => false
  | .rng3 a b d => fun c sc y => match y with
    | .Call (.Name x _) [z, u, w] [] _ => decide (x = ("range" : Str)) && globB sc x && chkE a c sc z && chkE b c sc u && chkE d c sc w
    | _ => false
  | .seq a => fun c sc y => chkE a c sc y
  | .sgn a => fun c sc y => chkE a c sc y
  | .enum a => fun c sc y => match y with
    | .Call (.Name x _) [z] [] _ => decide (x = ("enumerate" : Str)) && globB sc x && chkE a c sc z
    | _ => false
  | .zip a b => fun c sc y => match y with
    | .Call (.Name x _) [z, u] [] _ => decide (x = ("zip" : Str)) && globB sc x && chkE a c sc z && chkE b c sc u
    | _ => false
def chkPt : Pt → Tb → Scope → Option Expr → Bool
  | .no => fun _ _ y => match y with
    | none => true
    | _ => false
  | .yes a => fun c sc y => match y with
    | some z => chkE a c sc z
    | _ => false
end

/-- a built-in keeps what the evaluator does -/
def BiGood (X : Cx) (x : Str) (F : List PV → IH → Res PV) : Prop :=
  (∃ id r, bootBuiltins x = some (.builtin id) ∧ CallR X (.builtin id) r ∧ BiOk X.K F r) ∨ (∃ T r, bootBuiltins x = some (.type T) ∧ CallR X (.type T) r ∧ BiOk X.K F r)
/-- a def keeps what the evaluator does -/
def DefGood (j : Nat) (X : Cx) (x : Str) (n : Nat) (F : List PV → IH → Res PV) : Prop :=
  ∃ f fd ps k, X.mg x = some (.ref f) ∧ PySem.W.keepIn X.K (.ref f) = true ∧ Binds X.K fd ps [] ∧ Room (k + j) X.A ∧ FnG X.prog X.w X.K X.mg X.base k f fd n ps (spOf X.K n F)
/-- names of built-ins that the language has by itself -/
def coreN : List Str := ["any", "all", "list", "sorted", "set", "enumerate", "zip", "isinstance", "int", "bool", "str", "tuple"]
/-- the context of an expression -/
structure Okc (c : Tb) (G B : Fns) (X : Cx) : Prop where
  ft : Fit X
  N : X.N = c.N
  nd : X.N.Nodup
  rng : X.mg "range" = none
  more : ∀ x ∈ coreN, X.mg x = none
  fn : ∀ (i : Nat) x n, c.T[i]? = some (x, n) → DefGood c.gn.toNat X x n (G i)
  bi : ∀ (i : Nat) x, c.B[i]? = some x → X.mg x = none ∧ x ≠ "__name__"
  cs : ∀ x k, (x, k) ∈ c.C → ConGood X x k
  gn : c.gn = true → ∃ cc P, X.env.code = .ref cc ∧ GxR.TabB X.base X.mg cc P ∧ P ∈ T.at' ∧ Room 1 X.A
abbrev BiAll (c : Tb) (B : Fns) : Prop := ∀ (X : Cx), Fit X → ∀ (i : Nat) x, c.B[i]? = some x → BiGood X x (B i)

theorem esLen_chk : ∀ (es : Es) {c : Tb} {sc : Scope} {ys : List Expr}, chkEs es c sc ys = true → esLen es = ys.length
  | .nil, c, sc, ys, h => by cases ys <;> first | rfl | cases h
  | .cons e es, c, sc, ys, h => by
    cases ys <;> try (cases h; done)
    simp only [chkEs, Bool.and_eq_true] at h
    rw [List.length_cons, ← esLen_chk es h.2]
    rfl
def isBop : Expr → Bool
  | .BoolOp .. => true
  | _ => false
structure Snd (X : Cx) (y : Expr) (f : Ev → IH → Res PV) : Prop where
  e : PE X y (tE X.K xi0 f)
  t : PT X y (tT X.K xi0 (bF f))
  w : isBop y = true → PW X y (tT X.K xi0 (bF f))
  s : notStar y = true

theorem glob_ok {X : Cx} {x : Str} (h : globB X.env.scope x = true) : Gl X x := by
  unfold globB at h
  rw [decide_eq_true_eq] at h
  exact h
theorem okName_d {x : Str} (h : okName x = true) : (x == ("__debug__" : Str)) = false ∧ (x == ("__classdict__" : Str)) = false := by
  unfold okName at h
  simpa using h
theorem evEs_len {G B : Fns} : ∀ (es : Es) (ev : Ev) (h : IH) (xs : List PV) (h1 : IH), evEs G B es ev h = .ok xs h1 → xs.length = es.len
  | .nil, _, _, _, _, e => by cases e; rfl
  | .cons e es, ev, h, xs, h1, q => by
    unfold evEs at q
    cases e1 : evE G B e ev h with
    | stuck => rw [e1] at q; cases q
    | exc _ _ _ => rw [e1] at q; cases q
    | ok x h2 =>
      rw [e1, Res.bind_ok] at q
      cases e2 : evEs G B es ev h2 with
      | stuck => rw [e2] at q; cases q
      | exc _ _ _ => rw [e2] at q; cases q
      | ok ys h3 =>
        rw [e2] at q
        cases q
        rw [List.length_cons, evEs_len es ev h2 ys _ e2]
        rfl
theorem Okc.blk {c : Tb} {G B : Fns} {X : Cx} (ok : Okc c G B X) (s : Shared) (H : Hp) (scope : Scope) (cenv : Env) (fp : List Addr) (hcd : cenv.code = X.env.code := by rfl) : Okc c G B (X.blk s H scope cenv fp) :=
  ⟨⟨ok.ft.calm, ok.ft.hu, ok.ft.hush⟩, ok.N, ok.nd, ok.rng, ok.more, ok.fn, ok.bi, ok.cs, fun z => by
    obtain ⟨cc, P, h1, h2⟩ := ok.gn z
    exact ⟨cc, P, hcd.trans h1, h2⟩⟩
theorem Okc.gen {c : Tb} {G B : Fns} {X : Cx} (ok : Okc c G B X) (hg : c.gn = true) {s4 : Shared} {H4 : Hp} {elt tg iter : Expr} {scope : Scope} {gpos : Pos} {it a : Addr} {cenv : Env} {fp : List Addr} {go : Obj} : Okc { c with gn := false } G B (gX X s4 H4 elt tg iter scope gpos it cenv fp a go) := by
  obtain ⟨cc, P, h1, h2, h3, hr⟩ := ok.gn hg
  refine ⟨⟨ok.ft.calm, ?_, genA_guards ok.ft.hush⟩, ok.N, ok.nd, ok.rng, ok.more, fun i x n e => ?_, ok.bi, ok.cs, fun z => by cases z⟩
  · have := hr.un
    have := genA_units (X := X) (elt := elt) (tg := tg) (iter := iter) (scope := scope) (gpos := gpos) (it := it) (cenv := cenv)
    show (genA X elt tg iter scope gpos it cenv).units + 100 < cLine
    omega
  · obtain ⟨f, fd, ps, k, g1, g2, g3, g4, g5⟩ := ok.fn i x n e
    rw [hg] at g4
    exact ⟨f, fd, ps, k, g1, g2, g3, genA_room g4, g5⟩

theorem snd_of {X : Cx} {y : Expr} {f : Ev → IH → Res PV} (e : PE X y (tE X.K xi0 f)) (he : ∀ whole, isTrue y X.env whole = (do let v ← whole; standAt y.pos; holding [v] (truthy v)))
    (w : isBop y = false) (s : notStar y = true) : Snd X y f := ⟨e, st_val e he, fun z => (by rw [w] at z; cases z), s⟩
theorem locC_ok {scope sc : Scope} {x : Str} (h : locC scope sc x = true) : L2.Loc (relS scope sc) x ∧ ((scope.names.lookup x == some .cell) = true ∨ (relS scope sc).names.lookup x = some .local) := by
  unfold locC at h
  unfold L2.Loc
  split at h
  · rename_i e
    exact ⟨.inl e, .inr e⟩
  · rename_i e
    exact ⟨.inr e, .inl (by simpa using h)⟩
  · cases h
section
variable {G B : Fns}
mutual
theorem sndE : ∀ (e : E) (c : Tb) (hB : BiAll c B) (X : Cx) (y : Expr), Okc c G B X → chkE e c X.env.scope y = true → Snd X y (evE G B e)
  | .var i, c, hB, X, y, ok, hc => by
    cases y <;> try (cases hc; done)
    rename_i x p
    simp only [chkE, Bool.and_eq_true, decide_eq_true_eq] at hc
    obtain ⟨⟨h1, h2⟩, h3⟩ := hc
    exact snd_of (se_var (by rw [ok.N]; exact h1) (visB_ok h2) (okName_d h3).1 (okName_d h3).2) (fun _ => rfl) rfl rfl
  | .int i, c, hB, X, y, ok, hc => by
    cases y <;> try (cases hc; done)
    rename_i v k p
    cases v <;> try (cases hc; done)
    simp only [chkE, decide_eq_true_eq] at hc
    subst hc
    exact snd_of (se_con pe_int fun _ _ => .int) (fun _ => rfl) rfl rfl
  | .str i, c, hB, X, y, ok, hc => by
    cases y <;> try (cases hc; done)
    rename_i v k p
    cases v <;> try (cases hc; done)
    simp only [chkE, decide_eq_true_eq] at hc
    subst hc
    exact snd_of (se_con pe_str fun _ _ => .str) (fun _ => rfl) rfl rfl
  | .bl i, c, hB, X, y, ok, hc => by
    cases y <;> try (cases hc; done)
    rename_i v k p
    cases v <;> try (cases hc; done)
    simp only [chkE, decide_eq_true_eq] at hc
    subst hc
    exact snd_of (se_con pe_bl fun _ _ => .bl) (fun _ => rfl) rfl rfl
  | .non, c, hB, X, y, ok, hc => by
    cases y <;> try (cases hc; done)
    rename_i v k p
    cases v <;> try (cases hc; done)
    exact snd_of (se_con pe_non fun _ _ => .non) (fun _ => rfl) rfl rfl
  | .bin op a b, c, hB, X, y, ok, hc => by
    cases y <;> try (cases hc; done)
    simp only [chkE, Bool.and_eq_true, decide_eq_true_eq] at hc
    obtain ⟨⟨rfl, h1⟩, h2⟩ := hc
    obtain ⟨r, q, k⟩ := bop_all ok.ft op
    exact snd_of (se_bin q (k xi0) (sndE a c hB X _ ok h1).e (sndE b c hB X _ ok h2).e) (fun _ => rfl) rfl rfl
  | .neg a, c, hB, X, y, ok, hc => by
    cases y <;> try (cases hc; done)
    rename_i o x p
    cases o <;> try (cases hc; done)
    exact snd_of (se_neg (sndE a c hB X _ ok hc).e) (fun _ => rfl) rfl rfl
  | .cmp op a b, c, hB, X, y, ok, hc => by
    cases y <;> try (cases hc; done)
    rename_i x os zs p
    rcases os with _ | ⟨o, _ | ⟨_, _⟩⟩ <;> try (cases hc; done)
    rcases zs with _ | ⟨z, _ | ⟨_, _⟩⟩ <;> try (cases hc; done)
    simp only [chkE, Bool.and_eq_true, decide_eq_true_eq] at hc
    obtain ⟨⟨rfl, h1⟩, h2⟩ := hc
    obtain ⟨r, q, k⟩ := cop_all ok.ft op
    exact ⟨se_cmp q (k xi0) (cop_mark op _) (sndE a c hB X _ ok h1).e (sndE b c hB X _ ok h2).e, st_cmp q (k xi0) (cop_mark op _) (sndE a c hB X _ ok h1).e (sndE b c hB X _ ok h2).e, fun z => (nomatch z), rfl⟩
  | .chain o1 o2 a b d, c, hB, X, y, ok, hc => by
    cases y <;> try (cases hc; done)
    rename_i x os zs p
    rcases os with _ | ⟨o, _ | ⟨q, _ | ⟨_, _⟩⟩⟩ <;> try (cases hc; done)
    rcases zs with _ | ⟨z, _ | ⟨u, _ | ⟨_, _⟩⟩⟩ <;> try (cases hc; done)
    simp only [chkE, Bool.and_eq_true, decide_eq_true_eq] at hc
    obtain ⟨⟨⟨⟨rfl, rfl⟩, h1⟩, h2⟩, h3⟩ := hc
    exact ⟨se_chain ok.ft rfl (sndE a c hB X _ ok h1).e (sndE b c hB X _ ok h2).e (sndE d c hB X _ ok h3).e, st_chain ok.ft rfl (sndE a c hB X _ ok h1).e (sndE b c hB X _ ok h2).e (sndE d c hB X _ ok h3).e, fun z => (nomatch z), rfl⟩
  | .isn a, c, hB, X, y, ok, hc => by
    cases y <;> try (cases hc; done)
    rename_i x os zs p
    rcases os with _ | ⟨o, _ | ⟨_, _⟩⟩ <;> try (first | (cases hc; done) | (cases o <;> (cases hc; done)))
    cases o <;> try (cases hc; done)
    rcases zs with _ | ⟨z, _ | ⟨_, _⟩⟩ <;> try (first | (cases hc; done) | (cases z <;> first | (cases hc; done) | (rename_i v _ _; cases v <;> (cases hc; done))))
    cases z <;> try (cases hc; done)
    rename_i v _ _
    cases v <;> try (cases hc; done)
    exact ⟨se_isn (sndE a c hB X _ ok hc).e, st_isn (sndE a c hB X _ ok hc).e, fun z => (nomatch z), rfl⟩
  | .notn a, c, hB, X, y, ok, hc => by
    cases y <;> try (cases hc; done)
    rename_i x os zs p
    rcases os with _ | ⟨o, _ | ⟨_, _⟩⟩ <;> try (first | (cases hc; done) | (cases o <;> (cases hc; done)))
    cases o <;> try (cases hc; done)
    rcases zs with _ | ⟨z, _ | ⟨_, _⟩⟩ <;> try (first | (cases hc; done) | (cases z <;> first | (cases hc; done) | (rename_i v _ _; cases v <;> (cases hc; done))))
    cases z <;> try (cases hc; done)
    rename_i v _ _
    cases v <;> try (cases hc; done)
    exact ⟨se_notn (sndE a c hB X _ ok hc).e, st_notn (sndE a c hB X _ ok hc).e, fun z => (nomatch z), rfl⟩
  | .band a b, c, hB, X, y, ok, hc => by
    cases y <;> try (cases hc; done)
    rename_i o zs p
    cases o <;> try (cases hc; done)
    rcases zs with _ | ⟨x, _ | ⟨z, r⟩⟩ <;> try (cases hc; done)
    simp only [chkE, Bool.and_eq_true] at hc
    obtain ⟨h1, h2⟩ := hc
    have A := sndE a c hB X _ ok h1
    cases r with
    | nil =>
      have Q := sndE b c hB X _ ok h2
      have W := sw_band (pos := p) A.t (rest := []) (pw_and1 Q.t)
      exact ⟨se_band A.e (pe_one Q.e), W.pt, fun _ => W, rfl⟩
    | cons u r =>
      have Q := sndE b c hB X _ ok h2
      have W := sw_band (pos := p) A.t (Q.w rfl)
      exact ⟨se_band A.e Q.e, W.pt, fun _ => W, rfl⟩
  | .bor a b, c, hB, X, y, ok, hc => by
    cases y <;> try (cases hc; done)
    rename_i o zs p
    cases o <;> try (cases hc; done)
    rcases zs with _ | ⟨x, _ | ⟨z, r⟩⟩ <;> try (cases hc; done)
    simp only [chkE, Bool.and_eq_true] at hc
    obtain ⟨h1, h2⟩ := hc
    have A := sndE a c hB X _ ok h1
    cases r with
    | nil =>
      have Q := sndE b c hB X _ ok h2
      have W := sw_bor (pos := p) A.t (rest := []) (pw_or1 Q.t)
      exact ⟨se_bor A.e (pe_one Q.e), W.pt, fun _ => W, rfl⟩
    | cons u r =>
      have Q := sndE b c hB X _ ok h2
      have W := sw_bor (pos := p) A.t (Q.w rfl)
      exact ⟨se_bor A.e Q.e, W.pt, fun _ => W, rfl⟩
  | .not a, c, hB, X, y, ok, hc => by
    cases y <;> try (cases hc; done)
    rename_i o x p
    cases o <;> try (cases hc; done)
    exact ⟨se_not (sndE a c hB X _ ok hc).e, st_not (sndE a c hB X _ ok hc).t, fun z => (nomatch z), rfl⟩
  | .ite d a b, c, hB, X, y, ok, hc => by
    cases y <;> try (cases hc; done)
    simp only [chkE, Bool.and_eq_true] at hc
    obtain ⟨⟨h1, h2⟩, h3⟩ := hc
    exact ⟨se_ite (sndE d c hB X _ ok h1).t (sndE a c hB X _ ok h2).e (sndE b c hB X _ ok h3).e, st_ite (sndE d c hB X _ ok h1).t (sndE a c hB X _ ok h2).t (sndE b c hB X _ ok h3).t, fun z => (nomatch z), rfl⟩
  | .tup es, c, hB, X, y, ok, hc => by
    cases y <;> try (cases hc; done)
    exact snd_of (se_tup (sndEs es c hB X _ ok hc).1) (fun _ => rfl) rfl rfl
  | .lst es, c, hB, X, y, ok, hc => by
    cases y <;> try (cases hc; done)
    exact snd_of (se_lst (sndEs es c hB X _ ok hc).1) (fun _ => rfl) rfl rfl
  | .ix a i, c, hB, X, y, ok, hc => by
    cases y <;> try (cases hc; done)
    simp only [chkE, Bool.and_eq_true] at hc
    obtain ⟨⟨h1, h2⟩, h3⟩ := hc
    exact snd_of (se_ix rfl h1 (sndE a c hB X _ ok h2).e (sndE i c hB X _ ok h3).e) (fun _ => rfl) rfl rfl
  | .call f es, c, hB, X, y, ok, hc => by
    cases y <;> try (cases hc; done)
    rename_i fn zs kw p
    cases fn <;> try (cases hc; done)
    cases zs <;> try (cases hc; done)
    cases kw <;> try (cases hc; done)
    simp only [chkE, Bool.and_eq_true, decide_eq_true_eq] at hc
    obtain ⟨⟨⟨h1, h2⟩, h3⟩, h4⟩ := hc
    obtain ⟨f, fd, ps, k, g1, g2, g3, g4, g6⟩ := ok.fn _ _ _ h1
    have S := sndEs es c hB X _ ok h4
    exact snd_of (se_call g6 ok.ft.hush (g4.mono (Nat.le_add_right _ _)) (glob_ok h2) g1 g2 g3 S.1 (fun ev h xs h1 e => evEs_len es ev h xs h1 e) S.2 (okName_d h3).1) (fun _ => rfl) rfl rfl
  | .bi b es, c, hB, X, y, ok, hc => by
    cases y <;> try (cases hc; done)
    rename_i fn zs kw p
    cases fn <;> try (cases hc; done)
    cases zs <;> try (cases hc; done)
    cases kw <;> try (cases hc; done)
    simp only [chkE, Bool.and_eq_true, decide_eq_true_eq] at hc
    obtain ⟨⟨⟨h1, h2⟩, h3⟩, h4⟩ := hc
    obtain ⟨m1, m2⟩ := ok.bi _ _ h1
    have S := sndEs es c hB X _ ok h4
    rcases hB X ok.ft _ _ h1 with ⟨id, r, b1, b2, b3⟩ | ⟨T, r, b1, b2, b3⟩
    · exact snd_of (se_biB b2 b3 (glob_ok h2) m1 b1 S.1 S.2 m2 (okName_d h3).1) (fun _ => rfl) rfl rfl
    · exact snd_of (se_biT b2 b3 (glob_ok h2) m1 b1 S.1 S.2 m2 (okName_d h3).1) (fun _ => rfl) rfl rfl
  | .lc elt tg it cond, c, hB, X, y, ok, hc => by
    cases y <;> try (cases hc; done)
    rename_i e gs scope p
    rcases gs with _ | ⟨⟨t, iter, ifs, a⟩, _ | ⟨_, _⟩⟩ <;> try (cases hc; done)
    simp only [chkE, Bool.and_eq_true, decide_eq_true_eq] at hc
    obtain ⟨⟨⟨⟨⟨⟨⟨rfl, h2⟩, h3⟩, ht0⟩, h4⟩, h5⟩, h6⟩, h7⟩ := hc
    have hi := sndIt it c hB X _ t ok h3 ht0
    have hb : BlkOk X.N X.env.scope scope (ownOf tg t) := by rw [ok.N]; exact blkOk_by h4
    have hg : ∀ (s : Shared) (H : Hp) (C : Addr) (cl : List (Str × Addr)) (fp : List Addr), PG (X.blk s H scope (compEnvC scope cl C X.env) fp) t (tG X.K tg) := fun s H C cl fp =>
      snd_tg (X := X.blk s H scope (compEnvC scope cl C X.env) fp) (loc := locC scope X.env.scope) ok.nd ok.ft.calm (fun x hx => locC_ok hx) (by rw [show (X.blk s H scope (compEnvC scope cl C X.env) fp).N = c.N from ok.N]; exact h5)
    have he : ∀ (s : Shared) (H : Hp) (C : Addr) (cl : List (Str × Addr)) (fp : List Addr), PE (X.blk s H scope (compEnvC scope cl C X.env) fp) e (tE X.K xi0 (evE G B elt)) := fun s H C cl fp => (sndE elt c hB (X.blk s H scope (compEnvC scope cl C X.env) fp) e (ok.blk ..) h7).e
    have fin : ∀ (tt : TT), (∀ (s : Shared) (H : Hp) (C : Addr) (cl : List (Str × Addr)) (fp : List Addr), PTs (X.blk s H scope (compEnvC scope cl C X.env) fp) ifs tt) → (∀ st H Q, tT X.K xi0 (bF (evE G B cond)) st H Q → tt st H Q) → Snd X (.ListComp e [⟨t, iter, ifs, 0⟩] scope p) (evE G B (.lc elt tg it cond)) := fun tt ht htt => by
      refine snd_of (PEm (pe_lc ok.ft.calm ok.nd hi hb hg ht he (folded_of h2)) fun st H Q q => ?_) (fun _ => rfl) rfl rfl
      rw [ownOf_slots h5]
      exact tLc_of htt q
    rcases ifs with _ | ⟨f, _ | ⟨_, _⟩⟩ <;> try (cases h6; done)
    · cases cond <;> try (cases h6; done)
      rename_i b
      cases b <;> try (cases h6; done)
      refine fin tYes (fun s H C cl fp => pts_nil) fun st H Q q => ?_
      obtain ⟨ev, m, h, re, rh, q⟩ := q
      exact q.now rh
    · exact fin _ (fun s H C cl fp => pts_one (sndE cond c hB (X.blk s H scope (compEnvC scope cl C X.env) fp) f (ok.blk ..) h6).t) fun st H Q q => q
  | .anyg al elt tg it, c, hB, X, y, ok, hc => by
    unfold chkE at hc
    split at hc
    · rename_i x p e t iter a scope gpos pos
      simp only [Bool.and_eq_true, decide_eq_true_eq] at hc
      obtain ⟨⟨⟨⟨⟨⟨⟨⟨⟨h1, h2⟩, rfl⟩, h4⟩, h5⟩, h6⟩, h7⟩, h8⟩, h9⟩, h10⟩ := hc
      obtain ⟨cc, P, hcd, TB, hP, hr⟩ := ok.gn h4
      have hi := sndIt it c hB X _ t ok h6 h7
      have hb : BlkG X.N X.env.scope scope (ownOf tg t) := by rw [ok.N]; exact blkG_by h8
      have hg : ∀ (s4 : Shared) (H4 : Hp) (it : Addr) (code : Value) (fp : List Addr) (a : Addr) (go : Obj), PG (gX X s4 H4 e t iter scope gpos it (genEnv scope (cloFrom X.env.cells scope.names []) s4.heap.objs.size code builtinsNs X.env) fp a go) t (tG X.K tg) := fun s4 H4 it code fp a go =>
        snd_tg (X := gX X s4 H4 e t iter scope gpos it (genEnv scope (cloFrom X.env.cells scope.names []) s4.heap.objs.size code builtinsNs X.env) fp a go) (loc := locG scope) ok.nd ok.ft.calm (fun x hx => ⟨.inl (of_decide_eq_true hx), .inr (of_decide_eq_true hx)⟩) (by rw [show (gX X s4 H4 e t iter scope gpos it (genEnv scope (cloFrom X.env.cells scope.names []) s4.heap.objs.size code builtinsNs X.env) fp a go).N = c.N from ok.N]; exact h9)
      have he : ∀ (s4 : Shared) (H4 : Hp) (it : Addr) (code : Value) (fp : List Addr) (a : Addr) (go : Obj), PE (gX X s4 H4 e t iter scope gpos it (genEnv scope (cloFrom X.env.cells scope.names []) s4.heap.objs.size code builtinsNs X.env) fp a go) e (tE X.K xi0 (evE G B elt)) := fun s4 H4 it code fp a go =>
        (sndE elt { c with gn := false } (fun X ft i x e => hB X ft i x e) (gX X s4 H4 e t iter scope gpos it (genEnv scope (cloFrom X.env.cells scope.names []) s4.heap.objs.size code builtinsNs X.env) fp a go) e (ok.gen h4) h10).e
      cases al with
      | false =>
        subst h1
        refine snd_of (PEm (pe_anyG ok.ft.calm ok.nd hr (glob_ok h2) (ok.more _ (by decide)) TB hcd hb hi hg he (genFold_of h5)) fun st H Q q => ?_) (fun _ => rfl) rfl rfl
        rw [ownOf_slots h9]
        exact tGen_of hP q
      | true =>
        subst h1
        refine snd_of (PEm (pe_allG ok.ft.calm ok.nd hr (glob_ok h2) (ok.more _ (by decide)) TB hcd hb hi hg he (genFold_of h5)) fun st H Q q => ?_) (fun _ => rfl) rfl rfl
        rw [ownOf_slots h9]
        exact tGen_of hP q
    · cases hc
  | .slc a lo hi, c, hB, X, y, ok, hc => by
    cases y <;> try (cases hc; done)
    rename_i x sl p
    cases sl <;> try (cases hc; done)
    rename_i l u st p2
    cases st <;> try (cases hc; done)
    simp only [chkE, Bool.and_eq_true] at hc
    obtain ⟨⟨h1, h2⟩, h3⟩ := hc
    exact snd_of (se_slc rfl (sndE a c hB X _ ok h1).e (sndPt lo c hB X _ ok h2) (sndPt hi c hB X _ ok h3)) (fun _ => rfl) rfl rfl
  | .isin t a, c, hB, X, y, ok, hc => by
    unfold chkE at hc
    split at hc
    · simp only [Bool.and_eq_true, decide_eq_true_eq] at hc
      obtain ⟨⟨⟨⟨rfl, rfl⟩, h3⟩, h4⟩, h5⟩ := hc
      have A := sndE a c hB X _ ok h5
      exact snd_of (se_isin t (glob_ok h3) (ok.more _ (by decide)) (glob_ok h4) (ok.more _ (by cases t <;> decide)) A.s A.e) (fun _ => rfl) rfl rfl
    · cases hc
  | .lrng a, c, hB, X, y, ok, hc => by
    unfold chkE at hc
    split at hc
    · simp only [Bool.and_eq_true, decide_eq_true_eq] at hc
      obtain ⟨⟨⟨⟨rfl, rfl⟩, h3⟩, h4⟩, h5⟩ := hc
      have A := sndE a c hB X _ ok h5
      exact snd_of (se_lrng ok.ft.calm (glob_ok h3) (ok.more _ (by decide)) (glob_ok h4) ok.rng A.s A.e) (fun _ => rfl) rfl rfl
    · cases hc
  | .sset a, c, hB, X, y, ok, hc => by
    unfold chkE at hc
    split at hc
    · simp only [Bool.and_eq_true, decide_eq_true_eq] at hc
      obtain ⟨⟨⟨⟨rfl, rfl⟩, h3⟩, h4⟩, h5⟩ := hc
      have A := sndE a c hB X _ ok h5
      exact snd_of (se_sset ok.ft.calm (glob_ok h3) (ok.more _ (by decide)) (glob_ok h4) (ok.more _ (by decide)) A.s A.e) (fun _ => rfl) rfl rfl
    · cases hc
  | .scnt a u e, c, hB, X, y, ok, hc => by
    unfold chkE at hc
    split at hc
    · simp only [Bool.and_eq_true, decide_eq_true_eq] at hc
      obtain ⟨⟨⟨⟨rfl, h2⟩, h3⟩, h4⟩, h5⟩ := hc
      have A := sndE e c hB X _ ok h5
      exact snd_of (se_scnt A.s h2 (sndE a c hB X _ ok h3).e (sndE u c hB X _ ok h4).e A.e) (fun _ => rfl) rfl rfl
    · cases hc
  | .cont neg a b, c, hB, X, y, ok, hc => by
    unfold chkE at hc
    split at hc
    · simp only [Bool.and_eq_true, decide_eq_true_eq, Bool.not_eq_true'] at hc
      obtain ⟨⟨⟨rfl, h2⟩, h3⟩, h4⟩ := hc
      have Q := fun pos => se_cont (pos := pos) rfl neg h2 (sndE a c hB X _ ok h3).e (sndE b c hB X _ ok h4).e
      exact ⟨(Q _).1, (Q _).2, fun z => (nomatch z), rfl⟩
    · cases hc
  | .pop a i, c, hB, X, y, ok, hc => by
    unfold chkE at hc
    split at hc
    · simp only [Bool.and_eq_true, decide_eq_true_eq] at hc
      obtain ⟨⟨⟨⟨rfl, h2⟩, h3⟩, h4⟩, h5⟩ := hc
      have A := sndE i c hB X _ ok h5
      exact snd_of (se_pop rfl A.s h2 (base_of h3) (sndE a c hB X _ ok h4).e A.e) (fun _ => rfl) rfl rfl
    · cases hc
  | .sidx a i, c, hB, X, y, ok, hc => by
    unfold chkE at hc
    split at hc
    · simp only [Bool.and_eq_true, decide_eq_true_eq] at hc
      obtain ⟨⟨⟨⟨rfl, h2⟩, h3⟩, h4⟩, h5⟩ := hc
      have A := sndE i c hB X _ ok h5
      exact snd_of (se_sidx A.s h2 (base_of h3) (sndE a c hB X _ ok h4).e A.e) (fun _ => rfl) rfl rfl
    · cases hc
  | .join a i, c, hB, X, y, ok, hc => by
    unfold chkE at hc
    split at hc
    · simp only [Bool.and_eq_true, decide_eq_true_eq] at hc
      obtain ⟨⟨⟨⟨rfl, h2⟩, h3⟩, h4⟩, h5⟩ := hc
      have A := sndE i c hB X _ ok h5
      exact snd_of (se_join rfl A.s h2 (base_of h3) (sndE a c hB X _ ok h4).e A.e) (fun _ => rfl) rfl rfl
    · cases hc
  | .dlit k a ks, c, hB, X, y, ok, hc => by
    unfold chkE at hc
    split at hc
    · simp only [Bool.and_eq_true, decide_eq_true_eq] at hc
      obtain ⟨⟨⟨rfl, h2⟩, h3⟩, h4⟩ := hc
      exact snd_of (se_dlit (conB_ok h3) (sndE a c hB X _ ok h4).e h2) (fun _ => rfl) rfl rfl
    · cases hc
  | .dix a k, c, hB, X, y, ok, hc => by
    unfold chkE at hc
    split at hc
    · simp only [Bool.and_eq_true, decide_eq_true_eq] at hc
      obtain ⟨rfl, h4⟩ := hc
      exact snd_of (se_dix (by have := ok.ft.hu; omega) (sndE a c hB X _ ok h4).e) (fun _ => rfl) rfl rfl
    · cases hc
  | .gcon x k, c, hB, X, y, ok, hc => by
    unfold chkE at hc
    split at hc
    · simp only [Bool.and_eq_true, decide_eq_true_eq] at hc
      obtain ⟨⟨⟨rfl, h2⟩, h3⟩, h4⟩ := hc
      exact snd_of (se_gcon (glob_ok h2) (ok.cs _ _ h4) (okName_d h3).1) (fun _ => rfl) rfl rfl
    · cases hc
  | .dget a k, c, hB, X, y, ok, hc => by
    unfold chkE at hc
    split at hc
    · simp only [Bool.and_eq_true] at hc
      obtain ⟨⟨h1, h2⟩, h3⟩ := hc
      exact snd_of (se_dget (by have := ok.ft.hu; omega) h1 (sndE a c hB X _ ok h2).e (sndE k c hB X _ ok h3).e) (fun _ => rfl) rfl rfl
    · cases hc
  | .din neg k d, c, hB, X, y, ok, hc => by
    unfold chkE at hc
    split at hc
    · simp only [Bool.and_eq_true, decide_eq_true_eq, Bool.not_eq_true'] at hc
      obtain ⟨⟨⟨rfl, h2⟩, h3⟩, h4⟩ := hc
      exact ⟨se_din neg (by have := ok.ft.hu; omega) h2 (sndE k c hB X _ ok h3).e (sndE d c hB X _ ok h4).e, st_din neg (by have := ok.ft.hu; omega) h2 (sndE k c hB X _ ok h3).e (sndE d c hB X _ ok h4).e, (fun z => by cases z), rfl⟩
    · cases hc
  | .cnt a i, c, hB, X, y, ok, hc => by
    unfold chkE at hc
    split at hc
    · simp only [Bool.and_eq_true, decide_eq_true_eq] at hc
      obtain ⟨⟨⟨⟨rfl, h2⟩, h3⟩, h4⟩, h5⟩ := hc
      have A := sndE i c hB X _ ok h5
      exact snd_of (se_cnt rfl A.s h2 (base_of h3) (sndE a c hB X _ ok h4).e A.e) (fun _ => rfl) rfl rfl
    · cases hc
  | .tset a, c, hB, X, y, ok, hc => by
    unfold chkE at hc
    split at hc
    · simp only [Bool.and_eq_true, decide_eq_true_eq] at hc
      obtain ⟨⟨⟨⟨rfl, rfl⟩, h3⟩, h4⟩, h5⟩ := hc
      have A := sndE a c hB X _ ok h5
      exact snd_of (se_tset ok.ft.calm (glob_ok h3) (ok.more _ (by decide)) (glob_ok h4) (ok.more _ (by decide)) A.s A.e) (fun _ => rfl) rfl rfl
    · cases hc
  | .tsrt a, c, hB, X, y, ok, hc => by
    unfold chkE at hc
    split at hc
    · simp only [Bool.and_eq_true, decide_eq_true_eq] at hc
      obtain ⟨⟨rfl, h3⟩, h5⟩ := hc
      have A := sndE a c hB X _ ok h5
      exact snd_of (se_tsrt (glob_ok h3) (ok.more _ (by decide)) A.s A.e) (fun _ => rfl) rfl rfl
    · cases hc
  | .psrt a, c, hB, X, y, ok, hc => by
    unfold chkE at hc
    split at hc
    · simp only [Bool.and_eq_true, decide_eq_true_eq] at hc
      obtain ⟨⟨rfl, h3⟩, h5⟩ := hc
      have A := sndE a c hB X _ ok h5
      exact snd_of (se_psrt ok.ft.hu (glob_ok h3) (ok.more _ (by decide)) A.s A.e) (fun _ => rfl) rfl rfl
    · cases hc
  | .ddis ks es, c, hB, X, y, ok, hc => by
    cases y <;> try (cases hc; done)
    simp only [chkE, Bool.and_eq_true, decide_eq_true_eq] at hc
    obtain ⟨⟨⟨⟨h1, h2⟩, h3⟩, h4⟩, h5⟩ := hc
    have kl := keysB_len h1
    exact snd_of (se_ddis (sndPs es ks _ c hB X _ ok h1 h2 h5) (keysB_some h1) (by rw [kl, ← h2, esLen_chk es h5]) (fun z => h3 (by rw [z] at kl; exact List.length_eq_zero_iff.mp kl.symm)) (by rw [kl]; exact h4) h2) (fun _ => rfl) rfl rfl
  | .rev a, c, hB, X, y, ok, hc => by
    unfold chkE at hc
    split at hc
    · exact snd_of (se_rev rfl (sndE a c hB X _ ok hc).e) (fun _ => rfl) rfl rfl
    · cases hc
  | .nemp a, c, hB, X, y, ok, hc => by
    unfold chkE at hc
    split at hc
    · rename_i x p
      rw [Bool.and_eq_true] at hc
      cases x <;> try (cases hc.1; done)
      have A := sndE a c hB X _ ok hc.2
      exact ⟨se_nemp rfl A.e, st_nemp rfl (fun _ => rfl) A.e, fun z => (nomatch z), rfl⟩
    · cases hc
theorem sndEs : ∀ (es : Es) (c : Tb) (hB : BiAll c B) (X : Cx) (ys : List Expr), Okc c G B X → chkEs es c X.env.scope ys = true → PA X ys (tA X.K xi0 (evEs G B es)) ∧ ys.all notStar = true
  | .nil, c, hB, X, ys, ok, hc => by
    cases ys <;> try (cases hc; done)
    exact ⟨sa_nil, rfl⟩
  | .cons e es, c, hB, X, ys, ok, hc => by
    cases ys <;> try (cases hc; done)
    simp only [chkEs, Bool.and_eq_true] at hc
    have A := sndE e c hB X _ ok hc.1
    have S := sndEs es c hB X _ ok hc.2
    exact ⟨sa_cons A.s A.e S.1, by rw [List.all_cons, A.s, S.2]; rfl⟩
theorem sndPs : ∀ (es : Es) (ks : List Str) (keys : List (Option Expr)) (c : Tb) (hB : BiAll c B) (X : Cx) (ys : List Expr), Okc c G B X → keysB ks keys = true → esLen es = ks.length → chkEs es c X.env.scope ys = true → ∀ {pos : Pos}, PPs X pos keys ys (trsOf X.K G B ks es)
  | .nil, ks, keys, c, hB, X, ys, ok, hk, hl, hc => by
    cases ks <;> try (cases hl; done)
    cases keys <;> try (cases hk; done)
    cases ys <;> try (cases hc; done)
    exact pps_nil
  | .cons e es, ks, keys, c, hB, X, ys, ok, hk, hl, hc => by
    cases ks <;> try (cases hl; done)
    cases ys <;> try (cases hc; done)
    rename_i k ks y ys
    obtain ⟨j, p, keys', rfl, hk'⟩ := keysB_cons hk
    simp only [chkEs, Bool.and_eq_true] at hc
    exact pps_cons pe_str (sndE e c hB X _ ok hc.1).e (sndPs es ks _ c hB X _ ok hk' (by simpa [esLen] using hl) hc.2)
theorem sndIt : ∀ (it : It) (c : Tb) (hB : BiAll c B) (X : Cx) (y : Expr) (tg : Expr), Okc c G B X → chkIt it c X.env.scope y = true → tgOk it tg = true → PI X tg y (tI X.K xi0 (evIt G B it))
  | .rng a, c, hB, X, y, tg, ok, hc, _ => by
    cases y <;> try (cases hc; done)
    rename_i fn zs kw p
    cases fn <;> try (cases hc; done)
    rcases zs with _ | ⟨z, _ | ⟨_, _⟩⟩ <;> try (cases hc; done)
    cases kw <;> try (cases hc; done)
    simp only [chkIt, Bool.and_eq_true, decide_eq_true_eq] at hc
    obtain ⟨⟨rfl, h2⟩, h3⟩ := hc
    have A := sndE a c hB X _ ok h3
    exact si_rng (glob_ok h2) ok.rng A.s A.e
  | .rng2 a b, c, hB, X, y, tg, ok, hc, _ => by
    cases y <;> try (cases hc; done)
    rename_i fn zs kw p
    cases fn <;> try (cases hc; done)
    rcases zs with _ | ⟨z, _ | ⟨u, _ | ⟨_, _⟩⟩⟩ <;> try (cases hc; done)
    cases kw <;> try (cases hc; done)
    simp only [chkIt, Bool.and_eq_true, decide_eq_true_eq] at hc
    obtain ⟨⟨⟨rfl, h2⟩, h3⟩, h4⟩ := hc
    have A := sndE a c hB X _ ok h3
    have A2 := sndE b c hB X _ ok h4
    exact si_rng2 (glob_ok h2) ok.rng A.s A2.s A.e A2.e
  | .rng3 a b d, c, hB, X, y, tg, ok, hc, _ => by
    cases y <;> try (cases hc; done)
    rename_i fn zs kw p
    cases fn <;> try (cases hc; done)
    rcases zs with _ | ⟨z, _ | ⟨u, _ | ⟨w, _ | ⟨_, _⟩⟩⟩⟩ <;> try (cases hc; done)
    cases kw <;> try (cases hc; done)
    simp only [chkIt, Bool.and_eq_true, decide_eq_true_eq] at hc
    obtain ⟨⟨⟨⟨rfl, h2⟩, h3⟩, h4⟩, h5⟩ := hc
    have A := sndE a c hB X _ ok h3
    have A2 := sndE b c hB X _ ok h4
    have A3 := sndE d c hB X _ ok h5
    exact si_rng3 (glob_ok h2) ok.rng A.s A2.s A3.s A.e A2.e A3.e
  | .seq a, c, hB, X, y, tg, ok, hc, _ => si_seq rfl (sndE a c hB X _ ok hc).e
  | .sgn a, c, hB, X, y, tg, ok, hc, _ => si_sgn (sndE a c hB X _ ok hc).e
  | .enum a, c, hB, X, y, tg, ok, hc, ht => by
    cases tg <;> try (cases ht; done)
    unfold chkIt at hc
    split at hc
    · simp only [Bool.and_eq_true, decide_eq_true_eq] at hc
      obtain ⟨⟨rfl, h2⟩, h3⟩ := hc
      have A := sndE a c hB X _ ok h3
      exact si_enum rfl (glob_ok h2) (ok.more _ (by decide)) A.s A.e
    · cases hc
  | .zip a b, c, hB, X, y, tg, ok, hc, ht => by
    cases tg <;> try (cases ht; done)
    unfold chkIt at hc
    split at hc
    · simp only [Bool.and_eq_true, decide_eq_true_eq] at hc
      obtain ⟨⟨⟨rfl, h2⟩, h3⟩, h4⟩ := hc
      have A := sndE a c hB X _ ok h3
      have A2 := sndE b c hB X _ ok h4
      exact si_zip rfl (glob_ok h2) (ok.more _ (by decide)) A.s A2.s A.e A2.e
    · cases hc
theorem sndPt : ∀ (a : Pt) (c : Tb) (hB : BiAll c B) (X : Cx) (y : Option Expr), Okc c G B X → chkPt a c X.env.scope y = true → PO X y (tO X.K xi0 (evPt G B a))
  | .no, c, hB, X, y, ok, hc => by
    cases y <;> try (cases hc; done)
    exact so_none
  | .yes a, c, hB, X, y, ok, hc => by
    cases y <;> try (cases hc; done)
    exact so_some (sndE a c hB X _ ok hc).e
end
end
end Vm

set_option Elab.async false
set_option linter.all false
set_option maxRecDepth 100000
set_option maxHeartbeats 8000000
/-! VmI: statements, defs, a whole text. -/
namespace Vm
open PySem PySem.Spec PyProof.Rows L2
variable [T : Tbs]

theorem sw_cell {elt : Expr} {gs : List Comprehension} {scope : Scope} {pos py : Pos} {y : Str} {l : Nat} {env : Env} (hy : env.scope.names.lookup y = some .cell) : swapsWith (.ListComp elt gs scope pos) (some (.Name y py)) l env = pure false := by
  have ky : env.kindOf y = some .cell := hy
  have e : (NameKind.cell == NameKind.local) = false := by decide
  unfold swapsWith
  simp only [ky]
  simp [e]
theorem sw_par {x y : Str} {px py pt pt2 : Pos} {kt k2 : Nat} {u v : Expr} {env : Env} (hk : env.scope.kind = .function) (hx : env.scope.names.lookup x = some .local) (hy : env.scope.names.lookup y = some .local)
    (hl : (py.line == px.line) = true) (hxy : (x == y) = false) (hu : notStar u = true) (hv : notStar v = true) (h1 : ([u, v].all (foldedForSure 8)) = false) (h2 : ([u, v].all (constantsAlone 8)) = false) :
    swappedStores [.Tuple [.Name x px, .Name y py] kt pt] (.Tuple [u, v] k2 pt2) env = pure (some [x, y]) := by
  have hb : env.blockKind = .function := by unfold Env.blockKind; rw [hk]; rfl
  have kx : env.kindOf x = some .local := hx
  have ky : env.kindOf y = some .local := hy
  have hl' : py.line = px.line := by simpa using hl
  have hyx : (y == x) = false := by
    cases e : y == x with
    | false => rfl
    | true => rw [eq_of_beq e] at hxy; simp at hxy
  have ed : [x, y].eraseDups = [x, y] := by
    simp [List.eraseDups_cons, hxy, hyx]
  unfold swappedStores
  simp only [h1, h2]
  simp [kx, ky, hl', Expr.pos, ed, hb, List.filterMap_cons]
  intro h
  rcases h with h | h
  · cases u <;> first | (cases h; done) | (cases hu; done)
  · cases v <;> first | (cases h; done) | (cases hv; done)
def chkX (c : Tb) (sc : Scope) : Sx → Stmt → Bool
  | .set t e, st => (match st with
    | .Assign [.Name x p] y _ => (match t with
      | .one i => chkTg c.N (locB sc) t (.Name x p) && chkE e c sc y && (noComp y || (match y with
        | .ListComp elt gs scope q => decide (sc.names.lookup x = some .cell) || (decide (sc.names.lookup x = some .local) && (p.line == q.line) && !(scope.names.any fun (n, k) => n == x && (k == .local || k == .cell)))
        | _ => false))
      | _ => false)
    | .Assign [.Tuple es k p] y _ => noComp y && noTup y && chkTg c.N (locB sc) t (.Tuple es k p) && chkE e c sc y
    | _ => false)
  | .par i j a b, st => (match st with
    | .Assign [.Tuple [.Name x px, .Name y py] _ _] (.Tuple [u, v] _ _) _ => decide (c.N[i]? = some x) && decide (c.N[j]? = some y) && decide (i ≠ j) && decide (sc.names.lookup x = some .local) && decide (sc.names.lookup y = some .local) &&
        chkE a c sc u && chkE b c sc v && (py.line == px.line) && !(x == y) && !([u, v].all (foldedForSure 8)) && !([u, v].all (constantsAlone 8))
    | _ => false)
  | .put a i v, st => (match st with
    | .Assign [.Subscript o z _] y _ => noComp y && plainIx z && chkE v c sc y && chkE a c sc o && chkE i c sc z
    | _ => false)
  | .augv i op e, st => (match st with
    | .AugAssign (.Name x _) o y _ => decide (o = bopS op) && decide (op ≠ .pow) && decide (c.N[i]? = some x) && locB sc x && chkE e c sc y
    | _ => false)
  | .augp a i op e, st => (match st with
    | .AugAssign (.Subscript o z _) q y _ => decide (q = bopS op) && decide (op ≠ .pow) && plainIx z && chkE a c sc o && chkE i c sc z && chkE e c sc y
    | _ => false)
  | .ret e, st => (match st with
    | .Return (some y) _ => chkE e c sc y
    | .Return none _ => (match e with
      | .non => true
      | _ => false)
    | _ => false)
  | .drop e, st => (match st with
    | .Expr y _ => noComp y && chkE e c sc y
    | .Pass _ => (match e with
      | .non => true
      | _ => false)
    | _ => false)
  | .app a e, st => (match st with
    | .Expr (.Call (.Attribute o f apos) [y] [] cpos) _ => decide (f = ("append" : Str)) && (apos.endLine == cpos.line) && noSuper o && chkE a c sc o && chkE e c sc y
    | _ => false)
  | .ext a e, st => (match st with
    | .Expr (.Call (.Attribute o f apos) [y] [] cpos) _ => decide (f = ("extend" : Str)) && (apos.endLine == cpos.line) && noSuper o && chkE a c sc o && chkE e c sc y
    | _ => false)
  | .dput a k v, st => (match st with
    | .Assign [.Subscript o (.Constant (.str z) _ _) _] y _ => decide (z = k) && noComp y && chkE v c sc y && chkE a c sc o
    | _ => false)
  | .dputk a k v, st => (match st with
    | .Assign [.Subscript o z _] y _ => noComp y && plainIx z && chkE v c sc y && chkE a c sc o && chkE k c sc z
    | _ => false)
  | .never, _ => true
mutual
def chkS (c : Tb) (sc : Scope) : S → Stmt → Bool
  | .x s => fun st => chkX c sc s st
  | .ifs d a b => fun st => match st with
    | .If t x y _ => chkE d c sc t && chkSs c sc a x && chkSs c sc b y
    | _ => false
  | .for tg it b => fun st => match st with
    | .For t iter x [] _ => noSet iter && chkTg c.N (locB sc) tg t && (chkIt it c sc iter && tgOk it t) && chkSs c sc b x
    | _ => false
  | .whl d b => fun st => match st with
    | .While t x [] _ => chkE d c sc t && chkSs c sc b x
    | _ => false
def chkSs (c : Tb) (sc : Scope) : Ss → List Stmt → Bool
  | .nil => fun st => match st with
    | [] => true
    | _ => false
  | .cons s ss => fun st => match st with
    | x :: xs => chkS c sc s x && chkSs c sc ss xs
    | _ => false
end

structure Okd (c : Tb) (G B : Fns) (X : Cx) : Prop where
  ok : Okc c G B X
  kind : X.env.scope.kind = .function
  all : ∀ x, X.fn x = true
  pass : PassesOwn (model X.prog X.w) X.A X.env X.xe
theorem locB_ok {c : Tb} {G B : Fns} {X : Cx} (ok : Okd c G B X) {x : Str} (h : locB X.env.scope x = true) : L2.Loc X.env.scope x ∧ (X.fn x = true ∨ X.env.scope.names.lookup x = some .local) := by
  refine ⟨?_, .inl (ok.all x)⟩
  unfold locB at h
  unfold L2.Loc
  split at h <;> first | (rename_i e; simp [e]; done) | cases h
section
variable {c : Tb} {G B : Fns} (hB : BiAll c B)
include hB
theorem sndX {X : Cx} (ok : Okd c G B X) {s : Sx} {st : Stmt} (hc : chkX c X.env.scope s st = true) : PS X st (tS X.K xi0 (evX G B s)) := by
  have tgo : ∀ {t : Tg} {e : Expr}, chkTg c.N (locB X.env.scope) t e = true → PG X e (tG X.K t) := fun h => snd_tg ok.ok.nd ok.ok.ft.calm (fun x hx => locB_ok ok hx) (by rw [ok.ok.N]; exact h)
  cases s with
  | set t e =>
    cases st <;> try (cases hc; done)
    rename_i ts y pos
    rcases ts with _ | ⟨tg, _ | ⟨_, _⟩⟩ <;> try (first | (cases hc; done) | (cases tg <;> (cases hc; done)))
    cases tg <;> try (cases hc; done)
    · rename_i x p
      cases t with
      | many is => cases hc
      | one i =>
        simp only [chkX, Bool.and_eq_true] at hc
        obtain ⟨⟨h1, h2⟩, h3⟩ := hc
        by_cases hn : noComp y = true
        · exact ss_asg hn swapped_name rfl (sndE e c hB X _ ok.ok h2).e (tgo h1)
        · cases y <;> try (exact absurd rfl hn)
          · rename_i elt gs scope q
            simp only [noComp, Bool.false_or, Bool.or_eq_true, Bool.and_eq_true, decide_eq_true_eq] at h3
            have h1' := h1
            unfold chkTg at h1'
            rw [Bool.and_eq_true, decide_eq_true_eq] at h1'
            obtain ⟨hi, hl⟩ := h1'
            obtain ⟨l1, l2⟩ := locB_ok ok hl
            rcases h3 with h3 | ⟨⟨h3, h4⟩, h5⟩
            · exact ss_lcs (ps_set ok.ok.nd (by rw [ok.ok.N]; exact hi) l1 (sndE e c hB X _ ok.ok h2).e (sw_cell h3) l2) fun st H Q q => q
            · -- the list is stored by the comprehension's own end
              have sw : swapsWith (.ListComp elt gs scope q) (some (.Name x p)) pos.line X.env = pure true := sw_true ok.kind h3 h4 (by simpa using h5)
              cases e <;> try (cases h2; done)
              rename_i elt' tg' it cond
              rcases gs with _ | ⟨⟨t, iter, ifs, a⟩, _ | ⟨_, _⟩⟩ <;> try (cases h2; done)
              simp only [chkE, Bool.and_eq_true, decide_eq_true_eq] at h2
              obtain ⟨⟨⟨⟨⟨⟨⟨rfl, k2⟩, k3⟩, kt⟩, k4⟩, k5⟩, k6⟩, k7⟩ := h2
              have hit := sndIt it c hB X _ t ok.ok k3 kt
              have hb : BlkOk X.N X.env.scope scope (ownOf tg' t) := by rw [ok.ok.N]; exact blkOk_by k4
              have hg : ∀ (s : Shared) (H : Hp) (C : Addr) (cl : List (Str × Addr)) (fp : List Addr), PG (X.blk s H scope (compEnvC scope cl C X.env) fp) t (tG X.K tg') := fun s H C cl fp =>
                snd_tg (X := X.blk s H scope (compEnvC scope cl C X.env) fp) (loc := locC scope X.env.scope) ok.ok.nd ok.ok.ft.calm (fun x hx => locC_ok hx) (by rw [show (X.blk s H scope (compEnvC scope cl C X.env) fp).N = c.N from ok.ok.N]; exact k5)
              have he : ∀ (s : Shared) (H : Hp) (C : Addr) (cl : List (Str × Addr)) (fp : List Addr), PE (X.blk s H scope (compEnvC scope cl C X.env) fp) elt (tE X.K xi0 (evE G B elt')) := fun s H C cl fp => (sndE elt' c hB (X.blk s H scope (compEnvC scope cl C X.env) fp) elt (ok.ok.blk ..) k7).e
              have fin : ∀ (tt : TT), (∀ (s : Shared) (H : Hp) (C : Addr) (cl : List (Str × Addr)) (fp : List Addr), PTs (X.blk s H scope (compEnvC scope cl C X.env) fp) ifs tt) → (∀ st H Q, tT X.K xi0 (bF (evE G B cond)) st H Q → tt st H Q) →
                  PS X (.Assign [.Name x p] (.ListComp elt [⟨t, iter, ifs, 0⟩] scope q) pos) (tS X.K xi0 (evX G B (.set (.one i) (.lc elt' tg' it cond)))) := fun tt ht htt => by
                refine ss_lcs (ps_setLc ok.ok.ft.calm ok.ok.nd (by rw [ok.ok.N]; exact hi) h3 sw hit hb hg ht he (folded_of k2)) fun st H Q q => ?_
                rw [ownOf_slots k5]
                exact tLc_of htt q
              rcases ifs with _ | ⟨f, _ | ⟨_, _⟩⟩ <;> try (cases k6; done)
              · cases cond <;> try (cases k6; done)
                rename_i b
                cases b <;> try (cases k6; done)
                refine fin tYes (fun s H C cl fp => pts_nil) fun st H Q q => ?_
                obtain ⟨ev, m, h, re, rh, q⟩ := q
                exact q.now rh
              · exact fin _ (fun s H C cl fp => pts_one (sndE cond c hB (X.blk s H scope (compEnvC scope cl C X.env) fp) f (ok.ok.blk ..) k6).t) fun st H Q q => q
          · cases e <;> (cases h2; done)
          · cases e <;> (cases h2; done)
    · simp only [chkX, Bool.and_eq_true] at hc
      obtain ⟨⟨⟨h1, h2⟩, h3⟩, h4⟩ := hc
      exact ss_asg h1 (swapped_of h2) rfl (sndE e c hB X _ ok.ok h4).e (tgo h3)
  | par i j a b =>
    unfold chkX at hc
    dsimp only at hc
    split at hc
    · simp only [Bool.and_eq_true, decide_eq_true_eq, Bool.not_eq_true'] at hc
      obtain ⟨⟨⟨⟨⟨⟨⟨⟨⟨⟨h1, h2⟩, h3⟩, h4⟩, h5⟩, h6⟩, h7⟩, h8⟩, h9⟩, h10⟩, h11⟩ := hc
      have A := sndE a c hB X _ ok.ok h6
      have Q := sndE b c hB X _ ok.ok h7
      exact ss_par ok.ok.ft.calm ok.ok.nd (by rw [ok.ok.N]; exact h1) (by rw [ok.ok.N]; exact h2) h3 h4 h5 A.s Q.s A.e Q.e (sw_par ok.kind h4 h5 h8 h9 A.s Q.s h10 h11)
    · cases hc
  | put a i v =>
    cases st <;> try (cases hc; done)
    rename_i ts y pos
    rcases ts with _ | ⟨tg, _ | ⟨_, _⟩⟩ <;> try (first | (cases hc; done) | (cases tg <;> (cases hc; done)))
    cases tg <;> try (cases hc; done)
    simp only [chkX, Bool.and_eq_true] at hc
    obtain ⟨⟨⟨⟨h1, h2⟩, h3⟩, h4⟩, h5⟩ := hc
    exact ss_put h1 h2 (sndE v c hB X _ ok.ok h3).e (sndE a c hB X _ ok.ok h4).e (sndE i c hB X _ ok.ok h5).e
  | augv i op e =>
    cases st <;> try (cases hc; done)
    rename_i tg o y pos
    cases tg <;> try (cases hc; done)
    simp only [chkX, Bool.and_eq_true, decide_eq_true_eq] at hc
    obtain ⟨⟨⟨⟨rfl, h2⟩, h3⟩, h4⟩, h5⟩ := hc
    obtain ⟨l1, l2⟩ := locB_ok ok h4
    exact ss_augv h2 ok.ok.nd (by rw [ok.ok.N]; exact h3) l1 l2 (sndE e c hB X _ ok.ok h5).e
  | augp a i op e =>
    cases st <;> try (cases hc; done)
    rename_i tg o y pos
    cases tg <;> try (cases hc; done)
    simp only [chkX, Bool.and_eq_true, decide_eq_true_eq] at hc
    obtain ⟨⟨⟨⟨⟨rfl, h2⟩, h3⟩, h4⟩, h5⟩, h6⟩ := hc
    exact ss_augp rfl h2 h3 (sndE a c hB X _ ok.ok h4).e (sndE i c hB X _ ok.ok h5).e (sndE e c hB X _ ok.ok h6).e
  | ret e =>
    cases st <;> try (cases hc; done)
    rename_i y pos
    cases y with
    | some y => exact ss_ret (sndE e c hB X _ ok.ok hc).e
    | none =>
      cases e <;> try (cases hc; done)
      exact ss_retn
  | drop e =>
    cases st <;> try (cases hc; done)
    · simp only [chkX, Bool.and_eq_true] at hc
      exact ss_drop hc.1 (sndE e c hB X _ ok.ok hc.2).e
    · cases e <;> try (cases hc; done)
      exact ss_pass
  | app a e =>
    cases st <;> try (cases hc; done)
    rename_i y pos
    cases y <;> try (cases hc; done)
    rename_i f zs kw cpos
    cases f <;> try (cases hc; done)
    rcases zs with _ | ⟨z, _ | ⟨_, _⟩⟩ <;> try (cases hc; done)
    cases kw <;> try (cases hc; done)
    simp only [chkX, Bool.and_eq_true, decide_eq_true_eq] at hc
    obtain ⟨⟨⟨⟨rfl, h2⟩, h3⟩, h4⟩, h5⟩ := hc
    have A := sndE e c hB X _ ok.ok h5
    exact ss_app A.s h2 (base_of h3) (sndE a c hB X _ ok.ok h4).e A.e rfl
  | ext a e =>
    unfold chkX at hc
    dsimp only at hc
    split at hc
    · simp only [Bool.and_eq_true, decide_eq_true_eq] at hc
      obtain ⟨⟨⟨⟨rfl, h2⟩, h3⟩, h4⟩, h5⟩ := hc
      have A := sndE e c hB X _ ok.ok h5
      exact ss_ext A.s h2 (base_of h3) (sndE a c hB X _ ok.ok h4).e A.e rfl
    · cases hc
  | dputk a k v =>
    unfold chkX at hc
    dsimp only at hc
    split at hc
    · simp only [Bool.and_eq_true] at hc
      obtain ⟨⟨⟨⟨h1, h2⟩, h3⟩, h4⟩, h5⟩ := hc
      exact ss_dputk (by have := ok.ok.ft.hu; omega) h1 h2 (sndE v c hB X _ ok.ok h3).e (sndE a c hB X _ ok.ok h4).e (sndE k c hB X _ ok.ok h5).e
    · cases hc
  | dput a k v =>
    unfold chkX at hc
    dsimp only at hc
    split at hc
    · simp only [Bool.and_eq_true, decide_eq_true_eq] at hc
      obtain ⟨⟨⟨rfl, h2⟩, h3⟩, h4⟩ := hc
      exact ss_dput (by have := ok.ok.ft.hu; omega) h2 (sndE v c hB X _ ok.ok h3).e (sndE a c hB X _ ok.ok h4).e
    · cases hc
  | never => exact ⟨fun pins s st H D I ⟨ev, m, h, re, rh, q⟩ => q.elim⟩
mutual
theorem sndS : ∀ (s : S) (X : Cx) (st : Stmt), Okd c G B X → chkS c X.env.scope s st = true → PS X st (tS X.K xi0 (evS G B s))
  | .x s, X, st, ok, hc => sndX hB ok hc
  | .ifs d a b, X, st, ok, hc => by
    cases st <;> try (cases hc; done)
    simp only [chkS, Bool.and_eq_true] at hc
    obtain ⟨⟨h1, h2⟩, h3⟩ := hc
    exact ss_if (sndE d c hB X _ ok.ok h1).t (sndSs a X _ ok h2) (sndSs b X _ ok h3)
  | .for tg it b, X, st, ok, hc => by
    cases st <;> try (cases hc; done)
    rename_i t iter x el p
    cases el <;> try (cases hc; done)
    simp only [chkS, Bool.and_eq_true] at hc
    obtain ⟨⟨⟨h1, h2⟩, h3, ht⟩, h4⟩ := hc
    exact ss_for ok.pass ok.ok.ft.calm h1 (sndIt it c hB X _ t ok.ok h3 ht) (snd_tg ok.ok.nd ok.ok.ft.calm (fun x hx => locB_ok ok hx) (by rw [ok.ok.N]; exact h2)) (sndSs b X _ ok h4)
  | .whl d b, X, st, ok, hc => by
    cases st <;> try (cases hc; done)
    rename_i t x el p
    cases el <;> try (cases hc; done)
    simp only [chkS, Bool.and_eq_true] at hc
    exact ss_whl ok.pass (sndE d c hB X _ ok.ok hc.1).t (sndSs b X _ ok hc.2) 100000
theorem sndSs : ∀ (ss : Ss) (X : Cx) (st : List Stmt), Okd c G B X → chkSs c X.env.scope ss st = true → PSs X st (tS X.K xi0 (evSs G B ss))
  | .nil, X, st, ok, hc => by
    cases st <;> try (cases hc; done)
    exact sss_nil
  | .cons s ss, X, st, ok, hc => by
    cases st <;> try (cases hc; done)
    simp only [chkSs, Bool.and_eq_true] at hc
    exact sss_cons (sndS s X _ ok hc.1) (sndSs ss X _ ok hc.2)
end
end

/-! ### defs -/
/-- a def as the evaluator has it -/
structure DefT where
  name : Str
  ps : List Str
  N : List Str
  body : Ss
  st : Stmt
  gn : Bool := false
def chkDc (C : List (Str × Cst)) (T : List (Str × Nat)) (B : List Str) (d : DefT) : Bool :=
  (match (defScope d.st).kind with | .function => true | _ => false) && !(defScope d.st).isCoroutine && !(defScope d.st).isGenerator && decide d.N.Nodup && decide (d.N.take d.ps.length = d.ps) &&
    (d.ps.all fun x => locB (defScope d.st) x) && ((defScope d.st).names.all fun y => decide (y.2 ≠ .free)) && chkSs ⟨d.N, T, B, C, d.gn⟩ (defScope d.st) d.body (defBody d.st)
abbrev chkD := chkDc []
theorem chkD_scope {C : List (Str × Cst)} {T : List (Str × Nat)} {B : List Str} {d : DefT} (h : chkDc C T B d = true) : FnScope d.N d.ps (defScope d.st) := by
  unfold chkDc at h
  simp only [Bool.and_eq_true, decide_eq_true_eq, List.all_eq_true, Bool.not_eq_true'] at h
  obtain ⟨⟨⟨⟨⟨⟨⟨h1, h2⟩, h3⟩, h4⟩, h5⟩, h6⟩, h7⟩, h8⟩ := h
  refine ⟨?_, h2, h3, h4, h5, fun x hx => ?_, fun y hy => h7 y hy⟩
  · split at h1
    · rename_i e; exact e
    · cases h1
  · have := h6 x hx
    unfold locB at this
    split at this <;> first | (rename_i e; simp [e]; done) | cases this
theorem chkD_body {C : List (Str × Cst)} {T : List (Str × Nat)} {B : List Str} {d : DefT} (h : chkDc C T B d = true) : chkSs ⟨d.N, T, B, C, d.gn⟩ (defScope d.st) d.body (defBody d.st) = true := by
  unfold chkDc at h
  rw [Bool.and_eq_true] at h
  exact h.2

section
variable {P : Program} {w : World} {K : PySem.W.Frag} {mg : Str → Option Value} {base : Heap}
/-- where the defs stand -/
structure Stand (K : PySem.W.Frag) (mg : Str → Option Value) (ds : List DefT) (Bn : List Str) (f : Nat → Addr) (fd : Nat → FuncData) : Prop where
  at' : ∀ (i : Nat) d, ds[i]? = some d → FunD K d.name d.name (defArgs d.st) (defBody d.st) (defScope d.st) [] [] (f i) (fd i)
  gl : ∀ (i : Nat) d, ds[i]? = some d → mg d.name = some (.ref (f i))
  bind : ∀ (i : Nat) d, ds[i]? = some d → Binds K (fd i) d.ps []
  bi : ∀ x ∈ Bn, mg x = none ∧ x ≠ "__name__"
  rng : mg "range" = none
  more : ∀ x ∈ coreN, mg x = none

def tab (ds : List DefT) : List (Str × Nat) := ds.map fun d => (d.name, d.ps.length)
def sem (B : Fns) (ds : List DefT) : Nat → Fns
  | 0 => fun _ _ _ => .stuck
  | n + 1 => fun i xs h => match ds[i]? with
    | some d => evF (sem B ds n) B d.N.length d.body xs h
    | none => .stuck
theorem start_env {m : List Addr} {H : Hp} {N : List Str} {vs : List V} {xs : List PV} (r : Reps K m H vs xs) : REnv K m H (L2.start N vs) (xs.map some ++ List.replicate (N.length - xs.length) none) := by
  have hl := r.length
  refine ⟨by simp [L2.start, hl], fun i x e => ?_⟩
  unfold L2.start
  by_cases hi : i < xs.length
  · rw [List.getElem?_append_left (by simpa using hi), List.getElem?_map] at e
    cases ex : xs[i]? with
    | none => rw [ex] at e; cases e
    | some y =>
      rw [ex] at e
      cases e
      obtain ⟨v, h1, h2⟩ := r.get ex
      exact ⟨v, by rw [List.getElem?_append_left (by simp; omega), List.getElem?_map, h1]; rfl, h2⟩
  · rw [List.getElem?_append_right (by simpa using hi)] at e
    obtain ⟨_, z⟩ := List.getElem?_eq_some_iff.mp e
    simp at z
/-- the module's names are so -/
abbrev ConAll (K : PySem.W.Frag) (mg : Str → Option Value) (C : List (Str × Cst)) : Prop := ∀ x k, (x, k) ∈ C → ∃ u v, mg x = some u ∧ RelV v u ∧ ∀ m H, Rep K m H v k.pv
/-- the tables of the defs that have generator expressions -/
abbrev TabsOk (mg : Str → Option Value) (base : Heap) (ds : List DefT) (fd : Nat → FuncData) : Prop := ∀ (i : Nat) d, ds[i]? = some d → d.gn = true → ∃ cc P, (fd i).code = .ref cc ∧ GxR.TabB base mg cc P ∧ P ∈ T.at'
theorem def_ok {C : List (Str × Cst)} (hC : ConAll K mg C) {ds : List DefT} {Bn : List Str} {B : Fns} {f : Nat → Addr} {fd : Nat → FuncData} (S : Stand K mg ds Bn f fd) (hT : TabsOk mg base ds fd) (hB : ∀ c : Tb, c.B = Bn → BiAll c B) {i : Nat} {d : DefT} (hd : ds[i]? = some d) (hc : chkDc C (tab ds) Bn d = true) {n : Nat} {G : Fns}
    (hG : ∀ (j : Nat) e, ds[j]? = some e → FnG P w K mg base n (f j) (fd j) e.ps.length e.ps (spOf K e.ps.length (G j))) : FnG P w K mg base (n + 2) (f i) (fd i) d.ps.length d.ps (spOf K d.ps.length fun xs h => evF G B d.N.length d.body xs h) := by
  refine FnG.of (S.at' i d hd) (chkD_scope hc) (fun vs H Q E h => h.1) fun cdv A outer s H vs Q E hcd hh hr h => ?_
  obtain ⟨hl, m, h, xs, rh, rxs, p⟩ := h
  refine ⟨tS K xi0 (evSs G B d.body), PSs.nox ?_, (xs.map some ++ List.replicate (d.N.length - xs.length) none), m, h, start_env rxs, rh, ?_⟩
  · have ok : Okd ⟨d.N, tab ds, Bn, C, d.gn⟩ G B (cxOf CX0 P w K mg base d.N d.name (defScope d.st) (f i) cdv A outer s H E).nox := by
      refine ⟨⟨⟨rfl, ?_, hh⟩, rfl, (chkD_scope hc).nd, S.rng, S.more, fun j x k e => ?_, fun j x e => S.bi x (List.mem_of_getElem? e), hC, fun z => ?_⟩, (chkD_scope hc).kind, fun _ => rfl, PassesOwn.never⟩
      · have := hr.un
        show (A.deeper _).units + 100 < cLine
        omega
      · have e' : (ds.map fun d => (d.name, d.ps.length))[j]? = some (x, k) := e
        rw [List.getElem?_map] at e'
        cases ej : ds[j]? with
        | none => rw [ej] at e'; cases e'
        | some u =>
          rw [ej] at e'
          cases e'
          exact ⟨f j, fd j, u.ps, n, S.gl j u ej, (S.at' j u ej).kp, S.bind j u ej, hr.mono (by cases d.gn <;> simp [Bool.toNat]), hG j u ej⟩
      · obtain ⟨cc, P, h1, h2, h3⟩ := hT i d hd z
        exact ⟨cc, P, hcd.symm.trans h1, h2, h3, hr.mono (Nat.le_add_left _ _)⟩
    exact sndSs (hB _ rfl) d.body _ _ ok (chkD_body hc)
  · unfold evF at p
    refine p.bind fun o h1 m1 H1 g1 rh1 p1 => ?_
    cases o with
    | nx ev => exact fun st' _ => p1.now rh1 _ .non
    | rt x => exact fun v rv => p1.now rh1 v rv
theorem sem_okC {C : List (Str × Cst)} (hC : ConAll K mg C) {ds : List DefT} {Bn : List Str} {B : Fns} {f : Nat → Addr} {fd : Nat → FuncData} (S : Stand K mg ds Bn f fd) (hT : TabsOk mg base ds fd) (hB : ∀ c : Tb, c.B = Bn → BiAll c B) (hc : ds.all (chkDc C (tab ds) Bn) = true) :
    ∀ (n i : Nat) d, ds[i]? = some d → FnG P w K mg base (2 * n) (f i) (fd i) d.ps.length d.ps (spOf K d.ps.length (sem B ds n i))
  | 0, i, d, _ => ⟨rfl, fun vs H Q E h => h.1, fun _ _ _ _ _ h => by
      obtain ⟨_, m, h, xs, rh, rxs, p⟩ := h
      exact p.elim⟩
  | n + 1, i, d, hd => by
    have q := def_ok (P := P) (w := w) (base := base) hC S hT hB hd (List.all_eq_true.mp hc d (List.mem_of_getElem? hd)) (sem_okC hC S hT hB hc n)
    have e : sem B ds (n + 1) i = fun xs h => evF (sem B ds n) B d.N.length d.body xs h := by
      funext xs h
      show (match ds[i]? with
        | some d => evF (sem B ds n) B d.N.length d.body xs h
        | none => .stuck) = _
      rw [hd]
    rw [e]
    exact q
theorem sem_ok {ds : List DefT} {Bn : List Str} {B : Fns} {f : Nat → Addr} {fd : Nat → FuncData} (S : Stand K mg ds Bn f fd) (hT : TabsOk mg base ds fd) (hB : ∀ c : Tb, c.B = Bn → BiAll c B) (hc : ds.all (chkD (tab ds) Bn) = true) :
    ∀ (n i : Nat) d, ds[i]? = some d → FnG P w K mg base (2 * n) (f i) (fd i) d.ps.length d.ps (spOf K d.ps.length (sem B ds n i)) := sem_okC (C := []) (fun _ _ h => by cases h) S hT hB hc
end
end Vm

set_option Elab.async false
set_option linter.all false
set_option maxRecDepth 100000
set_option maxHeartbeats 4000000
/-! VmJ: built-ins. -/
namespace Vm
open PySem PySem.Spec PyProof.Rows L2
variable [Tbs]

def minL : List Int → Int
  | [] => 0
  | [x] => x
  | x :: y :: r => let m := minL (y :: r); if m < x then m else x
def maxL : List Int → Int
  | [] => 0
  | [x] => x
  | x :: y :: r => let m := maxL (y :: r); if m > x then m else x
theorem minL_mem : ∀ {ns : List Int}, ns ≠ [] → minL ns ∈ ns ∧ ∀ y ∈ ns, minL ns ≤ y
  | [], h => absurd rfl h
  | [x], _ => ⟨by simp [minL], by simp [minL]⟩
  | x :: y :: r, _ => by
    obtain ⟨h1, h2⟩ := minL_mem (ns := y :: r) (by simp)
    unfold minL
    dsimp only
    by_cases h : minL (y :: r) < x
    · rw [if_pos h]
      refine ⟨List.mem_cons_of_mem _ h1, fun z hz => ?_⟩
      rcases List.mem_cons.mp hz with rfl | hz
      · omega
      · exact h2 z hz
    · rw [if_neg h]
      refine ⟨List.mem_cons_self, fun z hz => ?_⟩
      rcases List.mem_cons.mp hz with rfl | hz
      · omega
      · have := h2 z hz; omega
theorem maxL_mem : ∀ {ns : List Int}, ns ≠ [] → maxL ns ∈ ns ∧ ∀ y ∈ ns, y ≤ maxL ns
  | [], h => absurd rfl h
  | [x], _ => ⟨by simp [maxL], by simp [maxL]⟩
  | x :: y :: r, _ => by
    obtain ⟨h1, h2⟩ := maxL_mem (ns := y :: r) (by simp)
    unfold maxL
    dsimp only
    by_cases h : maxL (y :: r) > x
    · rw [if_pos h]
      refine ⟨List.mem_cons_of_mem _ h1, fun z hz => ?_⟩
      rcases List.mem_cons.mp hz with rfl | hz
      · omega
      · exact h2 z hz
    · rw [if_neg h]
      refine ⟨List.mem_cons_self, fun z hz => ?_⟩
      rcases List.mem_cons.mp hz with rfl | hz
      · omega
      · have := h2 z hz; omega

def biLen : List PV → IH → Res PV
  | [.str z], h => if z.length ≤ sizeLine then .ok (.int z.length) h else .stuck
  | [x], h => match rd h x with
    | some xs => .ok (.int xs.length) h
    | none => .stuck
  | _, _ => .stuck
def biSum : List PV → IH → Res PV
  | [x], h => match (rd h x).bind intsOf with
    | some ns => .ok (.int ns.sum) h
    | none => .stuck
  | _, _ => .stuck
def biTuple : List PV → IH → Res PV
  | [.str z], h => if z.length ≤ sizeLine then .ok (.tup (signs z)) h else .stuck
  | [x], h => match rd h x with
    | some xs => .ok (.tup xs) h
    | none => .stuck
  | _, _ => .stuck
def biList : List PV → IH → Res PV
  | [x], h => match rd h x with
    | some xs => new h xs
    | none => .stuck
  | _, _ => .stuck
def biDivmod : List PV → IH → Res PV
  | [.int i, .int j], h => if 0 < j ∧ j < 1073741824 then .ok (.tup [.int (i / j), .int (i % j)]) h else .stuck
  | _, _ => .stuck
def biAbs : List PV → IH → Res PV
  | [.int i], h => .ok (.int (if i < 0 then -i else i)) h
  | _, _ => .stuck

def biInt : List PV → IH → Res PV
  | [.int i], h => .ok (.int i) h
  | [.bl b], h => .ok (.int (if b then 1 else 0)) h
  | _, _ => .stuck

theorem Reps.one {K : PySem.W.Frag} {m : List Addr} {H : Hp} {vs : List V} {x : PV} (r : Reps K m H vs [x]) : ∃ v, vs = [v] ∧ Rep K m H v x := by
  cases r with
  | cons r t => cases t; exact ⟨_, rfl, r⟩
theorem Reps.two {K : PySem.W.Frag} {m : List Addr} {H : Hp} {vs : List V} {x y : PV} (r : Reps K m H vs [x, y]) : ∃ v w, vs = [v, w] ∧ Rep K m H v x ∧ Rep K m H w y := by
  cases r with
  | cons r t =>
    obtain ⟨w, rfl, q⟩ := t.one
    exact ⟨_, w, rfl, r, q⟩
section
variable {K : PySem.W.Frag}
theorem bk_len : BiOk K biLen (fun xs H Q => (∃ p ys, xs = [.ref p] ∧ (SqL K H p ys ∨ SqT K H p ys) ∧ Q (.int ys.length) H) ∨ (∃ z, xs = [.str z] ∧ z.length ≤ sizeLine ∧ Q (.int z.length) H)) := by
  intro xi m H h xs vs Q rh rx p
  rcases xs with _ | ⟨x, _ | ⟨_, _⟩⟩
  · exact p.elim
  · obtain ⟨v, rfl, r⟩ := rx.one
    have gen : (Post K xi m H (match rd h x with
      | some xs => .ok (.int xs.length) h
      | none => .stuck) fun z m' H' => ∀ v, Rep K m' H' v z → Q v H') → ∃ p ys, [v] = [V.ref p] ∧ (SqL K H p ys ∨ SqT K H p ys) ∧ Q (.int ys.length) H := fun p' => by
      clear p
      cases e : rd h x with
      | none => rw [e] at p'; exact p'.elim
      | some xs =>
        rw [e] at p'
        obtain ⟨a, vs, rfl, hs, rv⟩ := rd_ok rh r e
        exact ⟨a, vs, rfl, hs, by rw [rv.length]; exact p'.now rh _ .int⟩
    cases x <;> try exact .inl (gen p)
    cases r
    obtain ⟨hl, p⟩ := Post.ite p
    exact .inr ⟨_, rfl, hl, p.now rh _ .int⟩
  · cases x <;> exact p.elim
theorem bk_sum : BiOk K biSum (fun vs H Q => rSum K vs H Q ∨ ∃ (a : Addr) (ns : List Int), vs = [V.ref a] ∧ SqT K H a (ns.map V.int) ∧ Q (.int ns.sum) H) := by
  intro xi m H h xs vs Q rh rx p
  rcases xs with _ | ⟨x, _ | ⟨_, _⟩⟩ <;> try exact p.elim
  obtain ⟨v, rfl, r⟩ := rx.one
  unfold biSum at p
  dsimp only at p
  cases e : (rd h x).bind intsOf with
  | none => rw [e] at p; exact p.elim
  | some ns =>
    rw [e] at p
    obtain ⟨a, rfl, hs | hs⟩ := ints_at rh r e
    · exact .inl ⟨a, ns, rfl, hs, p.now rh _ .int⟩
    · exact .inr ⟨a, ns, rfl, hs, p.now rh _ .int⟩
def rTupS : List V → Hp → VK → Prop := fun xs H Q => ∃ z : Str, xs = [.str z] ∧ z.length ≤ sizeLine ∧ ∀ l : Addr, H l = none → Q (.ref l) (upd H l (.tup ((z.cps.toList.map fun c => (⟨#[c]⟩ : Str)).map V.str)))
theorem vals_signs : ∀ (cs : List Nat) (acc : List Value), acc.length = cs.length → (∀ (j : Nat) v, acc[j]? = some v → ∃ c u, cs[j]? = some c ∧ v = Value.str ⟨#[c]⟩ u) → Vals ((cs.map fun c => (⟨#[c]⟩ : Str)).map V.str) acc
  | [], [], _, _ => .nil
  | [], _ :: _, l, _ => by cases l
  | _ :: _, [], l, _ => by cases l
  | c :: cs, v :: acc, l, h => by
    obtain ⟨c', u, e, rfl⟩ := h 0 v rfl
    cases e
    refine .cons ⟨u, rfl⟩ (vals_signs cs acc (by simpa using l) fun j w hw => ?_)
    have := h (j + 1) w (by simpa using hw)
    simpa using this
theorem cr_tupS {X : Cx} (hc : X.calm = true) : CallR X (.type "tuple") rTupS := by
  intro pins s st H vs us Q I r h
  obtain ⟨z, rfl, hl, q⟩ := h
  obtain ⟨u, rfl, ru⟩ := L2.vals1 r
  obtain ⟨t, rfl⟩ := ru
  refine call_tuple_str (I.ok.hd hc) z t (fun h' tk acc hk ha => ?_) hl
  have I1 := I.kept (h' := h') (t' := tk) hk
  have vv := vals_signs z.cps.toList acc.toList (by rw [Array.length_toList, Array.length_toList]; exact ha.1) fun j v hv => by
    obtain ⟨c, u, e1, e2⟩ := ha.2 j v (by simpa using hv)
    exact ⟨c, u, by simpa using e1, e2⟩
  refine ⟨.ref h'.objs.size, upd H h'.objs.size (.tup ((z.cps.toList.map fun c => (⟨#[c]⟩ : Str)).map V.str)), ?_, rfl, q _ (I1.hok.fresh (Nat.le_refl _))⟩
  exact I1.laid (t' := tk) (fun b ob e => Heap.get?_push_of_some _ e) (Nat.le_refl _) ⟨by rw [List.length_map, List.length_map, Array.length_toList]; exact hl, acc.toList, vv, _, Heap.get?_push_size h' rfl, rfl, 0, rfl⟩
theorem bk_tuple : BiOk K biTuple (fun xs H Q => (∃ p ys, xs = [.ref p] ∧ ((SqL K H p ys ∧ ∀ l, H l = none → Q (.ref l) (upd H l (.tup ys))) ∨ (SqT K H p ys ∧ Q (.ref p) H))) ∨ rTupS xs H Q) := by
  intro xi m H h xs vs Q rh rx p
  rcases xs with _ | ⟨x, _ | ⟨_, _⟩⟩ <;> try (first | exact p.elim | (cases x <;> exact p.elim))
  obtain ⟨v, rfl, r⟩ := rx.one
  by_cases hx : ∃ z, x = .str z
  · obtain ⟨z, rfl⟩ := hx
    unfold biTuple at p
    dsimp only at p
    cases r
    obtain ⟨hl, p⟩ := Post.ite p
    refine .inr ⟨z, rfl, hl, ?_⟩
    have rs : Reps K m H ((z.cps.toList.map fun c => (⟨#[c]⟩ : Str)).map V.str) (signs z) := by
      have := Reps.ofStrs (K := K) (m := m) (H := H) (z.cps.toList.map fun c => (⟨#[c]⟩ : Str))
      rw [List.map_map (f := fun c => (⟨#[c]⟩ : Str)) (g := PV.str)] at this
      exact this
    exact newT_at rh rs p
  · have e0 : biTuple [x] h = match rd h x with
      | some xs => .ok (.tup xs) h
      | none => .stuck := by
      cases x <;> first | rfl | exact absurd ⟨_, rfl⟩ hx
    rw [e0] at p
    cases e : rd h x with
    | none => rw [e] at p; exact p.elim
    | some xs =>
      rw [e] at p
      obtain ⟨a, vs, rfl, hs | hs, rv⟩ := rd_ok rh r e
      · exact .inl ⟨a, vs, rfl, .inl ⟨hs, newT_at rh rv p⟩⟩
      · exact .inl ⟨a, vs, rfl, .inr ⟨hs, p.now rh _ (.tup hs rv)⟩⟩
theorem bk_list : BiOk K biList (fun xs H Q => ∃ p ys, xs = [.ref p] ∧ (SqL K H p ys ∨ SqT K H p ys) ∧ ∀ l, H l = none → Q (.ref l) (upd H l (.lst ys))) := by
  intro xi m H h xs vs Q rh rx p
  rcases xs with _ | ⟨x, _ | ⟨_, _⟩⟩ <;> try exact p.elim
  obtain ⟨v, rfl, r⟩ := rx.one
  unfold biList at p
  dsimp only at p
  cases e : rd h x with
  | none => rw [e] at p; exact p.elim
  | some xs =>
    rw [e] at p
    obtain ⟨a, vs, rfl, hs, rv⟩ := rd_ok rh r e
    exact ⟨a, vs, rfl, hs, (new_at rh rv p).2⟩
theorem bk_divmod : BiOk K biDivmod (fun xs H Q => ∃ i j, xs = [.int i, .int j] ∧ CDiv i j ∧ ∀ p, H p = none → Q (.ref p) (upd H p (.tup [.int (i / j), .int (i % j)]))) := by
  intro xi m H h xs vs Q rh rx p
  rcases xs with _ | ⟨x, _ | ⟨y, _ | ⟨_, _⟩⟩⟩ <;> try (first | exact p.elim | (cases x <;> exact p.elim) | (cases x <;> cases y <;> exact p.elim))
  cases x <;> cases y <;> try exact p.elim
  obtain ⟨v, w, rfl, r1, r2⟩ := rx.two
  cases r1
  cases r2
  obtain ⟨hc, p⟩ := Post.ite p
  exact ⟨_, _, rfl, hc, newT_at rh (.cons .int (.cons .int .nil)) p⟩
theorem bk_int : BiOk K biInt (fun xs H Q => (∃ i, xs = [.int i] ∧ Q (.int i) H) ∨ ∃ k, xs = [.bl k] ∧ Q (.int (if k then 1 else 0)) H) := by
  intro xi m H h xs vs Q rh rx p
  rcases xs with _ | ⟨x, _ | ⟨_, _⟩⟩ <;> try (first | exact p.elim | (cases x <;> exact p.elim))
  cases x <;> try exact p.elim
  · obtain ⟨v, rfl, r⟩ := rx.one
    cases r
    exact .inr ⟨_, rfl, p.now rh _ .int⟩
  · obtain ⟨v, rfl, r⟩ := rx.one
    cases r
    exact .inl ⟨_, rfl, p.now rh _ .int⟩
theorem bk_abs : BiOk K biAbs (fun xs H Q => ∃ i, xs = [.int i] ∧ Q (.int (if i < 0 then -i else i)) H) := by
  intro xi m H h xs vs Q rh rx p
  rcases xs with _ | ⟨x, _ | ⟨_, _⟩⟩ <;> try (first | exact p.elim | (cases x <;> exact p.elim))
  cases x <;> try exact p.elim
  obtain ⟨v, rfl, r⟩ := rx.one
  cases r
  exact ⟨_, rfl, p.now rh _ .int⟩
end

/-! ### sum of a tuple -/
section
variable {prog : Program} {w : World} {A : Around} {E : Value → Shared → Prop} {s : Shared} {l : Addr}
theorem iter_tup {xs : Array (Int × Tok)} {Q : Value → Shared → Prop} (ht : s.heap.IsTuple l (intItems xs))
    (h : ∀ s2 : Shared, s2 = { s with heap := s.heap.push { cls := .type "tuple_iterator", data := .fields #[.ref l, .int 0 0] } } → (s2.heap.IsTupleIter s.heap.objs.size l 0 ∧ s2.heap.IsTuple l (intItems xs)) → (∀ b ∈ [s.heap.objs.size, l], b < s2.heap.objs.size) → l ≠ s.heap.objs.size → Q (.ref s.heap.objs.size) s2) :
    wpAny (model prog w) A (pyIter (.ref l)) Q E s := by
  have lt : l < s.heap.objs.size := by obtain ⟨o, e, _⟩ := ht; exact Heap.lt_size e
  refine wpAny_pyIter_tuple ht (h _ rfl ⟨⟨_, Heap.get?_push_size _ rfl, rfl, rfl⟩, ?_⟩ (fun b hb => ?_) (Nat.ne_of_lt lt))
  · obtain ⟨o, e, c, n, d⟩ := ht
    exact ⟨o, Heap.get?_push_of_some _ e, c, n, d⟩
  · show b < (s.heap.push _).objs.size
    rw [Heap.size_push]
    rcases List.mem_cons.mp hb with rfl | hb
    · exact Nat.lt_succ_self _
    · have : b = l := by simpa using hb
      subst this
      exact Nat.lt_succ_of_lt lt
theorem sum_tup {its : List Value} {ns : List Int} {Q : Value → Shared → Prop} (hh : A.handled = none) (ht : s.heap.IsTuple l its.toArray) (hi : IntsAre its ns)
    (h : ∀ h' tk t', (∀ b o, s.heap.get? b = some o → h'.get? b = some o) → Q (.int ns.sum t') { s with heap := h', toks := tk }) : wpAny (model prog w) A (call (.builtin "sum") [.ref l]) Q E s := by
  obtain ⟨xs, e⟩ := hi.allInts.items
  have hn : numsOf (intItems xs).toList = ns := by rw [← e]; exact hi.numsOf
  rw [nums_intItems] at hn
  rw [e] at ht
  refine PySem.call_sum_walkG (iter_tup ht fun s2 e2 st hfp hl => ?_)
  subst e2
  refine ⟨_, _, _, _, _, _, numAt xs, rfl, Walks.tuple (A := A.in1) hh _ l hl (intItems xs), st, hfp, (fun _ _ => intItems_at), fun h' tk t' hk => ?_⟩
  have q := h h' tk t' fun b o eb => hk b o (fun hm => by
    have : b = s.heap.objs.size := by simpa using hm
    subst this
    exact absurd (Heap.lt_size eb) (Nat.lt_irrefl _)) (Heap.get?_push_of_some _ eb)
  have e3 : preSum (numAt xs) xs.size = ns.sum := by
    rw [preSum_eq, List.take_of_length_le (by simp), hn]
  rw [← e3] at q
  simpa [intItems] using q
end
theorem cr_sumT {X : Cx} (hc : X.calm = true) : CallR X (.builtin "sum") (fun vs H Q => ∃ (a : Addr) (ns : List Int), vs = [V.ref a] ∧ SqT X.K H a (ns.map V.int) ∧ Q (.int ns.sum) H) := by
  intro pins s st H vs us Q I r h
  obtain ⟨a, ns, rfl, hs, q⟩ := h
  obtain ⟨its, rv, ht, _⟩ := I.tuple hs
  rw [Vals.ref1 r]
  exact sum_tup (I.ok.hd hc) ht rv.ints fun h' tk t' hk => ⟨.int _, H, I.kept hk, ⟨_, rfl⟩, q⟩
end Vm

set_option Elab.async false
set_option linter.all false
set_option maxRecDepth 100000
set_option maxHeartbeats 8000000
/-! VmQ: the least of a list of pairs of ints. -/
namespace Vm
open PySem PySem.Spec PyProof.Rows L2

/-- what stood there stands there still, but wr and S -/
abbrev Still (wr : List Addr) (S : Addr) (g g' : Heap) : Prop := ∀ b o, b ∉ wr → b ≠ S → g.get? b = some o → g'.get? b = some o
theorem Still.trans {wr : List Addr} {S : Addr} {g g1 g2 : Heap} (a : Still wr S g g1) (b : Still wr S g1 g2) : Still wr S g g2 := fun c o h1 h2 e => b c o h1 h2 (a c o h1 h2 e)
section
variable {prog : Program} {w : World} {A : Around} {R : Result → Shared → Prop} {I S : Addr} {fp wr : List Addr} {n : Nat} {P : Nat → Value → Prop} {St : Nat → Heap → Prop} {Gd : Heap → Prop}
/-- a compare that rests on what stands in the heap -/
abbrev CmpG (prog : Program) (w : World) (A : Around) (Gd : Heap → Prop) (P : Nat → Value → Prop) (bt : Nat → Nat → Bool) : Prop :=
  ∀ i j x y (s : Shared) (Q E : Value → Shared → Prop), Gd s.heap → P i x → P j y → Q (.bool (bt i j)) s → wpAny (model prog w) A (richCompare .Lt x y) Q E s
theorem least_loop (W : Walks prog w A.in1 I fp wr n P St) (bt : Nat → Nat → Bool) (hG : ∀ g g', Gd g → Still wr S g g' → Gd g') (hcmp : CmpG prog w A.in1 Gd P bt) (nS : S ∉ fp) :
    ∀ (k j : Nat) (s : Shared) (x : Value) (c : Nat), n = k + (j + 1) → St (j + 1) s.heap → Gd s.heap → P (argBest bt j) x → s.heap.get? S = some { cls := .type "list", dict := none, data := .seq #[x, x] c, slots := #[] } →
    (∀ y g tk, P (argBest bt (n - 1)) y → Still wr S s.heap g → R (.ok (.ret y)) { s with heap := g, toks := tk }) → codeAny (model prog w) A (.builtin "min.loop" ⟨[.ref I, .none, .ref S], []⟩) R s
  | 0, j, s, x, c, hn, st, gd, px, oS, fin => by
    refine codeAny_builtin PySem.F.entry_min_loop ?_
    rw [Around.under_plainId PySem.F.plain_min_loop _]
    show wpAny _ A.in1 (seqItems? (.ref S) >>= _) _ _ s
    refine wpAny_bind (wpAny_seqItems oS rfl ?_)
    show wpAny _ A.in1 (tryCatch (pyNext (.ref I)) _ >>= _) _ _ s
    have ej : n = j + 1 := by omega
    refine wpAny_bind (wpAny_tryCatch (W.done s _ _ (by rw [ej]; exact st) fun g tk kp => ?_))
    have oS' := kp S _ (fun z => nS (W.sub _ z)) oS
    show wpAny _ A.in1 (updateSeq S (fun _ => #[]) >>= _) _ _ _
    refine wpAny_bind (wpAny_updateSeq oS' rfl (wpAny_bind (wpAny_letGo (wpAny_pure (fin x _ tk (by rw [ej]; exact px) fun b o h1 h2 e => ?_)))))
    exact (Heap.get?_update_other _ _ (Ne.symm h2)).trans (kp b o h1 e)
  | k + 1, j, s, x, c, hn, st, gd, px, oS, fin => by
    refine codeAny_builtin PySem.F.entry_min_loop ?_
    rw [Around.under_plainId PySem.F.plain_min_loop _]
    show wpAny _ A.in1 (seqItems? (.ref S) >>= _) _ _ s
    refine wpAny_bind (wpAny_seqItems oS rfl ?_)
    show wpAny _ A.in1 (tryCatch (pyNext (.ref I)) _ >>= _) _ _ s
    have lj : j + 1 < n := by omega
    refine wpAny_bind (wpAny_tryCatch (W.item (j + 1) s _ _ lj st fun v g tk pv st' kp => ?_))
    have oS' := kp S _ (fun z => nS (W.sub _ z)) oS
    have k1 : Still wr S s.heap g := fun b o h1 _ e => kp b o h1 e
    show wpAny _ A.in1 (tryCatch (holding [v, v] (richCompare .Lt v x >>= _)) _ >>= _) _ _ _
    refine wpAny_bind (wpAny_tryCatch (wpAny_holding (wpAny_bind (hcmp (j + 1) (argBest bt j) v x _ _ _ (hG _ _ gd k1) pv px ?_))))
    refine wpAny_bind (wpAny_holding (wpAny_truthy_bool (wpAny_bind (wpAny_letGo (wpAny_pure ?_)))))
    have hname : (toString "min" ++ toString ".loop" : String) = "min.loop" := by decide
    cases hb : bt (j + 1) (argBest bt j) with
    | true =>
      simp only [if_true]
      refine wpAny_bind (wpAny_updateSeq oS' rfl (wpAny_bind (wpAny_letGo ?_)))
      rw [hname]
      have k2 : ∀ f, Still wr S g (g.update S f) := fun f b o _ h2 e => (Heap.get?_update_other _ _ (Ne.symm h2)).trans e
      refine wpAny_pure ⟨plainId_quiet PySem.F.plain_min_loop _, least_loop W bt hG hcmp nS k (j + 1) _ v _ (by omega) (W.frame _ _ _ st' fun b hbf o e => ?_) (hG _ _ gd (k1.trans (k2 _))) (by simp only [argBest, hb, if_true]; exact pv) (Heap.get?_update_self _ oS' rfl)
        fun y g2 tk2 py k3 => fin y g2 tk2 py ((k1.trans (k2 _)).trans k3)⟩
      exact (Heap.get?_update_other _ _ (fun z : S = b => nS (by rw [z]; exact hbf))).trans e
    | false =>
      simp only [Bool.false_eq_true, if_false]
      refine wpAny_bind (wpAny_letGo ?_)
      rw [hname]
      exact wpAny_pure ⟨plainId_quiet PySem.F.plain_min_loop _, least_loop W bt hG hcmp nS k (j + 1) _ x c (by omega) st' (hG _ _ gd k1) (by simp only [argBest, hb, Bool.false_eq_true, if_false]; exact px) oS' fun y g2 tk2 py k3 => fin y g2 tk2 py (k1.trans k3)⟩
theorem least_first (W : Walks prog w A.in1 I fp wr n P St) (bt : Nat → Nat → Bool) (hG : ∀ g g', Gd g → Still wr S g g' → Gd g') (hcmp : CmpG prog w A.in1 Gd P bt) (nS : S ∉ fp) (hn : 0 < n) {s : Shared} {c : Nat} (st : St 0 s.heap) (gd : Gd s.heap)
    (oS : s.heap.get? S = some { cls := .type "list", dict := none, data := .seq #[] c, slots := #[] }) (fin : ∀ y g tk, P (argBest bt (n - 1)) y → Still wr S s.heap g → R (.ok (.ret y)) { s with heap := g, toks := tk }) :
    codeAny (model prog w) A (.builtin "min.loop" ⟨[.ref I, .none, .ref S], []⟩) R s := by
  refine codeAny_builtin PySem.F.entry_min_loop ?_
  rw [Around.under_plainId PySem.F.plain_min_loop _]
  show wpAny _ A.in1 (seqItems? (.ref S) >>= _) _ _ s
  refine wpAny_bind (wpAny_seqItems oS rfl ?_)
  show wpAny _ A.in1 (tryCatch (pyNext (.ref I)) _ >>= _) _ _ s
  refine wpAny_bind (wpAny_tryCatch (W.item 0 s _ _ hn st fun v g tk pv st' kp => ?_))
  have oS' := kp S _ (fun z => nS (W.sub _ z)) oS
  have hname : (toString "min" ++ toString ".loop" : String) = "min.loop" := by decide
  show wpAny _ A.in1 (updateSeq S (fun _ => #[v, v]) >>= _) _ _ _
  refine wpAny_bind (wpAny_updateSeq oS' rfl ?_)
  rw [hname]
  have k2 : ∀ f, Still wr S s.heap (g.update S f) := fun f b o h1 h2 e => (Heap.get?_update_other _ _ (Ne.symm h2)).trans (kp b o h1 e)
  refine wpAny_pure ⟨plainId_quiet PySem.F.plain_min_loop _, least_loop W bt hG hcmp nS (n - 1) 0 _ v _ (by omega) (W.frame _ _ _ st' fun b hbf o e => ?_) (hG _ _ gd (k2 _)) pv (Heap.get?_update_self _ oS' rfl) fun y g2 tk2 py k3 => fin y g2 tk2 py ((k2 _).trans k3)⟩
  exact (Heap.get?_update_other _ _ (fun z : S = b => nS (by rw [z]; exact hbf))).trans e
end
section
variable {prog : Program} {w : World} {A : Around} {E : Value → Shared → Prop} {s : Shared}
/-- min(xs) of a list, by a compare that rests on the heap -/
theorem least_list {l : Addr} {us : Array Value} {bt : Nat → Nat → Bool} {Gd : Heap → Prop} {Q : Value → Shared → Prop} (hh : A.handled = none) (hl : s.heap.IsList l us) (hn : 0 < us.size)
    (gd : Gd s.heap) (hG : ∀ g g', Gd g → (∀ b o, b < s.heap.objs.size → g.get? b = some o → g'.get? b = some o) → Gd g') (hcmp : CmpG prog w A.in1 Gd (fun i v => us[i]? = some v) bt)
    (fin : ∀ y g tk, us[argBest bt (us.size - 1)]? = some y → (∀ b o, s.heap.get? b = some o → g.get? b = some o) → Q y { s with heap := g, toks := tk }) : wpAny (model prog w) A (call (.builtin "min") [.ref l]) Q E s := by
  have hname : (toString "min" ++ toString ".loop" : String) = "min.loop" := by decide
  refine call_function_tree PySem.F.kind_min PySem.F.plain_min PySem.F.entry_min (PySem.F.args_min1 _) ?_
  show wpAny _ A.in1 (Builtin.Builtins.bindParams "min" ["key", "default"] 0 ⟨[], []⟩ >>= _) _ _ s
  refine wpAny_bind (wpAny_of_eq (show Builtin.Builtins.bindParams "min" ["key", "default"] 0 ⟨[], []⟩ = pure [none, none] from rfl) ?_)
  refine wpAny_bind (wpAny_pure (wpAny_bind (wpAny_pyIter_list hl (wpAny_bind (wpAny_newObj_type ?_)))))
  have lt : l < s.heap.objs.size := by obtain ⟨o, e, _⟩ := hl; exact Heap.lt_size e
  have nI : l ≠ s.heap.objs.size := Nat.ne_of_lt lt
  generalize hg1 : s.heap.push { cls := .type "list_iterator", data := .fields #[.ref l, .int 0 0] } = g1
  have z1 : g1.objs.size = s.heap.objs.size + 1 := by rw [← hg1]; exact Heap.size_push ..
  have k1 : ∀ b o, s.heap.get? b = some o → g1.get? b = some o := fun b o e => by rw [← hg1]; exact Heap.get?_push_of_some _ e
  have st1 : g1.IsListIter s.heap.objs.size l 0 ∧ g1.IsList l us := by
    rw [← hg1]
    exact ⟨⟨_, Heap.get?_push_size _ rfl, rfl, rfl⟩, hl.push _⟩
  have nS : g1.objs.size ∉ [s.heap.objs.size, l] := by
    rw [z1]
    intro z
    rcases List.mem_cons.mp z with z | z
    · exact Nat.ne_of_gt (Nat.lt_succ_self _) z
    · exact Nat.ne_of_gt (Nat.lt_succ_of_lt lt) (List.mem_singleton.mp z)
  have W := Walks.list (prog := prog) (w := w) (A := A.in1) hh s.heap.objs.size l nI us
  rw [hname]
  refine wpAny_pure ⟨plainId_quiet PySem.F.plain_min_loop _, least_first (Gd := Gd) W bt (fun g g' gg kk => hG g g' gg fun b o hb e => kk b o (fun z => ?_) (fun z => ?_) e) hcmp nS hn (W.frame _ _ _ st1 fun b _ o e => Heap.get?_push_of_some _ e)
    (hG _ _ gd fun b o _ e => Heap.get?_push_of_some _ (k1 b o e)) (Heap.get?_push_size _ rfl) fun y g tk py kk => fin y g tk py fun b o e => kk b o (fun z => ?_) (fun z => ?_) (Heap.get?_push_of_some _ (k1 b o e))⟩
  · exact Nat.ne_of_lt hb (List.mem_singleton.mp z)
  · rw [z] at hb
    exact Nat.not_lt.mpr (by rw [z1]; exact Nat.le_succ _) hb
  · exact Nat.ne_of_lt (Heap.lt_size e) (List.mem_singleton.mp z)
  · have hb := Heap.lt_size e
    rw [z] at hb
    exact Nat.not_lt.mpr (by rw [z1]; exact Nat.le_succ _) hb
end
end Vm

set_option Elab.async false
set_option linter.all false
set_option maxRecDepth 100000
set_option maxHeartbeats 4000000
/-! VmV: what things are shown as. -/
namespace Vm
open PySem PySem.Spec PyProof.Rows L2
variable [Tbs]
def rShow (K : PySem.W.Frag) : List V → Hp → VK → Prop := fun xs H Q => ∃ (a : Addr) (d : PyData), xs = [.ref a] ∧ Dp K H (.ref a) d ∧ d.showable = true ∧ d.hasDict = false ∧ d.depth ≤ 40 ∧ d.shown.length ≤ sizeLine ∧ Q (.str d.shown) H
theorem cr_show {X : Cx} (ft : Fit X) : CallR X (.builtin "repr") (rShow X.K) := by
  intro pins s σ H xs us Q I r h
  obtain ⟨a, d, rfl, dp, hs, hd, hz, hl, q⟩ := h
  obtain ⟨u, rfl, ru⟩ := vals1 r
  cases ru
  obtain ⟨as, rd⟩ := Dp.reads I d _ _ dp rfl
  have hu := ft.hu
  exact repr_of_reads' rd hs (fun z => absurd (hd.symm.trans z) (by decide)) ft.hush (by omega) (fun _ _ e => e) (fun h' u tk k => ⟨.str d.shown, H, I.kept (t' := tk) k, ⟨u, rfl⟩, q⟩) hl
def bsOf : List PV → Option (List Bool)
  | [] => some []
  | .bl b :: xs => (bsOf xs).map (b :: ·)
  | _ => none
theorem bsOf_eq : ∀ {xs : List PV} {bs : List Bool}, bsOf xs = some bs → xs = bs.map PV.bl
  | [], bs, h => by cases h; rfl
  | x :: xs, bs, h => by
    cases x <;> try (cases h; done)
    unfold bsOf at h
    cases e : bsOf xs with
    | none => rw [e] at h; cases h
    | some ms =>
      rw [e] at h
      cases h
      rw [bsOf_eq e]
      rfl
@[simp] theorem bsOf_map : ∀ bs : List Bool, bsOf (bs.map PV.bl) = some bs
  | [] => rfl
  | b :: bs => by
    show (bsOf (bs.map PV.bl)).map (b :: ·) = _
    rw [bsOf_map bs]
    rfl
theorem Reps.bls {K : PySem.W.Frag} {m : List Addr} {H : Hp} : ∀ {vs : List V} {bs : List Bool}, Reps K m H vs (bs.map PV.bl) → vs = bs.map V.bl
  | _, [], .nil => rfl
  | _, b :: bs, .cons r t => by cases r; rw [Reps.bls t]; rfl
def seqB : PV → Bool
  | .tup _ => true
  | .fl _ => true
  | .ref _ => true
  | _ => false
def showF (x : PV) (h : IH) : Res PV := match dataOf h 40 x with
  | some d => if d.showable = true ∧ d.hasDict = false ∧ d.depth ≤ 40 ∧ d.shown.length ≤ sizeLine then .ok (.str d.shown) h else .stuck
  | none => .stuck
def rShow0 : List V → Hp → VK → Prop := fun xs H Q => (xs = [.non] ∧ Q (.str "None") H) ∨ (∃ b, xs = [.bl b] ∧ Q (.str (if b then "True" else "False")) H) ∨ ∃ z : Str, xs = [.str z] ∧ (reprText z).length ≤ sizeLine ∧ Q (.str (reprText z)) H
theorem cr_show0 {X : Cx} : CallR X (.builtin "repr") rShow0 := by
  intro pins s σ H xs us Q I r h
  rcases h with ⟨rfl, q⟩ | ⟨b, rfl, q⟩ | ⟨z, rfl, hl, q⟩
  · obtain ⟨u, rfl, rfl⟩ := vals1 r
    exact PySem.P.repr_of_none ⟨.str _, H, I.tok _, ⟨_, rfl⟩, q⟩
  · obtain ⟨u, rfl, rfl⟩ := vals1 r
    exact PySem.P.repr_of_bool ⟨.str _, H, I.tok _, ⟨_, rfl⟩, q⟩
  · obtain ⟨u, rfl, t, rfl⟩ := vals1 r
    exact PySem.P.repr_of_str ⟨.str _, H, I.tok _, ⟨_, rfl⟩, q⟩ hl
def biAny : List PV → IH → Res PV
  | [.ref a], h => match h[a]? with
    | some (.lst xs) => (match bsOf xs with
      | some bs => .ok (.bl (bs.any id)) h
      | none => .stuck)
    | _ => .stuck
  | _, _ => .stuck
def biAll : List PV → IH → Res PV
  | [.ref a], h => match h[a]? with
    | some (.lst xs) => (match bsOf xs with
      | some bs => .ok (.bl (bs.all id)) h
      | none => .stuck)
    | _ => .stuck
  | _, _ => .stuck
def biRepr : List PV → IH → Res PV
  | [.non], h => .ok (.str "None") h
  | [.bl b], h => .ok (.str (if b then "True" else "False")) h
  | [.str z], h => if (reprText z).length ≤ sizeLine then .ok (.str (reprText z)) h else .stuck
  | [.int i], h => if i.natAbs.log2 < 1920 then .ok (.str (toString i)) h else .stuck
  | [.tup xs], h => showF (.tup xs) h
  | [.fl xs], h => showF (.fl xs) h
  | [.ref a], h => showF (.ref a) h
  | _, _ => .stuck
section
variable {K : PySem.W.Frag} {xi : XI} {m : List Addr} {H : Hp} {h : IH}
theorem show_at {x : PV} {v : V} {Q : VK} (rh : RelH K m H h) (r : Rep K m H v x) (hv : ∃ a, v = .ref a) (p : Post K xi m H (showF x h) fun z m' H' => ∀ v, Rep K m' H' v z → Q v H') : rShow K [v] H Q := by
  obtain ⟨a, rfl⟩ := hv
  unfold showF at p
  cases e : dataOf h 40 x with
  | none => rw [e] at p; exact p.elim
  | some d =>
    rw [e] at p
    obtain ⟨⟨h1, h2, h3, h4⟩, p⟩ := Post.ite p
    exact ⟨a, d, rfl, data_ok rh 40 x _ d r e, h1, h2, h3, h4, p.now rh _ .str⟩
theorem bk_repr : BiOk K biRepr (fun vs H Q => rShow0 vs H Q ∨ ((∃ i, vs = [.int i] ∧ i.natAbs.log2 < 1920 ∧ Q (.str (toString i)) H) ∨ rShow K vs H Q)) := by
  intro xi m H h xs vs Q rh rx p
  rcases xs with _ | ⟨x, _ | ⟨_, _⟩⟩
  · exact p.elim
  · obtain ⟨v, rfl, r⟩ := rx.one
    cases x <;> try exact p.elim
    · cases r
      exact .inl (.inl ⟨rfl, p.now rh _ .str⟩)
    · cases r
      exact .inl (.inr (.inl ⟨_, rfl, p.now rh _ .str⟩))
    · cases r
      obtain ⟨hl, p⟩ := Post.ite p
      exact .inr (.inl ⟨_, rfl, hl, p.now rh _ .str⟩)
    · cases r
      obtain ⟨hl, p⟩ := Post.ite p
      exact .inl (.inr (.inr ⟨_, rfl, hl, p.now rh _ .str⟩))
    · refine .inr (.inr (show_at rh r ?_ p))
      cases r; exact ⟨_, rfl⟩
    · refine .inr (.inr (show_at rh r ?_ p))
      cases r; exact ⟨_, rfl⟩
    · refine .inr (.inr (show_at rh r ?_ p))
      cases r; exact ⟨_, rfl⟩
  · cases x <;> exact p.elim
theorem bls_at {a : Nat} {v : V} {xs : List PV} {bs : List Bool} (rh : RelH K m H h) (r : Rep K m H v (.ref a)) (e : h[a]? = some (.lst xs)) (e2 : bsOf xs = some bs) : ∃ l, v = .ref l ∧ SqL K H l (bs.map V.bl) := by
  obtain ⟨l, vs, rfl, _, hl, rv⟩ := lst_at rh r e
  have e3 := bsOf_eq e2
  subst e3
  rw [rv.bls] at hl
  exact ⟨l, rfl, .inl (.inl hl)⟩
theorem bk_any : BiOk K biAny (rAny K) := by
  intro xi m H h xs vs Q rh rx p
  rcases xs with _ | ⟨x, _ | ⟨_, _⟩⟩
  · exact p.elim
  · obtain ⟨v, rfl, r⟩ := rx.one
    cases x <;> try exact p.elim
    rename_i a
    unfold biAny at p
    dsimp only at p
    cases e : h[a]? with
    | none => rw [e] at p; exact p.elim
    | some o =>
      cases o with
      | dct _ => rw [e] at p; exact p.elim
      | lst ys =>
        rw [e] at p
        dsimp only at p
        cases e2 : bsOf ys with
        | none => rw [e2] at p; exact p.elim
        | some bs =>
          rw [e2] at p
          obtain ⟨l, rfl, hs⟩ := bls_at rh r e e2
          exact ⟨l, bs, rfl, hs, p.now rh _ .bl⟩
  · cases x <;> exact p.elim
theorem bk_all : BiOk K biAll (rAll K) := by
  intro xi m H h xs vs Q rh rx p
  rcases xs with _ | ⟨x, _ | ⟨_, _⟩⟩
  · exact p.elim
  · obtain ⟨v, rfl, r⟩ := rx.one
    cases x <;> try exact p.elim
    rename_i a
    unfold biAll at p
    dsimp only at p
    cases e : h[a]? with
    | none => rw [e] at p; exact p.elim
    | some o =>
      cases o with
      | dct _ => rw [e] at p; exact p.elim
      | lst ys =>
        rw [e] at p
        dsimp only at p
        cases e2 : bsOf ys with
        | none => rw [e2] at p; exact p.elim
        | some bs =>
          rw [e2] at p
          obtain ⟨l, rfl, hs⟩ := bls_at rh r e e2
          exact ⟨l, bs, rfl, hs, p.now rh _ .bl⟩
  · cases x <;> exact p.elim
end
end Vm

set_option Elab.async false
set_option linter.all false
set_option maxRecDepth 100000
set_option maxHeartbeats 8000000
/-! VmR: min, max. -/
namespace Vm
open PySem PySem.Spec PyProof.Rows L2
variable [Tbs]

def rowsOf : List PV → Option (List (List Int))
  | [] => some []
  | .tup xs :: r => (intsOf xs).bind fun ns => (rowsOf r).map (ns :: ·)
  | _ => none
theorem rowsOf_eq : ∀ {xs : List PV} {rs : List (List Int)}, rowsOf xs = some rs → xs = rs.map fun ns => .tup (ns.map PV.int)
  | [], rs, h => by cases h; rfl
  | x :: xs, rs, h => by
    cases x <;> try (cases h; done)
    unfold rowsOf at h
    rename_i ys
    cases e : intsOf ys with
    | none => rw [e] at h; cases h
    | some ns =>
      rw [e] at h
      cases e2 : rowsOf xs with
      | none => rw [e2] at h; cases h
      | some ms =>
        rw [e2] at h
        cases h
        rw [rowsOf_eq e2, intsOf_eq e]
        rfl
@[simp] theorem rowsOf_map : ∀ rs : List (List Int), rowsOf (rs.map fun ns => .tup (ns.map PV.int)) = some rs
  | [] => rfl
  | n :: ns => by
    show (intsOf (n.map PV.int)).bind _ = _
    rw [intsOf_map]
    show (rowsOf (ns.map fun ns => .tup (ns.map PV.int))).map (n :: ·) = _
    rw [rowsOf_map ns]
    rfl
def leastI (rs : List (List Int)) : Nat := argBest (fun i j => HT.lexLt (rs.getD i []) (rs.getD j [])) (rs.length - 1)
def leastR (rs : List (List Int)) : List Int := rs.getD (leastI rs) []
theorem argBest_le (bt : Nat → Nat → Bool) : ∀ k, argBest bt k ≤ k
  | 0 => Nat.le_refl 0
  | k + 1 => by
    unfold argBest
    split
    · exact Nat.le_refl _
    · exact Nat.le_succ_of_le (argBest_le bt k)
theorem leastI_lt {rs : List (List Int)} (h : 0 < rs.length) : leastI rs < rs.length := by
  have := argBest_le (fun i j => HT.lexLt (rs.getD i []) (rs.getD j [])) (rs.length - 1)
  unfold leastI
  omega
theorem leastR_mem {rs : List (List Int)} (h : 0 < rs.length) : leastR rs ∈ rs := by
  unfold leastR
  rw [List.getD_eq_getElem?_getD, List.getElem?_eq_getElem (leastI_lt h)]
  exact List.getElem_mem _
def biMin : List PV → IH → Res PV
  | [.int i, .int j], h => .ok (.int (if j < i then j else i)) h
  | [.tup _], _ => .stuck
  | [x], h => match rd h x with
    | some xs => (match intsOf xs with
      | some ns => if 0 < ns.length then .ok (.int (minL ns)) h else .stuck
      | none => match rowsOf xs with
        | some rs => if 0 < rs.length then .ok (.tup ((leastR rs).map PV.int)) h else .stuck
        | none => .stuck)
    | none => .stuck
  | _, _ => .stuck
def biMax : List PV → IH → Res PV
  | [.int i, .int j], h => .ok (.int (if j > i then j else i)) h
  | [.tup _], _ => .stuck
  | [x], h => match (rd h x).bind intsOf with
    | some ns => if 0 < ns.length then .ok (.int (maxL ns)) h else .stuck
    | none => .stuck
  | _, _ => .stuck
theorem valsR : ∀ {ps : List V} {us : List Value} {i : Nat} {v : Value}, Vals ps us → us[i]? = some v → ∃ p, ps[i]? = some p ∧ L2.RelV p v
  | _, _, i, v, .nil, e => by simp at e
  | _, _, 0, v, .cons r t, e => by cases e; exact ⟨_, rfl, r⟩
  | p :: ps, u :: us, i + 1, v, .cons r t, e => by
    have q := valsR (ps := ps) (us := us) (i := i) t (by simpa using e)
    simpa using q
section
variable {X : Cx}
def rMinR (K : PySem.W.Frag) : List V → Hp → VK → Prop := fun vs H Q => ∃ (a : Addr) (ps : List V) (rs : List (List Int)), vs = [V.ref a] ∧ SqL K H a ps ∧ ps.length = rs.length ∧ 0 < rs.length ∧
  (∀ (i : Nat) p, ps[i]? = some p → ∃ b, p = .ref b ∧ SqT K H b ((rs.getD i []).map V.int)) ∧ ∀ p, ps[leastI rs]? = some p → Q p H
theorem cr_minR (ft : Fit X) : CallR X (.builtin "min") (rMinR X.K) := by
  intro pins s st H vs us Q I r h
  obtain ⟨a, ps, rs, rfl, hs, hlen, h0, hr, q⟩ := h
  obtain ⟨its, rv, hl, _⟩ := I.list hs
  rw [Vals.ref1 r]
  have zl : its.toArray.size = rs.length := by rw [List.size_toArray, ← rv.length, hlen]
  have at1 : ∀ (i : Nat) v, its.toArray[i]? = some v → ∃ b, v = .ref b ∧ SqT X.K H b ((rs.getD i []).map V.int) := fun i v e => by
    have e' : its[i]? = some v := by simpa using e
    obtain ⟨p, e1, e2⟩ := valsR rv e'
    obtain ⟨b, rfl, hb⟩ := hr i p e1
    cases e2
    exact ⟨b, rfl, hb⟩
  refine least_list (bt := fun i j => HT.lexLt (rs.getD i []) (rs.getD j [])) (Gd := fun g => ∀ (i : Nat) b, its.toArray[i]? = some (.ref b) → b < s.heap.objs.size ∧ ∃ zs : List Value, IsTup g b zs.toArray ∧ IntsAre zs (rs.getD i []))
    (I.ok.hd ft.calm) hl.isList (by rw [zl]; exact h0) (fun i b e => ?_) (fun g g' gg kk i b e => ?_) (fun i j x y s2 Q2 E2 gd ex ey q2 => ?_) fun y g tk ey kk => ?_
  · obtain ⟨b', e1, hb⟩ := at1 i _ e
    cases e1
    obtain ⟨zs, r1, p1, _⟩ := I.tuple hb
    refine ⟨?_, zs, p1, r1.ints⟩
    obtain ⟨o, e2, _⟩ := p1
    exact Heap.lt_size e2
  · obtain ⟨lt, zs, ⟨o, e1, e2⟩, z⟩ := gg i b e
    exact ⟨lt, zs, ⟨o, kk b o lt e1, e2⟩, z⟩
  · obtain ⟨b, rfl, _⟩ := at1 i _ ex
    obtain ⟨d, rfl, _⟩ := at1 j _ ey
    obtain ⟨_, zs, p1, i1⟩ := gd i b ex
    obtain ⟨_, ws, p2, i2⟩ := gd j d ey
    have hu := ft.hu
    exact HT.lt_tupInts p1 p2 (by simpa using i1) (by simpa using i2) (by show X.A.units + 1 < cLine; omega) q2
  · rw [zl] at ey
    have e' : its[leastI rs]? = some y := by simpa [leastI] using ey
    obtain ⟨p, e1, e2⟩ := valsR rv e'
    exact ⟨p, H, I.kept kk, e2, q p e1⟩
theorem CallR.or {f : Value} {r1 r2 : List V → Hp → VK → Prop} (h1 : CallR X f r1) (h2 : CallR X f r2) : CallR X f fun vs H Q => r1 vs H Q ∨ r2 vs H Q := by
  intro pins s st H vs us Q I r h
  rcases h with h | h
  · exact h1 pins s st H vs us Q I r h
  · exact h2 pins s st H vs us Q I r h
end
section
variable {K : PySem.W.Frag}
theorem seqL_at {m : List Addr} {H : Hp} {h : IH} {x : PV} {v : V} {xs : List PV} (rh : RelH K m H h) (r : Rep K m H v x) (nt : ∀ ys, x ≠ .tup ys) (e : rd h x = some xs) : ∃ p vs, v = .ref p ∧ SqL K H p vs ∧ Reps K m H vs xs := by
  cases x with
  | tup ys => exact absurd rfl (nt ys)
  | fl ys => cases r with | fl h1 h2 => cases e; exact ⟨_, _, rfl, h1.sq, h2⟩
  | ref a =>
    cases r with
    | ref hp =>
      cases hy : h[a]? with
      | none => simp [rd, hy] at e
      | some o =>
        cases o with
        | lst ys =>
          simp [rd, hy] at e
          subst e
          obtain ⟨vs, h1, h2⟩ := rh.at' a _ _ hy hp
          exact ⟨_, vs, rfl, .inl (.inl h1), h2⟩
        | dct ys => simp [rd, hy] at e
  | _ => cases e
theorem bk_min : BiOk K biMin (fun vs H Q => (∃ i j, vs = [.int i, .int j] ∧ Q (.int (if j < i then j else i)) H) ∨ (rMin K vs H Q ∨ rMinR K vs H Q)) := by
  intro xi m H h xs vs Q rh rx p
  rcases xs with _ | ⟨x, _ | ⟨y, _ | ⟨_, _⟩⟩⟩
  · exact p.elim
  · obtain ⟨v, rfl, r⟩ := rx.one
    have gen : (∀ ys, x ≠ .tup ys) → (Post K xi m H (match rd h x with
      | some xs => (match intsOf xs with
        | some ns => if 0 < ns.length then .ok (.int (minL ns)) h else .stuck
        | none => match rowsOf xs with
          | some rs => if 0 < rs.length then .ok (.tup ((leastR rs).map PV.int)) h else .stuck
          | none => .stuck)
      | none => .stuck) fun z m' H' => ∀ v, Rep K m' H' v z → Q v H') → rMin K [v] H Q ∨ rMinR K [v] H Q := fun nt p' => by
      clear p
      cases e : rd h x with
      | none => rw [e] at p'; exact p'.elim
      | some xs =>
        rw [e] at p'
        dsimp only at p'
        obtain ⟨a, vs, rfl, hs, rv⟩ := seqL_at rh r nt e
        cases e1 : intsOf xs with
        | some ns =>
          have e2 := intsOf_eq e1
          rw [e1] at p'
          obtain ⟨h0, p2⟩ := Post.ite p'
          clear e1 p'
          subst e2
          rw [rv.ints] at hs
          refine .inl ⟨a, ns, rfl, hs, h0, fun k hk hm => ?_⟩
          have ne : ns ≠ [] := fun z => by rw [z] at h0; exact absurd h0 (by simp)
          obtain ⟨g1, g2⟩ := minL_mem ne
          have ek : k = minL ns := by
            have := hm _ g1
            have := g2 _ hk
            omega
          rw [ek]
          exact p2.now rh _ .int
        | none =>
          rw [e1] at p'
          dsimp only at p'
          cases e2 : rowsOf xs with
          | none => rw [e2] at p'; exact p'.elim
          | some rs =>
            rw [e2] at p'
            obtain ⟨h0, p'⟩ := Post.ite p'
            have e3 := rowsOf_eq e2
            subst e3
            have hl := rv.length
            rw [List.length_map] at hl
            have atp : ∀ (i : Nat) p, vs[i]? = some p → ∃ b ws, p = .ref b ∧ SqT K H b ws ∧ Reps K m H ws ((rs.getD i []).map PV.int) ∧ Rep K m H p (.tup ((rs.getD i []).map PV.int)) := fun i p e => by
              have li : i < rs.length := by rw [← hl]; exact (List.getElem?_eq_some_iff.mp e).1
              have ex : (rs.map fun ns => PV.tup (ns.map PV.int))[i]? = some (.tup ((rs.getD i []).map PV.int)) := by
                rw [List.getElem?_map, List.getElem?_eq_getElem li, List.getD_eq_getElem?_getD, List.getElem?_eq_getElem li]
                rfl
              obtain ⟨p2, e1, e2⟩ := rv.get ex
              rw [e] at e1
              cases e1
              obtain ⟨b, ws, rfl, h1, h2⟩ := tup_at e2
              exact ⟨b, ws, rfl, h1, h2, e2⟩
            refine .inr ⟨a, vs, rs, rfl, hs, hl, h0, fun i p e => ?_, fun p e => ?_⟩
            · obtain ⟨b, ws, rfl, h1, h2, _⟩ := atp i p e
              rw [h2.ints] at h1
              exact ⟨b, rfl, h1⟩
            · obtain ⟨b, ws, _, _, _, h3⟩ := atp _ p e
              exact p'.now rh _ h3
    cases x <;> first | exact .inr (gen (fun ys z => nomatch z) p) | exact p.elim
  · cases x <;> cases y <;> try exact p.elim
    obtain ⟨v, w, rfl, r1, r2⟩ := rx.two
    cases r1
    cases r2
    exact .inl ⟨_, _, rfl, p.now rh _ .int⟩
  · cases x <;> cases y <;> exact p.elim
theorem bk_max : BiOk K biMax (fun vs H Q => (∃ i j, vs = [.int i, .int j] ∧ Q (.int (if j > i then j else i)) H) ∨ rMax K vs H Q) := by
  intro xi m H h xs vs Q rh rx p
  rcases xs with _ | ⟨x, _ | ⟨y, _ | ⟨_, _⟩⟩⟩
  · exact p.elim
  · obtain ⟨v, rfl, r⟩ := rx.one
    have gen : (∀ ys, x ≠ .tup ys) → (Post K xi m H (match (rd h x).bind intsOf with
      | some ns => if 0 < ns.length then .ok (.int (maxL ns)) h else .stuck
      | none => .stuck) fun z m' H' => ∀ v, Rep K m' H' v z → Q v H') → rMax K [v] H Q := fun nt p' => by
      clear p
      cases e : rd h x with
      | none => rw [e] at p'; exact p'.elim
      | some xs =>
        rw [e] at p'
        obtain ⟨a, vs, rfl, hs, rv⟩ := seqL_at rh r nt e
        rw [Option.bind_some] at p'
        cases e1 : intsOf xs with
        | none => rw [e1] at p'; exact p'.elim
        | some ns =>
          rw [e1] at p'
          obtain ⟨h0, p'⟩ := Post.ite p'
          have e2 := intsOf_eq e1
          subst e2
          rw [rv.ints] at hs
          refine ⟨a, ns, rfl, hs, h0, fun k hk hm => ?_⟩
          have ne : ns ≠ [] := fun z => by rw [z] at h0; exact absurd h0 (by simp)
          obtain ⟨g1, g2⟩ := maxL_mem ne
          have ek : k = maxL ns := by
            have := hm _ g1
            have := g2 _ hk
            omega
          rw [ek]
          exact p'.now rh _ .int
    cases x <;> first | exact .inr (gen (fun ys z => nomatch z) p) | exact p.elim
  · cases x <;> cases y <;> try exact p.elim
    obtain ⟨v, w, rfl, r1, r2⟩ := rx.two
    cases r1
    cases r2
    exact .inl ⟨_, _, rfl, p.now rh _ .int⟩
  · cases x <;> cases y <;> exact p.elim
end

/-! ### the table -/
def Bn : List Str := ["len", "sum", "tuple", "list", "divmod", "abs", "min", "max", "int", "repr", "any", "all"]
def Bf : Fns := fun i => match i with
  | 0 => biLen
  | 1 => biSum
  | 2 => biTuple
  | 3 => biList
  | 4 => biDivmod
  | 5 => biAbs
  | 6 => biMin
  | 7 => biMax
  | 8 => biInt
  | 9 => biRepr
  | 10 => biAny
  | 11 => biAll
  | _ => fun _ _ => .stuck
theorem hBi : ∀ c : Tb, c.B = Bn → BiAll c Bf := by
  intro c hc X ft i x hx
  rw [hc] at hx
  rcases i with _ | _ | _ | _ | _ | _ | _ | _ | _ | _ | _ | _ | i
  · cases hx; exact .inl ⟨"len", _, rfl, call_len_seq.or call_len_str, bk_len⟩
  · cases hx; exact .inl ⟨"sum", _, rfl, (cr_sum ft.calm).or (cr_sumT ft.calm), bk_sum⟩
  · cases hx; exact .inr ⟨"tuple", _, rfl, call_tuple_of.or (cr_tupS ft.calm), bk_tuple⟩
  · cases hx; exact .inr ⟨"list", _, rfl, call_list_of, bk_list⟩
  · cases hx; exact .inl ⟨"divmod", _, rfl, call_divmod, bk_divmod⟩
  · cases hx; exact .inl ⟨"abs", _, rfl, call_abs, bk_abs⟩
  · cases hx; exact .inl ⟨"min", _, rfl, (call_min2 ft.calm).or ((cr_min ft.calm).or (cr_minR ft)), bk_min⟩
  · cases hx; exact .inl ⟨"max", _, rfl, (call_max2 ft.calm).or (cr_max ft.calm), bk_max⟩
  · cases hx; exact .inr ⟨"int", _, rfl, call_int1, bk_int⟩
  · cases hx; exact .inl ⟨"repr", _, rfl, cr_show0.or (SkE.call_repr_int.or (cr_show ft)), bk_repr⟩
  · cases hx; exact .inl ⟨"any", _, rfl, cr_any ft.calm, bk_any⟩
  · cases hx; exact .inl ⟨"all", _, rfl, cr_all ft.calm, bk_all⟩
  · simp [Bn] at hx
end Vm

set_option Elab.async false
set_option linter.all false
set_option maxRecDepth 100000
set_option maxHeartbeats 4000000
/-! VmS: from the head to the evaluator. -/
namespace Vm
open PySem PySem.Spec PyProof.Rows L2
variable [T : Tbs]

def ddOf (d : DefT) : He.DefD := ⟨(d.name, none), d.name, d.name, defArgs d.st, defBody d.st, defScope d.st, [], []⟩
def Bfree : List Str := ["len", "sum", "tuple", "list", "divmod", "abs", "min", "max", "range", "sorted", "set", "enumerate", "zip", "isinstance", "int", "bool", "str", "repr", "any", "all"]
def faOf (ds : List DefT) : List He.Fa := (ds.map fun d => He.Fa.glo d.name) ++ Bfree.map He.Fa.free
theorem facts_in {fa : List He.Fa} {fn : List He.DefD} {K : PySem.W.Frag} (c : He.SaysD fa fn K) {f : He.Fa} (h : f ∈ fa) : f.ok K = true := by
  obtain ⟨i, hi, e⟩ := List.mem_iff_getElem.mp h
  exact c.fact i (f := f) (by rw [List.getElem?_eq_getElem hi, e])
/-- a def's call binds its parameters -/
abbrev BindsD (K : PySem.W.Frag) (ds : List DefT) : Prop := ∀ (i : Nat) d f fd, ds[i]? = some d → FunD K d.name d.name (defArgs d.st) (defBody d.st) (defScope d.st) [] [] f fd → Binds K fd d.ps []
theorem stand_of {ds : List DefT} {K : PySem.W.Frag} {h : Heap} {mg : Str → Option Value} (X : K.In h) (G : h.Ns mainGlobals mg) (c : He.SaysD (faOf ds) (ds.map ddOf) K) (hb : BindsD K ds) :
    ∃ f fd, Stand K mg ds Bn f fd := by
  have one : ∀ i : Nat, ∃ p : Addr × FuncData, ∀ d, ds[i]? = some d → FunD K d.name d.name (defArgs d.st) (defBody d.st) (defScope d.st) [] [] p.1 p.2 ∧ mg d.name = some (.ref p.1) := fun i => by
    cases e : ds[i]? with
    | none => exact ⟨(0, default), fun d z => nomatch z⟩
    | some d =>
      obtain ⟨fd, F⟩ := c.def_ i (d := ddOf d) (by rw [List.getElem?_map, e]; rfl)
      refine ⟨(He.ga K d.name, fd), fun d' z => ?_⟩
      cases z
      exact ⟨F, He.glo_ok X G (facts_in c (List.mem_append_left _ (List.mem_map.mpr ⟨d, List.mem_of_getElem? e, rfl⟩)))⟩
  have fr : ∀ x, x ∈ Bfree → mg x = none := fun x hx => He.free_ok X G (facts_in c (List.mem_append_right _ (List.mem_map.mpr ⟨x, hx, rfl⟩)))
  obtain ⟨p, hp⟩ := Classical.axiomOfChoice one
  refine ⟨fun i => (p i).1, fun i => (p i).2, ⟨fun i d e => (hp i d e).1, fun i d e => (hp i d e).2, fun i d e => hb i d _ _ e (hp i d e).1, fun x hx => ⟨fr x ?_, ?_⟩, fr _ (by decide), fun x hx => fr x ?_⟩⟩
  rotate_left 2
  · revert x
    decide
  · revert x
    decide
  · revert x
    decide
/-- the law's end, by the evaluator's -/
theorem end_of [T : Tbs] {K : PySem.W.Frag} {F : List PV → IH → Res PV} {ns : List Int} {H : Hp} {a : Addr} {E : XK} (hO : Only H) (hT : ∀ P ∈ T.at', GxR.TabG H P) (hS : SqL K H a (ns.map V.int)) (he : ∃ h', F [.fl (ns.map PV.int)] [] = .ok (.bl true) h') :
    spOf K 1 F [.ref a] H (fun v _ => v = .bl true) E := by
  obtain ⟨h', e⟩ := he
  have sf : SqF K H a (ns.map V.int) := by
    rcases hS with (hl | ⟨o, hl⟩) | hl
    · rcases hO a with z | ⟨o, xs, z⟩
      · rw [z] at hl; cases hl
      · rw [z] at hl; cases hl
    · exact .inl ⟨o, hl⟩
    · exact .inr hl
  refine ⟨rfl, [], [], [.fl (ns.map PV.int)], ⟨rfl, List.nodup_nil, hT, fun i o p z => by simp at z⟩, .cons (.fl sf (Reps.ofInts ns)) .nil, ?_⟩
  rw [e]
  intro m' H' _ _ v r
  cases r
  rfl
/-- no tables -/
instance (priority := low) noTbs : Tbs := ⟨[]⟩
end Vm

set_option Elab.async false
set_option linter.all false
set_option maxRecDepth 100000
set_option maxHeartbeats 4000000
/-! VmT: going through the evaluator. -/
namespace Vm
open PySem PySem.Spec PyProof.Rows L2
theorem Res.bind_assoc {α β γ : Type} (r : Res α) (f : α → IH → Res β) (g : β → IH → Res γ) : (r.bind f).bind g = r.bind fun a h => (f a h).bind g := by
  cases r <;> rfl
theorem Res.calm_of {α : Type} {r : Res α} {Q : α → IH → Prop} (h : r.Ok Q) : r.calm.Ok Q := by
  cases r with
  | ok a h1 => exact h
  | exc => exact h.elim
  | stuck => exact h.elim
/-- more was made -/
def Ext (h h' : IH) : Prop := ∃ z, h' = h ++ z
theorem Ext.refl (h : IH) : Ext h h := ⟨[], by simp⟩
theorem Ext.trans {a b c : IH} (x : Ext a b) (y : Ext b c) : Ext a c := by
  obtain ⟨u, rfl⟩ := x
  obtain ⟨v, rfl⟩ := y
  exact ⟨u ++ v, by simp⟩
theorem Ext.app (h z : IH) : Ext h (h ++ z) := ⟨z, rfl⟩
theorem Ext.get {h h' : IH} (x : Ext h h') {i : Nat} {o : HV} (q : h[i]? = some o) : h'[i]? = some o := by
  obtain ⟨z, rfl⟩ := x
  rw [List.getElem?_append_left (List.getElem?_eq_some_iff.mp q).1]
  exact q
theorem Ext.len {h h' : IH} (x : Ext h h') : h.length ≤ h'.length := by
  obtain ⟨z, rfl⟩ := x
  simp
@[simp] theorem at_end (h : IH) (o : HV) : (h ++ [o])[h.length]? = some o := by simp
/-- what stood there stands there, but f -/
def But (f : Nat) (h h' : IH) : Prop := h.length ≤ h'.length ∧ ∀ i : Nat, i < h.length → i ≠ f → h'[i]? = h[i]?
theorem But.refl (f : Nat) (h : IH) : But f h h := ⟨Nat.le_refl _, fun _ _ _ => rfl⟩
theorem But.trans {f : Nat} {a b c : IH} (x : But f a b) (y : But f b c) : But f a c := ⟨Nat.le_trans x.1 y.1, fun i hi hf => (y.2 i (Nat.lt_of_lt_of_le hi x.1) hf).trans (x.2 i hi hf)⟩
theorem But.of {f : Nat} {h h' : IH} (x : Ext h h') : But f h h' := by
  obtain ⟨z, rfl⟩ := x
  exact ⟨by simp, fun i hi _ => List.getElem?_append_left hi⟩
theorem But.get {f : Nat} {h h' : IH} (x : But f h h') {i : Nat} {o : HV} (n : i ≠ f) (q : h[i]? = some o) : h'[i]? = some o := by
  rw [x.2 i (List.getElem?_eq_some_iff.mp q).1 n]
  exact q
theorem But.set {f : Nat} {h : IH} {o : HV} : But f h (h.set f o) := ⟨by simp, fun i hi n => by rw [List.getElem?_set]; simp [Ne.symm n]⟩

theorem size_ok {n : Nat} (h : n ≤ 1000000) : n ≤ sizeLine := by
  rw [sizeLine_eq]
  omega
theorem new_ok {h : IH} {xs : List PV} (l : xs.length ≤ 1000000) : new h xs = .ok (.ref h.length) (h ++ [.lst xs]) := if_pos (size_ok l)
theorem newT_ok {h : IH} {xs : List PV} (l : xs.length ≤ 1000000) : newT h xs = .ok (.tup xs) h := if_pos (size_ok l)
theorem atI_ok {xs : List PV} {s : Int} {v : PV} (h0 : 0 ≤ s) (e : xs[s.toNat]? = some v) : atI xs s = some v := by
  have lt := (List.getElem?_eq_some_iff.mp e).1
  unfold atI ixN
  rw [if_pos h0, if_pos (by omega)]
  exact e
theorem ixF_rd {h : IH} {x : PV} {xs : List PV} {s : Int} {v : PV} (e : rd h x = some xs) (h0 : 0 ≤ s) (k : xs[s.toNat]? = some v) : ixF x (.int s) h = .ok v h := by
  have q := atI_ok h0 k
  cases x <;> first | (cases e; done) | (simp only [ixF, e, q])
theorem ints_at_i {ws : List Int} {s : Int} (h0 : 0 ≤ s) (h1 : s < ws.length) : (ws.map PV.int)[s.toNat]? = some (.int (ws.getD s.toNat 0)) := by
  have lt : s.toNat < ws.length := by omega
  rw [List.getElem?_map, List.getElem?_eq_getElem lt, List.getD_eq_getElem?_getD, List.getElem?_eq_getElem lt]
  rfl
theorem ixF_tup {ws : List Int} {s : Int} {h : IH} (h0 : 0 ≤ s) (h1 : s < ws.length) : ixF (.tup (ws.map PV.int)) (.int s) h = .ok (.int (ws.getD s.toNat 0)) h := ixF_rd rfl h0 (ints_at_i h0 h1)
theorem rd_ref {h : IH} {a : Nat} {xs : List PV} (e : h[a]? = some (.lst xs)) : rd h (.ref a) = some xs := by simp [rd, e]
theorem ixF_ref {ws : List Int} {s : Int} {h : IH} {a : Nat} (e : h[a]? = some (.lst (ws.map PV.int))) (h0 : 0 ≤ s) (h1 : s < ws.length) : ixF (.ref a) (.int s) h = .ok (.int (ws.getD s.toNat 0)) h := ixF_rd (rd_ref e) h0 (ints_at_i h0 h1)
@[simp] theorem Bf_len {ws : List PV} {h : IH} : Bf 0 [.tup ws] h = .ok (.int ws.length) h := rfl
theorem Bf_len_ref {xs : List PV} {h : IH} {a : Nat} (e : h[a]? = some (.lst xs)) : Bf 0 [.ref a] h = .ok (.int xs.length) h := by
  show biLen [.ref a] h = _
  simp [biLen, rd_ref e]
@[simp] theorem Bf_sum {ws : List Int} {h : IH} : Bf 1 [.tup (ws.map PV.int)] h = .ok (.int ws.sum) h := by
  show biSum [.tup (ws.map PV.int)] h = _
  simp [biSum, rd]
@[simp] theorem Bf_divmod {i j : Int} {h : IH} : Bf 4 [.int i, .int j] h = if 0 < j ∧ j < 1073741824 then .ok (.tup [.int (i / j), .int (i % j)]) h else .stuck := rfl
theorem Bf_tuple {xs : List PV} {h : IH} {a : Nat} (e : h[a]? = some (.lst xs)) : Bf 2 [.ref a] h = .ok (.tup xs) h := by
  show biTuple [.ref a] h = _
  simp [biTuple, rd_ref e]
@[simp] theorem Bf_min2 {i j : Int} {h : IH} : Bf 6 [.int i, .int j] h = .ok (.int (if j < i then j else i)) h := rfl
theorem Bf_min_rows {rs : List (List Int)} {h : IH} {a : Nat} (e : h[a]? = some (.lst (rs.map fun ns => .tup (ns.map PV.int)))) (h0 : 0 < rs.length) : Bf 6 [.ref a] h = .ok (.tup ((leastR rs).map PV.int)) h := by
  show biMin [.ref a] h = _
  have n : intsOf (rs.map fun ns => PV.tup (ns.map PV.int)) = none := by
    cases rs with
    | nil => simp at h0
    | cons r rs => rfl
  simp only [biMin, rd_ref e, n, rowsOf_map, h0, if_true]
/-! ### loops -/
theorem lc_inv {xs : List PV} {src : Src} {f : PV → IH → Res (Option PV)} (J : Nat → List PV → IH → Prop) (hsrc : ∀ (k : Nat) acc h, J k acc h → src.get h k = some xs[k]?) (hl : xs.length ≤ 1000000)
    (hf : ∀ (k : Nat) x acc h, xs[k]? = some x → J k acc h → (f x h).Ok fun o h1 => match o with
      | some y => J (k + 1) (acc ++ [y]) h1
      | none => J (k + 1) acc h1) : ∀ n k acc h, n = xs.length + 1 - k → k ≤ xs.length → acc.length ≤ k → J k acc h → (lcLoop src f n k acc h).Ok fun acc h1 => J xs.length acc h1
  | 0, k, acc, h, hn, hk, _, _ => by omega
  | n + 1, k, acc, h, hn, hk, ha, j => by
    unfold lcLoop
    rw [hsrc k acc h j]
    by_cases lt : k < xs.length
    · rw [List.getElem?_eq_getElem lt]
      dsimp only
      refine Res.ok_bind ((hf k _ acc h (List.getElem?_eq_getElem lt) j).mono fun o h1 q => ?_)
      cases o with
      | some y =>
        dsimp only at q ⊢
        rw [if_pos (by rw [sizeLine_eq]; omega)]
        exact lc_inv J hsrc hl hf n (k + 1) _ h1 (by omega) (by omega) (by simp; omega) q
      | none => exact lc_inv J hsrc hl hf n (k + 1) _ h1 (by omega) (by omega) (by omega) q
    · have : k = xs.length := by omega
      subst this
      rw [List.getElem?_eq_none (Nat.le_refl _)]
      exact j
theorem for_inv {xs : List PV} {src : Src} {f : PV → Ev → IH → Res Fl} (J : Nat → Ev → IH → Prop) {Q : Fl → IH → Prop} (hsrc : ∀ (k : Nat) ev h, J k ev h → src.get h k = some xs[k]?)
    (hf : ∀ (k : Nat) x ev h, xs[k]? = some x → J k ev h → (f x ev h).Ok fun o h1 => match o with
      | .nx ev' => J (k + 1) ev' h1
      | .rt y => Q (.rt y) h1) (hend : ∀ ev h, J xs.length ev h → Q (.nx ev) h) : ∀ n k ev h, n = xs.length + 1 - k → k ≤ xs.length → J k ev h → (forLoop src f n k ev h).Ok Q
  | 0, k, ev, h, hn, hk, _ => by omega
  | n + 1, k, ev, h, hn, hk, j => by
    unfold forLoop
    rw [hsrc k ev h j]
    by_cases lt : k < xs.length
    · rw [List.getElem?_eq_getElem lt]
      dsimp only
      refine Res.ok_bind ((hf k _ ev h (List.getElem?_eq_getElem lt) j).mono fun o h1 q => ?_)
      cases o with
      | nx ev' => exact for_inv J hsrc hf hend n (k + 1) _ h1 (by omega) (by omega) q
      | rt y => exact q
    · have : k = xs.length := by omega
      subst this
      rw [List.getElem?_eq_none (Nat.le_refl _)]
      exact hend _ _ j
/-- a comprehension whose turns make nothing but more -/
theorem lc_pure {src : Src} {xs : List PV} {f : PV → IH → Res (Option PV)} {h0 : IH} {n : Nat} (g : PV → Option PV) (hsrc : ∀ (k : Nat) h, Ext h0 h → src.get h k = some xs[k]?) (hn : n = xs.length + 1) (hl : xs.length ≤ 1000000)
    (hf : ∀ (k : Nat) x h, xs[k]? = some x → Ext h0 h → (f x h).Ok fun o h1 => o = g x ∧ Ext h0 h1) : (lcLoop src f n 0 [] h0).Ok fun acc h1 => acc = xs.filterMap g ∧ Ext h0 h1 := by
  subst hn
  refine (lc_inv (src := src) (fun k acc h => acc = (xs.take k).filterMap g ∧ Ext h0 h) (fun k _ h j => hsrc k h j.2) hl (fun k x acc h e j => ?_) _ 0 [] h0 rfl (Nat.zero_le _) (Nat.le_refl _) ⟨rfl, Ext.refl _⟩).mono fun acc h1 q => ?_
  · refine (hf k x h e j.2).mono fun o h1 q => ?_
    have e2 : (xs.take (k + 1)).filterMap g = (xs.take k).filterMap g ++ (match g x with | some y => [y] | none => []) := by
      rw [List.take_add_one, e, List.filterMap_append]
      congr 1
      show [x].filterMap g = _
      cases hg : g x <;> simp [List.filterMap_cons, hg]
    cases o with
    | some y =>
      dsimp only
      rw [e2, ← q.1, j.1]
      exact ⟨rfl, q.2⟩
    | none =>
      dsimp only
      rw [e2, ← q.1, j.1]
      exact ⟨by simp, q.2⟩
  · rw [List.take_of_length_le (Nat.le_refl _)] at q
    exact q
theorem get_items {xs : List PV} {h0 : IH} : ∀ (k : Nat) h, Ext h0 h → (Src.items xs).get h k = some xs[k]? := fun _ _ _ => rfl
theorem get_heap {xs : List PV} {h0 : IH} {a : Nat} (e : h0[a]? = some (.lst xs)) : ∀ (k : Nat) h, Ext h0 h → (Src.heap a).get h k = some xs[k]? := fun k h x => by
  have q := x.get e
  simp only [Src.get, q]
theorem fuel_heap {xs : List PV} {h : IH} {a : Nat} (e : h[a]? = some (.lst xs)) : (Src.heap a).fuel h = xs.length + 1 := by
  simp only [Src.fuel, e]
theorem fm_filter {p : Int → Bool} {e : Int → PV} {g : PV → Option PV} : ∀ {l : List Int}, (∀ s ∈ l, g (.int s) = if p s then some (e s) else none) → (l.map PV.int).filterMap g = (l.filter p).map e
  | [], _ => rfl
  | s :: l, h => by
    have ih := fm_filter (p := p) (e := e) (g := g) (l := l) fun s hs => h s (List.mem_cons_of_mem _ hs)
    have h1 := h s List.mem_cons_self
    rw [List.map_cons, List.filterMap_cons, h1, ih, List.filter_cons]
    cases p s <;> rfl
theorem rngs_len (i : Int) (n : Nat) : (rngs i n).length = n := by simp [rngs]
theorem rngs_at {i : Int} {n k : Nat} {x : PV} (e : (rngs i n)[k]? = some x) : k < n ∧ x = .int (i + k) := by
  obtain ⟨h1, h2⟩ := List.getElem?_eq_some_iff.mp e
  rw [rngs_len] at h1
  refine ⟨h1, ?_⟩
  rw [← h2]
  simp [rngs]
theorem rngs0_at {n k : Nat} {x : PV} (e : (rngs 0 n)[k]? = some x) : k < n ∧ x = .int k := by
  obtain ⟨h1, h2⟩ := rngs_at e
  exact ⟨h1, by rw [h2, Int.zero_add]⟩
theorem mul_one {h : IH} {a : Nat} {x : PV} {k : Int} (e : h[a]? = some (.lst [x])) (k0 : 0 ≤ k) (k1 : k ≤ 1000) : binF .mul (.ref a) (.int k) h = .ok (.ref h.length) (h ++ [.lst (List.replicate k.toNat x)]) := by
  have c : -(2 ^ 63) ≤ k ∧ k < 2 ^ 63 := by omega
  have f : (List.replicate k.toNat [x]).flatten = List.replicate k.toNat x := by
    generalize k.toNat = n
    induction n with
    | zero => rfl
    | succ n ih => rw [List.replicate_succ, List.flatten_cons, ih]; rfl
  have n := new_ok (h := h) (xs := List.replicate k.toNat x) (by rw [List.length_replicate]; omega)
  simp only [binF, e, f, n]
  rw [if_pos c]
theorem Ext.set {h h' : IH} (x : Ext h h') {i : Nat} {o : HV} (l : h.length ≤ i) : Ext h (h'.set i o) := by
  obtain ⟨z, rfl⟩ := x
  exact ⟨z.set (i - h.length) o, by rw [List.set_append_right _ _ l]⟩
theorem set_same {h : IH} {i : Nat} {o p : HV} (e : h[i]? = some p) : (h.set i o)[i]? = some o := by
  rw [List.getElem?_set]
  simp [(List.getElem?_eq_some_iff.mp e).1]
theorem set_other {h : IH} {i j : Nat} {o : HV} (n : i ≠ j) : (h.set i o)[j]? = h[j]? := by
  rw [List.getElem?_set]
  simp [n]
theorem map_set {xs : List Int} {i : Nat} {v : Int} : (xs.map PV.int).set i (.int v) = (xs.set i v).map PV.int := by
  rw [List.map_set]
theorem lrng_ok {h : IH} {n : Int} (l : 0 ≤ n) (u : n ≤ 1000) : lrngF (.int n) h = .ok (.ref h.length) (h ++ [.lst (rngs 0 n.toNat)]) := by
  have c : -(2 ^ 62) ≤ n ∧ n < 2 ^ 62 ∧ n.toNat ≤ 2 ^ 24 := by omega
  have e := new_ok (h := h) (xs := rngs 0 n.toNat) (by rw [rngs_len]; omega)
  simp only [lrngF, e]
  rw [if_pos c]
theorem insS_len {k : Int} : ∀ {xs : List Int}, (insS k xs).length ≤ xs.length + 1
  | [] => by simp [insS]
  | x :: xs => by
    unfold insS
    split
    · simp
    · split
      · simp
      · have := insS_len (k := k) (xs := xs)
        simp only [List.length_cons]
        omega
theorem ssetL_len : ∀ {ns : List Int}, (ssetL ns).length ≤ ns.length
  | [] => by simp [ssetL]
  | n :: ns => by
    have a := ssetL_len (ns := ns)
    have b := insS_len (k := n) (xs := ssetL ns)
    show (insS n (ssetL ns)).length ≤ _
    simp only [List.length_cons]
    omega
theorem sset_ok {h : IH} {a : Nat} {ns : List Int} (e : h[a]? = some (.lst (ns.map PV.int))) (l : ns.length < 64) : ssetF (.ref a) h = .ok (.ref h.length) (h ++ [.lst ((ssetL ns).map PV.int)]) := by
  have n := new_ok (h := h) (xs := (ssetL ns).map PV.int) (by rw [List.length_map]; have := ssetL_len (ns := ns); omega)
  simp only [ssetF, rd_ref e, Option.bind_some, intsOf_map, n]
  rw [if_pos l]
theorem putF_ok' {h : IH} {a : Nat} {xs : List PV} {j : Int} {v : PV} (e : h[a]? = some (.lst xs)) (h0 : 0 ≤ j) (h1 : j < xs.length) : putF (.ref a) (.int j) v h = .ok () (h.set a (.lst (xs.set j.toNat v))) := by
  have : ixN xs.length j = some j.toNat := by unfold ixN; rw [if_pos h0, if_pos h1]
  simp only [putF, e, this]
theorem appF_ok {h : IH} {a : Nat} {xs : List PV} {v : PV} (e : h[a]? = some (.lst xs)) (l : xs.length < 1000000) : appF (.ref a) v h = .ok () (h.set a (.lst (xs ++ [v]))) := by
  have : xs.length < sizeLine := by rw [sizeLine_eq]; omega
  simp only [appF, e, this, if_true]
/-! ### one operation -/
section
variable {i j : Int} {h : IH}
@[simp] theorem b_add : binF .add (.int i) (.int j) h = .ok (.int (i + j)) h := rfl
@[simp] theorem b_sub : binF .sub (.int i) (.int j) h = .ok (.int (i - j)) h := rfl
theorem mul_r (l : -1000000000 < j) (u : j < 1000000000) : binF .mul (.int i) (.int j) h = .ok (.int (i * j)) h := by
  have : big j = true := by unfold big; exact decide_eq_true (by omega)
  simp only [binF, this, Bool.or_true, if_true]
theorem mul_l (l : -1000000000 < i) (u : i < 1000000000) : binF .mul (.int i) (.int j) h = .ok (.int (i * j)) h := by
  have : big i = true := by unfold big; exact decide_eq_true (by omega)
  simp only [binF, this, Bool.true_or, if_true]
theorem fdiv_ok (l : 0 < j) (u : j < 1073741824) : binF .fdiv (.int i) (.int j) h = .ok (.int (i / j)) h := if_pos ⟨l, .inl u⟩
theorem mod_ok (l : 0 < j) : binF .mod (.int i) (.int j) h = .ok (.int (i % j)) h := if_pos l
theorem pow_ok (l : 0 ≤ j) (u : j ≤ 1000) (b : 0 ≤ i) (t : i < 18446744073709551616) : binF .pow (.int i) (.int j) h = .ok (.int (i ^ j.toNat)) h := if_pos ⟨l, by omega, by omega⟩
@[simp] theorem a_add : augF .add (.int i) (.int j) h = .ok (.int (i + j)) h := rfl
@[simp] theorem c_eq : cmpF .eq (.int i) (.int j) h = .ok (.bl (decide (i = j))) h := rfl
@[simp] theorem c_ne : cmpF .ne (.int i) (.int j) h = .ok (.bl (!decide (i = j))) h := rfl
@[simp] theorem c_lt : cmpF .lt (.int i) (.int j) h = .ok (.bl (decide (i < j))) h := rfl
@[simp] theorem c_le : cmpF .le (.int i) (.int j) h = .ok (.bl (decide (i ≤ j))) h := rfl
@[simp] theorem c_gt : cmpF .gt (.int i) (.int j) h = .ok (.bl (decide (j < i))) h := rfl
@[simp] theorem c_ge : cmpF .ge (.int i) (.int j) h = .ok (.bl (decide (j ≤ i))) h := rfl
end
theorem sem_at {B : Fns} {ds : List DefT} {n i L : Nat} {d : DefT} {b : Ss} {xs : List PV} {h : IH} (e : ds[i]? = some d) (hN : d.N.length = L) (hb : d.body = b) : sem B ds (n + 1) i xs h = evF (sem B ds n) B L b xs h := by
  subst hN hb
  show (match ds[i]? with
    | some d => evF (sem B ds n) B d.N.length d.body xs h
    | none => .stuck) = _
  rw [e]
theorem rng_if {α : Type} {j : Int} {A B : α} (l : 0 ≤ j) (u : j ≤ 1000000) : (if -(2 ^ 62) ≤ j ∧ j < 2 ^ 62 then A else B) = A := if_pos (by omega)
end Vm

set_option Elab.async false
set_option linter.all false
set_option maxRecDepth 100000
set_option maxHeartbeats 1000000
/-! VmU: more of going through the evaluator: kinds, pairs, lists as wholes. -/
namespace Vm
open PySem PySem.Spec PyProof.Rows L2
@[simp] theorem isF_int {i : Int} {h : IH} : isF .int (.int i) h = .ok (.bl true) h := by simp [isF, tyOf, Ty.word]
@[simp] theorem isF_bool {i : Int} {h : IH} : isF .bool (.int i) h = .ok (.bl false) h := by simp [isF, tyOf, Ty.word]
@[simp] theorem isF_tuple {xs : List PV} {h : IH} : isF .tuple (.tup xs) h = .ok (.bl true) h := by simp [isF, tyOf, Ty.word]
theorem Bf_sum_ref {ws : List Int} {h : IH} {a : Nat} (e : h[a]? = some (.lst (ws.map PV.int))) : Bf 1 [.ref a] h = .ok (.int ws.sum) h := by
  show biSum [.ref a] h = _
  simp [biSum, rd_ref e]
theorem Bf_list {xs : List PV} {h : IH} (l : xs.length ≤ 1000000) : Bf 3 [.tup xs] h = .ok (.ref h.length) (h ++ [.lst xs]) := by
  show biList [.tup xs] h = _
  simp only [biList, rd, new_ok l]
@[simp] theorem Bf_int_bl {b : Bool} {h : IH} : Bf 8 [.bl b] h = .ok (.int (if b then 1 else 0)) h := rfl
/-! ### pairs -/
def pairsE (cs : List Int) : List PV := (List.range cs.length).map fun (i : Nat) => PV.tup [.int i, .int (cs.getD i 0)]
def pairsZ (cs es : List Int) : List PV := (List.range cs.length).map fun (i : Nat) => PV.tup [.int (cs.getD i 0), .int (es.getD i 0)]
theorem pairsE_at {cs : List Int} {k : Nat} {x : PV} (e : (pairsE cs)[k]? = some x) : k < cs.length ∧ x = .tup [.int k, .int (cs.getD k 0)] := by
  unfold pairsE at e
  rw [List.getElem?_map] at e
  by_cases l : k < cs.length
  · rw [List.getElem?_range l] at e
    cases e
    exact ⟨l, rfl⟩
  · rw [List.getElem?_eq_none (by simp; omega)] at e
    cases e
theorem pairsZ_at {cs es : List Int} {k : Nat} {x : PV} (e : (pairsZ cs es)[k]? = some x) : k < cs.length ∧ x = .tup [.int (cs.getD k 0), .int (es.getD k 0)] := by
  unfold pairsZ at e
  rw [List.getElem?_map] at e
  by_cases l : k < cs.length
  · rw [List.getElem?_range l] at e
    cases e
    exact ⟨l, rfl⟩
  · rw [List.getElem?_eq_none (by simp; omega)] at e
    cases e
theorem get_enum {cs : List Int} {h : IH} {a : Nat} (e : h[a]? = some (.lst (cs.map PV.int))) (k : Nat) : (Src.enum a).get h k = some (pairsE cs)[k]? := by
  simp only [Src.get, e]
  unfold pairsE
  congr 1
  rw [List.getElem?_map, List.getElem?_map]
  by_cases l : k < cs.length
  · rw [List.getElem?_range l, List.getElem?_eq_getElem l]
    simp [List.getElem?_eq_getElem l]
  · rw [List.getElem?_eq_none (by omega), List.getElem?_eq_none (by simp; omega)]
    rfl
theorem get_zip {cs es : List Int} {h : IH} {a b : Nat} (hl : es.length = cs.length) (e : h[a]? = some (.lst (cs.map PV.int))) (e2 : h[b]? = some (.lst (es.map PV.int))) (k : Nat) : (Src.zip a b).get h k = some (pairsZ cs es)[k]? := by
  simp only [Src.get, e, e2]
  unfold pairsZ
  congr 1
  rw [List.getElem?_map, List.getElem?_map, List.getElem?_map]
  by_cases l : k < cs.length
  · rw [List.getElem?_range l, List.getElem?_eq_getElem l, List.getElem?_eq_getElem (by omega : k < es.length)]
    simp [List.getElem?_eq_getElem l, List.getElem?_eq_getElem (by omega : k < es.length)]
  · rw [List.getElem?_eq_none (by omega : cs.length ≤ k), List.getElem?_eq_none (by omega : es.length ≤ k), List.getElem?_eq_none (show (List.range cs.length).length ≤ k by simp; omega)]
    rfl
theorem fuel_enum {xs : List PV} {h : IH} {a : Nat} (e : h[a]? = some (.lst xs)) : (Src.enum a).fuel h = xs.length + 1 := by simp only [Src.fuel, e]
theorem fuel_zip {xs : List PV} {h : IH} {a b : Nat} (e : h[a]? = some (.lst xs)) : (Src.zip a b).fuel h = xs.length + 1 := by simp only [Src.fuel, e]
theorem pairsE_len {cs : List Int} : (pairsE cs).length = cs.length := by simp [pairsE]
theorem pairsZ_len {cs es : List Int} : (pairsZ cs es).length = cs.length := by simp [pairsZ]
theorem enumF_ok {xs : List PV} {h : IH} {a : Nat} (e : h[a]? = some (.lst xs)) : enumF (.ref a) h = .ok (.enum a) h := by simp only [enumF, e]
theorem zipF_ok {xs ys : List PV} {h : IH} {a b : Nat} (e : h[a]? = some (.lst xs)) (e2 : h[b]? = some (.lst ys)) : zipF (.ref a) (.ref b) h = .ok (.zip a b) h := by simp only [zipF, e, e2]
/-! ### lists of ints as wholes -/
theorem seqO_ints {h : IH} {n : Nat} : ∀ cs : List Int, seqO ((cs.map PV.int).map (dataOf h (n + 1))) = some (cs.map PyData.int)
  | [] => rfl
  | c :: cs => by
    show (seqO ((cs.map PV.int).map (dataOf h (n + 1)))).map _ = _
    rw [seqO_ints cs]
    rfl
theorem data_ints {h : IH} {a : Nat} {cs : List Int} (e : h[a]? = some (.lst (cs.map PV.int))) : dataOf h 40 (.ref a) = some (.list (cs.map PyData.int)) := by
  have q := seqO_ints (h := h) (n := 38) cs
  show (match h[a]? with
    | some (.lst xs) => (seqO (xs.map (dataOf h 39))).map PyData.list
    | _ => none) = _
  rw [e]
  show (seqO ((cs.map PV.int).map (dataOf h 39))).map PyData.list = _
  rw [q]
  rfl
theorem lay_ints : ∀ cs : List Int, PyData.canLayAll0 (cs.map PyData.int) = true
  | [] => by simp [PyData.canLayAll0]
  | c :: cs => by
    have := lay_ints cs
    simp [PyData.canLayAll0, PyData.canLay0] at this ⊢
    exact this
theorem deep_ints : ∀ cs : List Int, PyData.depthAll (cs.map PyData.int) ≤ 1
  | [] => by simp [PyData.depthAll]
  | c :: cs => by
    have := deep_ints cs
    simp [PyData.depthAll, PyData.depth] at this ⊢
    omega
theorem shaped_ints (cs : List Int) : SeqAt.shaped (.list (cs.map PyData.int)) = true := by
  have a := lay_ints cs
  have b := deep_ints cs
  have d : PyData.depth (.list (cs.map PyData.int)) ≤ 64 := by
    simp only [PyData.depth]
    omega
  unfold SeqAt.shaped
  rw [Bool.and_eq_true]
  exact ⟨by simpa [PyData.canLay0] using a, decide_eq_true d⟩
theorem eqv_ints : ∀ cs : List Int, PyData.eqvAll (cs.map PyData.int) (cs.map PyData.int) = true
  | [] => by simp [PyData.eqvAll]
  | c :: cs => by
    have := eqv_ints cs
    simp [PyData.eqvAll, PyData.eqv] at this ⊢
    exact this
theorem eq_lists {h : IH} {a b : Nat} {cs : List Int} (e : h[a]? = some (.lst (cs.map PV.int))) (e2 : h[b]? = some (.lst (cs.map PV.int))) : cmpF .eq (.ref a) (.ref b) h = .ok (.bl true) h ∧ cmpF .ne (.ref a) (.ref b) h = .ok (.bl false) h := by
  have q : PyData.eqv (.list (cs.map PyData.int)) (.list (cs.map PyData.int)) = true := by simpa [PyData.eqv] using eqv_ints cs
  have s := shaped_ints cs
  constructor
  · show eqD false (.ref a) (.ref b) h = _
    simp only [eqD, data_ints e, data_ints e2, s, q]
    simp
  · show eqD true (.ref a) (.ref b) h = _
    simp only [eqD, data_ints e, data_ints e2, s, q]
    simp
end Vm

set_option Elab.async false
set_option linter.all false
set_option maxRecDepth 100000
set_option maxHeartbeats 4000000
/-! VmZ: the law's call, where nothing is being shown. -/
namespace Vm
open PySem PySem.Spec PyProof.Rows L2
variable [Tbs]
section
variable {P : Program} {w : World} {K : PySem.W.Frag} {mg mb : Str → Option Value} {s₁ : Shared} {vs : List Value} {ns : List Int} {a : Addr}
/-- the script's list as it stands -/
abbrev scrO (vs : List Value) : Obj := { cls := .type "list", data := .seq vs.toArray }
/-- the script alone, if the module hasn't it -/
def scrH (K : PySem.W.Frag) (a : Addr) (vs : List Value) (ns : List Int) : Hp := fun b => if b = a ∧ K.lookup a = none then some (.frz (scrO vs) (.lst (ns.map V.int))) else none
theorem scrH_cases (K : PySem.W.Frag) (a : Addr) (vs : List Value) (ns : List Int) (b : Addr) : (scrH K a vs ns b = none) ∨ (b = a ∧ K.lookup a = none ∧ scrH K a vs ns b = some (.frz (scrO vs) (.lst (ns.map V.int)))) := by
  unfold scrH
  by_cases h : b = a ∧ K.lookup a = none
  · exact .inr ⟨h.1, h.2, if_pos h⟩
  · exact .inl (if_neg h)
theorem scr_only : Only (scrH K a vs ns) := fun b => (scrH_cases K a vs ns b).imp id fun h => ⟨_, _, h.2.2⟩
theorem scr_sq (KX : K.In s₁.heap) (ha : s₁.heap.get? a = some (scrO vs)) (hi : IntsAre vs ns) (hl : ns.length ≤ sizeLine) : SqL K (scrH K a vs ns) a (ns.map V.int) := by
  cases q : K.lookup a with
  | none => exact .inl (.inr ⟨scrO vs, if_pos ⟨rfl, q⟩⟩)
  | some o =>
    have e := (KX a o q).symm.trans ha
    cases e
    exact .inr ⟨_, vs.toArray, _, q, rfl, rfl, rfl, by rw [List.size_toArray, hi.length]; exact hl, by simpa using vals_ints hi⟩
theorem scr_hok (ha : s₁.heap.get? a = some (scrO vs)) (hi : IntsAre vs ns) (hl : ns.length ≤ sizeLine) : HOk P w (scrH K a vs ns) s₁.heap := fun b u e => by
  rcases scrH_cases K a vs ns b with z | ⟨rfl, _, z⟩
  · rw [z] at e; cases e
  · rw [z] at e
    cases e
    exact ⟨ha, by rw [List.length_map]; exact hl, vs, _, vals_ints hi, ha⟩
/-- what is in the heap and isn't the script is ground -/
theorem scr_base {b : Addr} {o : Obj} (e : s₁.heap.get? b = some o) (n : b = a → K.lookup a = none → False) : (hidT s₁.heap (scrH K a vs ns)).get? b = some o :=
  hidT_get e ((scrH_cases K a vs ns b).elim id fun h => (n h.1 h.2.1).elim)
theorem scr_ns (ha : s₁.heap.get? a = some (scrO vs)) {b : Addr} {m : Str → Option Value} (h : s₁.heap.Ns b m) : (hidT s₁.heap (scrH K a vs ns)).Ns b m := by
  obtain ⟨o, es, ep, e, d, r⟩ := h
  refine ⟨o, es, ep, scr_base e fun z _ => ?_, d, r⟩
  subst z
  rw [ha] at e
  cases e
  cases d
theorem scr_env (KX : K.In s₁.heap) (hns : s₁.heap.Ns mainGlobals mg) (hb : s₁.heap.Ns builtinsNs mb) (hbb : ∀ x : Str, x ≠ "__name__" → mb x = bootBuiltins x) (hlim : s₁.heap.NoLimit) (hg : s₁.gens = #[]) (ha : s₁.heap.get? a = some (scrO vs)) (hi : IntsAre vs ns) (hl : ns.length ≤ sizeLine) :
    Env0 P w K mg (hidT s₁.heap (scrH K a vs ns)) callerA [] s₁ (scrH K a vs ns) where
  frames := rfl
  mod := {
    kin := fun b o e => scr_base (KX b o e) fun z n => by
      subst z
      rw [n] at e
      cases e
    glob := scr_ns ha hns
    blt := ⟨mb, scr_ns ha hb, hbb⟩
    nolimit := match hlim with
      | ⟨m, p, q⟩ => ⟨m, scr_ns ha p, q⟩ }
  bs := fun b o e => of_hidT e
  bsz := Nat.le_of_eq (hidT_size _ _)
  funs := trivial
  frf := fun b hb => by cases hb
  hok := scr_hok ha hi hl
  bare := .of_eq hg
theorem law_goG {k : Nat} {fa : Addr} {fd : FuncData} {x : Str} {sp : Sp}
    (KX : K.In s₁.heap) (hns : s₁.heap.Ns mainGlobals mg) (hb : s₁.heap.Ns builtinsNs mb) (hbb : ∀ x : Str, x ≠ "__name__" → mb x = bootBuiltins x) (hlim : s₁.heap.NoLimit) (hg : s₁.gens = #[])
    (ha : s₁.heap.get? a = some (scrO vs)) (hi : IntsAre vs ns) (hl : ns.length ≤ sizeLine) (hr : Room k callerA)
    (F : ∀ base : Heap, K.In base → base.Ns mainGlobals mg → FnG P w K mg base k fa fd 1 [x] sp) (hbind : ∀ (s : Shared) (u : Value), BindsTo s fd ⟨[u], []⟩ [(x, u)])
    (hsp : ∀ H : Hp, Only H → SqL K H a (ns.map V.int) → sp [.ref a] H (fun v _ => v = .bl true) fun _ _ _ => False) :
    codeAny (model P w) callerA (.call (.ref fa) ⟨[.ref a], []⟩) (fun r s' => r = .ok (.ret (.bool true)) ∧ OldK s₁.heap s'.heap ∧ s'.os = s₁.os ∧ AllBare s'.gens) s₁ := by
  have e0 := scr_env (P := P) (w := w) KX hns hb hbb hlim hg ha hi hl
  have hH := hsp (scrH K a vs ns) scr_only (scr_sq KX ha hi hl)
  refine codeAny_mono ((F _ e0.mod.kin (scr_ns ha hns)).go (us := [.ref a]) (vs := [.ref a]) rfl hr e0 (hbind s₁ (.ref a)) (.cons rfl .nil) hH) fun r s' h => ?_
  match r, h with
  | .ok (.ret u), ⟨v, H', os, bare, un, hok', r', q⟩ =>
    have q' : v = .bl true := q
    subst q'
    obtain rfl : u = Value.bool true := r'
    refine ⟨rfl, OldK.of_keep fun b o e => ?_, os, bare⟩
    rcases scrH_cases K a vs ns b with z | ⟨rfl, _, z⟩
    · exact un.keep b o e z (fun hm => by cases hm) (fun hm => by cases hm)
    · have e2 := (hok' b _ (un.frzs b _ _ z)).1
      rw [ha] at e
      cases e
      exact e2
end
theorem walkG {l : PySem.W.OpenLaw} {n k : Nat} {q : Program} {loose : List Str} {XP : (Str → Option Value) → Heap → Prop} {YP : World → Heap → Prop} {d : DefRec} {x : Str}
    (hn : l.most = some n) (hn2 : n ≤ sizeLine) (hdf : d.params.defaults = []) (hr : Room k callerA)
    (F : ∀ (w : World) (mg : Str → Option Value) (fa : Addr) (h : Heap), YP w h → h.Ns mainGlobals mg → mg d.name = some (.ref fa) →
      ∃ (K : PySem.W.Frag) (fd : FuncData) (sp : Sp), K.In h ∧ (∀ (s : Shared) (u : Value), BindsTo s fd ⟨[u], []⟩ [(x, u)]) ∧
        (∀ (H : Hp) (a : Addr) (ns : List Int), ns.length ≤ n → Only H → SqL K H a (ns.map V.int) → sp [.ref a] H (fun v _ => v = .bl true) fun _ _ _ => False) ∧
        ∀ base : Heap, K.In base → base.Ns mainGlobals mg → FnG l.prog w K mg base k fa fd 1 [x] sp) :
    PySem.W.WalkO q loose XP YP l.row.toRowW d [] (fun f vs => PySem.call f vs) := by
  refine Att.attach_call hn hdf fun w s₀ s₁ mg mb fa o pm cd doc a vs ns G Y ho hd hcd hmg hobj hints hlen hg => ?_
  obtain ⟨K, fd, sp, KX, hb, hsp, hF⟩ := F w mg fa _ Y G.T.g hmg
  exact law_goG KX G.T.g G.T.b G.T.builtins G.T.nolimit hg hobj hints (Nat.le_trans hlen hn2) hr hF hb fun H hO hS => hsp H a ns hlen hO hS
end Vm

set_option Elab.async false
set_option linter.all false
set_option maxRecDepth 100000
set_option maxHeartbeats 4000000
/-! VmX: a module's names that stand for numbers, texts, rows of texts. -/
namespace Vm
open PySem PySem.Spec PyProof.Rows L2
def strsB : List Value → List Str → Bool
  | [], [] => true
  | .str z _ :: us, s :: l => decide (z = s) && strsB us l
  | _, _ => false
theorem strsB_ok : ∀ {us : List Value} {l : List Str}, strsB us l = true → Vals (l.map V.str) us
  | [], [], _ => .nil
  | [], _ :: _, h => by cases h
  | u :: us, [], h => by cases u <;> cases h
  | u :: us, s :: l, h => by
    cases u <;> try (cases h; done)
    rename_i z t
    have q : (decide (z = s) && strsB us l) = true := h
    rw [Bool.and_eq_true, decide_eq_true_eq] at q
    obtain ⟨rfl, q⟩ := q
    exact .cons ⟨t, rfl⟩ (strsB_ok q)
/-- so it stands in K -/
def conK (K : PySem.W.Frag) (p : Str × Cst) : Bool := match p.2 with
  | .int i => (match PySem.W.nsIn K mainGlobals p.1 with
    | some (some (.int j _)) => decide (j = i)
    | _ => false)
  | .str s => (match PySem.W.nsIn K mainGlobals p.1 with
    | some (some (.str z _)) => decide (z = s)
    | _ => false)
  | .strs l => (match PySem.W.nsIn K mainGlobals p.1 with
    | some (some (.ref a)) => (match K.lookup a with
      | some ⟨.type c, _, .seq its _, _⟩ => decide (c = "tuple") && (decide (its.size ≤ 1000) && strsB its.toList l)
      | _ => false)
    | _ => false)
theorem conK_ok {K : PySem.W.Frag} {h : Heap} {mg : Str → Option Value} {x : Str} {k : Cst} (X : K.In h) (G : h.Ns mainGlobals mg) (c : conK K (x, k) = true) : ∃ u v, mg x = some u ∧ RelV v u ∧ ∀ m H, Rep K m H v k.pv := by
  unfold conK at c
  cases k
  · rename_i i
    dsimp only at c
    split at c
    · rename_i j t e
      rw [decide_eq_true_eq] at c
      subst c
      exact ⟨_, .int j, PySem.W.mg_of X G e, ⟨t, rfl⟩, fun _ _ => .int⟩
    · cases c
  · rename_i s
    dsimp only at c
    split at c
    · rename_i j t e
      rw [decide_eq_true_eq] at c
      subst c
      exact ⟨_, .str j, PySem.W.mg_of X G e, ⟨t, rfl⟩, fun _ _ => .str⟩
    · cases c
  · rename_i l
    dsimp only at c
    split at c
    · rename_i a e
      split at c
      · rename_i cn od its n sl e2
        rw [Bool.and_eq_true, Bool.and_eq_true, decide_eq_true_eq, decide_eq_true_eq] at c
        obtain ⟨rfl, hz, hs⟩ := c
        refine ⟨_, .ref a, PySem.W.mg_of X G e, rfl, fun m H => .tup (vs := l.map V.str) (.inr ⟨_, its, n, e2, rfl, rfl, ?_, strsB_ok hs⟩) (Reps.ofStrs l)⟩
        have : sizeLine = 2 ^ 24 := rfl
        omega
      · cases c
    · cases c
theorem conK_all {K : PySem.W.Frag} {h : Heap} {mg : Str → Option Value} {C : List (Str × Cst)} (X : K.In h) (G : h.Ns mainGlobals mg) (c : C.all (conK K) = true) : ConAll K mg C :=
  fun x k hx => conK_ok X G (List.all_eq_true.mp c (x, k) hx)
/-- the hook with a module's names -/
abbrev hookC (n : Nat) (ds : List DefT) (C : List (Str × Cst)) : PySem.W.Hook := He.hookX n (faOf ds) (ds.map ddOf) [] [] fun K => C.all (conK K)
def obC (n : Nat) (ds : List DefT) (C : List (Str × Cst)) (s : PySem.W.SharedT) : He.AlX := He.obsX n (faOf ds) (ds.map ddOf) [] [] (fun K => C.all (conK K)) (HandSHeadRun.getT s)
theorem obC_eq {n : Nat} {ds : List DefT} {C : List (Str × Cst)} (s : PySem.W.SharedT) : obC n ds C s = (hookC n ds C).obs s.abs := He.obsX_eq (HandSHeadRun.getT_eq s)
end Vm

set_option Elab.async false
set_option linter.all false
set_option maxRecDepth 100000
set_option maxHeartbeats 1000000
/-! VmO: what rows of ints are shown as. -/
namespace Vm
open PySem PySem.Spec PyProof.Rows L2
theorem ints_showable : ∀ ws : List Int, (∀ w ∈ ws, w.natAbs < 10 ^ 100) → PyData.showableAll (ws.map PyData.int) = true
  | [], _ => by simp [PyData.showableAll]
  | w :: ws, k => by
    have a := ints_showable ws fun x hx => k x (List.mem_cons_of_mem _ hx)
    have b : w.natAbs.log2 < 1920 := by
      have h := k w List.mem_cons_self
      by_cases z : w.natAbs = 0
      · rw [z]; decide
      · have h2 : w.natAbs < 2 ^ 400 := Nat.lt_of_lt_of_le h (by decide +kernel)
        have := (Nat.log2_lt z).mpr h2
        omega
    simp [PyData.showableAll, PyData.showable, a, b]
theorem ints_nodict : ∀ ws : List Int, PyData.hasDictAll (ws.map PyData.int) = false
  | [] => by simp [PyData.hasDictAll]
  | w :: ws => by simp [PyData.hasDictAll, PyData.hasDict, ints_nodict ws]
theorem ints_sum : ∀ ws : List Int, (∀ w ∈ ws, w.natAbs < 10 ^ 100) → ((PyData.shownAll (ws.map PyData.int)).map (·.length)).sum ≤ 101 * ws.length ∧ (PyData.shownAll (ws.map PyData.int)).length = ws.length
  | [], _ => by simp [PyData.shownAll]
  | w :: ws, k => by
    obtain ⟨a, b⟩ := ints_sum ws fun x hx => k x (List.mem_cons_of_mem _ hx)
    have c : (PyData.shown (.int w)).length ≤ 101 := by
      have := int_text_length_le10 (a := w) (k := 100) (by decide) (k w List.mem_cons_self)
      show (Str.ofString (toString w)).length ≤ 101
      rw [PySem.ofString_length]
      exact this
    simp only [List.map_cons, PyData.shownAll, List.sum_cons, List.length_cons]
    omega
theorem show_ints {ws : List Int} {h : IH} (l : ws.length ≤ 1000) (k : ∀ w ∈ ws, w.natAbs < 10 ^ 100) : Bf 9 [.tup (ws.map PV.int)] h = .ok (.str (PyData.shown (.tuple (ws.map PyData.int)))) h := by
  show showF (.tup (ws.map PV.int)) h = _
  have q : dataOf h 40 (.tup (ws.map PV.int)) = some (.tuple (ws.map PyData.int)) := by
    have q := seqO_ints (h := h) (n := 38) ws
    show (seqO ((ws.map PV.int).map (dataOf h 39))).map PyData.tuple = _
    rw [q]
    rfl
  have h1 : PyData.showable (.tuple (ws.map PyData.int)) = true := by simp [PyData.showable, ints_showable ws k]
  have h2 : PyData.hasDict (.tuple (ws.map PyData.int)) = false := by simp [PyData.hasDict, ints_nodict ws]
  have h3 : PyData.depth (.tuple (ws.map PyData.int)) ≤ 40 := by
    have := deep_ints ws
    simp only [PyData.depth]
    omega
  have h4 : (PyData.shown (.tuple (ws.map PyData.int))).length ≤ sizeLine := by
    obtain ⟨a, b⟩ := ints_sum ws k
    have c := tupleText_len_le (PyData.shownAll (ws.map PyData.int))
    simp only [PyData.shown]
    rw [sizeLine_eq]
    omega
  simp only [showF, q, h1, h2, h3, h4, and_self, if_true]
theorem c_eqt {x y : Str} {h : IH} : cmpF .eq (.str x) (.str y) h = .ok (.bl (decide (x = y))) h := rfl
theorem c_net {x y : Str} {h : IH} : cmpF .ne (.str x) (.str y) h = .ok (.bl (!decide (x = y))) h := rfl
end Vm

set_option Elab.async false
set_option linter.all false
set_option maxRecDepth 100000
set_option maxHeartbeats 1000000
/-! VnH: small data: what is shown of them, what is equal to the empty list. -/
namespace Vm
open PySem PySem.Spec PyProof.Rows L2
mutual
def dt : PV → PyData
  | .non => .none
  | .bl b => .bool b
  | .int i => .int i
  | .str s => .str s
  | .tup xs => .tuple (dts xs)
  | .fl xs => .list (dts xs)
  | .ref _ => .none
def dts : List PV → List PyData
  | [] => []
  | x :: xs => dt x :: dts xs
end
/-- n deep, L signs long at most -/
structure Sm (n L : Nat) (x : PV) : Prop where
  dat : ∀ (h : IH) (m : Nat), n < m → dataOf h m x = some (dt x)
  shw : (dt x).showable = true
  nod : (dt x).hasDict = false
  dep : (dt x).depth ≤ n
  len : (dt x).shown.length ≤ L
  lay : (dt x).canLay0 = true
theorem Sm.mono {n L n' L' : Nat} {x : PV} (s : Sm n L x) (h1 : n ≤ n') (h2 : L ≤ L') : Sm n' L' x :=
  ⟨fun h m hm => s.dat h m (by omega), s.shw, s.nod, Nat.le_trans s.dep h1, Nat.le_trans s.len h2, s.lay⟩
theorem dat1 {m : Nat} (h : 0 < m) : ∃ k, m = k + 1 := ⟨m - 1, by omega⟩
theorem Sm.non : Sm 0 4 .non := ⟨fun h m hm => by obtain ⟨k, rfl⟩ := dat1 hm; rfl, by simp [dt, PyData.showable], by simp [dt, PyData.hasDict], by simp [dt, PyData.depth], by unfold dt; decide +kernel, by simp [dt, PyData.canLay0]⟩
theorem Sm.int {i : Int} (h : i.natAbs < 10 ^ 100) : Sm 0 101 (.int i) := by
  have a := ints_showable [i] fun w hw => by have : w = i := by simpa using hw
                                             subst this; exact h
  have c : (PyData.shown (.int i)).length ≤ 101 := by
    have := int_text_length_le10 (a := i) (k := 100) (by decide) h
    show (Str.ofString (toString i)).length ≤ 101
    rw [PySem.ofString_length]
    exact this
  exact ⟨fun h m hm => by obtain ⟨k, rfl⟩ := dat1 hm; rfl, by simpa [dt, PyData.showableAll] using a, by simp [dt, PyData.hasDict], by simp [dt, PyData.depth], c, by simp [dt, PyData.canLay0]⟩
theorem Sm.str {z : Str} (h : ∀ c ∈ z.cps.toList, c < 1114112) : Sm 0 (10 * z.length + 2) (.str z) := by
  refine ⟨fun h m hm => by obtain ⟨k, rfl⟩ := dat1 hm; rfl, by simp [dt, PyData.showable], by simp [dt, PyData.hasDict], by simp [dt, PyData.depth], ?_, ?_⟩
  · show (reprText z).length ≤ _
    exact StrLaws.reprText_len z fun c hc => Nat.lt_trans (h c hc) (by decide)
  · have : PyData.strOk z = true := by
      unfold PyData.strOk
      rw [Array.all_eq_true']
      intro c hc
      exact decide_eq_true (h c (Array.mem_toList_iff.mpr hc))
    simpa [dt, PyData.canLay0] using this
theorem sms_all {n L : Nat} : ∀ xs : List PV, (∀ x ∈ xs, Sm n L x) → PyData.showableAll (dts xs) = true ∧ PyData.hasDictAll (dts xs) = false ∧ PyData.depthAll (dts xs) ≤ n ∧ ((PyData.shownAll (dts xs)).map (·.length)).sum ≤ xs.length * L ∧ (PyData.shownAll (dts xs)).length = xs.length ∧ PyData.canLayAll0 (dts xs) = true
  | [], _ => by simp [dts, PyData.showableAll, PyData.hasDictAll, PyData.depthAll, PyData.shownAll, PyData.canLayAll0]
  | x :: xs, h => by
    obtain ⟨a, b, c, d, e, f⟩ := sms_all xs fun y hy => h y (List.mem_cons_of_mem _ hy)
    have s := h x List.mem_cons_self
    have s3 := s.dep
    have s4 := s.len
    refine ⟨by simp [dts, PyData.showableAll, a, s.shw], by simp [dts, PyData.hasDictAll, b, s.nod], ?_, ?_, ?_, by simp [dts, PyData.canLayAll0, f, s.lay]⟩
    · simp only [dts, PyData.depthAll]
      omega
    · simp only [dts, PyData.shownAll, List.map_cons, List.sum_cons, List.length_cons]
      rw [Nat.add_mul]
      omega
    · simp only [dts, PyData.shownAll, List.length_cons, e]
theorem sms_seq {n L : Nat} {h : IH} {m : Nat} (hm : n < m) : ∀ xs : List PV, (∀ x ∈ xs, Sm n L x) → seqO (xs.map (dataOf h m)) = some (dts xs)
  | [], _ => rfl
  | x :: xs, k => by
    have e := (k x List.mem_cons_self).dat h m hm
    have r := sms_seq (h := h) hm xs fun y hy => k y (List.mem_cons_of_mem _ hy)
    rw [List.map_cons, e]
    show (seqO (xs.map (dataOf h m))).map (dt x :: ·) = _
    rw [r]
    rfl
theorem Sm.tup {n L c : Nat} {xs : List PV} (k : ∀ x ∈ xs, Sm n L x) (l : xs.length ≤ c) : Sm (n + 1) (c * (L + 2) + 3) (.tup xs) := by
  obtain ⟨a1, a2, a3, a4, a5, a6⟩ := sms_all xs k
  refine ⟨fun h m hm => ?_, by simpa [dt, PyData.showable] using a1, by simpa [dt, PyData.hasDict] using a2, by simp only [dt, PyData.depth]; omega, ?_, by simpa [dt, PyData.canLay0] using a6⟩
  · obtain ⟨j, rfl⟩ := dat1 (m := m) (by omega)
    show (seqO (xs.map (dataOf h j))).map PyData.tuple = _
    rw [sms_seq (by omega) xs k]
    rfl
  · have t := tupleText_len_le (PyData.shownAll (dts xs))
    simp only [dt, PyData.shown]
    have m1 : xs.length * L ≤ c * L := Nat.mul_le_mul_right L l
    rw [Nat.mul_add]
    omega
section
variable {h : IH} {n L c a d : Nat} {xs : List PV}
theorem dat_ref (e : h[a]? = some (.lst xs)) (k : ∀ x ∈ xs, Sm n L x) (hn : n < 39) : dataOf h 40 (.ref a) = some (.list (dts xs)) := by
  show (match h[a]? with
    | some (.lst xs) => (seqO (xs.map (dataOf h 39))).map PyData.list
    | _ => none) = _
  rw [e]
  show (seqO (xs.map (dataOf h 39))).map PyData.list = _
  rw [sms_seq hn xs k]
  rfl
def shL (xs : List PV) : Str := (PyData.list (dts xs)).shown
theorem show_ref (e : h[a]? = some (.lst xs)) (k : ∀ x ∈ xs, Sm n L x) (hn : n < 39) (l : xs.length ≤ c) (hL : c * (L + 2) + 3 ≤ 10000000) : Bf 9 [.ref a] h = .ok (.str (shL xs)) h := by
  obtain ⟨a1, a2, a3, a4, a5, a6⟩ := sms_all xs k
  show showF (.ref a) h = _
  have q := dat_ref e k hn
  have h1 : PyData.showable (.list (dts xs)) = true := by simpa [PyData.showable] using a1
  have h2 : PyData.hasDict (.list (dts xs)) = false := by simpa [PyData.hasDict] using a2
  have h3 : PyData.depth (.list (dts xs)) ≤ 40 := by simp only [PyData.depth]; omega
  have h4 : (PyData.shown (.list (dts xs))).length ≤ sizeLine := by
    have t := listText_len_le (PyData.shownAll (dts xs))
    have m1 : xs.length * L ≤ c * L := Nat.mul_le_mul_right L l
    rw [Nat.mul_add] at hL
    simp only [PyData.shown]
    rw [sizeLine_eq]
    omega
  simp only [showF, q, h1, h2, h3, h4, and_self, if_true]
  rfl
theorem shaped_list (k : ∀ x ∈ xs, Sm n L x) (hn : n < 39) : SeqAt.shaped (.list (dts xs)) = true ∧ SeqAt.shaped (.tuple (dts xs)) = true := by
  obtain ⟨a1, a2, a3, a4, a5, a6⟩ := sms_all xs k
  constructor
  · unfold SeqAt.shaped
    rw [Bool.and_eq_true]
    exact ⟨by simpa [PyData.canLay0] using a6, decide_eq_true (by simp only [PyData.depth]; omega)⟩
  · unfold SeqAt.shaped
    rw [Bool.and_eq_true]
    exact ⟨by simpa [PyData.canLay0] using a6, decide_eq_true (by simp only [PyData.depth]; omega)⟩
theorem no_sms : ∀ x ∈ ([] : List PV), Sm 0 0 x := fun x h => nomatch h
theorem eqv_nil : PyData.eqv (.list (dts xs)) (.list []) = decide (xs = []) ∧ PyData.eqv (.tuple (dts xs)) (.tuple []) = decide (xs = []) := by
  cases xs with
  | nil => simp [dts, PyData.eqv, PyData.eqvAll]
  | cons z zs => simp [dts, PyData.eqv, PyData.eqvAll]
theorem eq_refnil (e : h[a]? = some (.lst xs)) (k : ∀ x ∈ xs, Sm n L x) (hn : n < 39) (e2 : h[d]? = some (.lst [])) : cmpF .eq (.ref a) (.ref d) h = .ok (.bl (decide (xs = []))) h ∧ cmpF .ne (.ref a) (.ref d) h = .ok (.bl (!decide (xs = []))) h := by
  have q1 := dat_ref e k hn
  have q2 := dat_ref e2 no_sms (by decide)
  have s1 := (shaped_list k hn).1
  have s2 := (shaped_list no_sms (by decide)).1
  have e3 : PyData.eqv (.list (dts xs)) (.list (dts [])) = decide (xs = []) := eqv_nil.1
  constructor
  · show eqD false _ _ h = _
    simp only [eqD, q1, q2, s1, s2, e3, and_self, if_true]
    rfl
  · show eqD true _ _ h = _
    simp only [eqD, q1, q2, s1, s2, e3, and_self, if_true]
theorem eq_tupnil (k : ∀ x ∈ xs, Sm n L x) (hn : n < 39) : cmpF .eq (.tup xs) (.tup []) h = .ok (.bl (decide (xs = []))) h ∧ cmpF .ne (.tup xs) (.tup []) h = .ok (.bl (!decide (xs = []))) h := by
  have q1 := (Sm.tup k (Nat.le_refl _)).dat h 40 (by omega)
  have q2 := (Sm.tup no_sms (Nat.le_refl _)).dat h 40 (by omega)
  have s1 := (shaped_list k hn).2
  have s2 := (shaped_list no_sms (by decide)).2
  have e3 : PyData.eqv (.tuple (dts xs)) (.tuple (dts [])) = decide (xs = []) := eqv_nil.2
  unfold dt at q1 q2
  constructor
  · show eqD false _ _ h = _
    simp only [eqD, q1, q2, s1, s2, e3, and_self, if_true]
    rfl
  · show eqD true _ _ h = _
    simp only [eqD, q1, q2, s1, s2, e3, and_self, if_true]
end
end Vm

set_option Elab.async false
set_option linter.all false
set_option maxRecDepth 100000
set_option maxHeartbeats 1000000
/-! VnI: while. -/
namespace Vm
open PySem PySem.Spec PyProof.Rows L2
theorem whl_inv {c : Ev → IH → Res PV} {f : Ev → IH → Res Fl} (J : Nat → Ev → IH → Prop) {Q : Fl → IH → Prop} (st : ∀ m ev h, J m ev h → (c ev h).Ok fun x h1 => (x = .bl false ∧ Q (.nx ev) h1) ∨ (x = .bl true ∧ (f ev h1).Ok fun o h2 => match o with
    | .nx ev' => ∃ m', m' < m ∧ J m' ev' h2
    | .rt y => Q (.rt y) h2)) : ∀ n m ev h, m < n → J m ev h → (whlLoop c f n ev h).Ok Q
  | 0, m, ev, h, l, _ => by omega
  | n + 1, m, ev, h, l, j => by
    unfold whlLoop
    refine Res.ok_bind ((st m ev h j).mono fun x h1 q => ?_)
    rcases q with ⟨rfl, q⟩ | ⟨rfl, q⟩
    · exact q
    · refine Res.ok_bind (q.mono fun o h2 q => ?_)
      cases o with
      | nx ev' =>
        obtain ⟨m', l', j'⟩ := q
        exact whl_inv J st n m' ev' h2 (by omega) j'
      | rt y => exact q
theorem nodup_sub {α : Type} [DecidableEq α] : ∀ {l m : List α}, l.Nodup → (∀ x ∈ l, x ∈ m) → l.length ≤ m.length
  | [], m, _, _ => by simp
  | x :: l, m, nd, h => by
    obtain ⟨n1, n2⟩ := List.nodup_cons.mp nd
    have mx := h x List.mem_cons_self
    have ih := nodup_sub (l := l) (m := m.erase x) n2 fun y hy => by
      have ne : y ≠ x := fun e => n1 (e ▸ hy)
      exact (List.mem_erase_of_ne ne).mpr (h y (List.mem_cons_of_mem _ hy))
    have := List.length_erase_of_mem mx
    have := List.length_pos_of_mem mx
    simp only [List.length_cons]
    omega
end Vm

set_option Elab.async false
set_option linter.all false
set_option maxRecDepth 100000
set_option maxHeartbeats 4000000
/-! VnF: the head with tables of code objects. -/
namespace Vm
open PySem PySem.Spec PyProof.Rows L2
/-- the defs with generator expressions -/
def tfOf (ds : List DefT) : List He.Defn := (ds.filter (·.gn)).map fun d => (d.name, none)
abbrev hookG (n : Nat) (ds : List DefT) (C : List (Str × Cst)) : PySem.W.Hook := He.hookX n (faOf ds) (ds.map ddOf) [] (tfOf ds) fun K => C.all (conK K)
def obG (n : Nat) (ds : List DefT) (C : List (Str × Cst)) (s : PySem.W.SharedT) : He.AlX := He.obsX n (faOf ds) (ds.map ddOf) [] (tfOf ds) (fun K => C.all (conK K)) (HandSHeadRun.getT s)
theorem obG_eq {n : Nat} {ds : List DefT} {C : List (Str × Cst)} (s : PySem.W.SharedT) : obG n ds C s = (hookG n ds C).obs s.abs := He.obsX_eq (HandSHeadRun.getT_eq s)
/-- the tables -/
def csOf (K : PySem.W.Frag) (ds : List DefT) : List (Addr × Addr) := (tfOf ds).map (He.cT K)
abbrev tbsOf (K : PySem.W.Frag) (ds : List DefT) : Tbs := ⟨(csOf K ds).map (·.2)⟩
theorem code_of {ds : List DefT} {K : PySem.W.Frag} {h : Heap} {mg : Str → Option Value} {f : Nat → Addr} {fd : Nat → FuncData} (X : K.In h) (G : h.Ns mainGlobals mg) (c : He.SaysD (faOf ds) (ds.map ddOf) K) (S : Stand K mg ds Bn f fd) {i : Nat} {d : DefT} (hd : ds[i]? = some d) :
    (fd i).code = .ref (He.codeOf K (d.name, none)) := by
  have e1 := S.gl i d hd
  have e2 := He.glo_ok X G (facts_in c (List.mem_append_left _ (List.mem_map.mpr ⟨d, List.mem_of_getElem? hd, rfl⟩)))
  have ef : f i = He.ga K d.name := by
    have z := e1.symm.trans e2
    injection z with z
    injection z with z
  obtain ⟨oc, od, dV, kV, doc, pm, an, cd, ct, osl, e3, lk, hcd, _, _⟩ := (S.at' i d hd).ex
  obtain ⟨cc, rfl⟩ := He.codeIn_ref hcd
  rw [ef] at lk
  have ec : (fd i).code = .ref cc := by rw [e3] <;> rfl
  rw [He.codeOf_eq (p := (d.name, none)) lk ec, ec]
theorem tabs_ok {ds : List DefT} {K : PySem.W.Frag} {h base : Heap} {mg : Str → Option Value} {f : Nat → Addr} {fd : Nat → FuncData} (X : K.In h) (G : h.Ns mainGlobals mg) (c : He.SaysD (faOf ds) (ds.map ddOf) K) (S : Stand K mg ds Bn f fd) (tb : ∀ p ∈ csOf K ds, GxR.TabB base mg p.1 p.2) :
    @TabsOk (tbsOf K ds) mg base ds fd := fun i d hd hg => by
  have hm : He.cT K (d.name, none) ∈ csOf K ds := List.mem_map.mpr ⟨(d.name, none), List.mem_map.mpr ⟨d, List.mem_filter.mpr ⟨List.mem_of_getElem? hd, hg⟩, rfl⟩, rfl⟩
  have t := tb _ hm
  exact ⟨_, _, code_of X G c S hd, t, List.mem_map.mpr ⟨_, hm, rfl⟩⟩
def NoLst (H : Hp) : Prop := ∀ b vs, H b ≠ some (.lst vs)
/-- the law's end, by the evaluator's -/
theorem end_ofG [T : Tbs] {K : PySem.W.Frag} {F : List PV → IH → Res PV} {ns : List Int} {H : Hp} {a : Addr} {E : XK} (hO : NoLst H) (hT : ∀ P ∈ T.at', H P = some (.tbl #[])) (hS : SqL K H a (ns.map V.int)) (he : ∃ h', F [.fl (ns.map PV.int)] [] = .ok (.bl true) h') :
    spOf K 1 F [.ref a] H (fun v _ => v = .bl true) E := by
  obtain ⟨h', e⟩ := he
  have sf : SqF K H a (ns.map V.int) := by
    rcases hS with (hl | ⟨o, hl⟩) | hl
    · exact absurd hl (hO a _)
    · exact .inl ⟨o, hl⟩
    · exact .inr hl
  refine ⟨rfl, [], [], [.fl (ns.map PV.int)], ⟨rfl, List.nodup_nil, fun P hP => ⟨#[], hT P hP, True.intro⟩, fun i o p z => by simp at z⟩, .cons (.fl sf (Reps.ofInts ns)) .nil, ?_⟩
  rw [e]
  intro m' H' _ _ v r
  cases r
  rfl
section
variable {P : Program} {w : World} {K : PySem.W.Frag} {mg mb : Str → Option Value} {s₁ : Shared} {vs : List Value} {ns : List Int} {a : Addr} {ts : List Addr}
/-- a table without an entry -/
abbrev voidO : Obj := { cls := .none, data := .fields #[] }
/-- the script, and the tables -/
def scrT (K : PySem.W.Frag) (a : Addr) (vs : List Value) (ns : List Int) (ts : List Addr) : Hp := fun b => if b = a ∧ K.lookup a = none then some (.frz (scrO vs) (.lst (ns.map V.int))) else if b ∈ ts then some (.tbl #[]) else none
theorem scrT_cases (K : PySem.W.Frag) (a : Addr) (vs : List Value) (ns : List Int) (ts : List Addr) (b : Addr) :
    (b ∉ ts ∧ (b = a → K.lookup a ≠ none) ∧ scrT K a vs ns ts b = none) ∨ (b = a ∧ K.lookup a = none ∧ scrT K a vs ns ts b = some (.frz (scrO vs) (.lst (ns.map V.int)))) ∨ (b ∈ ts ∧ (b = a → K.lookup a ≠ none) ∧ scrT K a vs ns ts b = some (.tbl #[])) := by
  unfold scrT
  by_cases h : b = a ∧ K.lookup a = none
  · exact .inr (.inl ⟨h.1, h.2, if_pos h⟩)
  · have h' : b = a → K.lookup a ≠ none := fun z n => h ⟨z, n⟩
    by_cases q : b ∈ ts
    · exact .inr (.inr ⟨q, h', by rw [if_neg h, if_pos q]⟩)
    · exact .inl ⟨q, h', by rw [if_neg h, if_neg q]⟩
theorem scrT_nolst : NoLst (scrT K a vs ns ts) := fun b us z => by
  rcases scrT_cases K a vs ns ts b with ⟨_, _, e⟩ | ⟨_, _, e⟩ | ⟨_, _, e⟩ <;> (rw [e] at z; cases z)
theorem not_tab (hT : ∀ p ∈ ts, s₁.heap.get? p = some voidO) {b : Addr} {o : Obj} (e : s₁.heap.get? b = some o) (h : o ≠ voidO) : b ∉ ts := fun z => by
  have q := hT b z
  rw [e] at q
  exact h (Option.some.inj q)
theorem scrT_tab (hT : ∀ p ∈ ts, s₁.heap.get? p = some voidO) (ha : s₁.heap.get? a = some (scrO vs)) {p : Addr} (hp : p ∈ ts) : scrT K a vs ns ts p = some (.tbl #[]) := by
  have na : p ≠ a := fun z => not_tab hT ha (fun q => by cases q) (by rw [← z]; exact hp)
  unfold scrT
  rw [if_neg fun z => na z.1, if_pos hp]
theorem scrT_sq (hT : ∀ p ∈ ts, s₁.heap.get? p = some voidO) (KX : K.In s₁.heap) (ha : s₁.heap.get? a = some (scrO vs)) (hi : IntsAre vs ns) (hl : ns.length ≤ sizeLine) : SqL K (scrT K a vs ns ts) a (ns.map V.int) := by
  cases q : K.lookup a with
  | none => exact .inl (.inr ⟨scrO vs, if_pos ⟨rfl, q⟩⟩)
  | some o =>
    obtain rfl : o = scrO vs := Option.some.inj ((KX a o q).symm.trans ha)
    exact .inr ⟨_, vs.toArray, _, q, rfl, rfl, rfl, by rw [List.size_toArray, hi.length]; exact hl, by simpa using vals_ints hi⟩
theorem scrT_hok (hT : ∀ p ∈ ts, s₁.heap.get? p = some voidO) (ha : s₁.heap.get? a = some (scrO vs)) (hi : IntsAre vs ns) (hl : ns.length ≤ sizeLine) : HOk P w (scrT K a vs ns ts) s₁.heap := fun b u e => by
  rcases scrT_cases K a vs ns ts b with ⟨_, _, z⟩ | ⟨rfl, _, z⟩ | ⟨q, _, z⟩
  · rw [z] at e; cases e
  · rw [z] at e
    cases e
    exact ⟨ha, by rw [List.length_map]; exact hl, vs, _, vals_ints hi, ha⟩
  · rw [z] at e
    cases e
    exact hT b q
theorem scrT_base {b : Addr} {o : Obj} (e : s₁.heap.get? b = some o) (n : b = a → K.lookup a ≠ none) (t : b ∉ ts) : (hidT s₁.heap (scrT K a vs ns ts)).get? b = some o :=
  hidT_get e (by
    rcases scrT_cases K a vs ns ts b with z | z | z
    · exact z.2.2
    · exact (n z.1 z.2.1).elim
    · exact (t z.1).elim)
/-- what is neither a list nor a table is ground -/
theorem scrT_other (hT : ∀ p ∈ ts, s₁.heap.get? p = some voidO) (ha : s₁.heap.get? a = some (scrO vs)) {b : Addr} {o : Obj} (e : s₁.heap.get? b = some o) (h1 : o ≠ voidO) (h2 : o ≠ scrO vs) : (hidT s₁.heap (scrT K a vs ns ts)).get? b = some o :=
  scrT_base e (fun z _ => by rw [z, ha] at e; exact h2 (Option.some.inj e).symm) (not_tab hT e h1)
theorem scrT_ns (hT : ∀ p ∈ ts, s₁.heap.get? p = some voidO) (ha : s₁.heap.get? a = some (scrO vs)) {b : Addr} {m : Str → Option Value} (h : s₁.heap.Ns b m) : (hidT s₁.heap (scrT K a vs ns ts)).Ns b m := by
  obtain ⟨o, es, ep, e, d, r⟩ := h
  exact ⟨o, es, ep, scrT_other hT ha e (fun z => by rw [z] at d; cases d) (fun z => by rw [z] at d; cases d), d, r⟩
theorem scrT_env (hT : ∀ p ∈ ts, s₁.heap.get? p = some voidO) (nT : ∀ p ∈ ts, K.lookup p = none) (KX : K.In s₁.heap) (hns : s₁.heap.Ns mainGlobals mg) (hb : s₁.heap.Ns builtinsNs mb) (hbb : ∀ x : Str, x ≠ "__name__" → mb x = bootBuiltins x) (hlim : s₁.heap.NoLimit) (hg : s₁.gens = #[])
    (ha : s₁.heap.get? a = some (scrO vs)) (hi : IntsAre vs ns) (hl : ns.length ≤ sizeLine) : Env0 P w K mg (hidT s₁.heap (scrT K a vs ns ts)) callerA [] s₁ (scrT K a vs ns ts) where
  frames := rfl
  mod := {
    kin := fun b o e => scrT_base (KX b o e) (fun z n => by rw [z, n] at e; cases e) fun z => by rw [nT b z] at e; cases e
    glob := scrT_ns hT ha hns
    blt := ⟨mb, scrT_ns hT ha hb, hbb⟩
    nolimit := match hlim with
      | ⟨m, p, q⟩ => ⟨m, scrT_ns hT ha p, q⟩ }
  bs := fun b o e => of_hidT e
  bsz := Nat.le_of_eq (hidT_size _ _)
  funs := trivial
  frf := fun b hb => by cases hb
  hok := scrT_hok hT ha hi hl
  bare := .of_eq hg
theorem law_goGT {k : Nat} {fa : Addr} {fd : FuncData} {x : Str} {sp : Sp} {cs : List (Addr × Addr)}
    (KX : K.In s₁.heap) (hns : s₁.heap.Ns mainGlobals mg) (hb : s₁.heap.Ns builtinsNs mb) (hbb : ∀ x : Str, x ≠ "__name__" → mb x = bootBuiltins x) (hlim : s₁.heap.NoLimit) (hg : s₁.gens = #[])
    (hT : ∀ p ∈ cs, s₁.heap.get? p.2 = some voidO) (nT : ∀ p ∈ cs, K.lookup p.2 = none) (hd : ∀ p ∈ cs, PySem.W.codeHdIn K p.1 p.2 = true)
    (hbm : ∃ (bm : Addr) (ob : Obj), mg "__builtins__" = some (.ref bm) ∧ bm ≠ builtinsNs ∧ s₁.heap.get? bm = some ob ∧ ob.cls = .type "module" ∧ ob.dict = some builtinsNs ∧ ob.data = .plain)
    (ha : s₁.heap.get? a = some (scrO vs)) (hi : IntsAre vs ns) (hl : ns.length ≤ sizeLine) (hr : Room k callerA)
    (F : ∀ base : Heap, K.In base → base.Ns mainGlobals mg → (∀ p ∈ cs, GxR.TabB base mg p.1 p.2) → FnG P w K mg base k fa fd 1 [x] sp) (hbind : ∀ (s : Shared) (u : Value), BindsTo s fd ⟨[u], []⟩ [(x, u)])
    (hsp : ∀ H : Hp, (∀ p ∈ cs, H p.2 = some (.tbl #[])) → NoLst H → SqL K H a (ns.map V.int) → sp [.ref a] H (fun v _ => v = .bl true) fun _ _ _ => False) :
    codeAny (model P w) callerA (.call (.ref fa) ⟨[.ref a], []⟩) (fun r s' => r = .ok (.ret (.bool true)) ∧ OldK s₁.heap s'.heap ∧ s'.os = s₁.os ∧ AllBare s'.gens) s₁ := by
  have hT' : ∀ p ∈ cs.map (·.2), s₁.heap.get? p = some voidO := fun p hp => by
    obtain ⟨q, hq, rfl⟩ := List.mem_map.mp hp
    exact hT q hq
  have nT' : ∀ p ∈ cs.map (·.2), K.lookup p = none := fun p hp => by
    obtain ⟨q, hq, rfl⟩ := List.mem_map.mp hp
    exact nT q hq
  have m2 : ∀ p ∈ cs, p.2 ∈ cs.map (·.2) := fun p hp => List.mem_map.mpr ⟨p, hp, rfl⟩
  have e0 := scrT_env (P := P) (w := w) hT' nT' KX hns hb hbb hlim hg ha hi hl
  have hH := hsp (scrT K a vs ns (cs.map (·.2))) (fun p hp => scrT_tab hT' ha (m2 p hp)) scrT_nolst (scrT_sq hT' KX ha hi hl)
  have TB : ∀ p ∈ cs, GxR.TabB (hidT s₁.heap (scrT K a vs ns (cs.map (·.2)))) mg p.1 p.2 := fun p hp => by
    obtain ⟨bm, ob, b1, b2, b3, b4, b5, b6⟩ := hbm
    obtain ⟨om, em, ep, c1, c2, _⟩ := hns
    refine ⟨PySem.W.codeHd_of_K e0.mod.kin (hd p hp), ⟨bm, ob, b1, b2, fun z => ?_, fun z => ?_, scrT_other hT' ha b3 (fun z => ?_) (fun z => ?_), b4, b5, b6⟩, fun z => ?_⟩
    · rw [z, c1] at b3
      cases b3
      rw [c2] at b6
      cases b6
    · rw [z, hT p hp] at b3
      cases b3
      cases b6
    · rw [z] at b6
      cases b6
    · rw [z] at b6
      cases b6
    · rw [z, hT p hp] at c1
      cases c1
      cases c2
  refine codeAny_mono ((F _ e0.mod.kin (scrT_ns hT' ha hns) TB).go (us := [.ref a]) (vs := [.ref a]) rfl hr e0 (hbind s₁ (.ref a)) (.cons rfl .nil) hH) fun r s' h => ?_
  match r, h with
  | .ok (.ret u), ⟨v, H', os, bare, un, hok', r', q⟩ =>
    have q' : v = .bl true := q
    subst q'
    obtain rfl : u = Value.bool true := r'
    have kept : ∀ b o, b ∉ cs.map (·.2) → s₁.heap.get? b = some o → s'.heap.get? b = some o := fun b o nb e => by
      rcases scrT_cases K a vs ns (cs.map (·.2)) b with ⟨_, _, z⟩ | ⟨rfl, _, z⟩ | ⟨z, _⟩
      · exact un.keep b o e z (fun hm => by cases hm) (fun hm => by cases hm)
      · have e2 := (hok' b _ (un.frzs b _ _ z)).1
        rw [ha] at e
        cases e
        exact e2
      · exact (nb z).elim
    have grown : ∀ p ∈ cs, ∃ more : Array Value, s'.heap.get? p.2 = some { cls := .none, data := .fields more } := fun p hp => by
      obtain ⟨more, z⟩ := un.tbls p.2 #[] (scrT_tab hT' ha (m2 p hp))
      exact ⟨_, hok' p.2 _ z⟩
    refine ⟨rfl, ⟨fun b o e => ?_, fun b o e => ?_⟩, os, bare⟩
    · by_cases z : b ∈ cs.map (·.2)
      · obtain ⟨p, hp, rfl⟩ := List.mem_map.mp z
        obtain ⟨more, hm⟩ := grown p hp
        obtain rfl : voidO = o := Option.some.inj ((hT p hp).symm.trans e)
        exact .inr (.inl ⟨((PySem.W.codeHd_of_K KX (hd p hp)).tab (hT p hp)).isCodeTable, rfl, #[], more, rfl, by rw [Array.empty_append]; exact hm⟩)
      · exact .inl (kept b o z e)
    · by_cases z : b ∈ cs.map (·.2)
      · obtain ⟨p, hp, rfl⟩ := List.mem_map.mp z
        obtain ⟨more, hm⟩ := grown p hp
        exact ⟨_, hm⟩
      · exact ⟨o, kept b o z e⟩
end
theorem walkGT {l : PySem.W.OpenLaw} {n k : Nat} {q : Program} {loose : List Str} {XP : (Str → Option Value) → Heap → Prop} {YP : World → Heap → Prop} {d : DefRec} {x : Str}
    (hn : l.most = some n) (hn2 : n ≤ sizeLine) (hdf : d.params.defaults = []) (hr : Room k callerA)
    (F : ∀ (w : World) (mg : Str → Option Value) (fa : Addr) (h : Heap), YP w h → h.Ns mainGlobals mg → mg d.name = some (.ref fa) →
      ∃ (K : PySem.W.Frag) (fd : FuncData) (cs : List (Addr × Addr)) (sp : Sp), K.In h ∧ (∀ p ∈ cs, h.get? p.2 = some voidO) ∧ (∀ p ∈ cs, K.lookup p.2 = none) ∧ (∀ p ∈ cs, PySem.W.codeHdIn K p.1 p.2 = true) ∧ (∀ (s : Shared) (u : Value), BindsTo s fd ⟨[u], []⟩ [(x, u)]) ∧
        (∀ (H : Hp) (a : Addr) (ns : List Int), ns.length ≤ n → (∀ p ∈ cs, H p.2 = some (.tbl #[])) → NoLst H → SqL K H a (ns.map V.int) → sp [.ref a] H (fun v _ => v = .bl true) fun _ _ _ => False) ∧
        ∀ base : Heap, K.In base → base.Ns mainGlobals mg → (∀ p ∈ cs, GxR.TabB base mg p.1 p.2) → FnG l.prog w K mg base k fa fd 1 [x] sp) :
    PySem.W.WalkO q loose XP YP l.row.toRowW d [] (fun f vs => PySem.call f vs) := by
  refine Att.attach_call hn hdf fun w s₀ s₁ mg mb fa o pm cd doc a vs ns G Y ho hd hcd hmg hobj hints hlen hg => ?_
  obtain ⟨K, fd, cs, sp, KX, hT, nT, hh, hb, hsp, hF⟩ := F w mg fa _ Y G.T.g hmg
  exact law_goGT KX G.T.g G.T.b G.T.builtins G.T.nolimit hg hT nT hh G.T.bmain hobj hints (Nat.le_trans hlen hn2) hr hF hb fun H hH hO hS => hsp H a ns hlen hH hO hS
/-- the law, by the evaluator's -/
theorem law_byG {ds : List DefT} {C : List (Str × Cst)} {l : PySem.W.OpenLaw} {N : Nat} {w : World} {mg : Str → Option Value} {fa : Addr} {h : Heap} {x : Str} {d0 : DefT} (Y : ∃ K : PySem.W.Frag, K.In h ∧ He.SaysX (faOf ds) (ds.map ddOf) [] (tfOf ds) (fun K => C.all (conK K)) w h K) (G : h.Ns mainGlobals mg) (hmg : mg d0.name = some (.ref fa))
    (e0 : ds[0]? = some d0) (hp : d0.ps = [x]) (hbd : ∀ (K : PySem.W.Frag) (f : Addr) (fd : FuncData), FunD K d0.name d0.name (defArgs d0.st) (defBody d0.st) (defScope d0.st) [] [] f fd → ∀ (s : Shared) (u : Value), BindsTo s fd ⟨[u], []⟩ [(x, u)]) (bds : ∀ K, BindsD K ds) (chk : ds.all (chkDc C (tab ds) Bn) = true) (main : ∀ ns : List Int, ns.length ≤ 63 → ∃ h', sem Bf ds N 0 [.fl (ns.map PV.int)] [] = .ok (.bl true) h') :
      ∃ (K : PySem.W.Frag) (fd : FuncData) (cs : List (Addr × Addr)) (sp : Sp), K.In h ∧ (∀ p ∈ cs, h.get? p.2 = some voidO) ∧ (∀ p ∈ cs, K.lookup p.2 = none) ∧ (∀ p ∈ cs, PySem.W.codeHdIn K p.1 p.2 = true) ∧ (∀ (s : Shared) (u : Value), BindsTo s fd ⟨[u], []⟩ [(x, u)]) ∧
        (∀ (H : Hp) (a : Addr) (ns : List Int), ns.length ≤ 63 → (∀ p ∈ cs, H p.2 = some (.tbl #[])) → NoLst H → SqL K H a (ns.map V.int) → sp [.ref a] H (fun v _ => v = .bl true) fun _ _ _ => False) ∧
        ∀ base : Heap, K.In base → base.Ns mainGlobals mg → (∀ p ∈ cs, GxR.TabB base mg p.1 p.2) → FnG l.prog w K mg base (2 * N) fa fd 1 [x] sp := by
  obtain ⟨K, KX, cx⟩ := Y
  have c := cx.t.d
  obtain ⟨f, fd, S⟩ := stand_of KX G c (bds K)
  have ef := hmg.symm.trans (S.gl 0 d0 e0)
  injection ef with ef
  injection ef with ef
  letI : Tbs := tbsOf K ds
  have hcs : ∀ p ∈ csOf K ds, ∃ q ∈ tfOf ds, p = He.cT K q := fun p hp => by
    obtain ⟨q, hq, e⟩ := List.mem_map.mp hp
    exact ⟨q, hq, e.symm⟩
  refine ⟨K, fd 0, csOf K ds, spOf K 1 (sem Bf ds N 0), KX, fun p hp => ?_, fun p hp => ?_, fun p hp => ?_, fun s u => ?_, fun H a ns hl hH hO hS => end_ofG hO (fun P hP => ?_) hS (main ns hl), fun base kb nb tb => ?_⟩
  · obtain ⟨q, hq, rfl⟩ := hcs p hp
    exact cx.empty q hq
  · obtain ⟨q, hq, rfl⟩ := hcs p hp
    exact cx.out q hq
  · obtain ⟨q, hq, rfl⟩ := hcs p hp
    exact cx.hd q hq
  · exact hbd K (f 0) (fd 0) (S.at' 0 d0 e0) s u
  · obtain ⟨p, hp, rfl⟩ := List.mem_map.mp hP
    exact hH p hp
  · have q := sem_okC (P := l.prog) (w := w) (base := base) (conK_all KX G cx.more) S (tabs_ok KX G c S tb) hBi chk N 0 d0 e0
    rw [hp] at q
    rw [ef]
    exact q
end Vm

set_option Elab.async false
set_option linter.all false
set_option maxRecDepth 100000
/-! M06: literals and their contraries. -/
namespace L06
open PySem Vm
def IsW (t : Str) : Prop := 1 ≤ t.length ∧ t.length ≤ 8 ∧ ∀ c ∈ t.cps.toList, 97 ≤ c ∧ c ≤ 122
inductive Lit where
  | tw (b : Bool) (us : List Str) | kn (b : Bool) (v : Int) | ag (f : Int) (e : Option Int)
def twS (b : Bool) : Str := if b then "town" else "out"
def knS (b : Bool) : Str := if b then "kin" else "far"
def optP : Option Int → PV
  | none => .non
  | some x => .int x
def Lit.pv : Lit → PV
  | .tw b us => .tup [.str (twS b), .tup (us.map PV.str)]
  | .kn b v => .tup [.str (knS b), .int v]
  | .ag f e => .tup [.str "age", .int f, optP e]
def Lit.Ok : Lit → Prop
  | .tw _ us => us ≠ [] ∧ us.length ≤ 6 ∧ us.Pairwise TLt ∧ ∀ u ∈ us, IsW u
  | .kn _ v => 0 ≤ v
  | .ag f e => 0 ≤ f ∧ ∀ x, e = some x → f < x
structure Who where
  t : Str
  g : Int
  b : Option Int
def Who.pv (w : Who) : PV := .tup [.str w.t, .int w.g, optP w.b]
def holds : Lit → Who → Bool
  | .tw b us, w => decide (((us.filter fun u => decide (u = w.t)).length : Int) = 1) == b
  | .kn b v, w => match w.b with
    | none => !b
    | some x => if v < x then !b else b
  | .ag f e, w => !decide (w.g < f) && (match e with
    | none => true
    | some x => !decide (x ≤ w.g))
def ctr : Lit → List Lit
  | .tw b us => [.tw (!b) us]
  | .kn b v => [.kn (!b) v]
  | .ag f e => (if f = 0 then [] else [.ag 0 (some f)]) ++ (match e with
    | none => []
    | some x => [.ag x none])
theorem ctr_ok {l : Lit} (h : l.Ok) : ∀ c ∈ ctr l, c.Ok := by
  intro c hc
  cases l with
  | tw b us =>
    have e : c = .tw (!b) us := by simpa [ctr] using hc
    subst e
    exact h
  | kn b v =>
    have e : c = .kn (!b) v := by simpa [ctr] using hc
    subst e
    exact h
  | ag f e =>
    obtain ⟨h1, h2⟩ := h
    rcases List.mem_append.mp hc with q | q
    · by_cases hf : f = 0
      · rw [if_pos hf] at q; cases q
      · rw [if_neg hf] at q
        have e : c = .ag 0 (some f) := by simpa using q
        subst e
        exact ⟨Int.le_refl 0, fun x e => by cases e; omega⟩
    · cases e with
      | none => cases q
      | some x =>
        have e : c = .ag x none := by simpa using q
        subst e
        have := h2 x rfl
        exact ⟨by omega, fun y e => by cases e⟩
theorem ctr_few (l : Lit) : (ctr l).length ≤ 2 := by
  cases l with
  | tw b us => simp [ctr]
  | kn b v => simp [ctr]
  | ag f e =>
    unfold ctr
    rw [List.length_append]
    have a : (if f = 0 then ([] : List Lit) else [.ag 0 (some f)]).length ≤ 1 := by split <;> simp
    have b : (match e with
    | none => ([] : List Lit)
    | some x => [.ag x none]).length ≤ 1 := by cases e <;> simp
    omega
theorem ctr_none {l : Lit} : ctr l = [] ↔ l = .ag 0 none := by
  cases l with
  | tw b us => simp [ctr]
  | kn b v => simp [ctr]
  | ag f e =>
    by_cases hf : f = 0
    · subst hf
      cases e <;> simp [ctr]
    · simp [ctr, hf]
theorem holds_ctr {l : Lit} {w : Who} (h : l.Ok) (hg : 0 ≤ w.g) : ((ctr l).any fun c => holds c w) = !holds l w := by
  cases l with
  | tw b us =>
    simp only [ctr, List.any_cons, List.any_nil, Bool.or_false, holds]
    cases b <;> cases (decide (((us.filter fun u => decide (u = w.t)).length : Int) = 1)) <;> rfl
  | kn b v =>
    simp only [ctr, List.any_cons, List.any_nil, Bool.or_false, holds]
    cases w.b with
    | none => rfl
    | some x =>
      dsimp only
      split <;> simp
  | ag f e =>
    obtain ⟨h1, h2⟩ := h
    unfold ctr
    rw [List.any_append]
    by_cases hf : f = 0
    · subst hf
      have a : decide (w.g < 0) = false := decide_eq_false (by omega)
      cases e with
      | none => simp [holds, a]
      | some x =>
        have := h2 x rfl
        simp [holds, a]
        by_cases c : w.g < x
        · simp [c]
        · simp [c]
          omega
    · rw [if_neg hf]
      have a : decide (w.g < 0) = false := decide_eq_false (by omega)
      cases e with
      | none =>
        simp [holds, a]
        by_cases c : w.g < f
        · simp [c]
        · simp [c]
          omega
      | some x =>
        have := h2 x rfl
        simp [holds, a]
        by_cases c : w.g < f
        · have : w.g < x := by omega
          simp [c, this]
        · by_cases c2 : w.g < x
          · have : ¬ x ≤ w.g := by omega
            simp [c, c2, this]
            omega
          · have : x ≤ w.g := by omega
            simp [c, c2, this]
end L06

set_option Elab.async false
set_option linter.all false
set_option maxRecDepth 100000
set_option maxHeartbeats 0
namespace K05
open PySem PySem.Spec PyProof.Rows L2 Vm
/-! ### the text -/
abbrev prog : Program := PySem.Challenge.pw_almsrow_k05_literals_together
def topS (i : Nat) : Stmt := prog.main.body.getD i (.Pass ⟨0, 0, 0, 0⟩)
def b_law : Ss := .cons (.x (.set (.one 1) (.call 10 (.cons (.var 0) .nil)))) (.cons (.x (.set (.one 2) (.call 12 (.cons (.var 1) .nil)))) (.cons (.ifs (.not (.call 21 (.cons (.call 22 (.cons (.var 1) (.cons (.var 2) .nil))) .nil))) (.cons (.x (.ret (.bl false))) .nil) (.nil)) (.cons (.for (.one 3) (.rng (.int 6)) (.cons (.x (.set (.one 4) (.ix (.lst (.cons (.call 11 (.cons (.var 1) (.cons (.int 4) .nil))) (.cons (.call 11 (.cons (.var 1) (.cons (.int 19) .nil))) .nil))) (.call 11 (.cons (.var 1) (.cons (.int 2) .nil)))))) (.cons (.ifs (.not (.call 21 (.cons (.bi 2 (.cons (.lc (.call 15 (.cons (.var 1) (.cons (.var 2) .nil))) (.one 5) (.rng (.var 4)) (.bl true)) .nil)) .nil))) (.cons (.x (.ret (.bl false))) .nil) (.nil)) .nil))) (.cons (.x (.ret (.bl true))) .nil))))
abbrev d_law : DefT := ⟨"law", ["_law_script"], ["_law_script", "_law_tap_here", "_law_towns_here", "_law_k", "_law_many", "_law_j"], b_law, topS 26, false⟩
def b_together : Ss := .cons (.for (.one 1) (.seq (.gcon "SORTS" (.strs ["town", "age", "kin"]))) (.cons (.ifs (.not (.call 2 (.cons (.var 1) (.cons (.var 0) .nil)))) (.cons (.x (.ret (.var 1))) .nil) (.nil)) .nil)) (.cons (.x (.ret (.non))) .nil)
abbrev d_together : DefT := ⟨"together", ["literals"], ["literals", "sort"], b_together, topS 3, false⟩
def b_together_by : Ss := .cons (.ifs (.cmp .eq (.var 0) (.str "town")) (.cons (.x (.ret (.notn (.call 4 (.cons (.var 1) .nil))))) .nil) (.nil)) (.cons (.ifs (.cmp .eq (.var 0) (.str "age")) (.cons (.x (.set (.many [2, 4]) (.call 8 (.cons (.var 1) .nil)))) (.cons (.x (.ret (.bor (.isn (.var 4)) (.cmp .lt (.var 2) (.var 4))))) .nil)) (.nil)) (.cons (.x (.set (.many [2, 3]) (.call 9 (.cons (.var 1) .nil)))) (.cons (.x (.ret (.bor (.isn (.var 3)) (.cmp .le (.var 2) (.var 3))))) .nil)))
abbrev d_together_by : DefT := ⟨"together_by", ["sort", "literals"], ["sort", "literals", "least", "most", "end"], b_together_by, topS 4, false⟩
def b_type_by : Ss := .cons (.ifs (.notn (.call 1 (.cons (.var 0) .nil))) (.cons (.x (.ret (.non))) .nil) (.nil)) (.cons (.x (.set (.many [2, 3]) (.call 8 (.cons (.var 0) .nil)))) (.cons (.x (.set (.many [4, 5]) (.call 9 (.cons (.var 0) .nil)))) (.cons (.x (.set (.one 1) (.ite (.isn (.var 5)) (.non) (.var 4)))) (.cons (.x (.ret (.tup (.cons (.call 4 (.cons (.var 0) .nil)) (.cons (.var 2) (.cons (.var 1) .nil)))))) .nil))))
abbrev d_type_by : DefT := ⟨"type_by", ["literals"], ["literals", "ties", "age", "_", "least", "most"], b_type_by, topS 5, false⟩
def b__town_by : Ss := .cons (.for (.one 1) (.seq (.var 0)) (.cons (.ifs (.cmp .eq (.ix (.var 1) (.int 0)) (.str "town")) (.cons (.x (.ret (.call 5 (.cons (.var 0) (.cons (.ix (.var 1) (.int 1)) .nil))))) .nil) (.nil)) .nil)) (.cons (.x (.set (.one 2) (.int 0))) (.cons (.whl (.not (.call 6 (.cons (.var 0) (.cons (.call 7 (.cons (.var 2) .nil)) .nil)))) (.cons (.x (.augv 2 .add (.int 1))) .nil)) (.cons (.x (.ret (.call 7 (.cons (.var 2) .nil)))) .nil)))
abbrev d__town_by : DefT := ⟨"_town_by", ["literals"], ["literals", "literal", "number"], b__town_by, topS 6, false⟩
def b__first_allowed : Ss := .cons (.for (.one 2) (.seq (.var 1)) (.cons (.ifs (.call 6 (.cons (.var 0) (.cons (.var 2) .nil))) (.cons (.x (.ret (.var 2))) .nil) (.nil)) .nil)) (.cons (.x (.ret (.non))) .nil)
abbrev d__first_allowed : DefT := ⟨"_first_allowed", ["literals", "towns"], ["literals", "towns", "town"], b__first_allowed, topS 7, false⟩
def b__allows : Ss := .cons (.for (.one 2) (.seq (.var 0)) (.cons (.ifs (.band (.cmp .eq (.ix (.var 2) (.int 0)) (.str "town")) (.cont true (.var 1) (.ix (.var 2) (.int 1)))) (.cons (.x (.ret (.bl false))) .nil) (.nil)) (.cons (.ifs (.band (.cmp .eq (.ix (.var 2) (.int 0)) (.str "out")) (.cont false (.var 1) (.ix (.var 2) (.int 1)))) (.cons (.x (.ret (.bl false))) .nil) (.nil)) .nil))) (.cons (.x (.ret (.bl true))) .nil)
abbrev d__allows : DefT := ⟨"_allows", ["literals", "town"], ["literals", "town", "literal"], b__allows, topS 8, false⟩
def b__word_at : Ss := .cons (.x (.set (.one 1) (.str ""))) (.cons (.x (.set (.one 2) (.bin .add (.var 0) (.int 1)))) (.cons (.whl (.cmp .gt (.var 2) (.int 0)) (.cons (.x (.augv 2 .sub (.int 1))) (.cons (.x (.set (.one 1) (.bin .add (.ix (.gcon "LETTERS" (.str "abcdefghijklmnopqrstuvwxyz")) (.bin .mod (.var 2) (.int 26))) (.var 1)))) (.cons (.x (.augv 2 .fdiv (.int 26))) .nil)))) (.cons (.x (.ret (.var 1))) .nil)))
abbrev d__word_at : DefT := ⟨"_word_at", ["number"], ["number", "word", "left"], b__word_at, topS 9, false⟩
def b__ages : Ss := .cons (.x (.set (.one 1) (.int 0))) (.cons (.x (.set (.one 2) (.non))) (.cons (.for (.one 3) (.seq (.var 0)) (.cons (.ifs (.cmp .eq (.ix (.var 3) (.int 0)) (.str "age")) (.cons (.x (.set (.one 1) (.bi 7 (.cons (.var 1) (.cons (.ix (.var 3) (.int 1)) .nil))))) (.cons (.ifs (.band (.notn (.ix (.var 3) (.int 2))) (.bor (.isn (.var 2)) (.cmp .lt (.ix (.var 3) (.int 2)) (.var 2)))) (.cons (.x (.set (.one 2) (.ix (.var 3) (.int 2)))) .nil) (.nil)) .nil)) (.nil)) .nil)) (.cons (.x (.ret (.tup (.cons (.var 1) (.cons (.var 2) .nil))))) .nil)))
abbrev d__ages : DefT := ⟨"_ages", ["literals"], ["literals", "least", "end", "literal"], b__ages, topS 10, false⟩
def b__ties : Ss := .cons (.x (.set (.one 1) (.int 0))) (.cons (.x (.set (.one 2) (.non))) (.cons (.for (.one 3) (.seq (.var 0)) (.cons (.ifs (.cmp .eq (.ix (.var 3) (.int 0)) (.str "far")) (.cons (.x (.set (.one 1) (.bi 7 (.cons (.var 1) (.cons (.bin .add (.ix (.var 3) (.int 1)) (.int 1)) .nil))))) .nil) (.nil)) (.cons (.ifs (.band (.cmp .eq (.ix (.var 3) (.int 0)) (.str "kin")) (.bor (.isn (.var 2)) (.cmp .lt (.ix (.var 3) (.int 1)) (.var 2)))) (.cons (.x (.set (.one 2) (.ix (.var 3) (.int 1)))) .nil) (.nil)) .nil))) (.cons (.x (.ret (.tup (.cons (.var 1) (.cons (.var 2) .nil))))) .nil)))
abbrev d__ties : DefT := ⟨"_ties", ["literals"], ["literals", "least", "most", "literal"], b__ties, topS 11, false⟩
def b__law_tap : Ss := .cons (.x (.ret (.dlit "cells" (.bi 3 (.cons (.slc (.var 0) .no (.yes (.int 63))) .nil)) [("spot", 0), ("rest", 0), ("calls", 0)]))) .nil
abbrev d__law_tap : DefT := ⟨"_law_tap", ["_law_script"], ["_law_script"], b__law_tap, topS 13, false⟩
def b__law_take : Ss := .cons (.x (.set (.one 2) (.bin .add (.dix (.var 0) "calls") (.int 1)))) (.cons (.x (.dput (.var 0) "calls" (.var 2))) (.cons (.ifs (.cmp .gt (.dix (.var 0) "rest") (.int 0)) (.cons (.x (.set (.one 7) (.bin .mod (.dix (.var 0) "rest") (.var 1)))) (.cons (.x (.dput (.var 0) "rest" (.bin .fdiv (.dix (.var 0) "rest") (.var 1)))) (.cons (.x (.ret (.var 7))) .nil))) (.nil)) (.cons (.x (.set (.one 3) (.dix (.var 0) "spot"))) (.cons (.x (.dput (.var 0) "spot" (.bin .add (.var 3) (.int 1)))) (.cons (.x (.set (.one 4) (.dix (.var 0) "cells"))) (.cons (.x (.set (.one 5) (.ite (.cmp .gt (.bi 0 (.cons (.var 4) .nil)) (.int 0)) (.ix (.var 4) (.bin .mod (.var 3) (.bi 0 (.cons (.var 4) .nil)))) (.int 5)))) (.cons (.ifs (.band (.cmp .lt (.var 3) (.bi 0 (.cons (.var 4) .nil))) (.cmp .ge (.var 5) (.bin .pow (.int 10) (.int 18)))) (.cons (.x (.dput (.var 0) "rest" (.bin .fdiv (.var 5) (.var 1)))) (.cons (.x (.ret (.bin .mod (.var 5) (.var 1)))) .nil)) (.nil)) (.cons (.x (.set (.one 6) (.bin .mod (.bin .pow (.bin .add (.bin .add (.bin .mod (.var 5) (.int 2147483629)) (.bin .mul (.int 6007) (.var 2))) (.int 11)) (.int 5)) (.int 2147483647)))) (.cons (.x (.ret (.bin .mod (.bin .fdiv (.bin .mod (.bin .pow (.bin .add (.var 6) (.bin .mul (.bin .mul (.int 4099) (.var 2)) (.var 2))) (.int 5)) (.int 2147483587)) (.int 32)) (.var 1)))) .nil)))))))))
abbrev d__law_take : DefT := ⟨"_law_take", ["_law_tap_here", "_law_many"], ["_law_tap_here", "_law_many", "_law_calls", "_law_spot", "_law_cells", "_law_cell", "_law_once", "_law_figure"], b__law_take, topS 14, false⟩
def b__law_towns : Ss := .cons (.x (.set (.one 1) (.ite (.cmp .eq (.call 11 (.cons (.var 0) (.cons (.int 3) .nil))) (.int 0)) (.int 0) (.call 11 (.cons (.var 0) (.cons (.int 26) .nil)))))) (.cons (.x (.set (.one 2) (.str "abcdefghijklmnopqrstuvwxyz"))) (.cons (.x (.set (.one 3) (.lst (.cons (.str "a") (.cons (.str "ab") (.cons (.str "abc") (.cons (.str "b") (.cons (.str "town") (.cons (.str "out") (.cons (.str "age") (.cons (.str "kin") (.cons (.str "by") (.cons (.str "abcdefgh") (.cons (.str "abcdefgi") (.cons (.str "zzzzzzzz") .nil))))))))))))))) (.cons (.x (.set (.one 4) (.lst (.nil)))) (.cons (.for (.one 5) (.rng (.int 6)) (.cons (.x (.set (.one 6) (.pop (.var 3) (.call 11 (.cons (.var 0) (.cons (.bi 0 (.cons (.var 3) .nil)) .nil)))))) (.cons (.x (.app (.var 4) (.join (.str "") (.lc (.ix (.var 2) (.bin .mod (.bin .add (.sidx (.var 2) (.var 7)) (.var 1)) (.int 26))) (.one 7) (.sgn (.var 6)) (.bl true))))) .nil))) (.cons (.x (.ret (.var 4))) .nil)))))
abbrev d__law_towns : DefT := ⟨"_law_towns", ["_law_tap_here"], ["_law_tap_here", "_law_shift", "_law_letters", "_law_pool", "_law_found", "_law_k", "_law_word", "_law_sign"], b__law_towns, topS 15, false⟩
def b__law_some : Ss := .cons (.x (.set (.one 2) (.lc (.var 3) (.one 3) (.seq (.var 1)) (.cmp .eq (.call 11 (.cons (.var 0) (.cons (.int 2) .nil))) (.int 0))))) (.cons (.ifs (.cmp .eq (.var 2) (.lst (.nil))) (.cons (.x (.set (.one 2) (.lst (.cons (.ix (.var 1) (.call 11 (.cons (.var 0) (.cons (.int 6) .nil)))) .nil)))) .nil) (.nil)) (.cons (.x (.ret (.bi 2 (.cons (.tsrt (.slc (.var 2) .no (.yes (.int 4)))) .nil)))) .nil))
abbrev d__law_some : DefT := ⟨"_law_some", ["_law_tap_here", "_law_towns_here"], ["_law_tap_here", "_law_towns_here", "_law_found", "_law_town"], b__law_some, topS 16, false⟩
def b__law_number : Ss := .cons (.x (.ret (.ite (.cmp .eq (.call 11 (.cons (.var 0) (.cons (.int 8) .nil))) (.int 0)) (.call 11 (.cons (.var 0) (.cons (.int 200) .nil))) (.call 11 (.cons (.var 0) (.cons (.int 5) .nil)))))) .nil
abbrev d__law_number : DefT := ⟨"_law_number", ["_law_tap_here"], ["_law_tap_here"], b__law_number, topS 17, false⟩
def b__law_literal : Ss := .cons (.x (.set (.one 2) (.call 11 (.cons (.var 0) (.cons (.int 6) .nil))))) (.cons (.ifs (.cmp .lt (.var 2) (.int 2)) (.cons (.x (.ret (.tup (.cons (.ix (.lst (.cons (.str "town") (.cons (.str "out") .nil))) (.var 2)) (.cons (.call 13 (.cons (.var 0) (.cons (.var 1) .nil))) .nil))))) .nil) (.nil)) (.cons (.ifs (.cmp .lt (.var 2) (.int 4)) (.cons (.x (.ret (.tup (.cons (.ix (.lst (.cons (.str "kin") (.cons (.str "far") .nil))) (.bin .sub (.var 2) (.int 2))) (.cons (.call 14 (.cons (.var 0) .nil)) .nil))))) .nil) (.nil)) (.cons (.x (.set (.one 3) (.ix (.lst (.cons (.int 0) (.cons (.call 14 (.cons (.var 0) .nil)) (.cons (.bin .mul (.int 10) (.call 11 (.cons (.var 0) (.cons (.int 9) .nil)))) .nil)))) (.call 11 (.cons (.var 0) (.cons (.int 3) .nil)))))) (.cons (.ifs (.cmp .eq (.call 11 (.cons (.var 0) (.cons (.int 3) .nil))) (.int 0)) (.cons (.x (.ret (.tup (.cons (.str "age") (.cons (.var 3) (.cons (.non) .nil)))))) .nil) (.nil)) (.cons (.x (.ret (.tup (.cons (.str "age") (.cons (.var 3) (.cons (.bi 6 (.cons (.int 200) (.cons (.bin .add (.bin .add (.var 3) (.int 1)) (.call 14 (.cons (.var 0) .nil))) .nil))) .nil)))))) .nil)))))
abbrev d__law_literal : DefT := ⟨"_law_literal", ["_law_tap_here", "_law_towns_here"], ["_law_tap_here", "_law_towns_here", "_law_way", "_law_first"], b__law_literal, topS 18, false⟩
def b__law_holds : Ss := .cons (.x (.set (.one 2) (.ix (.var 0) (.int 0)))) (.cons (.ifs (.cont false (.var 2) (.tup (.cons (.str "town") (.cons (.str "out") .nil)))) (.cons (.x (.ret (.cmp .eq (.cmp .eq (.bi 0 (.cons (.lc (.var 3) (.one 3) (.seq (.ix (.var 0) (.int 1))) (.cmp .eq (.var 3) (.ix (.var 1) (.int 0)))) .nil)) (.int 1)) (.cmp .eq (.var 2) (.str "town"))))) .nil) (.nil)) (.cons (.ifs (.cmp .eq (.var 2) (.str "age")) (.cons (.x (.ret (.band (.not (.cmp .lt (.ix (.var 1) (.int 1)) (.ix (.var 0) (.int 1)))) (.bor (.isn (.ix (.var 0) (.int 2))) (.not (.cmp .ge (.ix (.var 1) (.int 1)) (.ix (.var 0) (.int 2)))))))) .nil) (.nil)) (.cons (.ifs (.bor (.isn (.ix (.var 1) (.int 2))) (.cmp .gt (.ix (.var 1) (.int 2)) (.ix (.var 0) (.int 1)))) (.cons (.x (.ret (.cmp .eq (.var 2) (.str "far")))) .nil) (.nil)) (.cons (.x (.ret (.cmp .eq (.var 2) (.str "kin")))) .nil))))
abbrev d__law_holds : DefT := ⟨"_law_holds", ["_law_literal_here", "_law_who"], ["_law_literal_here", "_law_who", "_law_sort", "_law_word"], b__law_holds, topS 19, false⟩
def b__law_is_number : Ss := .cons (.x (.ret (.band (.isin .int (.var 0)) (.band (.not (.isin .bool (.var 0))) (.cmp .ge (.var 0) (.var 1)))))) .nil
abbrev d__law_is_number : DefT := ⟨"_law_is_number", ["_law_thing", "_law_least"], ["_law_thing", "_law_least"], b__law_is_number, topS 20, false⟩
def b__law_is_word : Ss := .cons (.ifs (.bor (.not (.isin .str (.var 0))) (.bor (.cmp .lt (.bi 0 (.cons (.var 0) .nil)) (.int 1)) (.cmp .gt (.bi 0 (.cons (.var 0) .nil)) (.int 8)))) (.cons (.x (.ret (.bl false))) .nil) (.nil)) (.cons (.x (.ret (.cmp .eq (.lc (.var 1) (.one 1) (.sgn (.var 0)) (.cont true (.var 1) (.str "abcdefghijklmnopqrstuvwxyz"))) (.lst (.nil))))) .nil)
abbrev d__law_is_word : DefT := ⟨"_law_is_word", ["_law_thing"], ["_law_thing", "_law_sign"], b__law_is_word, topS 21, false⟩
def b__law_few : Ss := .cons (.x (.set (.one 1) (.lst (.nil)))) (.cons (.x (.set (.one 2) (.lst (.cons (.int 0) .nil)))) (.cons (.x (.set (.one 3) (.lst (.cons (.non) (.cons (.int 0) .nil))))) (.cons (.for (.one 4) (.seq (.var 0)) (.cons (.ifs (.cont false (.ix (.var 4) (.int 0)) (.tup (.cons (.str "town") (.cons (.str "out") .nil)))) (.cons (.x (.ext (.var 1) (.ix (.var 4) (.int 1)))) .nil) (.cons (.ifs (.cmp .eq (.ix (.var 4) (.int 0)) (.str "age")) (.cons (.x (.ext (.var 2) (.bin .add (.lst (.cons (.ix (.var 4) (.int 1)) .nil)) (.lc (.var 7) (.one 7) (.seq (.slc (.var 4) (.yes (.int 2)) .no)) (.notn (.var 7)))))) .nil) (.cons (.x (.app (.var 3) (.bin .add (.ix (.var 4) (.int 1)) (.int 1)))) .nil)) .nil)) .nil)) (.cons (.x (.set (.one 5) (.slc (.lc (.var 6) (.one 6) (.seq (.tup (.cons (.str "q") (.cons (.str "qq") (.cons (.str "other") (.cons (.str "fresh") (.cons (.str "else") .nil))))))) (.cont true (.var 6) (.var 1))) .no (.yes (.int 1))))) (.cons (.x (.ret (.tup (.cons (.bin .add (.tset (.var 1)) (.var 5)) (.cons (.sset (.var 2)) (.cons (.bin .add (.slc (.var 3) .no (.yes (.int 1))) (.sset (.slc (.var 3) (.yes (.int 1)) .no))) .nil)))))) .nil)))))
abbrev d__law_few : DefT := ⟨"_law_few", ["_law_literals"], ["_law_literals", "_law_towns_here", "_law_ages", "_law_near", "_law_literal_here", "_law_more", "_law_word", "_law_end"], b__law_few, topS 22, false⟩
def b__law_sorts : Ss := .cons (.x (.set (.many [2, 3, 4]) (.call 19 (.cons (.var 0) .nil)))) (.cons (.x (.set (.one 1) (.lst (.nil)))) (.cons (.for (.many [5, 6]) (.seq (.tup (.cons (.tup (.cons (.str "town") (.cons (.lc (.tup (.cons (.var 10) (.cons (.int 0) (.cons (.non) .nil)))) (.one 10) (.seq (.var 2)) (.bl true)) .nil))) (.cons (.tup (.cons (.str "age") (.cons (.lc (.tup (.cons (.str "q") (.cons (.var 11) (.cons (.non) .nil)))) (.one 11) (.seq (.var 3)) (.bl true)) .nil))) (.cons (.tup (.cons (.str "kin") (.cons (.lc (.tup (.cons (.str "q") (.cons (.int 0) (.cons (.var 12) .nil)))) (.one 12) (.seq (.var 4)) (.bl true)) .nil))) .nil))))) (.cons (.x (.set (.one 7) (.dget (.ddis ["town", "age", "kin"] (.cons (.tup (.cons (.str "town") (.cons (.str "out") .nil))) (.cons (.tup (.cons (.str "age") .nil)) (.cons (.tup (.cons (.str "kin") (.cons (.str "far") .nil))) .nil)))) (.var 5)))) (.cons (.x (.set (.one 8) (.lc (.var 9) (.one 9) (.seq (.var 0)) (.cont false (.ix (.var 9) (.int 0)) (.var 7))))) (.cons (.ifs (.cmp .eq (.lc (.var 13) (.one 13) (.seq (.var 6)) (.cont true (.bl false) (.lc (.call 16 (.cons (.var 14) (.cons (.var 13) .nil))) (.one 14) (.seq (.var 8)) (.bl true)))) (.lst (.nil))) (.cons (.x (.app (.var 1) (.var 5))) .nil) (.nil)) .nil)))) (.cons (.x (.ret (.var 1))) .nil)))
abbrev d__law_sorts : DefT := ⟨"_law_sorts", ["_law_literals"], ["_law_literals", "_law_found", "_law_towns_here", "_law_ages", "_law_near", "_law_word", "_law_whos", "_law_names", "_law_own", "_law_literal_here", "_law_town", "_law_age", "_law_bond", "_law_who", "_law_one"], b__law_sorts, topS 23, false⟩
def b__law_is_right : Ss := .cons (.x (.set (.one 1) (.call 20 (.cons (.var 0) .nil)))) (.cons (.x (.set (.one 2) (.bi 9 (.cons (.var 0) .nil)))) (.cons (.ifs (.cmp .ne (.bi 9 (.cons (.call 1 (.cons (.var 0) .nil)) .nil)) (.bi 9 (.cons (.ite (.cmp .ne (.var 1) (.lst (.nil))) (.ix (.var 1) (.int 0)) (.non)) .nil))) (.cons (.x (.ret (.bl false))) .nil) (.nil)) (.cons (.x (.set (.one 3) (.call 3 (.cons (.var 0) .nil)))) (.cons (.ifs (.cmp .ne (.var 1) (.lst (.nil))) (.cons (.x (.ret (.band (.isn (.var 3)) (.cmp .eq (.bi 9 (.cons (.var 0) .nil)) (.var 2))))) .nil) (.nil)) (.cons (.ifs (.bor (.not (.isin .tuple (.var 3))) (.bor (.cmp .ne (.bi 0 (.cons (.var 3) .nil)) (.int 3)) (.bor (.not (.call 18 (.cons (.ix (.var 3) (.int 0)) .nil))) (.not (.call 17 (.cons (.ix (.var 3) (.int 1)) (.cons (.int 0) .nil))))))) (.cons (.x (.ret (.bl false))) .nil) (.nil)) (.cons (.ifs (.band (.notn (.ix (.var 3) (.int 2))) (.not (.call 17 (.cons (.ix (.var 3) (.int 2)) (.cons (.int 0) .nil))))) (.cons (.x (.ret (.bl false))) .nil) (.nil)) (.cons (.x (.ret (.band (.cont true (.bl false) (.lc (.call 16 (.cons (.var 4) (.cons (.var 3) .nil))) (.one 4) (.seq (.var 0)) (.bl true))) (.cmp .eq (.bi 9 (.cons (.var 0) .nil)) (.var 2))))) .nil)))))))
abbrev d__law_is_right : DefT := ⟨"_law_is_right", ["_law_literals"], ["_law_literals", "_law_sorts_here", "_law_kept", "_law_who", "_law_one"], b__law_is_right, topS 24, false⟩
def b__law_barred : Ss := .cons (.x (.set (.one 2) (.str "abcdefghijklmnopqrstuvwxyz"))) (.cons (.x (.set (.one 3) (.lc (.tup (.cons (.str "out") (.cons (.bi 2 (.cons (.slc (.var 2) (.yes (.var 5)) (.yes (.bin .add (.var 5) (.int 4)))) .nil)) .nil))) (.one 5) (.rng3 (.int 0) (.int 26) (.int 4)) (.bl true)))) (.cons (.x (.ext (.var 3) (.lc (.call 15 (.cons (.var 0) (.cons (.var 1) .nil))) (.one 5) (.rng (.call 11 (.cons (.var 0) (.cons (.int 9) .nil)))) (.bl true)))) (.cons (.x (.set (.one 4) (.ix (.var 2) (.call 11 (.cons (.var 0) (.cons (.int 26) .nil)))))) (.cons (.x (.ret (.bi 2 (.cons (.bin .add (.var 3) (.ix (.lst (.cons (.lst (.nil)) (.cons (.lst (.cons (.tup (.cons (.str "town") (.cons (.tup (.cons (.var 4) .nil)) .nil))) .nil)) (.cons (.lst (.cons (.tup (.cons (.str "town") (.cons (.tup (.cons (.var 4) (.cons (.bin .mul (.var 4) (.int 2)) .nil))) .nil))) .nil)) .nil)))) (.call 11 (.cons (.var 0) (.cons (.int 3) .nil))))) .nil)))) .nil))))
abbrev d__law_barred : DefT := ⟨"_law_barred", ["_law_tap_here", "_law_towns_here"], ["_law_tap_here", "_law_towns_here", "_law_letters", "_law_found", "_law_sign", "_law_k"], b__law_barred, topS 25, false⟩
def ds : List DefT := [d_law, d_together, d_together_by, d_type_by, d__town_by, d__first_allowed, d__allows, d__word_at, d__ages, d__ties, d__law_tap, d__law_take, d__law_towns, d__law_some, d__law_number, d__law_literal, d__law_holds, d__law_is_number, d__law_is_word, d__law_few, d__law_sorts, d__law_is_right, d__law_barred]
abbrev i_law : Nat := 0
abbrev i_together : Nat := 1
abbrev i_together_by : Nat := 2
abbrev i_type_by : Nat := 3
abbrev i__town_by : Nat := 4
abbrev i__first_allowed : Nat := 5
abbrev i__allows : Nat := 6
abbrev i__word_at : Nat := 7
abbrev i__ages : Nat := 8
abbrev i__ties : Nat := 9
abbrev i__law_tap : Nat := 10
abbrev i__law_take : Nat := 11
abbrev i__law_towns : Nat := 12
abbrev i__law_some : Nat := 13
abbrev i__law_number : Nat := 14
abbrev i__law_literal : Nat := 15
abbrev i__law_holds : Nat := 16
abbrev i__law_is_number : Nat := 17
abbrev i__law_is_word : Nat := 18
abbrev i__law_few : Nat := 19
abbrev i__law_sorts : Nat := 20
abbrev i__law_is_right : Nat := 21
abbrev i__law_barred : Nat := 22
def CS : List (Str × Cst) := [("SORTS", .strs ["town", "age", "kin"]), ("LETTERS", .str "abcdefghijklmnopqrstuvwxyz")]
def d0 (i : Nat) : DefT := ds.getD i ⟨"", [], [], .nil, topS 0, false⟩
end K05

set_option Elab.async false
set_option linter.all false
set_option maxRecDepth 100000
set_option maxHeartbeats 0
namespace K05
open PySem PySem.Spec PyProof.Rows L2 Vm
theorem bd_law {K : PySem.W.Frag} {f : Addr} {fd : FuncData} (F : FunD K d_law.name d_law.name (defArgs d_law.st) (defBody d_law.st) (defScope d_law.st) [] [] f fd) : Binds K fd d_law.ps [] := F.bindsN fun _ _ _ _ _ _ us hl => match us, hl with | [_], _ => rfl
theorem bd_together {K : PySem.W.Frag} {f : Addr} {fd : FuncData} (F : FunD K d_together.name d_together.name (defArgs d_together.st) (defBody d_together.st) (defScope d_together.st) [] [] f fd) : Binds K fd d_together.ps [] := F.bindsN fun _ _ _ _ _ _ us hl => match us, hl with | [_], _ => rfl
theorem bd_together_by {K : PySem.W.Frag} {f : Addr} {fd : FuncData} (F : FunD K d_together_by.name d_together_by.name (defArgs d_together_by.st) (defBody d_together_by.st) (defScope d_together_by.st) [] [] f fd) : Binds K fd d_together_by.ps [] := F.bindsN fun _ _ _ _ _ _ us hl => match us, hl with | [_, _], _ => rfl
theorem bd_type_by {K : PySem.W.Frag} {f : Addr} {fd : FuncData} (F : FunD K d_type_by.name d_type_by.name (defArgs d_type_by.st) (defBody d_type_by.st) (defScope d_type_by.st) [] [] f fd) : Binds K fd d_type_by.ps [] := F.bindsN fun _ _ _ _ _ _ us hl => match us, hl with | [_], _ => rfl
theorem bd__town_by {K : PySem.W.Frag} {f : Addr} {fd : FuncData} (F : FunD K d__town_by.name d__town_by.name (defArgs d__town_by.st) (defBody d__town_by.st) (defScope d__town_by.st) [] [] f fd) : Binds K fd d__town_by.ps [] := F.bindsN fun _ _ _ _ _ _ us hl => match us, hl with | [_], _ => rfl
theorem bd__first_allowed {K : PySem.W.Frag} {f : Addr} {fd : FuncData} (F : FunD K d__first_allowed.name d__first_allowed.name (defArgs d__first_allowed.st) (defBody d__first_allowed.st) (defScope d__first_allowed.st) [] [] f fd) : Binds K fd d__first_allowed.ps [] := F.bindsN fun _ _ _ _ _ _ us hl => match us, hl with | [_, _], _ => rfl
theorem bd__allows {K : PySem.W.Frag} {f : Addr} {fd : FuncData} (F : FunD K d__allows.name d__allows.name (defArgs d__allows.st) (defBody d__allows.st) (defScope d__allows.st) [] [] f fd) : Binds K fd d__allows.ps [] := F.bindsN fun _ _ _ _ _ _ us hl => match us, hl with | [_, _], _ => rfl
theorem bd__word_at {K : PySem.W.Frag} {f : Addr} {fd : FuncData} (F : FunD K d__word_at.name d__word_at.name (defArgs d__word_at.st) (defBody d__word_at.st) (defScope d__word_at.st) [] [] f fd) : Binds K fd d__word_at.ps [] := F.bindsN fun _ _ _ _ _ _ us hl => match us, hl with | [_], _ => rfl
theorem bd__ages {K : PySem.W.Frag} {f : Addr} {fd : FuncData} (F : FunD K d__ages.name d__ages.name (defArgs d__ages.st) (defBody d__ages.st) (defScope d__ages.st) [] [] f fd) : Binds K fd d__ages.ps [] := F.bindsN fun _ _ _ _ _ _ us hl => match us, hl with | [_], _ => rfl
theorem bd__ties {K : PySem.W.Frag} {f : Addr} {fd : FuncData} (F : FunD K d__ties.name d__ties.name (defArgs d__ties.st) (defBody d__ties.st) (defScope d__ties.st) [] [] f fd) : Binds K fd d__ties.ps [] := F.bindsN fun _ _ _ _ _ _ us hl => match us, hl with | [_], _ => rfl
theorem bd__law_tap {K : PySem.W.Frag} {f : Addr} {fd : FuncData} (F : FunD K d__law_tap.name d__law_tap.name (defArgs d__law_tap.st) (defBody d__law_tap.st) (defScope d__law_tap.st) [] [] f fd) : Binds K fd d__law_tap.ps [] := F.bindsN fun _ _ _ _ _ _ us hl => match us, hl with | [_], _ => rfl
theorem bd__law_take {K : PySem.W.Frag} {f : Addr} {fd : FuncData} (F : FunD K d__law_take.name d__law_take.name (defArgs d__law_take.st) (defBody d__law_take.st) (defScope d__law_take.st) [] [] f fd) : Binds K fd d__law_take.ps [] := F.bindsN fun _ _ _ _ _ _ us hl => match us, hl with | [_, _], _ => rfl
theorem bd__law_towns {K : PySem.W.Frag} {f : Addr} {fd : FuncData} (F : FunD K d__law_towns.name d__law_towns.name (defArgs d__law_towns.st) (defBody d__law_towns.st) (defScope d__law_towns.st) [] [] f fd) : Binds K fd d__law_towns.ps [] := F.bindsN fun _ _ _ _ _ _ us hl => match us, hl with | [_], _ => rfl
theorem bd__law_some {K : PySem.W.Frag} {f : Addr} {fd : FuncData} (F : FunD K d__law_some.name d__law_some.name (defArgs d__law_some.st) (defBody d__law_some.st) (defScope d__law_some.st) [] [] f fd) : Binds K fd d__law_some.ps [] := F.bindsN fun _ _ _ _ _ _ us hl => match us, hl with | [_, _], _ => rfl
theorem bd__law_number {K : PySem.W.Frag} {f : Addr} {fd : FuncData} (F : FunD K d__law_number.name d__law_number.name (defArgs d__law_number.st) (defBody d__law_number.st) (defScope d__law_number.st) [] [] f fd) : Binds K fd d__law_number.ps [] := F.bindsN fun _ _ _ _ _ _ us hl => match us, hl with | [_], _ => rfl
theorem bd__law_literal {K : PySem.W.Frag} {f : Addr} {fd : FuncData} (F : FunD K d__law_literal.name d__law_literal.name (defArgs d__law_literal.st) (defBody d__law_literal.st) (defScope d__law_literal.st) [] [] f fd) : Binds K fd d__law_literal.ps [] := F.bindsN fun _ _ _ _ _ _ us hl => match us, hl with | [_, _], _ => rfl
theorem bd__law_holds {K : PySem.W.Frag} {f : Addr} {fd : FuncData} (F : FunD K d__law_holds.name d__law_holds.name (defArgs d__law_holds.st) (defBody d__law_holds.st) (defScope d__law_holds.st) [] [] f fd) : Binds K fd d__law_holds.ps [] := F.bindsN fun _ _ _ _ _ _ us hl => match us, hl with | [_, _], _ => rfl
theorem bd__law_is_number {K : PySem.W.Frag} {f : Addr} {fd : FuncData} (F : FunD K d__law_is_number.name d__law_is_number.name (defArgs d__law_is_number.st) (defBody d__law_is_number.st) (defScope d__law_is_number.st) [] [] f fd) : Binds K fd d__law_is_number.ps [] := F.bindsN fun _ _ _ _ _ _ us hl => match us, hl with | [_, _], _ => rfl
theorem bd__law_is_word {K : PySem.W.Frag} {f : Addr} {fd : FuncData} (F : FunD K d__law_is_word.name d__law_is_word.name (defArgs d__law_is_word.st) (defBody d__law_is_word.st) (defScope d__law_is_word.st) [] [] f fd) : Binds K fd d__law_is_word.ps [] := F.bindsN fun _ _ _ _ _ _ us hl => match us, hl with | [_], _ => rfl
theorem bd__law_few {K : PySem.W.Frag} {f : Addr} {fd : FuncData} (F : FunD K d__law_few.name d__law_few.name (defArgs d__law_few.st) (defBody d__law_few.st) (defScope d__law_few.st) [] [] f fd) : Binds K fd d__law_few.ps [] := F.bindsN fun _ _ _ _ _ _ us hl => match us, hl with | [_], _ => rfl
theorem bd__law_sorts {K : PySem.W.Frag} {f : Addr} {fd : FuncData} (F : FunD K d__law_sorts.name d__law_sorts.name (defArgs d__law_sorts.st) (defBody d__law_sorts.st) (defScope d__law_sorts.st) [] [] f fd) : Binds K fd d__law_sorts.ps [] := F.bindsN fun _ _ _ _ _ _ us hl => match us, hl with | [_], _ => rfl
theorem bd__law_is_right {K : PySem.W.Frag} {f : Addr} {fd : FuncData} (F : FunD K d__law_is_right.name d__law_is_right.name (defArgs d__law_is_right.st) (defBody d__law_is_right.st) (defScope d__law_is_right.st) [] [] f fd) : Binds K fd d__law_is_right.ps [] := F.bindsN fun _ _ _ _ _ _ us hl => match us, hl with | [_], _ => rfl
theorem bd__law_barred {K : PySem.W.Frag} {f : Addr} {fd : FuncData} (F : FunD K d__law_barred.name d__law_barred.name (defArgs d__law_barred.st) (defBody d__law_barred.st) (defScope d__law_barred.st) [] [] f fd) : Binds K fd d__law_barred.ps [] := F.bindsN fun _ _ _ _ _ _ us hl => match us, hl with | [_, _], _ => rfl
theorem bds {K : PySem.W.Frag} : BindsD K ds := by
  intro i d f fd e F
  rcases i with _ | _ | _ | _ | _ | _ | _ | _ | _ | _ | _ | _ | _ | _ | _ | _ | _ | _ | _ | _ | _ | _ | _ | i
  · cases e; exact bd_law F
  · cases e; exact bd_together F
  · cases e; exact bd_together_by F
  · cases e; exact bd_type_by F
  · cases e; exact bd__town_by F
  · cases e; exact bd__first_allowed F
  · cases e; exact bd__allows F
  · cases e; exact bd__word_at F
  · cases e; exact bd__ages F
  · cases e; exact bd__ties F
  · cases e; exact bd__law_tap F
  · cases e; exact bd__law_take F
  · cases e; exact bd__law_towns F
  · cases e; exact bd__law_some F
  · cases e; exact bd__law_number F
  · cases e; exact bd__law_literal F
  · cases e; exact bd__law_holds F
  · cases e; exact bd__law_is_number F
  · cases e; exact bd__law_is_word F
  · cases e; exact bd__law_few F
  · cases e; exact bd__law_sorts F
  · cases e; exact bd__law_is_right F
  · cases e; exact bd__law_barred F
  · simp [ds] at e
theorem chk : ds.all (chkDc CS (tab ds) Bn) = true := by decide +kernel
end K05

set_option Elab.async false
set_option linter.all false
set_option maxRecDepth 100000
set_option maxHeartbeats 4000000
namespace K05
open PySem PySem.Spec PyProof.Rows L2 Vm L06
theorem pre {N k : Nat} (h : k ≤ N) (hk : 0 < k) : ∃ n, N = n + 1 ∧ k - 1 ≤ n := ⟨N - 1, by omega, by omega⟩
/-! ### one operation -/
theorem dix_ok {h : IH} {a : Nat} {kvs : List (Str × PV)} {k : Str} {v : PV} (e : h[a]? = some (.dct kvs)) (q : kvs.lookup k = some v) : dixF (.ref a) k h = .ok v h := by
  simp only [dixF, e, q]
theorem dput_ok {h : IH} {a : Nat} {kvs : List (Str × PV)} {k : Str} {v : PV} (e : h[a]? = some (.dct kvs)) (q : (kvs.any fun p => decide (p.1 = k)) = true) (l : kvs.length ≤ 100) : dputF (.ref a) k v h = .ok () (h.set a (.dct (dsetK kvs k v))) := by
  have : kvs.length < sizeLine := by rw [sizeLine_eq]; omega
  simp only [dputF, e, q, this, and_self, if_true]
def tapK (p : Nat) (sp re ca : Int) : List (Str × PV) := [("cells", .ref p), ("spot", .int sp), ("rest", .int re), ("calls", .int ca)]
section
variable {p : Nat} {sp re ca x : Int}
theorem tk_len : (tapK p sp re ca).length ≤ 100 := by simp [tapK]
theorem tk_calls : (tapK p sp re ca).lookup ("calls" : Str) = some (.int ca) := rfl
theorem tk_rest : (tapK p sp re ca).lookup ("rest" : Str) = some (.int re) := rfl
theorem tk_spot : (tapK p sp re ca).lookup ("spot" : Str) = some (.int sp) := rfl
theorem tk_cells : (tapK p sp re ca).lookup ("cells" : Str) = some (.ref p) := rfl
theorem tk_calls' : ((tapK p sp re ca).any fun q => decide (q.1 = ("calls" : Str))) = true := rfl
theorem tk_rest' : ((tapK p sp re ca).any fun q => decide (q.1 = ("rest" : Str))) = true := rfl
theorem tk_spot' : ((tapK p sp re ca).any fun q => decide (q.1 = ("spot" : Str))) = true := rfl
theorem tk_scalls : dsetK (tapK p sp re ca) "calls" (.int x) = tapK p sp re x := rfl
theorem tk_srest : dsetK (tapK p sp re ca) "rest" (.int x) = tapK p sp x ca := rfl
theorem tk_sspot : dsetK (tapK p sp re ca) "spot" (.int x) = tapK p x re ca := rfl
end
/-- the tap at a, its cells at p, at most n draws so far -/
structure Tap (h : IH) (a p : Nat) (cs : List Int) (n : Nat) : Prop where
  ex : ∃ sp re ca : Int, h[a]? = some (.dct (tapK p sp re ca)) ∧ 0 ≤ sp ∧ 0 ≤ re ∧ 0 ≤ ca ∧ ca ≤ n
  cl : h[p]? = some (.lst (cs.map PV.int))
  few : cs.length ≤ 63
  ne : p ≠ a
theorem Tap.mono {h : IH} {a p : Nat} {cs : List Int} {n n' : Nat} (t : Tap h a p cs n) (l : n ≤ n') : Tap h a p cs n' := by
  obtain ⟨sp, re, ca, e, h1, h2, h3, h4⟩ := t.ex
  exact ⟨⟨sp, re, ca, e, h1, h2, h3, by omega⟩, t.cl, t.few, t.ne⟩
theorem Tap.app {h : IH} {a p : Nat} {cs : List Int} {n : Nat} (t : Tap h a p cs n) {h' : IH} (x : Ext h h') : Tap h' a p cs n := by
  obtain ⟨sp, re, ca, e, r⟩ := t.ex
  exact ⟨⟨sp, re, ca, x.get e, r⟩, x.get t.cl, t.few, t.ne⟩
theorem Tap.set {h : IH} {a p : Nat} {cs : List Int} {n : Nat} (t : Tap h a p cs n) {i : Nat} {o : HV} (n1 : i ≠ a) (n2 : i ≠ p) : Tap (h.set i o) a p cs n := by
  obtain ⟨sp, re, ca, e, r⟩ := t.ex
  exact ⟨⟨sp, re, ca, by rw [set_other n1]; exact e, r⟩, by rw [set_other n2]; exact t.cl, t.few, t.ne⟩
theorem Tap.lt {h : IH} {a p : Nat} {cs : List Int} {n : Nat} (t : Tap h a p cs n) : a < h.length ∧ p < h.length := by
  obtain ⟨sp, re, ca, e, r⟩ := t.ex
  exact ⟨(List.getElem?_eq_some_iff.mp e).1, (List.getElem?_eq_some_iff.mp t.cl).1⟩
theorem em_bd {i j : Int} (l : 0 < j) : 0 ≤ i % j ∧ i % j < j := ⟨Int.emod_nonneg i (by omega), Int.emod_lt_of_pos i l⟩
section
variable {h : IH} {N a p n : Nat} {cs : List Int}
theorem s_take {k : Int} (hN : 1 ≤ N) (t : Tap h a p cs n) (hn : n ≤ 100000) (k0 : 1 ≤ k) (k1 : k ≤ 1000) :
    (sem Bf ds N 11 [.ref a, .int k] h).Ok fun r h1 => ∃ v : Int, r = .int v ∧ 0 ≤ v ∧ v < k ∧ Tap h1 a p cs (n + 1) ∧ But a h h1 := by
  obtain ⟨N, rfl, _⟩ := pre hN (by decide)
  rw [sem_at (d := d__law_take) (L := 8) (b := b__law_take) rfl rfl rfl]
  obtain ⟨⟨sp, re, ca, e, h1, h2, h3, h4⟩, cl, few, ne⟩ := t
  have hlt := (List.getElem?_eq_some_iff.mp e).1
  have c1 := dix_ok e tk_calls
  have d1 := dput_ok (v := .int (ca + 1)) e tk_calls' tk_len
  rw [tk_scalls] at d1
  generalize hh1 : h.set a (.dct (tapK p sp re (ca + 1))) = g1 at d1
  have e1 : g1[a]? = some (.dct (tapK p sp re (ca + 1))) := by rw [← hh1]; exact set_same e
  have cl1 : g1[p]? = some (.lst (cs.map PV.int)) := by rw [← hh1, set_other (Ne.symm ne)]; exact cl
  have b1 : But a h g1 := by rw [← hh1]; exact But.set
  clear hh1
  have r1 := dix_ok e1 tk_rest
  simp (config := { implicitDefEqProofs := false }) only [Vm.evF, Vm.evSs, Vm.evS, Vm.evX, Vm.evE, Vm.evEs, Vm.evIt, Vm.evPt, Vm.Res.bind_assoc, Vm.Res.bind_ok, Vm.Res.Ok_ok, Vm.bindT, Vm.setAll, Vm.boolOf, Vm.isNon, Vm.b_add, Vm.b_sub, Vm.a_add, Vm.c_eq, Vm.c_ne, Vm.c_lt, Vm.c_le, Vm.c_gt, Vm.c_ge, Vm.Bf_len, Vm.Bf_sum, Vm.Bf_min2, Vm.wipeE, Vm.Tg.slots, Vm.lcTurn, Vm.forTurn, List.map_cons, List.map_nil, List.length_cons, List.length_nil, List.length_map, List.cons_append, List.nil_append, List.getElem?_cons_zero, List.getElem?_cons_succ, List.set_cons_zero, List.set_cons_succ, List.reduceReplicate, Nat.reduceSub, Nat.reduceAdd, Nat.zero_add, Int.toNat_natCast, Bool.not_true, Bool.not_false, decide_true, decide_false, if_true, if_false, b__law_take, c1, d1, r1]
  by_cases hr : 0 < re
  · have rd2 := dput_ok (v := .int (re / k)) e1 tk_rest' tk_len
    rw [tk_srest] at rd2
    have em := em_bd (i := re) (show 0 < k by omega)
    simp (config := { implicitDefEqProofs := false }) only [Vm.evF, Vm.evSs, Vm.evS, Vm.evX, Vm.evE, Vm.evEs, Vm.evIt, Vm.evPt, Vm.Res.bind_assoc, Vm.Res.bind_ok, Vm.Res.Ok_ok, Vm.bindT, Vm.setAll, Vm.boolOf, Vm.isNon, Vm.b_add, Vm.b_sub, Vm.a_add, Vm.c_eq, Vm.c_ne, Vm.c_lt, Vm.c_le, Vm.c_gt, Vm.c_ge, Vm.Bf_len, Vm.Bf_sum, Vm.Bf_min2, Vm.wipeE, Vm.Tg.slots, Vm.lcTurn, Vm.forTurn, List.map_cons, List.map_nil, List.length_cons, List.length_nil, List.length_map, List.cons_append, List.nil_append, List.getElem?_cons_zero, List.getElem?_cons_succ, List.set_cons_zero, List.set_cons_succ, List.reduceReplicate, Nat.reduceSub, Nat.reduceAdd, Nat.zero_add, Int.toNat_natCast, Bool.not_true, Bool.not_false, decide_true, decide_false, if_true, if_false, hr, r1, mod_ok (i := re) (h := g1) (show 0 < k by omega), fdiv_ok (i := re) (h := g1) (show 0 < k by omega) (by omega), rd2]
    refine ⟨re % k, rfl, em.1, em.2, ⟨⟨sp, re / k, ca + 1, set_same e1, h1, Int.ediv_nonneg h2 (by omega), by omega, by omega⟩, ?_, few, ne⟩, b1.trans But.set⟩
    rw [set_other (Ne.symm ne)]
    exact cl1
  · have s1 := dix_ok e1 tk_spot
    have sd := dput_ok (v := .int (sp + 1)) e1 tk_spot' tk_len
    rw [tk_sspot] at sd
    generalize hh2 : g1.set a (.dct (tapK p (sp + 1) re (ca + 1))) = g2 at sd
    have e2 : g2[a]? = some (.dct (tapK p (sp + 1) re (ca + 1))) := by rw [← hh2]; exact set_same e1
    have cl2 : g2[p]? = some (.lst (cs.map PV.int)) := by rw [← hh2, set_other (Ne.symm ne)]; exact cl1
    have b2 : But a h g2 := b1.trans (by rw [← hh2]; exact But.set)
    clear hh2
    have ce := dix_ok e2 tk_cells
    have ln := Bf_len_ref (h := g2) cl2
    rw [List.length_map] at ln
    have len0 : (0 : Int) ≤ cs.length := by omega
    have pw0 : ∀ h : IH, binF .pow (.int 10) (.int 18) h = .ok (.int (10 ^ (18 : Int).toNat)) h := fun h => pow_ok (by decide) (by decide) (by decide) (by decide)
    have pw1 : ∀ (x : Int) (h : IH), binF .pow (.int (x % 2147483629 + 6007 * (ca + 1) + 11)) (.int 5) h = .ok (.int ((x % 2147483629 + 6007 * (ca + 1) + 11) ^ (5 : Int).toNat)) h := fun x h => by
      have em := em_bd (i := x) (show (0 : Int) < 2147483629 by decide)
      exact pow_ok (by decide) (by decide) (by omega) (by omega)
    have sq : 4099 * (ca + 1) * (ca + 1) ≤ 4099 * 100001 * 100001 := Int.mul_le_mul (by omega) (by omega) (by omega) (by omega)
    have sq0 : 0 ≤ 4099 * (ca + 1) * (ca + 1) := Int.mul_nonneg (by omega) (by omega)
    have pw2 : ∀ (x : Int) (h : IH), binF .pow (.int (x % 2147483647 + 4099 * (ca + 1) * (ca + 1))) (.int 5) h = .ok (.int ((x % 2147483647 + 4099 * (ca + 1) * (ca + 1)) ^ (5 : Int).toNat)) h := fun x h => by
      have em := em_bd (i := x) (show (0 : Int) < 2147483647 by decide)
      exact pow_ok (by decide) (by decide) (by omega) (by omega)
    have m1 : ∀ (x : Int) (h : IH), binF .mod (.int x) (.int 2147483629) h = .ok (.int (x % 2147483629)) h := fun x h => mod_ok (by decide)
    have m2 : ∀ (x : Int) (h : IH), binF .mod (.int x) (.int 2147483647) h = .ok (.int (x % 2147483647)) h := fun x h => mod_ok (by decide)
    have m3 : ∀ (x : Int) (h : IH), binF .mod (.int x) (.int 2147483587) h = .ok (.int (x % 2147483587)) h := fun x h => mod_ok (by decide)
    have m4 : ∀ (x : Int) (h : IH), binF .mod (.int x) (.int k) h = .ok (.int (x % k)) h := fun x h => mod_ok (by omega)
    have f1 : ∀ (x : Int) (h : IH), binF .fdiv (.int x) (.int 32) h = .ok (.int (x / 32)) h := fun x h => fdiv_ok (by decide) (by decide)
    have f2 : ∀ (x : Int) (h : IH), binF .fdiv (.int x) (.int k) h = .ok (.int (x / k)) h := fun x h => fdiv_ok (by omega) (by omega)
    have u1 : ∀ h : IH, binF .mul (.int 6007) (.int (ca + 1)) h = .ok (.int (6007 * (ca + 1))) h := fun h => mul_l (by decide) (by decide)
    have u2 : ∀ h : IH, binF .mul (.int 4099) (.int (ca + 1)) h = .ok (.int (4099 * (ca + 1))) h := fun h => mul_l (by decide) (by decide)
    have u3 : ∀ h : IH, binF .mul (.int (4099 * (ca + 1))) (.int (ca + 1)) h = .ok (.int (4099 * (ca + 1) * (ca + 1))) h := fun h => mul_r (by omega) (by omega)
    have fin : ∀ x : Int, ∃ v : Int, PV.int (x % k) = .int v ∧ 0 ≤ v ∧ v < k ∧ Tap g2 a p cs (n + 1) ∧ But a h g2 := fun x => by
      have em := em_bd (i := x) (show 0 < k by omega)
      exact ⟨x % k, rfl, em.1, em.2, ⟨⟨sp + 1, re, ca + 1, e2, by omega, h2, by omega, by omega⟩, cl2, few, ne⟩, b2⟩
    by_cases hc : (0 : Int) < cs.length
    · have em := em_bd (i := sp) hc
      have ix := ixF_ref cl2 em.1 em.2
      generalize cs.getD (sp % cs.length).toNat 0 = x at ix
      by_cases hs : sp < cs.length
      · by_cases hy : (10 : Int) ^ (18 : Int).toNat ≤ x
        · have rd3 := dput_ok (v := .int (x / k)) e2 tk_rest' tk_len
          rw [tk_srest] at rd3
          simp (config := { implicitDefEqProofs := false }) only [Vm.evF, Vm.evSs, Vm.evS, Vm.evX, Vm.evE, Vm.evEs, Vm.evIt, Vm.evPt, Vm.Res.bind_assoc, Vm.Res.bind_ok, Vm.Res.Ok_ok, Vm.bindT, Vm.setAll, Vm.boolOf, Vm.isNon, Vm.b_add, Vm.b_sub, Vm.a_add, Vm.c_eq, Vm.c_ne, Vm.c_lt, Vm.c_le, Vm.c_gt, Vm.c_ge, Vm.Bf_len, Vm.Bf_sum, Vm.Bf_min2, Vm.wipeE, Vm.Tg.slots, Vm.lcTurn, Vm.forTurn, List.map_cons, List.map_nil, List.length_cons, List.length_nil, List.length_map, List.cons_append, List.nil_append, List.getElem?_cons_zero, List.getElem?_cons_succ, List.set_cons_zero, List.set_cons_succ, List.reduceReplicate, Nat.reduceSub, Nat.reduceAdd, Nat.zero_add, Int.toNat_natCast, Bool.not_true, Bool.not_false, decide_true, decide_false, if_true, if_false, hr, s1, sd, ce, ln, hc, mod_ok (i := sp) (h := g2) hc, ix, hs, hy, pw0, f2, rd3, m4]
          have em2 := em_bd (i := x) (show 0 < k by omega)
          have x0 : 0 ≤ x := Int.le_trans (by decide) hy
          refine ⟨x % k, rfl, em2.1, em2.2, ⟨⟨sp + 1, x / k, ca + 1, set_same e2, by omega, Int.ediv_nonneg x0 (by omega), by omega, by omega⟩, ?_, few, ne⟩, b2.trans But.set⟩
          rw [set_other (Ne.symm ne)]
          exact cl2
        · simp (config := { implicitDefEqProofs := false }) only [Vm.evF, Vm.evSs, Vm.evS, Vm.evX, Vm.evE, Vm.evEs, Vm.evIt, Vm.evPt, Vm.Res.bind_assoc, Vm.Res.bind_ok, Vm.Res.Ok_ok, Vm.bindT, Vm.setAll, Vm.boolOf, Vm.isNon, Vm.b_add, Vm.b_sub, Vm.a_add, Vm.c_eq, Vm.c_ne, Vm.c_lt, Vm.c_le, Vm.c_gt, Vm.c_ge, Vm.Bf_len, Vm.Bf_sum, Vm.Bf_min2, Vm.wipeE, Vm.Tg.slots, Vm.lcTurn, Vm.forTurn, List.map_cons, List.map_nil, List.length_cons, List.length_nil, List.length_map, List.cons_append, List.nil_append, List.getElem?_cons_zero, List.getElem?_cons_succ, List.set_cons_zero, List.set_cons_succ, List.reduceReplicate, Nat.reduceSub, Nat.reduceAdd, Nat.zero_add, Int.toNat_natCast, Bool.not_true, Bool.not_false, decide_true, decide_false, if_true, if_false, hr, s1, sd, ce, ln, hc, mod_ok (i := sp) (h := g2) hc, ix, hs, hy, pw0, m1, u1, pw1, m2, u2, u3, pw2, m3, f1, m4]
          exact fin _
      · simp (config := { implicitDefEqProofs := false }) only [Vm.evF, Vm.evSs, Vm.evS, Vm.evX, Vm.evE, Vm.evEs, Vm.evIt, Vm.evPt, Vm.Res.bind_assoc, Vm.Res.bind_ok, Vm.Res.Ok_ok, Vm.bindT, Vm.setAll, Vm.boolOf, Vm.isNon, Vm.b_add, Vm.b_sub, Vm.a_add, Vm.c_eq, Vm.c_ne, Vm.c_lt, Vm.c_le, Vm.c_gt, Vm.c_ge, Vm.Bf_len, Vm.Bf_sum, Vm.Bf_min2, Vm.wipeE, Vm.Tg.slots, Vm.lcTurn, Vm.forTurn, List.map_cons, List.map_nil, List.length_cons, List.length_nil, List.length_map, List.cons_append, List.nil_append, List.getElem?_cons_zero, List.getElem?_cons_succ, List.set_cons_zero, List.set_cons_succ, List.reduceReplicate, Nat.reduceSub, Nat.reduceAdd, Nat.zero_add, Int.toNat_natCast, Bool.not_true, Bool.not_false, decide_true, decide_false, if_true, if_false, hr, s1, sd, ce, ln, hc, mod_ok (i := sp) (h := g2) hc, ix, hs, m1, u1, pw1, m2, u2, u3, pw2, m3, f1, m4]
        exact fin _
    · have hs : ¬ sp < cs.length := by omega
      simp (config := { implicitDefEqProofs := false }) only [Vm.evF, Vm.evSs, Vm.evS, Vm.evX, Vm.evE, Vm.evEs, Vm.evIt, Vm.evPt, Vm.Res.bind_assoc, Vm.Res.bind_ok, Vm.Res.Ok_ok, Vm.bindT, Vm.setAll, Vm.boolOf, Vm.isNon, Vm.b_add, Vm.b_sub, Vm.a_add, Vm.c_eq, Vm.c_ne, Vm.c_lt, Vm.c_le, Vm.c_gt, Vm.c_ge, Vm.Bf_len, Vm.Bf_sum, Vm.Bf_min2, Vm.wipeE, Vm.Tg.slots, Vm.lcTurn, Vm.forTurn, List.map_cons, List.map_nil, List.length_cons, List.length_nil, List.length_map, List.cons_append, List.nil_append, List.getElem?_cons_zero, List.getElem?_cons_succ, List.set_cons_zero, List.set_cons_succ, List.reduceReplicate, Nat.reduceSub, Nat.reduceAdd, Nat.zero_add, Int.toNat_natCast, Bool.not_true, Bool.not_false, decide_true, decide_false, if_true, if_false, hr, s1, sd, ce, ln, hc, hs, m1, u1, pw1, m2, u2, u3, pw2, m3, f1, m4]
      exact fin _
end
end K05

set_option Elab.async false
set_option linter.all false
set_option maxRecDepth 100000
set_option maxHeartbeats 4000000
namespace K05
open PySem PySem.Spec PyProof.Rows L2 Vm L06
/-! ### letters, words -/
abbrev lettersT : Str := "abcdefghijklmnopqrstuvwxyz"
theorem idx_all : ((List.range' 97 26).all fun c => decide (Builtin.Str.occurrences lettersT ⟨#[c]⟩ 0 lettersT.length 1 = [c - 97])) = true := by decide +kernel
theorem let_all : ((List.range 26).all fun j => decide (lettersT.cps.toList[j]? = some (97 + j))) = true := by decide +kernel
theorem idx_ok {c : Nat} {h : IH} (l : 97 ≤ c) (u : c ≤ 122) : sidxF (.str lettersT) (.str ⟨#[c]⟩) h = .ok (.int ((c - 97 : Nat) : Int)) h := by
  have q := List.all_eq_true.mp idx_all c (List.mem_range'_1.mpr (by omega))
  have e := of_decide_eq_true q
  unfold sidxF
  dsimp only
  rw [e]
theorem let_ok {j : Int} {h : IH} (l : 0 ≤ j) (u : j < 26) : ixF (.str lettersT) (.int j) h = .ok (.str ⟨#[97 + j.toNat]⟩) h := by
  have q := List.all_eq_true.mp let_all j.toNat (List.mem_range.mpr (by omega))
  have e := of_decide_eq_true q
  have z : lettersT.length ≤ sizeLine := by rw [sizeLine_eq]; decide
  unfold ixF
  dsimp only
  rw [if_pos z, show atI lettersT.cps.toList j = some (97 + j.toNat) from by unfold atI ixN; rw [if_pos l, if_pos (show j < (lettersT.cps.toList.length : Int) from by have := (List.getElem?_eq_some_iff.mp e).1; omega)]; exact e]
def shC (s c : Nat) : Nat := 97 + (c - 97 + s) % 26
def shW (s : Nat) (w : Str) : Str := Txt.join "" (w.cps.toList.map fun c => (⟨#[shC s c]⟩ : Str))
def words : List Str := ["a", "ab", "abc", "b", "town", "out", "age", "kin", "by", "abcdefgh", "abcdefgi", "zzzzzzzz"]
def isWB (t : Str) : Bool := decide (1 ≤ t.length) && decide (t.length ≤ 8) && t.cps.toList.all fun c => decide (97 ≤ c) && decide (c ≤ 122)
theorem isW_of {t : Str} (h : isWB t = true) : IsW t := by
  unfold isWB at h
  simp only [Bool.and_eq_true, decide_eq_true_eq, List.all_eq_true] at h
  exact ⟨h.1.1, h.1.2, fun c hc => h.2 c hc⟩
theorem words_raw : (words.all isWB) = true := by decide +kernel
theorem words_sh : ((List.range 26).all fun s => decide ((words.map (shW s)).Nodup) && (words.map (shW s)).all fun w => isWB w && !decide (w = "other")) = true := by decide +kernel
theorem words_nodup {s : Nat} (l : s < 26) : (words.map (shW s)).Nodup ∧ ∀ w ∈ words.map (shW s), IsW w ∧ w ≠ "other" := by
  have q := List.all_eq_true.mp words_sh s (List.mem_range.mpr l)
  rw [Bool.and_eq_true, decide_eq_true_eq, List.all_eq_true] at q
  exact ⟨q.1, fun w hw => by
    have := q.2 w hw
    rw [Bool.and_eq_true, Bool.not_eq_true', decide_eq_false_iff_not] at this
    exact ⟨isW_of this.1, this.2⟩⟩
theorem map_erase {α β : Type} (f : α → β) : ∀ (P : List α) (i : Nat), (P.map f).eraseIdx i = (P.eraseIdx i).map f
  | [], _ => rfl
  | x :: P, 0 => rfl
  | x :: P, i + 1 => by
    show f x :: (P.map f).eraseIdx i = f x :: (P.eraseIdx i).map f
    rw [map_erase f P i]
theorem pop_ok {h : IH} {a : Nat} {P : List Str} {j : Int} (e : h[a]? = some (.lst (P.map PV.str))) (h0 : 0 ≤ j) (h1 : j < P.length) (l : P.length ≤ 1000) :
    ∃ w, P[j.toNat]? = some w ∧ popF (.ref a) (.int j) h = .ok (.str w) (h.set a (.lst ((P.eraseIdx j.toNat).map PV.str))) := by
  have lt : j.toNat < P.length := by omega
  have c : 0 ≤ j ∧ j < ((P.map PV.str).length : Int) ∧ (P.map PV.str).length ≤ sizeLine := ⟨h0, by rw [List.length_map]; omega, by rw [List.length_map, sizeLine_eq]; omega⟩
  refine ⟨P[j.toNat], List.getElem?_eq_getElem lt, ?_⟩
  have g : (P.map PV.str)[j.toNat]? = some (.str P[j.toNat]) := by rw [List.getElem?_map, List.getElem?_eq_getElem lt]; rfl
  have er : (P.map PV.str).eraseIdx j.toNat = (P.eraseIdx j.toNat).map PV.str := by
    exact map_erase PV.str P j.toNat
  simp only [popF, e, g, er]
  rw [if_pos c]
theorem perm_pop {α : Type} : ∀ {P : List α} {i : Nat} {w : α}, P[i]? = some w → (w :: P.eraseIdx i).Perm P
  | [], i, w, e => by simp at e
  | x :: P, 0, w, e => by
    simp at e
    subst e
    exact List.Perm.refl _
  | x :: P, i + 1, w, e => by
    have q := perm_pop (P := P) (i := i) (w := w) (by simpa using e)
    exact (List.Perm.swap x w (P.eraseIdx i)).trans (q.cons x)
theorem join_ok {h : IH} {b : Nat} {zs : List Str} (e : h[b]? = some (.lst (zs.map PV.str))) (l : (zs.map (·.length)).sum ≤ 1000) : joinF (.str "") (.ref b) h = .ok (.str (Txt.join "" zs)) h := by
  have c : (zs.map (·.length)).sum + zs.length * ("" : Str).length ≤ 16777216 := by
    have : ("" : Str).length = 0 := by decide
    rw [this]
    omega
  simp only [joinF, rd_ref e, Option.bind_some, strsOf_map]
  rw [if_pos c]
theorem sum_one : ∀ (s : Nat) (l : List Nat), ((l.map fun c => (⟨#[shC s c]⟩ : Str)).map (·.length)).sum = l.length
  | s, [] => rfl
  | s, c :: l => by
    rw [List.map_cons, List.map_cons, List.sum_cons, sum_one s l, List.length_cons]
    show 1 + l.length = l.length + 1
    omega
def tailS : Ss → Ss
  | .cons _ t => t
  | .nil => .nil
theorem Bf_list_ref {xs : List PV} {h : IH} {a : Nat} (e : h[a]? = some (.lst xs)) (l : xs.length ≤ 1000000) : Bf 3 [.ref a] h = .ok (.ref h.length) (h ++ [.lst xs]) := by
  show biList [.ref a] h = _
  simp [biList, rd_ref e, new_ok l]
def towR : Ss := tailS b__law_towns
theorem But.app' {f : Nat} {h h' : IH} {z : IH} (x : But f h h') : But f h (h' ++ z) := x.trans (But.of (Ext.app h' z))
section
variable {h : IH} {N a p n : Nat} {cs : List Int}
theorem s_tap {ns : List Int} (hN : 1 ≤ N) : (sem Bf ds N 10 [.fl (ns.map PV.int)] []).Ok fun r h1 => ∃ a p cs, r = .ref a ∧ Tap h1 a p cs 0 := by
  obtain ⟨N, rfl, _⟩ := pre hN (by decide)
  rw [sem_at (d := d__law_tap) (L := 1) (b := b__law_tap) rfl rfl rfl]
  have six : HT.sIx (ns.map PV.int).length (ns.map PV.int).length (some 63) ≤ 63 := by
    simp only [HT.sIx]
    rw [if_neg (by decide)]
    exact Nat.min_le_left _ _
  have cl : (cutP (ns.map PV.int) none (some 63)) = (ns.take (HT.sIx (ns.map PV.int).length (ns.map PV.int).length (some 63))).map PV.int := by
    unfold cutP
    have z : HT.sIx (ns.map PV.int).length 0 none = 0 := rfl
    rw [z, List.drop_zero, Nat.sub_zero, List.map_take]
  generalize HT.sIx (ns.map PV.int).length (ns.map PV.int).length (some 63) = m at six cl
  have len : (ns.take m).length ≤ 63 := by rw [List.length_take]; omega
  have sl : slcF (.fl (ns.map PV.int)) none (some 63) [] = .ok (.ref 0) [.lst ((ns.take m).map PV.int)] := by
    show new [] (cutP (ns.map PV.int) none (some 63)) = _
    rw [cl, new_ok (by rw [List.length_map]; omega)]
    rfl
  have b3 : Bf 3 [.ref 0] [HV.lst ((ns.take m).map PV.int)] = .ok (.ref 1) [HV.lst ((ns.take m).map PV.int), HV.lst ((ns.take m).map PV.int)] := by
    rw [Bf_list_ref (a := 0) (xs := (ns.take m).map PV.int) rfl (by rw [List.length_map]; omega)]
    rfl
  have dl : dlitF "cells" (.ref 1) [("spot", 0), ("rest", 0), ("calls", 0)] [HV.lst ((ns.take m).map PV.int), HV.lst ((ns.take m).map PV.int)] = .ok (.ref 2) [HV.lst ((ns.take m).map PV.int), HV.lst ((ns.take m).map PV.int), HV.dct (tapK 1 0 0 0)] := by
    unfold dlitF
    rw [if_pos (by decide)]
    rfl
  simp (config := { implicitDefEqProofs := false }) only [Vm.evF, Vm.evSs, Vm.evS, Vm.evX, Vm.evE, Vm.evEs, Vm.evIt, Vm.evPt, Vm.Res.bind_assoc, Vm.Res.bind_ok, Vm.Res.Ok_ok, Vm.bindT, Vm.setAll, Vm.boolOf, Vm.isNon, Vm.b_add, Vm.b_sub, Vm.a_add, Vm.c_eq, Vm.c_ne, Vm.c_lt, Vm.c_le, Vm.c_gt, Vm.c_ge, Vm.Bf_len, Vm.Bf_sum, Vm.Bf_min2, Vm.wipeE, Vm.Tg.slots, Vm.lcTurn, Vm.forTurn, List.map_cons, List.map_nil, List.length_cons, List.length_nil, List.length_map, List.cons_append, List.nil_append, List.getElem?_cons_zero, List.getElem?_cons_succ, List.set_cons_zero, List.set_cons_succ, List.reduceReplicate, Nat.reduceSub, Nat.reduceAdd, Nat.zero_add, Int.toNat_natCast, Bool.not_true, Bool.not_false, decide_true, decide_false, if_true, if_false, b__law_tap, sl, b3, dl]
  exact ⟨2, 1, ns.take m, rfl, ⟨⟨0, 0, 0, rfl, by decide, by decide, by decide, by decide⟩, rfl, len, by decide⟩⟩
theorem s_towR {s : Int} (hN : 1 ≤ N) (t : Tap h a p cs n) (hn : n ≤ 1000) (s0 : 0 ≤ s) (s1 : s < 26) :
    (evSs (sem Bf ds N) Bf towR [some (.ref a), some (.int s), none, none, none, none, none, none] h).Ok fun o h1 => ∃ (b : Nat) (ts : List Str), o = .rt (.ref b) ∧ h1[b]? = some (.lst (ts.map PV.str)) ∧ ts.length = 6 ∧ ts.Nodup ∧ (∀ w ∈ ts, IsW w ∧ w ≠ "other") ∧ Tap h1 a p cs (n + 6) ∧ b ≠ a ∧ b ≠ p := by
  have e0 : towR = tailS b__law_towns := rfl
  have nl := new_ok (h := h) (xs := words.map PV.str) (by decide)
  have ew : words.map PV.str = [.str "a", .str "ab", .str "abc", .str "b", .str "town", .str "out", .str "age", .str "kin", .str "by", .str "abcdefgh", .str "abcdefgi", .str "zzzzzzzz"] := rfl
  rw [ew] at nl
  have nl2 := new_ok (h := h ++ [.lst [.str "a", .str "ab", .str "abc", .str "b", .str "town", .str "out", .str "age", .str "kin", .str "by", .str "abcdefgh", .str "abcdefgi", .str "zzzzzzzz"]]) (xs := []) (by decide)
  rw [e0]
  simp (config := { implicitDefEqProofs := false }) only [Vm.evF, Vm.evSs, Vm.evS, Vm.evX, Vm.evE, Vm.evEs, Vm.evIt, Vm.evPt, Vm.Res.bind_assoc, Vm.Res.bind_ok, Vm.Res.Ok_ok, Vm.bindT, Vm.setAll, Vm.boolOf, Vm.isNon, Vm.b_add, Vm.b_sub, Vm.a_add, Vm.c_eq, Vm.c_ne, Vm.c_lt, Vm.c_le, Vm.c_gt, Vm.c_ge, Vm.Bf_len, Vm.Bf_sum, Vm.Bf_min2, Vm.wipeE, Vm.Tg.slots, Vm.lcTurn, Vm.forTurn, List.map_cons, List.map_nil, List.length_cons, List.length_nil, List.length_map, List.cons_append, List.nil_append, List.getElem?_cons_zero, List.getElem?_cons_succ, List.set_cons_zero, List.set_cons_succ, List.reduceReplicate, Nat.reduceSub, Nat.reduceAdd, Nat.zero_add, Int.toNat_natCast, Bool.not_true, Bool.not_false, decide_true, decide_false, if_true, if_false, tailS, b__law_towns, nl, nl2]
  rw [rng_if (by decide) (by decide)]
  generalize hg0 : h ++ [HV.lst [.str "a", .str "ab", .str "abc", .str "b", .str "town", .str "out", .str "age", .str "kin", .str "by", .str "abcdefgh", .str "abcdefgi", .str "zzzzzzzz"]] ++ [HV.lst []] = g0
  generalize hf : (h ++ [HV.lst [.str "a", .str "ab", .str "abc", .str "b", .str "town", .str "out", .str "age", .str "kin", .str "by", .str "abcdefgh", .str "abcdefgi", .str "zzzzzzzz"]]).length = f
  have hq : g0[h.length]? = some (.lst (words.map PV.str)) := by
    rw [← hg0, List.append_assoc, List.getElem?_append_right (Nat.le_refl _), Nat.sub_self]
    rfl
  have hf2 : g0[f]? = some (.lst []) := by rw [← hg0, ← hf]; exact at_end _ _
  have fl : f = h.length + 1 := by rw [← hf]; simp
  have x0 : Ext h g0 := by rw [← hg0, List.append_assoc]; exact Ext.app _ _
  have lt := t.lt
  have t0 := t.app x0
  clear hg0 hf nl nl2 ew e0
  simp (config := { implicitDefEqProofs := false }) only [Vm.evF, Vm.evSs, Vm.evS, Vm.evX, Vm.evE, Vm.evEs, Vm.evIt, Vm.evPt, Vm.Res.bind_assoc, Vm.Res.bind_ok, Vm.Res.Ok_ok, Vm.bindT, Vm.setAll, Vm.boolOf, Vm.isNon, Vm.b_add, Vm.b_sub, Vm.a_add, Vm.c_eq, Vm.c_ne, Vm.c_lt, Vm.c_le, Vm.c_gt, Vm.c_ge, Vm.Bf_len, Vm.Bf_sum, Vm.Bf_min2, Vm.wipeE, Vm.Tg.slots, Vm.lcTurn, Vm.forTurn, List.map_cons, List.map_nil, List.length_cons, List.length_nil, List.length_map, List.cons_append, List.nil_append, List.getElem?_cons_zero, List.getElem?_cons_succ, List.set_cons_zero, List.set_cons_succ, List.reduceReplicate, Nat.reduceSub, Nat.reduceAdd, Nat.zero_add, Int.toNat_natCast, Bool.not_true, Bool.not_false, decide_true, decide_false, if_true, if_false]
  refine Res.ok_bind ((for_inv (xs := rngs 0 (6 : Int).toNat) (Q := fun o h1 => ∃ u v w, o = .nx [some (.ref a), some (.int s), some (.str lettersT), some (.ref h.length), some (.ref f), u, v, w] ∧ ∃ ts : List Str, h1[f]? = some (.lst (ts.map PV.str)) ∧ ts.length = 6 ∧ ts.Nodup ∧ (∀ w ∈ ts, IsW w ∧ w ≠ "other") ∧ Tap h1 a p cs (n + 6))
    (fun k ev1 h1 => (∃ u v w, ev1 = [some (.ref a), some (.int s), some (.str lettersT), some (.ref h.length), some (.ref f), u, v, w]) ∧ ∃ P F : List Str, h1[h.length]? = some (.lst (P.map PV.str)) ∧ h1[f]? = some (.lst ((F.map (shW s.toNat)).map PV.str)) ∧ F.length = k ∧ (P ++ F).Perm words ∧ Tap h1 a p cs (n + k) ∧ f < h1.length)
    (fun _ _ _ _ => rfl) (fun k x ev1 h1 e j => ?_) (fun ev1 h1 j => ?_) _ 0 _ g0 (by simp [Src.fuel]) (Nat.zero_le _) ⟨⟨_, _, _, rfl⟩, words, [], hq, hf2, rfl, by rw [List.append_nil], t0, (List.getElem?_eq_some_iff.mp hf2).1⟩).mono fun o h1 q => ?_)
  · obtain ⟨hk, rfl⟩ := rngs0_at e
    have hk6 : k < 6 := hk
    obtain ⟨⟨u, v, w, rfl⟩, P, F, eP, eF, lF, pm, t1, flt⟩ := j
    have lP : P.length = 12 - k := by
      have := pm.length_eq
      rw [List.length_append, lF] at this
      have e12 : words.length = 12 := rfl
      omega
    have lc1 : lstC (.ref h.length) h1 = true := by simp only [lstC, eP]
    have ln := Bf_len_ref (h := h1) eP
    rw [List.length_map] at ln
    simp (config := { implicitDefEqProofs := false }) only [Vm.evF, Vm.evSs, Vm.evS, Vm.evX, Vm.evE, Vm.evEs, Vm.evIt, Vm.evPt, Vm.Res.bind_assoc, Vm.Res.bind_ok, Vm.Res.Ok_ok, Vm.bindT, Vm.setAll, Vm.boolOf, Vm.isNon, Vm.b_add, Vm.b_sub, Vm.a_add, Vm.c_eq, Vm.c_ne, Vm.c_lt, Vm.c_le, Vm.c_gt, Vm.c_ge, Vm.Bf_len, Vm.Bf_sum, Vm.Bf_min2, Vm.wipeE, Vm.Tg.slots, Vm.lcTurn, Vm.forTurn, List.map_cons, List.map_nil, List.length_cons, List.length_nil, List.length_map, List.cons_append, List.nil_append, List.getElem?_cons_zero, List.getElem?_cons_succ, List.set_cons_zero, List.set_cons_succ, List.reduceReplicate, Nat.reduceSub, Nat.reduceAdd, Nat.zero_add, Int.toNat_natCast, Bool.not_true, Bool.not_false, decide_true, decide_false, if_true, if_false, lc1, ln]
    refine Res.ok_bind ((s_take (N := N) (h := h1) (k := (P.length : Int)) (by omega) t1 (by omega) (by omega) (by omega)).mono fun r h2 q => ?_)
    obtain ⟨i, rfl, i0, i1, t2, b2⟩ := q
    have eP2 := b2.get (by omega) eP
    have eF2 := b2.get (by omega) eF
    obtain ⟨wd, ew, pe⟩ := pop_ok (j := i) eP2 i0 i1 (by omega)
    generalize hh3 : h2.set h.length (.lst ((P.eraseIdx i.toNat).map PV.str)) = h3 at pe
    have eP3 : h3[h.length]? = some (.lst ((P.eraseIdx i.toNat).map PV.str)) := by rw [← hh3]; exact set_same eP2
    have eF3 : h3[f]? = some (.lst ((F.map (shW s.toNat)).map PV.str)) := by rw [← hh3, set_other (by omega)]; exact eF2
    have t3 : Tap h3 a p cs (n + k + 1) := by rw [← hh3]; exact t2.set (by omega) (by omega)
    clear hh3
    have mw : wd ∈ words := pm.mem_iff.mp (List.mem_append_left _ (List.mem_of_getElem? ew))
    have iw := isW_of (List.all_eq_true.mp words_raw wd mw)
    simp (config := { implicitDefEqProofs := false }) only [Vm.evF, Vm.evSs, Vm.evS, Vm.evX, Vm.evE, Vm.evEs, Vm.evIt, Vm.evPt, Vm.Res.bind_assoc, Vm.Res.bind_ok, Vm.Res.Ok_ok, Vm.bindT, Vm.setAll, Vm.boolOf, Vm.isNon, Vm.b_add, Vm.b_sub, Vm.a_add, Vm.c_eq, Vm.c_ne, Vm.c_lt, Vm.c_le, Vm.c_gt, Vm.c_ge, Vm.Bf_len, Vm.Bf_sum, Vm.Bf_min2, Vm.wipeE, Vm.Tg.slots, Vm.lcTurn, Vm.forTurn, List.map_cons, List.map_nil, List.length_cons, List.length_nil, List.length_map, List.cons_append, List.nil_append, List.getElem?_cons_zero, List.getElem?_cons_succ, List.set_cons_zero, List.set_cons_succ, List.reduceReplicate, Nat.reduceSub, Nat.reduceAdd, Nat.zero_add, Int.toNat_natCast, Bool.not_true, Bool.not_false, decide_true, decide_false, if_true, if_false, pe, eF3, strC]
    refine Res.ok_bind ((lc_pure (xs := Vm.signs wd) (h0 := h3) (fun x => match x with
      | .str z => (match z.cps.toList with
        | [c] => some (.str ⟨#[shC s.toNat c]⟩)
        | _ => none)
      | _ => none) get_items (by simp [Src.fuel]) (by
        have e1 : (Vm.signs wd).length = wd.length := by simp [Vm.signs, Str.length]
        have := iw.2.1
        omega) (fun k2 x h4 e4 x4 => ?_)).mono fun acc h4 q => ?_)
    · unfold Vm.signs at e4
      rw [List.getElem?_map] at e4
      cases ec : wd.cps.toList[k2]? with
      | none => rw [ec] at e4; cases e4
      | some c =>
        rw [ec] at e4
        cases e4
        have cb := iw.2.2 c (List.mem_of_getElem? ec)
        have em := em_bd (i := ((c - 97 : Nat) : Int) + s) (show (0 : Int) < 26 by decide)
        have es : 97 + (((c - 97 : Nat) : Int) + s) % 26 = ((shC s.toNat c : Nat) : Int) := by unfold shC; omega
        have es2 : 97 + ((((c - 97 : Nat) : Int) + s) % 26).toNat = shC s.toNat c := by omega
        refine Res.calm_of ?_
        simp (config := { implicitDefEqProofs := false }) only [Vm.evF, Vm.evSs, Vm.evS, Vm.evX, Vm.evE, Vm.evEs, Vm.evIt, Vm.evPt, Vm.Res.bind_assoc, Vm.Res.bind_ok, Vm.Res.Ok_ok, Vm.bindT, Vm.setAll, Vm.boolOf, Vm.isNon, Vm.b_add, Vm.b_sub, Vm.a_add, Vm.c_eq, Vm.c_ne, Vm.c_lt, Vm.c_le, Vm.c_gt, Vm.c_ge, Vm.Bf_len, Vm.Bf_sum, Vm.Bf_min2, Vm.wipeE, Vm.Tg.slots, Vm.lcTurn, Vm.forTurn, List.map_cons, List.map_nil, List.length_cons, List.length_nil, List.length_map, List.cons_append, List.nil_append, List.getElem?_cons_zero, List.getElem?_cons_succ, List.set_cons_zero, List.set_cons_succ, List.reduceReplicate, Nat.reduceSub, Nat.reduceAdd, Nat.zero_add, Int.toNat_natCast, Bool.not_true, Bool.not_false, decide_true, decide_false, if_true, if_false, strC, idx_ok (h := h4) cb.1 cb.2, mod_ok (i := ((c - 97 : Nat) : Int) + s) (h := h4) (show (0 : Int) < 26 by decide), let_ok (h := h4) em.1 em.2, es2]
        exact ⟨trivial, x4⟩
    · obtain ⟨rfl, x4⟩ := q
      have ea : (Vm.signs wd).filterMap (fun x => match x with
        | .str z => (match z.cps.toList with
          | [c] => some (.str ⟨#[shC s.toNat c]⟩)
          | _ => none)
        | _ => none) = (wd.cps.toList.map fun c => (⟨#[shC s.toNat c]⟩ : Str)).map PV.str := by
        unfold Vm.signs
        induction wd.cps.toList with
        | nil => rfl
        | cons c l ih => rw [List.map_cons, List.filterMap_cons, ih]; rfl
      rw [ea]
      have e5 : (h4 ++ [HV.lst ((wd.cps.toList.map fun c => (⟨#[shC s.toNat c]⟩ : Str)).map PV.str)])[h4.length]? = some (.lst ((wd.cps.toList.map fun c => (⟨#[shC s.toNat c]⟩ : Str)).map PV.str)) := at_end _ _
      have jn := join_ok e5 (by
        rw [sum_one]
        have e1 : wd.cps.toList.length = wd.length := by simp [Str.length]
        have := iw.2.1
        omega)
      have es : Txt.join "" (wd.cps.toList.map fun c => (⟨#[shC s.toNat c]⟩ : Str)) = shW s.toNat wd := rfl
      rw [es] at jn
      have eF5 : (h4 ++ [HV.lst ((wd.cps.toList.map fun c => (⟨#[shC s.toNat c]⟩ : Str)).map PV.str)])[f]? = some (.lst ((F.map (shW s.toNat)).map PV.str)) := (x4.trans (Ext.app h4 _)).get eF3
      have eP5 := (x4.trans (Ext.app h4 [HV.lst ((wd.cps.toList.map fun c => (⟨#[shC s.toNat c]⟩ : Str)).map PV.str)])).get eP3
      have t5 := t3.app (x4.trans (Ext.app h4 [HV.lst ((wd.cps.toList.map fun c => (⟨#[shC s.toNat c]⟩ : Str)).map PV.str)]))
      generalize h4 ++ [HV.lst ((wd.cps.toList.map fun c => (⟨#[shC s.toNat c]⟩ : Str)).map PV.str)] = h5 at jn eF5 eP5 t5 e5
      have ap := appF_ok (a := f) (v := .str (shW s.toNat wd)) eF5 (by rw [List.length_map, List.length_map, lF]; omega)
      simp (config := { implicitDefEqProofs := false }) only [Vm.evF, Vm.evSs, Vm.evS, Vm.evX, Vm.evE, Vm.evEs, Vm.evIt, Vm.evPt, Vm.Res.bind_assoc, Vm.Res.bind_ok, Vm.Res.Ok_ok, Vm.bindT, Vm.setAll, Vm.boolOf, Vm.isNon, Vm.b_add, Vm.b_sub, Vm.a_add, Vm.c_eq, Vm.c_ne, Vm.c_lt, Vm.c_le, Vm.c_gt, Vm.c_ge, Vm.Bf_len, Vm.Bf_sum, Vm.Bf_min2, Vm.wipeE, Vm.Tg.slots, Vm.lcTurn, Vm.forTurn, List.map_cons, List.map_nil, List.length_cons, List.length_nil, List.length_map, List.cons_append, List.nil_append, List.getElem?_cons_zero, List.getElem?_cons_succ, List.set_cons_zero, List.set_cons_succ, List.reduceReplicate, Nat.reduceSub, Nat.reduceAdd, Nat.zero_add, Int.toNat_natCast, Bool.not_true, Bool.not_false, decide_true, decide_false, if_true, if_false, jn, ap]
      refine ⟨⟨_, _, _, rfl⟩, P.eraseIdx i.toNat, F ++ [wd], ?_, ?_, by rw [List.length_append, lF]; rfl, ?_, t5.set (by omega) (by omega), ?_⟩
      · rw [set_other (by omega)]; exact eP5
      · rw [set_same eF5, List.map_append, List.map_append]; rfl
      · have p1 := perm_pop ew
        have p2 : (P.eraseIdx i.toNat ++ (F ++ [wd])).Perm (wd :: P.eraseIdx i.toNat ++ F) := by
          rw [← List.append_assoc]
          exact List.perm_append_singleton wd (P.eraseIdx i.toNat ++ F)
        exact (p2.trans (p1.append_right F)).trans pm
      · rw [List.length_set]
        exact (List.getElem?_eq_some_iff.mp eF5).1
  · obtain ⟨⟨u, v, w, rfl⟩, P, F, eP, eF, lF, pm, t1, flt⟩ := j
    have wn := words_nodup (s := s.toNat) (by omega)
    have pm2 := pm.map (shW s.toNat)
    rw [List.map_append] at pm2
    have nd := pm2.nodup_iff.mpr wn.1
    rw [List.nodup_append] at nd
    refine ⟨u, v, w, rfl, F.map (shW s.toNat), eF, by rw [List.length_map, lF]; rfl, nd.2.1, fun z hz => wn.2 z (pm2.mem_iff.mp (List.mem_append_right _ hz)), ?_⟩
    rw [rngs_len] at t1
    exact t1
  · obtain ⟨u, v, w, rfl, ts, e1, e2, e3, e4, t1⟩ := q
    simp (config := { implicitDefEqProofs := false }) only [Vm.evF, Vm.evSs, Vm.evS, Vm.evX, Vm.evE, Vm.evEs, Vm.evIt, Vm.evPt, Vm.Res.bind_assoc, Vm.Res.bind_ok, Vm.Res.Ok_ok, Vm.bindT, Vm.setAll, Vm.boolOf, Vm.isNon, Vm.b_add, Vm.b_sub, Vm.a_add, Vm.c_eq, Vm.c_ne, Vm.c_lt, Vm.c_le, Vm.c_gt, Vm.c_ge, Vm.Bf_len, Vm.Bf_sum, Vm.Bf_min2, Vm.wipeE, Vm.Tg.slots, Vm.lcTurn, Vm.forTurn, List.map_cons, List.map_nil, List.length_cons, List.length_nil, List.length_map, List.cons_append, List.nil_append, List.getElem?_cons_zero, List.getElem?_cons_succ, List.set_cons_zero, List.set_cons_succ, List.reduceReplicate, Nat.reduceSub, Nat.reduceAdd, Nat.zero_add, Int.toNat_natCast, Bool.not_true, Bool.not_false, decide_true, decide_false, if_true, if_false]
    exact ⟨f, ts, rfl, e1, e2, e3, e4, t1, by omega, by omega⟩
theorem s_towns (hN : 2 ≤ N) (t : Tap h a p cs n) (hn : n ≤ 900) :
    (sem Bf ds N 12 [.ref a] h).Ok fun r h1 => ∃ (b : Nat) (ts : List Str), r = .ref b ∧ h1[b]? = some (.lst (ts.map PV.str)) ∧ ts.length = 6 ∧ ts.Nodup ∧ (∀ w ∈ ts, IsW w ∧ w ≠ "other") ∧ Tap h1 a p cs (n + 8) ∧ b ≠ a ∧ b ≠ p := by
  obtain ⟨N, rfl, k⟩ := pre hN (by decide)
  rw [sem_at (d := d__law_towns) (L := 8) (b := b__law_towns) rfl rfl rfl]
  have e0 : b__law_towns = .cons (.x (.set (.one 1) (.ite (.cmp .eq (.call 11 (.cons (.var 0) (.cons (.int 3) .nil))) (.int 0)) (.int 0) (.call 11 (.cons (.var 0) (.cons (.int 26) .nil)))))) towR := rfl
  rw [e0]
  simp (config := { implicitDefEqProofs := false }) only [Vm.evF, Vm.evSs, Vm.evS, Vm.evX, Vm.evE, Vm.evEs, Vm.evIt, Vm.evPt, Vm.Res.bind_assoc, Vm.Res.bind_ok, Vm.Res.Ok_ok, Vm.bindT, Vm.setAll, Vm.boolOf, Vm.isNon, Vm.b_add, Vm.b_sub, Vm.a_add, Vm.c_eq, Vm.c_ne, Vm.c_lt, Vm.c_le, Vm.c_gt, Vm.c_ge, Vm.Bf_len, Vm.Bf_sum, Vm.Bf_min2, Vm.wipeE, Vm.Tg.slots, Vm.lcTurn, Vm.forTurn, List.map_cons, List.map_nil, List.length_cons, List.length_nil, List.length_map, List.cons_append, List.nil_append, List.getElem?_cons_zero, List.getElem?_cons_succ, List.set_cons_zero, List.set_cons_succ, List.reduceReplicate, Nat.reduceSub, Nat.reduceAdd, Nat.zero_add, Int.toNat_natCast, Bool.not_true, Bool.not_false, decide_true, decide_false, if_true, if_false]
  refine Res.ok_bind ((s_take (N := N) (h := h) (k := 3) (by omega) t (by omega) (by omega) (by omega)).mono fun r h1 q => ?_)
  obtain ⟨i, rfl, i0, i1, t1, b1⟩ := q
  by_cases hi : i = 0
  · simp (config := { implicitDefEqProofs := false }) only [Vm.evF, Vm.evSs, Vm.evS, Vm.evX, Vm.evE, Vm.evEs, Vm.evIt, Vm.evPt, Vm.Res.bind_assoc, Vm.Res.bind_ok, Vm.Res.Ok_ok, Vm.bindT, Vm.setAll, Vm.boolOf, Vm.isNon, Vm.b_add, Vm.b_sub, Vm.a_add, Vm.c_eq, Vm.c_ne, Vm.c_lt, Vm.c_le, Vm.c_gt, Vm.c_ge, Vm.Bf_len, Vm.Bf_sum, Vm.Bf_min2, Vm.wipeE, Vm.Tg.slots, Vm.lcTurn, Vm.forTurn, List.map_cons, List.map_nil, List.length_cons, List.length_nil, List.length_map, List.cons_append, List.nil_append, List.getElem?_cons_zero, List.getElem?_cons_succ, List.set_cons_zero, List.set_cons_succ, List.reduceReplicate, Nat.reduceSub, Nat.reduceAdd, Nat.zero_add, Int.toNat_natCast, Bool.not_true, Bool.not_false, decide_true, decide_false, if_true, if_false, hi]
    refine Res.ok_bind ((s_towR (N := N) (s := 0) (by omega) t1 (by omega) (by omega) (by omega)).mono fun o h2 q => ?_)
    obtain ⟨b, ts, rfl, e1, e2, e3, e4, t2, n1, n2⟩ := q
    exact ⟨b, ts, rfl, e1, e2, e3, e4, t2.mono (by omega), n1, n2⟩
  · simp (config := { implicitDefEqProofs := false }) only [Vm.evF, Vm.evSs, Vm.evS, Vm.evX, Vm.evE, Vm.evEs, Vm.evIt, Vm.evPt, Vm.Res.bind_assoc, Vm.Res.bind_ok, Vm.Res.Ok_ok, Vm.bindT, Vm.setAll, Vm.boolOf, Vm.isNon, Vm.b_add, Vm.b_sub, Vm.a_add, Vm.c_eq, Vm.c_ne, Vm.c_lt, Vm.c_le, Vm.c_gt, Vm.c_ge, Vm.Bf_len, Vm.Bf_sum, Vm.Bf_min2, Vm.wipeE, Vm.Tg.slots, Vm.lcTurn, Vm.forTurn, List.map_cons, List.map_nil, List.length_cons, List.length_nil, List.length_map, List.cons_append, List.nil_append, List.getElem?_cons_zero, List.getElem?_cons_succ, List.set_cons_zero, List.set_cons_succ, List.reduceReplicate, Nat.reduceSub, Nat.reduceAdd, Nat.zero_add, Int.toNat_natCast, Bool.not_true, Bool.not_false, decide_true, decide_false, if_true, if_false, hi]
    refine Res.ok_bind ((s_take (N := N) (h := h1) (k := 26) (by omega) t1 (by omega) (by omega) (by omega)).mono fun r h2 q => ?_)
    obtain ⟨v, rfl, v0, v1, t2, b2⟩ := q
    try simp (config := { implicitDefEqProofs := false }) only [Vm.evF, Vm.evSs, Vm.evS, Vm.evX, Vm.evE, Vm.evEs, Vm.evIt, Vm.evPt, Vm.Res.bind_assoc, Vm.Res.bind_ok, Vm.Res.Ok_ok, Vm.bindT, Vm.setAll, Vm.boolOf, Vm.isNon, Vm.b_add, Vm.b_sub, Vm.a_add, Vm.c_eq, Vm.c_ne, Vm.c_lt, Vm.c_le, Vm.c_gt, Vm.c_ge, Vm.Bf_len, Vm.Bf_sum, Vm.Bf_min2, Vm.wipeE, Vm.Tg.slots, Vm.lcTurn, Vm.forTurn, List.map_cons, List.map_nil, List.length_cons, List.length_nil, List.length_map, List.cons_append, List.nil_append, List.getElem?_cons_zero, List.getElem?_cons_succ, List.set_cons_zero, List.set_cons_succ, List.reduceReplicate, Nat.reduceSub, Nat.reduceAdd, Nat.zero_add, Int.toNat_natCast, Bool.not_true, Bool.not_false, decide_true, decide_false, if_true, if_false]
    refine Res.ok_bind ((s_towR (N := N) (s := v) (by omega) t2 (by omega) v0 v1).mono fun o h3 q => ?_)
    obtain ⟨b, ts, rfl, e1, e2, e3, e4, t3, n1, n2⟩ := q
    exact ⟨b, ts, rfl, e1, e2, e3, e4, t3.mono (by omega), n1, n2⟩
end
end K05

set_option Elab.async false
set_option linter.all false
set_option maxRecDepth 100000
set_option maxHeartbeats 4000000
namespace K05
open PySem PySem.Spec PyProof.Rows L2 Vm L06
/-! ### == of data -/
theorem seqO_strs {h : IH} {n : Nat} : ∀ zs : List Str, seqO ((zs.map PV.str).map (dataOf h (n + 1))) = some (zs.map PyData.str)
  | [] => rfl
  | z :: zs => by
    show (seqO ((zs.map PV.str).map (dataOf h (n + 1)))).map _ = _
    rw [seqO_strs zs]
    rfl
theorem data_list {h : IH} {a : Nat} {xs : List PV} {dts : List PyData} (e : h[a]? = some (.lst xs)) (q : seqO (xs.map (dataOf h 39)) = some dts) : dataOf h 40 (.ref a) = some (.list dts) := by
  show (match h[a]? with
    | some (.lst xs) => (seqO (xs.map (dataOf h 39))).map PyData.list
    | _ => none) = _
  rw [e]
  show (seqO (xs.map (dataOf h 39))).map PyData.list = _
  rw [q]
  rfl
theorem data_tup {h : IH} {xs : List PV} {dts : List PyData} (q : seqO (xs.map (dataOf h 39)) = some dts) : dataOf h 40 (.tup xs) = some (.tuple dts) := by
  show (seqO (xs.map (dataOf h 39))).map PyData.tuple = _
  rw [q]
  rfl
theorem strOk_of {z : Str} (h : IsW z) : PyData.strOk z = true := by
  unfold PyData.strOk
  rw [Array.all_eq_true']
  intro c hc
  have := h.2.2 c (Array.mem_toList_iff.mpr hc)
  exact decide_eq_true (by omega)
theorem lay_strs : ∀ zs : List Str, (∀ z ∈ zs, IsW z) → PyData.canLayAll0 (zs.map PyData.str) = true
  | [], _ => by simp [PyData.canLayAll0]
  | c :: cs, k => by
    have := lay_strs cs fun z hz => k z (List.mem_cons_of_mem _ hz)
    have ok := strOk_of (k c List.mem_cons_self)
    simp [PyData.canLayAll0, PyData.canLay0] at this ⊢
    exact ⟨ok, this⟩
theorem deep_strs : ∀ zs : List Str, PyData.depthAll (zs.map PyData.str) ≤ 1
  | [] => by simp [PyData.depthAll]
  | c :: cs => by
    have := deep_strs cs
    simp [PyData.depthAll, PyData.depth] at this ⊢
    omega
theorem shaped_strs (zs : List Str) (k : ∀ z ∈ zs, IsW z) : SeqAt.shaped (.list (zs.map PyData.str)) = true ∧ SeqAt.shaped (.tuple (zs.map PyData.str)) = true := by
  have a := lay_strs zs k
  have b := deep_strs zs
  constructor
  · unfold SeqAt.shaped
    rw [Bool.and_eq_true]
    exact ⟨by simpa [PyData.canLay0] using a, decide_eq_true (by simp only [PyData.depth]; omega)⟩
  · unfold SeqAt.shaped
    rw [Bool.and_eq_true]
    exact ⟨by simpa [PyData.canLay0] using a, decide_eq_true (by simp only [PyData.depth]; omega)⟩
theorem shaped_nil : SeqAt.shaped (.list []) = true ∧ SeqAt.shaped (.tuple []) = true := shaped_strs [] (by simp)
theorem eq_strs_nil {h : IH} {c d : Nat} {zs : List Str} (k : ∀ z ∈ zs, IsW z) (e : h[c]? = some (.lst (zs.map PV.str))) (e2 : h[d]? = some (.lst [])) : cmpF .eq (.ref c) (.ref d) h = .ok (.bl (decide (zs = []))) h := by
  show eqD false (.ref c) (.ref d) h = _
  have q1 := data_list e (seqO_strs (h := h) (n := 38) zs)
  have q2 := data_list e2 (show seqO (([] : List PV).map (dataOf h 39)) = some [] from rfl)
  simp only [eqD, q1, q2, shaped_strs zs k, shaped_nil, and_self, if_true]
  cases zs with
  | nil => simp [PyData.eqv, PyData.eqvAll]
  | cons z zs => simp [PyData.eqv, PyData.eqvAll]
theorem eq_nils {h : IH} {c d : Nat} (e : h[c]? = some (.lst [])) (e2 : h[d]? = some (.lst [])) : cmpF .eq (.ref c) (.ref d) h = .ok (.bl true) h ∧ cmpF .ne (.ref c) (.ref d) h = .ok (.bl false) h := eq_lists (cs := []) e e2
theorem eq_bls {h : IH} (x y : Bool) : cmpF .eq (.bl x) (.bl y) h = .ok (.bl (x == y)) h := by
  show eqD false (.bl x) (.bl y) h = _
  cases x <;> cases y <;> rfl
@[simp] theorem c_eqs {x y : Str} {h : IH} : cmpF .eq (.str x) (.str y) h = .ok (.bl (decide (x = y))) h := rfl
theorem cut4 {zs : List Str} {k : Nat} : cutP (zs.map PV.str) none (some (k : Int)) = (zs.take k).map PV.str := by
  unfold cutP
  have z : HT.sIx (zs.map PV.str).length 0 none = 0 := rfl
  rw [z, List.drop_zero, Nat.sub_zero, HT.sIx_nat, List.length_map, ← List.map_take]
  congr 1
  rw [← List.take_take, List.take_length]
theorem tsrt_ok {h : IH} {c : Nat} {zs : List Str} (e : h[c]? = some (.lst (zs.map PV.str))) (l : zs.length < 64) : tsrtF (.ref c) h = .ok (.ref h.length) (h ++ [.lst ((srtT zs).map PV.str)]) := by
  have n := new_ok (h := h) (xs := (srtT zs).map PV.str) (by rw [List.length_map, (srtT_perm zs).length_eq]; omega)
  simp only [tsrtF, e, strsOf_map, n]
  rw [if_pos l]
/-- the towns at b -/
structure Tn (h : IH) (b : Nat) (ts : List Str) : Prop where
  at' : h[b]? = some (.lst (ts.map PV.str))
  len : ts.length = 6
  nd : ts.Nodup
  ok : ∀ w ∈ ts, IsW w ∧ w ≠ "other"
theorem Tn.but {h h' : IH} {a b : Nat} {ts : List Str} (t : Tn h b ts) (x : But a h h') (n : b ≠ a) : Tn h' b ts := ⟨x.get n t.at', t.len, t.nd, t.ok⟩
theorem ixS {h : IH} {b : Nat} {zs : List Str} {i : Int} (e : h[b]? = some (.lst (zs.map PV.str))) (h0 : 0 ≤ i) (h1 : i < zs.length) : ∃ z, zs[i.toNat]? = some z ∧ ixF (.ref b) (.int i) h = .ok (.str z) h := by
  have lt : i.toNat < zs.length := by omega
  refine ⟨zs[i.toNat], List.getElem?_eq_getElem lt, ixF_rd (rd_ref e) h0 ?_⟩
  rw [List.getElem?_map, List.getElem?_eq_getElem lt]
  rfl
section
variable {h : IH} {N a p b n : Nat} {cs : List Int} {ts : List Str}
theorem s_number (hN : 2 ≤ N) (t : Tap h a p cs n) (hn : n ≤ 99000) : (sem Bf ds N 14 [.ref a] h).Ok fun r h1 => ∃ v : Int, r = .int v ∧ 0 ≤ v ∧ v < 200 ∧ Tap h1 a p cs (n + 2) ∧ But a h h1 := by
  obtain ⟨N, rfl, k⟩ := pre hN (by decide)
  rw [sem_at (d := d__law_number) (L := 1) (b := b__law_number) rfl rfl rfl]
  simp (config := { implicitDefEqProofs := false }) only [Vm.evF, Vm.evSs, Vm.evS, Vm.evX, Vm.evE, Vm.evEs, Vm.evIt, Vm.evPt, Vm.Res.bind_assoc, Vm.Res.bind_ok, Vm.Res.Ok_ok, Vm.bindT, Vm.setAll, Vm.boolOf, Vm.isNon, Vm.b_add, Vm.b_sub, Vm.a_add, Vm.c_eq, Vm.c_ne, Vm.c_lt, Vm.c_le, Vm.c_gt, Vm.c_ge, Vm.Bf_len, Vm.Bf_sum, Vm.Bf_min2, Vm.wipeE, Vm.Tg.slots, Vm.lcTurn, Vm.forTurn, List.map_cons, List.map_nil, List.length_cons, List.length_nil, List.length_map, List.cons_append, List.nil_append, List.getElem?_cons_zero, List.getElem?_cons_succ, List.set_cons_zero, List.set_cons_succ, List.reduceReplicate, Nat.reduceSub, Nat.reduceAdd, Nat.zero_add, Int.toNat_natCast, Bool.not_true, Bool.not_false, decide_true, decide_false, if_true, if_false, b__law_number]
  refine Res.ok_bind ((s_take (N := N) (h := h) (k := 8) (by omega) t (by omega) (by omega) (by omega)).mono fun r h1 q => ?_)
  obtain ⟨i, rfl, i0, i1, t1, b1⟩ := q
  by_cases hi : i = 0
  · simp (config := { implicitDefEqProofs := false }) only [Vm.evF, Vm.evSs, Vm.evS, Vm.evX, Vm.evE, Vm.evEs, Vm.evIt, Vm.evPt, Vm.Res.bind_assoc, Vm.Res.bind_ok, Vm.Res.Ok_ok, Vm.bindT, Vm.setAll, Vm.boolOf, Vm.isNon, Vm.b_add, Vm.b_sub, Vm.a_add, Vm.c_eq, Vm.c_ne, Vm.c_lt, Vm.c_le, Vm.c_gt, Vm.c_ge, Vm.Bf_len, Vm.Bf_sum, Vm.Bf_min2, Vm.wipeE, Vm.Tg.slots, Vm.lcTurn, Vm.forTurn, List.map_cons, List.map_nil, List.length_cons, List.length_nil, List.length_map, List.cons_append, List.nil_append, List.getElem?_cons_zero, List.getElem?_cons_succ, List.set_cons_zero, List.set_cons_succ, List.reduceReplicate, Nat.reduceSub, Nat.reduceAdd, Nat.zero_add, Int.toNat_natCast, Bool.not_true, Bool.not_false, decide_true, decide_false, if_true, if_false, hi]
    refine Res.ok_bind ((s_take (N := N) (h := h1) (k := 200) (by omega) t1 (by omega) (by omega) (by omega)).mono fun r h2 q => ?_)
    obtain ⟨v, rfl, v0, v1, t2, b2⟩ := q
    exact ⟨v, rfl, v0, v1, t2, b1.trans b2⟩
  · simp (config := { implicitDefEqProofs := false }) only [Vm.evF, Vm.evSs, Vm.evS, Vm.evX, Vm.evE, Vm.evEs, Vm.evIt, Vm.evPt, Vm.Res.bind_assoc, Vm.Res.bind_ok, Vm.Res.Ok_ok, Vm.bindT, Vm.setAll, Vm.boolOf, Vm.isNon, Vm.b_add, Vm.b_sub, Vm.a_add, Vm.c_eq, Vm.c_ne, Vm.c_lt, Vm.c_le, Vm.c_gt, Vm.c_ge, Vm.Bf_len, Vm.Bf_sum, Vm.Bf_min2, Vm.wipeE, Vm.Tg.slots, Vm.lcTurn, Vm.forTurn, List.map_cons, List.map_nil, List.length_cons, List.length_nil, List.length_map, List.cons_append, List.nil_append, List.getElem?_cons_zero, List.getElem?_cons_succ, List.set_cons_zero, List.set_cons_succ, List.reduceReplicate, Nat.reduceSub, Nat.reduceAdd, Nat.zero_add, Int.toNat_natCast, Bool.not_true, Bool.not_false, decide_true, decide_false, if_true, if_false, hi]
    refine Res.ok_bind ((s_take (N := N) (h := h1) (k := 5) (by omega) t1 (by omega) (by omega) (by omega)).mono fun r h2 q => ?_)
    obtain ⟨v, rfl, v0, v1, t2, b2⟩ := q
    exact ⟨v, rfl, v0, by omega, t2, b1.trans b2⟩
theorem s_some_end {zs : List Str} {ev : Ev} (hev : ev[2]? = some (some (.ref b))) (e : h[b]? = some (.lst (zs.map PV.str))) (hz : zs ≠ []) (hs : zs.Nodup) (hl : zs.length ≤ 6) (hw : ∀ z ∈ zs, IsW z ∧ z ≠ "other") :
    (evX (sem Bf ds N) Bf (.ret (.bi 2 (.cons (.tsrt (.slc (.var 2) .no (.yes (.int 4)))) .nil))) ev h).Ok fun o h1 => ∃ us : List Str, o = .rt (.tup (us.map PV.str)) ∧ us ≠ [] ∧ us.length ≤ 6 ∧ us.Pairwise TLt ∧ (∀ u ∈ us, IsW u ∧ u ≠ "other") ∧ Ext h h1 := by
  have sl : slcF (.ref b) none (some (4 : Int)) h = .ok (.ref h.length) (h ++ [.lst ((zs.take 4).map PV.str)]) := by
    have c4 := cut4 (zs := zs) (k := 4)
    show (match h[b]? with
      | some (.lst xs) => new h (cutP xs none (some 4))
      | _ => .stuck) = _
    rw [e]
    show new h (cutP (zs.map PV.str) none (some ((4 : Nat) : Int))) = _
    rw [c4, new_ok (by rw [List.length_map, List.length_take]; omega)]
  generalize hg : h ++ [HV.lst ((zs.take 4).map PV.str)] = g at sl
  have eg : g[h.length]? = some (.lst ((zs.take 4).map PV.str)) := by rw [← hg]; exact at_end _ _
  have xg : Ext h g := by rw [← hg]; exact Ext.app _ _
  have ts := tsrt_ok eg (by rw [List.length_take]; omega)
  have e3 : (g ++ [HV.lst ((srtT (zs.take 4)).map PV.str)])[g.length]? = some (.lst ((srtT (zs.take 4)).map PV.str)) := at_end _ _
  have bt := Bf_tuple e3
  simp (config := { implicitDefEqProofs := false }) only [Vm.evF, Vm.evSs, Vm.evS, Vm.evX, Vm.evE, Vm.evEs, Vm.evIt, Vm.evPt, Vm.Res.bind_assoc, Vm.Res.bind_ok, Vm.Res.Ok_ok, Vm.bindT, Vm.setAll, Vm.boolOf, Vm.isNon, Vm.b_add, Vm.b_sub, Vm.a_add, Vm.c_eq, Vm.c_ne, Vm.c_lt, Vm.c_le, Vm.c_gt, Vm.c_ge, Vm.Bf_len, Vm.Bf_sum, Vm.Bf_min2, Vm.wipeE, Vm.Tg.slots, Vm.lcTurn, Vm.forTurn, List.map_cons, List.map_nil, List.length_cons, List.length_nil, List.length_map, List.cons_append, List.nil_append, List.getElem?_cons_zero, List.getElem?_cons_succ, List.set_cons_zero, List.set_cons_succ, List.reduceReplicate, Nat.reduceSub, Nat.reduceAdd, Nat.zero_add, Int.toNat_natCast, Bool.not_true, Bool.not_false, decide_true, decide_false, if_true, if_false, hev, sl, ts, bt]
  have pm := srtT_perm (zs.take 4)
  have nd : (zs.take 4).Nodup := hs.sublist (List.take_sublist 4 zs)
  refine ⟨srtT (zs.take 4), rfl, fun z => ?_, ?_, srt_asc (srtT_srt _) (pm.nodup_iff.mpr nd), fun u hu => hw u (List.mem_of_mem_take (pm.mem_iff.mp hu)), xg.trans (Ext.app _ _)⟩
  · have l := pm.length_eq
    rw [z, List.length_take] at l
    have : 0 < zs.length := List.length_pos_iff.mpr hz
    simp at l
    omega
  · rw [pm.length_eq, List.length_take]
    omega
theorem s_some (hN : 2 ≤ N) (t : Tap h a p cs n) (hn : n ≤ 99000) (T : Tn h b ts) (nb : b ≠ a) :
    (sem Bf ds N 13 [.ref a, .ref b] h).Ok fun r h1 => ∃ us : List Str, r = .tup (us.map PV.str) ∧ us ≠ [] ∧ us.length ≤ 6 ∧ us.Pairwise TLt ∧ (∀ u ∈ us, IsW u ∧ u ≠ "other") ∧ Tap h1 a p cs (n + 7) ∧ But a h h1 := by
  obtain ⟨N, rfl, k⟩ := pre hN (by decide)
  rw [sem_at (d := d__law_some) (L := 4) (b := b__law_some) rfl rfl rfl]
  have e0 : b__law_some = .cons (.x (.set (.one 2) (.lc (.var 3) (.one 3) (.seq (.var 1)) (.cmp .eq (.call 11 (.cons (.var 0) (.cons (.int 2) .nil))) (.int 0))))) (.cons (.ifs (.cmp .eq (.var 2) (.lst (.nil))) (.cons (.x (.set (.one 2) (.lst (.cons (.ix (.var 1) (.call 11 (.cons (.var 0) (.cons (.int 6) .nil)))) .nil)))) .nil) (.nil)) (.cons (.x (.ret (.bi 2 (.cons (.tsrt (.slc (.var 2) .no (.yes (.int 4)))) .nil)))) .nil)) := rfl
  rw [e0]
  have eb := T.at'
  have T6 := T.len
  generalize hR : Sx.ret (.bi 2 (.cons (.tsrt (.slc (.var 2) .no (.yes (.int 4)))) .nil)) = R
  simp (config := { implicitDefEqProofs := false }) only [Vm.evF, Vm.evSs, Vm.evS, Vm.evX, Vm.evE, Vm.evEs, Vm.evIt, Vm.evPt, Vm.Res.bind_assoc, Vm.Res.bind_ok, Vm.Res.Ok_ok, Vm.bindT, Vm.setAll, Vm.boolOf, Vm.isNon, Vm.b_add, Vm.b_sub, Vm.a_add, Vm.c_eq, Vm.c_ne, Vm.c_lt, Vm.c_le, Vm.c_gt, Vm.c_ge, Vm.Bf_len, Vm.Bf_sum, Vm.Bf_min2, Vm.wipeE, Vm.Tg.slots, Vm.lcTurn, Vm.forTurn, List.map_cons, List.map_nil, List.length_cons, List.length_nil, List.length_map, List.cons_append, List.nil_append, List.getElem?_cons_zero, List.getElem?_cons_succ, List.set_cons_zero, List.set_cons_succ, List.reduceReplicate, Nat.reduceSub, Nat.reduceAdd, Nat.zero_add, Int.toNat_natCast, Bool.not_true, Bool.not_false, decide_true, decide_false, if_true, if_false, eb, fuel_heap eb]
  refine Res.ok_bind ((lc_inv (xs := ts.map PV.str) (src := .heap b) (fun k acc h1 => ∃ zs : List Str, acc = zs.map PV.str ∧ zs.Sublist (ts.take k) ∧ Tap h1 a p cs (n + k) ∧ But a h h1)
    (fun k acc h1 j => ?_) (by rw [List.length_map]; omega) (fun k x acc h1 e j => ?_) _ 0 [] h (by rw [List.length_map]; rfl) (Nat.zero_le _) (Nat.le_refl _) ⟨[], rfl, List.nil_sublist _, t, But.refl _ _⟩).mono fun acc h1 q => ?_)
  · obtain ⟨zs, _, _, _, b1⟩ := j
    simp only [Src.get, b1.get nb eb]
  · obtain ⟨zs, rfl, sb, t1, b1⟩ := j
    rw [List.getElem?_map] at e
    cases ez : ts[k]? with
    | none => rw [ez] at e; cases e
    | some z =>
      rw [ez] at e
      cases e
      have kl := (List.getElem?_eq_some_iff.mp ez).1
      refine Res.calm_of ?_
      simp (config := { implicitDefEqProofs := false }) only [Vm.evF, Vm.evSs, Vm.evS, Vm.evX, Vm.evE, Vm.evEs, Vm.evIt, Vm.evPt, Vm.Res.bind_assoc, Vm.Res.bind_ok, Vm.Res.Ok_ok, Vm.bindT, Vm.setAll, Vm.boolOf, Vm.isNon, Vm.b_add, Vm.b_sub, Vm.a_add, Vm.c_eq, Vm.c_ne, Vm.c_lt, Vm.c_le, Vm.c_gt, Vm.c_ge, Vm.Bf_len, Vm.Bf_sum, Vm.Bf_min2, Vm.wipeE, Vm.Tg.slots, Vm.lcTurn, Vm.forTurn, List.map_cons, List.map_nil, List.length_cons, List.length_nil, List.length_map, List.cons_append, List.nil_append, List.getElem?_cons_zero, List.getElem?_cons_succ, List.set_cons_zero, List.set_cons_succ, List.reduceReplicate, Nat.reduceSub, Nat.reduceAdd, Nat.zero_add, Int.toNat_natCast, Bool.not_true, Bool.not_false, decide_true, decide_false, if_true, if_false]
      refine Res.ok_bind ((s_take (N := N) (h := h1) (k := 2) (by omega) t1 (by omega) (by omega) (by omega)).mono fun r h2 q => ?_)
      obtain ⟨i, rfl, i0, i1, t2, b2⟩ := q
      have tk : ts.take (k + 1) = ts.take k ++ [z] := by rw [List.take_add_one, ez]; rfl
      by_cases hi : i = 0
      · simp (config := { implicitDefEqProofs := false }) only [Vm.evF, Vm.evSs, Vm.evS, Vm.evX, Vm.evE, Vm.evEs, Vm.evIt, Vm.evPt, Vm.Res.bind_assoc, Vm.Res.bind_ok, Vm.Res.Ok_ok, Vm.bindT, Vm.setAll, Vm.boolOf, Vm.isNon, Vm.b_add, Vm.b_sub, Vm.a_add, Vm.c_eq, Vm.c_ne, Vm.c_lt, Vm.c_le, Vm.c_gt, Vm.c_ge, Vm.Bf_len, Vm.Bf_sum, Vm.Bf_min2, Vm.wipeE, Vm.Tg.slots, Vm.lcTurn, Vm.forTurn, List.map_cons, List.map_nil, List.length_cons, List.length_nil, List.length_map, List.cons_append, List.nil_append, List.getElem?_cons_zero, List.getElem?_cons_succ, List.set_cons_zero, List.set_cons_succ, List.reduceReplicate, Nat.reduceSub, Nat.reduceAdd, Nat.zero_add, Int.toNat_natCast, Bool.not_true, Bool.not_false, decide_true, decide_false, if_true, if_false, hi]
        exact ⟨zs ++ [z], by rw [List.map_append]; rfl, by rw [tk]; exact sb.append (List.Sublist.refl _), t2, b1.trans b2⟩
      · simp (config := { implicitDefEqProofs := false }) only [Vm.evF, Vm.evSs, Vm.evS, Vm.evX, Vm.evE, Vm.evEs, Vm.evIt, Vm.evPt, Vm.Res.bind_assoc, Vm.Res.bind_ok, Vm.Res.Ok_ok, Vm.bindT, Vm.setAll, Vm.boolOf, Vm.isNon, Vm.b_add, Vm.b_sub, Vm.a_add, Vm.c_eq, Vm.c_ne, Vm.c_lt, Vm.c_le, Vm.c_gt, Vm.c_ge, Vm.Bf_len, Vm.Bf_sum, Vm.Bf_min2, Vm.wipeE, Vm.Tg.slots, Vm.lcTurn, Vm.forTurn, List.map_cons, List.map_nil, List.length_cons, List.length_nil, List.length_map, List.cons_append, List.nil_append, List.getElem?_cons_zero, List.getElem?_cons_succ, List.set_cons_zero, List.set_cons_succ, List.reduceReplicate, Nat.reduceSub, Nat.reduceAdd, Nat.zero_add, Int.toNat_natCast, Bool.not_true, Bool.not_false, decide_true, decide_false, if_true, if_false, hi]
        exact ⟨zs, rfl, by rw [tk]; exact sb.trans (List.sublist_append_left _ _), t2, b1.trans b2⟩
  · obtain ⟨zs, rfl, sb, t1, b1⟩ := q
    rw [List.length_map] at t1 sb
    have sb' := sb.trans (List.take_sublist _ ts)
    generalize hg : h1 ++ [HV.lst (zs.map PV.str)] = g
    have eg : g[h1.length]? = some (.lst (zs.map PV.str)) := by rw [← hg]; exact at_end _ _
    have bg : But a h g := by rw [← hg]; exact But.app' b1
    have tg : Tap g a p cs (n + 6) := by rw [← hg]; exact (t1.app (Ext.app _ _)).mono (by omega)
    have nl := new_ok (h := g) (xs := []) (by decide)
    have e1 : (g ++ [HV.lst []])[h1.length]? = some (.lst (zs.map PV.str)) := (Ext.app g _).get eg
    have e2 : (g ++ [HV.lst []])[g.length]? = some (.lst []) := at_end _ _
    have eq := eq_strs_nil (fun y hy => (T.ok y (sb'.subset hy)).1) e1 e2
    have bg2 : But a h (g ++ [HV.lst []]) := But.app' bg
    have tg2 := tg.app (Ext.app g [HV.lst []])
    have lt := (List.getElem?_eq_some_iff.mp eb).1
    generalize g ++ [HV.lst []] = g2 at nl e1 e2 eq bg2 tg2
    simp (config := { implicitDefEqProofs := false }) only [Vm.evF, Vm.evSs, Vm.evS, Vm.evX, Vm.evE, Vm.evEs, Vm.evIt, Vm.evPt, Vm.Res.bind_assoc, Vm.Res.bind_ok, Vm.Res.Ok_ok, Vm.bindT, Vm.setAll, Vm.boolOf, Vm.isNon, Vm.b_add, Vm.b_sub, Vm.a_add, Vm.c_eq, Vm.c_ne, Vm.c_lt, Vm.c_le, Vm.c_gt, Vm.c_ge, Vm.Bf_len, Vm.Bf_sum, Vm.Bf_min2, Vm.wipeE, Vm.Tg.slots, Vm.lcTurn, Vm.forTurn, List.map_cons, List.map_nil, List.length_cons, List.length_nil, List.length_map, List.cons_append, List.nil_append, List.getElem?_cons_zero, List.getElem?_cons_succ, List.set_cons_zero, List.set_cons_succ, List.reduceReplicate, Nat.reduceSub, Nat.reduceAdd, Nat.zero_add, Int.toNat_natCast, Bool.not_true, Bool.not_false, decide_true, decide_false, if_true, if_false, nl, eq]
    by_cases hz : zs = []
    · simp (config := { implicitDefEqProofs := false }) only [Vm.evF, Vm.evSs, Vm.evS, Vm.evX, Vm.evE, Vm.evEs, Vm.evIt, Vm.evPt, Vm.Res.bind_assoc, Vm.Res.bind_ok, Vm.Res.Ok_ok, Vm.bindT, Vm.setAll, Vm.boolOf, Vm.isNon, Vm.b_add, Vm.b_sub, Vm.a_add, Vm.c_eq, Vm.c_ne, Vm.c_lt, Vm.c_le, Vm.c_gt, Vm.c_ge, Vm.Bf_len, Vm.Bf_sum, Vm.Bf_min2, Vm.wipeE, Vm.Tg.slots, Vm.lcTurn, Vm.forTurn, List.map_cons, List.map_nil, List.length_cons, List.length_nil, List.length_map, List.cons_append, List.nil_append, List.getElem?_cons_zero, List.getElem?_cons_succ, List.set_cons_zero, List.set_cons_succ, List.reduceReplicate, Nat.reduceSub, Nat.reduceAdd, Nat.zero_add, Int.toNat_natCast, Bool.not_true, Bool.not_false, decide_true, decide_false, if_true, if_false, hz]
      refine Res.ok_bind ((s_take (N := N) (h := g2) (k := 6) (by omega) tg2 (by omega) (by omega) (by omega)).mono fun r h2 q => ?_)
      obtain ⟨i, rfl, i0, i1, t2, b2⟩ := q
      obtain ⟨z, ez, ix⟩ := ixS (i := i) ((bg2.trans b2).get nb eb) i0 (by omega)
      have nl2 := new_ok (h := h2) (xs := [.str z]) (by simp)
      simp (config := { implicitDefEqProofs := false }) only [Vm.evF, Vm.evSs, Vm.evS, Vm.evX, Vm.evE, Vm.evEs, Vm.evIt, Vm.evPt, Vm.Res.bind_assoc, Vm.Res.bind_ok, Vm.Res.Ok_ok, Vm.bindT, Vm.setAll, Vm.boolOf, Vm.isNon, Vm.b_add, Vm.b_sub, Vm.a_add, Vm.c_eq, Vm.c_ne, Vm.c_lt, Vm.c_le, Vm.c_gt, Vm.c_ge, Vm.Bf_len, Vm.Bf_sum, Vm.Bf_min2, Vm.wipeE, Vm.Tg.slots, Vm.lcTurn, Vm.forTurn, List.map_cons, List.map_nil, List.length_cons, List.length_nil, List.length_map, List.cons_append, List.nil_append, List.getElem?_cons_zero, List.getElem?_cons_succ, List.set_cons_zero, List.set_cons_succ, List.reduceReplicate, Nat.reduceSub, Nat.reduceAdd, Nat.zero_add, Int.toNat_natCast, Bool.not_true, Bool.not_false, decide_true, decide_false, if_true, if_false, ix, nl2]
      have e4 : (h2 ++ [HV.lst [PV.str z]])[h2.length]? = some (.lst ([z].map PV.str)) := at_end _ _
      rw [← hR]
      refine Res.ok_bind ((s_some_end (N := N) (b := h2.length) (zs := [z]) rfl e4 (by simp) (by simp) (by simp) (fun y hy => ?_)).mono fun o h3 q => ?_)
      · have : y = z := by simpa using hy
        subst this
        exact T.ok y (List.mem_of_getElem? ez)
      · obtain ⟨us, rfl, q1, q2, q3, q4, x3⟩ := q
        exact ⟨us, rfl, q1, q2, q3, q4, (t2.app ((Ext.app _ _).trans x3)).mono (by omega), (But.app' (bg2.trans b2)).trans (But.of x3)⟩
    · simp (config := { implicitDefEqProofs := false }) only [Vm.evF, Vm.evSs, Vm.evS, Vm.evX, Vm.evE, Vm.evEs, Vm.evIt, Vm.evPt, Vm.Res.bind_assoc, Vm.Res.bind_ok, Vm.Res.Ok_ok, Vm.bindT, Vm.setAll, Vm.boolOf, Vm.isNon, Vm.b_add, Vm.b_sub, Vm.a_add, Vm.c_eq, Vm.c_ne, Vm.c_lt, Vm.c_le, Vm.c_gt, Vm.c_ge, Vm.Bf_len, Vm.Bf_sum, Vm.Bf_min2, Vm.wipeE, Vm.Tg.slots, Vm.lcTurn, Vm.forTurn, List.map_cons, List.map_nil, List.length_cons, List.length_nil, List.length_map, List.cons_append, List.nil_append, List.getElem?_cons_zero, List.getElem?_cons_succ, List.set_cons_zero, List.set_cons_succ, List.reduceReplicate, Nat.reduceSub, Nat.reduceAdd, Nat.zero_add, Int.toNat_natCast, Bool.not_true, Bool.not_false, decide_true, decide_false, if_true, if_false, hz]
      rw [← hR]
      refine Res.ok_bind ((s_some_end (N := N) (b := h1.length) (zs := zs) rfl e1 hz (T.nd.sublist sb') (by have := sb'.length_le; omega) (fun y hy => T.ok y (sb'.subset hy))).mono fun o h3 q => ?_)
      obtain ⟨us, rfl, q1, q2, q3, q4, x3⟩ := q
      exact ⟨us, rfl, q1, q2, q3, q4, (tg2.app x3).mono (by omega), bg2.trans (But.of x3)⟩
end
end K05

set_option Elab.async false
set_option linter.all false
set_option maxRecDepth 100000
set_option maxHeartbeats 4000000
namespace K05
open PySem PySem.Spec PyProof.Rows L2 Vm L06
def Lo (l : Lit) : Prop := match l with
  | .tw _ us => ("other" : Str) ∉ us
  | .kn _ v => v ≤ 1000
  | .ag f e => f ≤ 1000 ∧ ∀ x, e = some x → x ≤ 1000
theorem ixL {h : IH} {xs : List PV} {i : Int} {x : PV} (h0 : 0 ≤ i) (e : xs[i.toNat]? = some x) : ixF (.ref h.length) (.int i) (h ++ [.lst xs]) = .ok x (h ++ [.lst xs]) := ixF_rd (rd_ref (at_end _ _)) h0 e
section
variable {h : IH} {N a p b n : Nat} {cs : List Int} {ts : List Str}
theorem s_literal (hN : 3 ≤ N) (t : Tap h a p cs n) (hn : n ≤ 90000) (T : Tn h b ts) (nb : b ≠ a) :
    (sem Bf ds N 15 [.ref a, .ref b] h).Ok fun r h1 => ∃ l : Lit, r = l.pv ∧ (l.Ok ∧ Lo l) ∧ Tap h1 a p cs (n + 20) ∧ But a h h1 := by
  obtain ⟨N, rfl, k⟩ := pre hN (by decide)
  rw [sem_at (d := d__law_literal) (L := 4) (b := b__law_literal) rfl rfl rfl]
  simp (config := { implicitDefEqProofs := false }) only [Vm.evF, Vm.evSs, Vm.evS, Vm.evX, Vm.evE, Vm.evEs, Vm.evIt, Vm.evPt, Vm.Res.bind_assoc, Vm.Res.bind_ok, Vm.Res.Ok_ok, Vm.bindT, Vm.setAll, Vm.boolOf, Vm.isNon, Vm.b_add, Vm.b_sub, Vm.a_add, Vm.c_eq, Vm.c_ne, Vm.c_lt, Vm.c_le, Vm.c_gt, Vm.c_ge, Vm.Bf_len, Vm.Bf_sum, Vm.Bf_min2, Vm.wipeE, Vm.Tg.slots, Vm.lcTurn, Vm.forTurn, List.map_cons, List.map_nil, List.length_cons, List.length_nil, List.length_map, List.cons_append, List.nil_append, List.getElem?_cons_zero, List.getElem?_cons_succ, List.set_cons_zero, List.set_cons_succ, List.reduceReplicate, Nat.reduceSub, Nat.reduceAdd, Nat.zero_add, Int.toNat_natCast, Bool.not_true, Bool.not_false, decide_true, decide_false, if_true, if_false, b__law_literal]
  refine Res.ok_bind ((s_take (N := N) (h := h) (k := 6) (by omega) t (by omega) (by omega) (by omega)).mono fun r h1 q => ?_)
  obtain ⟨i, rfl, i0, i1, t1, b1⟩ := q
  by_cases h2 : i < 2
  · have nl := new_ok (h := h1) (xs := [.str "town", .str "out"]) (by simp)
    have ix : ixF (.ref h1.length) (.int i) (h1 ++ [.lst [.str "town", .str "out"]]) = .ok (.str (twS (decide (i = 0)))) (h1 ++ [.lst [.str "town", .str "out"]]) := by
      rcases (show i = 0 ∨ i = 1 by omega) with rfl | rfl
      · exact ixL (by decide) rfl
      · exact ixL (by decide) rfl
    have t2 := t1.app (Ext.app h1 [HV.lst [.str "town", .str "out"]])
    have b2 : But a h (h1 ++ [HV.lst [.str "town", .str "out"]]) := But.app' b1
    generalize h1 ++ [HV.lst [PV.str "town", .str "out"]] = g at nl ix t2 b2
    simp (config := { implicitDefEqProofs := false }) only [Vm.evF, Vm.evSs, Vm.evS, Vm.evX, Vm.evE, Vm.evEs, Vm.evIt, Vm.evPt, Vm.Res.bind_assoc, Vm.Res.bind_ok, Vm.Res.Ok_ok, Vm.bindT, Vm.setAll, Vm.boolOf, Vm.isNon, Vm.b_add, Vm.b_sub, Vm.a_add, Vm.c_eq, Vm.c_ne, Vm.c_lt, Vm.c_le, Vm.c_gt, Vm.c_ge, Vm.Bf_len, Vm.Bf_sum, Vm.Bf_min2, Vm.wipeE, Vm.Tg.slots, Vm.lcTurn, Vm.forTurn, List.map_cons, List.map_nil, List.length_cons, List.length_nil, List.length_map, List.cons_append, List.nil_append, List.getElem?_cons_zero, List.getElem?_cons_succ, List.set_cons_zero, List.set_cons_succ, List.reduceReplicate, Nat.reduceSub, Nat.reduceAdd, Nat.zero_add, Int.toNat_natCast, Bool.not_true, Bool.not_false, decide_true, decide_false, if_true, if_false, h2, nl, ix]
    refine Res.ok_bind ((s_some (N := N) (h := g) (by omega) t2 (by omega) (T.but b2 nb) nb).mono fun r h3 q => ?_)
    obtain ⟨us, rfl, q1, q2, q3, q4, t3, b3⟩ := q
    have nt := newT_ok (h := h3) (xs := [.str (twS (decide (i = 0))), .tup (us.map PV.str)]) (by simp)
    simp (config := { implicitDefEqProofs := false }) only [Vm.evF, Vm.evSs, Vm.evS, Vm.evX, Vm.evE, Vm.evEs, Vm.evIt, Vm.evPt, Vm.Res.bind_assoc, Vm.Res.bind_ok, Vm.Res.Ok_ok, Vm.bindT, Vm.setAll, Vm.boolOf, Vm.isNon, Vm.b_add, Vm.b_sub, Vm.a_add, Vm.c_eq, Vm.c_ne, Vm.c_lt, Vm.c_le, Vm.c_gt, Vm.c_ge, Vm.Bf_len, Vm.Bf_sum, Vm.Bf_min2, Vm.wipeE, Vm.Tg.slots, Vm.lcTurn, Vm.forTurn, List.map_cons, List.map_nil, List.length_cons, List.length_nil, List.length_map, List.cons_append, List.nil_append, List.getElem?_cons_zero, List.getElem?_cons_succ, List.set_cons_zero, List.set_cons_succ, List.reduceReplicate, Nat.reduceSub, Nat.reduceAdd, Nat.zero_add, Int.toNat_natCast, Bool.not_true, Bool.not_false, decide_true, decide_false, if_true, if_false, nt]
    exact ⟨.tw (decide (i = 0)) us, rfl, ⟨⟨q1, q2, q3, fun u hu => (q4 u hu).1⟩, fun m => (q4 _ m).2 rfl⟩, t3.mono (by omega), b2.trans b3⟩
  · by_cases h4 : i < 4
    · have nl := new_ok (h := h1) (xs := [.str "kin", .str "far"]) (by simp)
      have ix : ixF (.ref h1.length) (.int (i - 2)) (h1 ++ [.lst [.str "kin", .str "far"]]) = .ok (.str (knS (decide (i = 2)))) (h1 ++ [.lst [.str "kin", .str "far"]]) := by
        rcases (show i = 2 ∨ i = 3 by omega) with rfl | rfl
        · exact ixL (by decide) rfl
        · exact ixL (by decide) rfl
      have t2 := t1.app (Ext.app h1 [HV.lst [.str "kin", .str "far"]])
      have b2 : But a h (h1 ++ [HV.lst [.str "kin", .str "far"]]) := But.app' b1
      generalize h1 ++ [HV.lst [PV.str "kin", .str "far"]] = g at nl ix t2 b2
      simp (config := { implicitDefEqProofs := false }) only [Vm.evF, Vm.evSs, Vm.evS, Vm.evX, Vm.evE, Vm.evEs, Vm.evIt, Vm.evPt, Vm.Res.bind_assoc, Vm.Res.bind_ok, Vm.Res.Ok_ok, Vm.bindT, Vm.setAll, Vm.boolOf, Vm.isNon, Vm.b_add, Vm.b_sub, Vm.a_add, Vm.c_eq, Vm.c_ne, Vm.c_lt, Vm.c_le, Vm.c_gt, Vm.c_ge, Vm.Bf_len, Vm.Bf_sum, Vm.Bf_min2, Vm.wipeE, Vm.Tg.slots, Vm.lcTurn, Vm.forTurn, List.map_cons, List.map_nil, List.length_cons, List.length_nil, List.length_map, List.cons_append, List.nil_append, List.getElem?_cons_zero, List.getElem?_cons_succ, List.set_cons_zero, List.set_cons_succ, List.reduceReplicate, Nat.reduceSub, Nat.reduceAdd, Nat.zero_add, Int.toNat_natCast, Bool.not_true, Bool.not_false, decide_true, decide_false, if_true, if_false, h2, h4, nl, ix]
      refine Res.ok_bind ((s_number (N := N) (h := g) (by omega) t2 (by omega)).mono fun r h3 q => ?_)
      obtain ⟨v, rfl, v0, v1, t3, b3⟩ := q
      have nt := newT_ok (h := h3) (xs := [.str (knS (decide (i = 2))), .int v]) (by simp)
      simp (config := { implicitDefEqProofs := false }) only [Vm.evF, Vm.evSs, Vm.evS, Vm.evX, Vm.evE, Vm.evEs, Vm.evIt, Vm.evPt, Vm.Res.bind_assoc, Vm.Res.bind_ok, Vm.Res.Ok_ok, Vm.bindT, Vm.setAll, Vm.boolOf, Vm.isNon, Vm.b_add, Vm.b_sub, Vm.a_add, Vm.c_eq, Vm.c_ne, Vm.c_lt, Vm.c_le, Vm.c_gt, Vm.c_ge, Vm.Bf_len, Vm.Bf_sum, Vm.Bf_min2, Vm.wipeE, Vm.Tg.slots, Vm.lcTurn, Vm.forTurn, List.map_cons, List.map_nil, List.length_cons, List.length_nil, List.length_map, List.cons_append, List.nil_append, List.getElem?_cons_zero, List.getElem?_cons_succ, List.set_cons_zero, List.set_cons_succ, List.reduceReplicate, Nat.reduceSub, Nat.reduceAdd, Nat.zero_add, Int.toNat_natCast, Bool.not_true, Bool.not_false, decide_true, decide_false, if_true, if_false, nt]
      exact ⟨.kn (decide (i = 2)) v, rfl, ⟨v0, by show v ≤ 1000; omega⟩, t3.mono (by omega), b2.trans b3⟩
    · simp (config := { implicitDefEqProofs := false }) only [Vm.evF, Vm.evSs, Vm.evS, Vm.evX, Vm.evE, Vm.evEs, Vm.evIt, Vm.evPt, Vm.Res.bind_assoc, Vm.Res.bind_ok, Vm.Res.Ok_ok, Vm.bindT, Vm.setAll, Vm.boolOf, Vm.isNon, Vm.b_add, Vm.b_sub, Vm.a_add, Vm.c_eq, Vm.c_ne, Vm.c_lt, Vm.c_le, Vm.c_gt, Vm.c_ge, Vm.Bf_len, Vm.Bf_sum, Vm.Bf_min2, Vm.wipeE, Vm.Tg.slots, Vm.lcTurn, Vm.forTurn, List.map_cons, List.map_nil, List.length_cons, List.length_nil, List.length_map, List.cons_append, List.nil_append, List.getElem?_cons_zero, List.getElem?_cons_succ, List.set_cons_zero, List.set_cons_succ, List.reduceReplicate, Nat.reduceSub, Nat.reduceAdd, Nat.zero_add, Int.toNat_natCast, Bool.not_true, Bool.not_false, decide_true, decide_false, if_true, if_false, h2, h4]
      refine Res.ok_bind ((s_number (N := N) (h := h1) (by omega) t1 (by omega)).mono fun r h3 q => ?_)
      obtain ⟨v, rfl, v0, v1, t3, b3⟩ := q
      try simp (config := { implicitDefEqProofs := false }) only [Vm.evF, Vm.evSs, Vm.evS, Vm.evX, Vm.evE, Vm.evEs, Vm.evIt, Vm.evPt, Vm.Res.bind_assoc, Vm.Res.bind_ok, Vm.Res.Ok_ok, Vm.bindT, Vm.setAll, Vm.boolOf, Vm.isNon, Vm.b_add, Vm.b_sub, Vm.a_add, Vm.c_eq, Vm.c_ne, Vm.c_lt, Vm.c_le, Vm.c_gt, Vm.c_ge, Vm.Bf_len, Vm.Bf_sum, Vm.Bf_min2, Vm.wipeE, Vm.Tg.slots, Vm.lcTurn, Vm.forTurn, List.map_cons, List.map_nil, List.length_cons, List.length_nil, List.length_map, List.cons_append, List.nil_append, List.getElem?_cons_zero, List.getElem?_cons_succ, List.set_cons_zero, List.set_cons_succ, List.reduceReplicate, Nat.reduceSub, Nat.reduceAdd, Nat.zero_add, Int.toNat_natCast, Bool.not_true, Bool.not_false, decide_true, decide_false, if_true, if_false]
      refine Res.ok_bind ((s_take (N := N) (h := h3) (k := 9) (by omega) t3 (by omega) (by omega) (by omega)).mono fun r h4' q => ?_)
      obtain ⟨u, rfl, u0, u1, t4, b4⟩ := q
      have nl := new_ok (h := h4') (xs := [.int 0, .int v, .int (10 * u)]) (by simp)
      simp (config := { implicitDefEqProofs := false }) only [Vm.evF, Vm.evSs, Vm.evS, Vm.evX, Vm.evE, Vm.evEs, Vm.evIt, Vm.evPt, Vm.Res.bind_assoc, Vm.Res.bind_ok, Vm.Res.Ok_ok, Vm.bindT, Vm.setAll, Vm.boolOf, Vm.isNon, Vm.b_add, Vm.b_sub, Vm.a_add, Vm.c_eq, Vm.c_ne, Vm.c_lt, Vm.c_le, Vm.c_gt, Vm.c_ge, Vm.Bf_len, Vm.Bf_sum, Vm.Bf_min2, Vm.wipeE, Vm.Tg.slots, Vm.lcTurn, Vm.forTurn, List.map_cons, List.map_nil, List.length_cons, List.length_nil, List.length_map, List.cons_append, List.nil_append, List.getElem?_cons_zero, List.getElem?_cons_succ, List.set_cons_zero, List.set_cons_succ, List.reduceReplicate, Nat.reduceSub, Nat.reduceAdd, Nat.zero_add, Int.toNat_natCast, Bool.not_true, Bool.not_false, decide_true, decide_false, if_true, if_false, mul_l (i := 10) (j := u) (h := h4') (by decide) (by decide), nl]
      have t5 := t4.app (Ext.app h4' [HV.lst [.int 0, .int v, .int (10 * u)]])
      have b5 : But a h (h4' ++ [HV.lst [.int 0, .int v, .int (10 * u)]]) := But.app' ((b1.trans b3).trans b4)
      have e5 : (h4' ++ [HV.lst [.int 0, .int v, .int (10 * u)]])[h4'.length]? = some (.lst (([0, v, 10 * u] : List Int).map PV.int)) := at_end _ _
      have n5 : h4'.length ≠ a := by have := t4.lt; omega
      generalize h4' ++ [HV.lst [PV.int 0, .int v, .int (10 * u)]] = g at nl t5 b5 e5
      refine Res.ok_bind ((s_take (N := N) (h := g) (k := 3) (by omega) t5 (by omega) (by omega) (by omega)).mono fun r h6 q => ?_)
      obtain ⟨j, rfl, j0, j1, t6, b6⟩ := q
      have ix := ixF_ref (s := j) (b6.get n5 e5) j0 (by simp; omega)
      have fb : 0 ≤ ([0, v, 10 * u] : List Int).getD j.toNat 0 ∧ ([0, v, 10 * u] : List Int).getD j.toNat 0 < 200 := by
        rcases (show j = 0 ∨ j = 1 ∨ j = 2 by omega) with rfl | rfl | rfl
        · show (0 : Int) ≤ 0 ∧ (0 : Int) < 200
          omega
        · exact ⟨v0, v1⟩
        · show 0 ≤ 10 * u ∧ 10 * u < 200
          omega
      generalize ([0, v, 10 * u] : List Int).getD j.toNat 0 = f at ix fb
      simp (config := { implicitDefEqProofs := false }) only [Vm.evF, Vm.evSs, Vm.evS, Vm.evX, Vm.evE, Vm.evEs, Vm.evIt, Vm.evPt, Vm.Res.bind_assoc, Vm.Res.bind_ok, Vm.Res.Ok_ok, Vm.bindT, Vm.setAll, Vm.boolOf, Vm.isNon, Vm.b_add, Vm.b_sub, Vm.a_add, Vm.c_eq, Vm.c_ne, Vm.c_lt, Vm.c_le, Vm.c_gt, Vm.c_ge, Vm.Bf_len, Vm.Bf_sum, Vm.Bf_min2, Vm.wipeE, Vm.Tg.slots, Vm.lcTurn, Vm.forTurn, List.map_cons, List.map_nil, List.length_cons, List.length_nil, List.length_map, List.cons_append, List.nil_append, List.getElem?_cons_zero, List.getElem?_cons_succ, List.set_cons_zero, List.set_cons_succ, List.reduceReplicate, Nat.reduceSub, Nat.reduceAdd, Nat.zero_add, Int.toNat_natCast, Bool.not_true, Bool.not_false, decide_true, decide_false, if_true, if_false, ix]
      refine Res.ok_bind ((s_take (N := N) (h := h6) (k := 3) (by omega) t6 (by omega) (by omega) (by omega)).mono fun r h7 q => ?_)
      obtain ⟨z, rfl, z0, z1, t7, b7⟩ := q
      by_cases hz : z = 0
      · have nt := newT_ok (h := h7) (xs := [.str "age", .int f, .non]) (by simp)
        simp (config := { implicitDefEqProofs := false }) only [Vm.evF, Vm.evSs, Vm.evS, Vm.evX, Vm.evE, Vm.evEs, Vm.evIt, Vm.evPt, Vm.Res.bind_assoc, Vm.Res.bind_ok, Vm.Res.Ok_ok, Vm.bindT, Vm.setAll, Vm.boolOf, Vm.isNon, Vm.b_add, Vm.b_sub, Vm.a_add, Vm.c_eq, Vm.c_ne, Vm.c_lt, Vm.c_le, Vm.c_gt, Vm.c_ge, Vm.Bf_len, Vm.Bf_sum, Vm.Bf_min2, Vm.wipeE, Vm.Tg.slots, Vm.lcTurn, Vm.forTurn, List.map_cons, List.map_nil, List.length_cons, List.length_nil, List.length_map, List.cons_append, List.nil_append, List.getElem?_cons_zero, List.getElem?_cons_succ, List.set_cons_zero, List.set_cons_succ, List.reduceReplicate, Nat.reduceSub, Nat.reduceAdd, Nat.zero_add, Int.toNat_natCast, Bool.not_true, Bool.not_false, decide_true, decide_false, if_true, if_false, hz, nt]
        exact ⟨.ag f none, rfl, ⟨⟨fb.1, fun x e => by cases e⟩, ⟨by have := fb.2; omega, fun x e => by cases e⟩⟩, t7.mono (by omega), (b5.trans b6).trans b7⟩
      · simp (config := { implicitDefEqProofs := false }) only [Vm.evF, Vm.evSs, Vm.evS, Vm.evX, Vm.evE, Vm.evEs, Vm.evIt, Vm.evPt, Vm.Res.bind_assoc, Vm.Res.bind_ok, Vm.Res.Ok_ok, Vm.bindT, Vm.setAll, Vm.boolOf, Vm.isNon, Vm.b_add, Vm.b_sub, Vm.a_add, Vm.c_eq, Vm.c_ne, Vm.c_lt, Vm.c_le, Vm.c_gt, Vm.c_ge, Vm.Bf_len, Vm.Bf_sum, Vm.Bf_min2, Vm.wipeE, Vm.Tg.slots, Vm.lcTurn, Vm.forTurn, List.map_cons, List.map_nil, List.length_cons, List.length_nil, List.length_map, List.cons_append, List.nil_append, List.getElem?_cons_zero, List.getElem?_cons_succ, List.set_cons_zero, List.set_cons_succ, List.reduceReplicate, Nat.reduceSub, Nat.reduceAdd, Nat.zero_add, Int.toNat_natCast, Bool.not_true, Bool.not_false, decide_true, decide_false, if_true, if_false, hz]
        refine Res.ok_bind ((s_number (N := N) (h := h7) (by omega) t7 (by omega)).mono fun r h8 q => ?_)
        obtain ⟨y, rfl, y0, y1, t8, b8⟩ := q
        have nt := newT_ok (h := h8) (xs := [.str "age", .int f, .int (if f + 1 + y < 200 then f + 1 + y else 200)]) (by simp)
        simp (config := { implicitDefEqProofs := false }) only [Vm.evF, Vm.evSs, Vm.evS, Vm.evX, Vm.evE, Vm.evEs, Vm.evIt, Vm.evPt, Vm.Res.bind_assoc, Vm.Res.bind_ok, Vm.Res.Ok_ok, Vm.bindT, Vm.setAll, Vm.boolOf, Vm.isNon, Vm.b_add, Vm.b_sub, Vm.a_add, Vm.c_eq, Vm.c_ne, Vm.c_lt, Vm.c_le, Vm.c_gt, Vm.c_ge, Vm.Bf_len, Vm.Bf_sum, Vm.Bf_min2, Vm.wipeE, Vm.Tg.slots, Vm.lcTurn, Vm.forTurn, List.map_cons, List.map_nil, List.length_cons, List.length_nil, List.length_map, List.cons_append, List.nil_append, List.getElem?_cons_zero, List.getElem?_cons_succ, List.set_cons_zero, List.set_cons_succ, List.reduceReplicate, Nat.reduceSub, Nat.reduceAdd, Nat.zero_add, Int.toNat_natCast, Bool.not_true, Bool.not_false, decide_true, decide_false, if_true, if_false, nt]
        refine ⟨.ag f (some (if f + 1 + y < 200 then f + 1 + y else 200)), rfl, ⟨⟨fb.1, fun x e => ?_⟩, ⟨by have := fb.2; omega, fun x e => ?_⟩⟩, t8.mono (by omega), ((b5.trans b6).trans b7).trans b8⟩
        · cases e
          split
          · omega
          · omega
        · cases e
          split
          · omega
          · omega
theorem isF_str {z : Str} : isF .str (.str z) h = .ok (.bl true) h := by simp [isF, tyOf, Ty.word]
end
end K05

set_option Elab.async false
set_option linter.all false
set_option maxRecDepth 100000
set_option maxHeartbeats 4000000
namespace K05
open PySem PySem.Spec PyProof.Rows L2 Vm L06
/-! ### x in (..), of texts -/
theorem flats_strs : ∀ zs : List Str, flatsP (zs.map PV.str) = some (zs.map V.str)
  | [] => rfl
  | z :: zs => by
    show (match flatP (.str z), flatsP (zs.map PV.str) with
      | some v, some vs => some (v :: vs)
      | _, _ => none) = _
    rw [flats_strs zs]
    rfl
theorem inV_strs (s : Str) : ∀ zs : List Str, inV (.str s) (zs.map V.str) = decide (s ∈ zs)
  | [] => by simp [inV]
  | z :: zs => by
    have ih := inV_strs s zs
    unfold inV at ih ⊢
    rw [List.map_cons, List.any_cons, ih]
    show ((z == s) || decide (s ∈ zs)) = _
    by_cases e : z = s
    · subst e
      simp
    · have e1 : (z == s) = false := beq_eq_false_iff_ne.mpr e
      have e2 : ¬ s = z := fun q => e q.symm
      rw [e1]
      simp [e2]
section
variable {h : IH} {N a p b n : Nat} {cs : List Int} {ts : List Str}
theorem cont_tup {neg : Bool} {s : Str} {zs : List Str} : contF neg (.str s) (.tup (zs.map PV.str)) h = .ok (.bl (if neg then !decide (s ∈ zs) else decide (s ∈ zs))) h := by
  show contV neg (.str s) (.tup (zs.map PV.str)) h = _
  simp only [contV, flatP, rd, Option.bind_some, flats_strs, inV_strs]
theorem cont_ref {neg : Bool} {s : Str} {zs : List Str} (e : h[b]? = some (.lst (zs.map PV.str))) : contF neg (.str s) (.ref b) h = .ok (.bl (if neg then !decide (s ∈ zs) else decide (s ∈ zs))) h := by
  show contV neg (.str s) (.ref b) h = _
  simp only [contV, flatP, rd_ref e, Option.bind_some, flats_strs, inV_strs]
/-! ### literals -/
theorem ix0 {x : PV} {xs : List PV} : ixF (.tup (x :: xs)) (.int 0) h = .ok x h := ixF_rd (xs := x :: xs) rfl (by decide) rfl
theorem ix1 {x y : PV} {xs : List PV} : ixF (.tup (x :: y :: xs)) (.int 1) h = .ok y h := ixF_rd (xs := x :: y :: xs) rfl (by decide) rfl
theorem ix2 {x y z : PV} {xs : List PV} : ixF (.tup (x :: y :: z :: xs)) (.int 2) h = .ok z h := ixF_rd (xs := x :: y :: z :: xs) rfl (by decide) rfl
theorem tw_in {bo : Bool} : contF false (.str (twS bo)) (.tup [.str "town", .str "out"]) h = .ok (.bl true) h := by
  have q := cont_tup (h := h) (neg := false) (s := twS bo) (zs := ["town", "out"])
  have m : (twS bo) ∈ (["town", "out"] : List Str) := by cases bo <;> decide
  rw [decide_eq_true m] at q
  exact q
theorem kn_in {bo : Bool} : contF false (.str (knS bo)) (.tup [.str "town", .str "out"]) h = .ok (.bl false) h := by
  have q := cont_tup (h := h) (neg := false) (s := knS bo) (zs := ["town", "out"])
  have m : ¬ (knS bo) ∈ (["town", "out"] : List Str) := by cases bo <;> decide
  rw [decide_eq_false m] at q
  exact q
theorem ag_in : contF false (.str "age") (.tup [.str "town", .str "out"]) h = .ok (.bl false) h := by
  have q := cont_tup (h := h) (neg := false) (s := "age") (zs := ["town", "out"])
  rw [decide_eq_false (by decide)] at q
  exact q
theorem twS_ne {bo : Bool} : decide (twS bo = "age") = false ∧ decide (twS bo = "town") = bo := by cases bo <;> decide
theorem knS_ne {bo : Bool} : decide (knS bo = "age") = false ∧ decide (knS bo = "far") = (!bo) ∧ decide (knS bo = "kin") = bo ∧ decide (knS bo = "town") = false ∧ decide (knS bo = "out") = false := by cases bo <;> decide
theorem isNon_opt {o : Option Int} : isNon (optP o) = o.isNone := by cases o <;> rfl
theorem fm_eq {P : Str → Bool} : ∀ us : List Str, ((us.map PV.str).filterMap fun x => match x with
    | .str u => if P u then some (.str u) else none
    | _ => none) = (us.filter P).map PV.str
  | [] => rfl
  | u :: us => by
    have ih := fm_eq (P := P) us
    rw [List.map_cons, List.filterMap_cons, ih, List.filter_cons]
    by_cases hp : P u = true
    · simp [hp]
    · simp [hp]
theorem s_holds {l : Lit} {w : Who} (hN : 1 ≤ N) (ok : l.Ok) : (sem Bf ds N 16 [l.pv, w.pv] h).Ok fun r h1 => r = .bl (holds l w) ∧ Ext h h1 := by
  obtain ⟨N, rfl, k⟩ := pre hN (by decide)
  rw [sem_at (d := d__law_holds) (L := 4) (b := b__law_holds) rfl rfl rfl]
  have nt := newT_ok (h := h) (xs := [.str "town", .str "out"]) (by simp)
  cases l with
  | tw bo us =>
    obtain ⟨u1, u2, u3, u4⟩ := ok
    simp (config := { implicitDefEqProofs := false }) only [Vm.evF, Vm.evSs, Vm.evS, Vm.evX, Vm.evE, Vm.evEs, Vm.evIt, Vm.evPt, Vm.Res.bind_assoc, Vm.Res.bind_ok, Vm.Res.Ok_ok, Vm.bindT, Vm.setAll, Vm.boolOf, Vm.isNon, Vm.b_add, Vm.b_sub, Vm.a_add, Vm.c_eq, Vm.c_ne, Vm.c_lt, Vm.c_le, Vm.c_gt, Vm.c_ge, Vm.Bf_len, Vm.Bf_sum, Vm.Bf_min2, Vm.wipeE, Vm.Tg.slots, Vm.lcTurn, Vm.forTurn, List.map_cons, List.map_nil, List.length_cons, List.length_nil, List.length_map, List.cons_append, List.nil_append, List.getElem?_cons_zero, List.getElem?_cons_succ, List.set_cons_zero, List.set_cons_succ, List.reduceReplicate, Nat.reduceSub, Nat.reduceAdd, Nat.zero_add, Int.toNat_natCast, Bool.not_true, Bool.not_false, decide_true, decide_false, if_true, if_false, b__law_holds, Lit.pv, Who.pv, ix0, ix1, nt, tw_in]
    refine Res.ok_bind ((lc_pure (xs := us.map PV.str) (h0 := h) (fun x => match x with
      | .str u => if decide (u = w.t) then some (.str u) else none
      | _ => none) get_items (by simp [Src.fuel]) (by rw [List.length_map]; omega) (fun k2 x h4 e4 x4 => ?_)).mono fun acc h4 q => ?_)
    · rw [List.getElem?_map] at e4
      cases ec : us[k2]? with
      | none => rw [ec] at e4; cases e4
      | some u =>
        rw [ec] at e4
        cases e4
        refine Res.calm_of ?_
        simp (config := { implicitDefEqProofs := false }) only [Vm.evF, Vm.evSs, Vm.evS, Vm.evX, Vm.evE, Vm.evEs, Vm.evIt, Vm.evPt, Vm.Res.bind_assoc, Vm.Res.bind_ok, Vm.Res.Ok_ok, Vm.bindT, Vm.setAll, Vm.boolOf, Vm.isNon, Vm.b_add, Vm.b_sub, Vm.a_add, Vm.c_eq, Vm.c_ne, Vm.c_lt, Vm.c_le, Vm.c_gt, Vm.c_ge, Vm.Bf_len, Vm.Bf_sum, Vm.Bf_min2, Vm.wipeE, Vm.Tg.slots, Vm.lcTurn, Vm.forTurn, List.map_cons, List.map_nil, List.length_cons, List.length_nil, List.length_map, List.cons_append, List.nil_append, List.getElem?_cons_zero, List.getElem?_cons_succ, List.set_cons_zero, List.set_cons_succ, List.reduceReplicate, Nat.reduceSub, Nat.reduceAdd, Nat.zero_add, Int.toNat_natCast, Bool.not_true, Bool.not_false, decide_true, decide_false, if_true, if_false, ix0, c_eqs]
        by_cases c : u = w.t
        · simp [c, x4]
        · simp [c, x4]
    · obtain ⟨rfl, x4⟩ := q
      rw [fm_eq]
      have bl := Bf_len_ref (at_end h4 (.lst ((us.filter fun u => decide (u = w.t)).map PV.str)))
      rw [List.length_map] at bl
      simp (config := { implicitDefEqProofs := false }) only [Vm.evF, Vm.evSs, Vm.evS, Vm.evX, Vm.evE, Vm.evEs, Vm.evIt, Vm.evPt, Vm.Res.bind_assoc, Vm.Res.bind_ok, Vm.Res.Ok_ok, Vm.bindT, Vm.setAll, Vm.boolOf, Vm.isNon, Vm.b_add, Vm.b_sub, Vm.a_add, Vm.c_eq, Vm.c_ne, Vm.c_lt, Vm.c_le, Vm.c_gt, Vm.c_ge, Vm.Bf_len, Vm.Bf_sum, Vm.Bf_min2, Vm.wipeE, Vm.Tg.slots, Vm.lcTurn, Vm.forTurn, List.map_cons, List.map_nil, List.length_cons, List.length_nil, List.length_map, List.cons_append, List.nil_append, List.getElem?_cons_zero, List.getElem?_cons_succ, List.set_cons_zero, List.set_cons_succ, List.reduceReplicate, Nat.reduceSub, Nat.reduceAdd, Nat.zero_add, Int.toNat_natCast, Bool.not_true, Bool.not_false, decide_true, decide_false, if_true, if_false, bl, c_eqs, twS_ne.2, eq_bls]
      exact ⟨rfl, x4.trans (Ext.app _ _)⟩
  | kn bo v =>
    simp (config := { implicitDefEqProofs := false }) only [Vm.evF, Vm.evSs, Vm.evS, Vm.evX, Vm.evE, Vm.evEs, Vm.evIt, Vm.evPt, Vm.Res.bind_assoc, Vm.Res.bind_ok, Vm.Res.Ok_ok, Vm.bindT, Vm.setAll, Vm.boolOf, Vm.isNon, Vm.b_add, Vm.b_sub, Vm.a_add, Vm.c_eq, Vm.c_ne, Vm.c_lt, Vm.c_le, Vm.c_gt, Vm.c_ge, Vm.Bf_len, Vm.Bf_sum, Vm.Bf_min2, Vm.wipeE, Vm.Tg.slots, Vm.lcTurn, Vm.forTurn, List.map_cons, List.map_nil, List.length_cons, List.length_nil, List.length_map, List.cons_append, List.nil_append, List.getElem?_cons_zero, List.getElem?_cons_succ, List.set_cons_zero, List.set_cons_succ, List.reduceReplicate, Nat.reduceSub, Nat.reduceAdd, Nat.zero_add, Int.toNat_natCast, Bool.not_true, Bool.not_false, decide_true, decide_false, if_true, if_false, b__law_holds, Lit.pv, Who.pv, ix0, ix1, ix2, nt, kn_in, c_eqs, knS_ne.1]
    cases hb : w.b with
    | none =>
      simp (config := { implicitDefEqProofs := false }) only [Vm.evF, Vm.evSs, Vm.evS, Vm.evX, Vm.evE, Vm.evEs, Vm.evIt, Vm.evPt, Vm.Res.bind_assoc, Vm.Res.bind_ok, Vm.Res.Ok_ok, Vm.bindT, Vm.setAll, Vm.boolOf, Vm.isNon, Vm.b_add, Vm.b_sub, Vm.a_add, Vm.c_eq, Vm.c_ne, Vm.c_lt, Vm.c_le, Vm.c_gt, Vm.c_ge, Vm.Bf_len, Vm.Bf_sum, Vm.Bf_min2, Vm.wipeE, Vm.Tg.slots, Vm.lcTurn, Vm.forTurn, List.map_cons, List.map_nil, List.length_cons, List.length_nil, List.length_map, List.cons_append, List.nil_append, List.getElem?_cons_zero, List.getElem?_cons_succ, List.set_cons_zero, List.set_cons_succ, List.reduceReplicate, Nat.reduceSub, Nat.reduceAdd, Nat.zero_add, Int.toNat_natCast, Bool.not_true, Bool.not_false, decide_true, decide_false, if_true, if_false, optP, knS_ne.2.1]
      refine ⟨?_, Ext.refl _⟩
      simp [holds, hb]
    | some x =>
      by_cases c : v < x
      · simp (config := { implicitDefEqProofs := false }) only [Vm.evF, Vm.evSs, Vm.evS, Vm.evX, Vm.evE, Vm.evEs, Vm.evIt, Vm.evPt, Vm.Res.bind_assoc, Vm.Res.bind_ok, Vm.Res.Ok_ok, Vm.bindT, Vm.setAll, Vm.boolOf, Vm.isNon, Vm.b_add, Vm.b_sub, Vm.a_add, Vm.c_eq, Vm.c_ne, Vm.c_lt, Vm.c_le, Vm.c_gt, Vm.c_ge, Vm.Bf_len, Vm.Bf_sum, Vm.Bf_min2, Vm.wipeE, Vm.Tg.slots, Vm.lcTurn, Vm.forTurn, List.map_cons, List.map_nil, List.length_cons, List.length_nil, List.length_map, List.cons_append, List.nil_append, List.getElem?_cons_zero, List.getElem?_cons_succ, List.set_cons_zero, List.set_cons_succ, List.reduceReplicate, Nat.reduceSub, Nat.reduceAdd, Nat.zero_add, Int.toNat_natCast, Bool.not_true, Bool.not_false, decide_true, decide_false, if_true, if_false, optP, c, ix1, knS_ne.2.1]
        refine ⟨?_, Ext.refl _⟩
        simp [holds, hb, c]
      · simp (config := { implicitDefEqProofs := false }) only [Vm.evF, Vm.evSs, Vm.evS, Vm.evX, Vm.evE, Vm.evEs, Vm.evIt, Vm.evPt, Vm.Res.bind_assoc, Vm.Res.bind_ok, Vm.Res.Ok_ok, Vm.bindT, Vm.setAll, Vm.boolOf, Vm.isNon, Vm.b_add, Vm.b_sub, Vm.a_add, Vm.c_eq, Vm.c_ne, Vm.c_lt, Vm.c_le, Vm.c_gt, Vm.c_ge, Vm.Bf_len, Vm.Bf_sum, Vm.Bf_min2, Vm.wipeE, Vm.Tg.slots, Vm.lcTurn, Vm.forTurn, List.map_cons, List.map_nil, List.length_cons, List.length_nil, List.length_map, List.cons_append, List.nil_append, List.getElem?_cons_zero, List.getElem?_cons_succ, List.set_cons_zero, List.set_cons_succ, List.reduceReplicate, Nat.reduceSub, Nat.reduceAdd, Nat.zero_add, Int.toNat_natCast, Bool.not_true, Bool.not_false, decide_true, decide_false, if_true, if_false, optP, c, ix1]
        refine ⟨?_, Ext.refl _⟩
        rw [knS_ne.2.2.1]
        simp [holds, hb, c]
  | ag f e =>
    have e1 : decide (("age" : Str) = "age") = true := by decide
    simp (config := { implicitDefEqProofs := false }) only [Vm.evF, Vm.evSs, Vm.evS, Vm.evX, Vm.evE, Vm.evEs, Vm.evIt, Vm.evPt, Vm.Res.bind_assoc, Vm.Res.bind_ok, Vm.Res.Ok_ok, Vm.bindT, Vm.setAll, Vm.boolOf, Vm.isNon, Vm.b_add, Vm.b_sub, Vm.a_add, Vm.c_eq, Vm.c_ne, Vm.c_lt, Vm.c_le, Vm.c_gt, Vm.c_ge, Vm.Bf_len, Vm.Bf_sum, Vm.Bf_min2, Vm.wipeE, Vm.Tg.slots, Vm.lcTurn, Vm.forTurn, List.map_cons, List.map_nil, List.length_cons, List.length_nil, List.length_map, List.cons_append, List.nil_append, List.getElem?_cons_zero, List.getElem?_cons_succ, List.set_cons_zero, List.set_cons_succ, List.reduceReplicate, Nat.reduceSub, Nat.reduceAdd, Nat.zero_add, Int.toNat_natCast, Bool.not_true, Bool.not_false, decide_true, decide_false, if_true, if_false, b__law_holds, Lit.pv, Who.pv, ix0, ix1, ix2, nt, ag_in, c_eqs, e1]
    by_cases c : w.g < f
    · simp (config := { implicitDefEqProofs := false }) only [Vm.evF, Vm.evSs, Vm.evS, Vm.evX, Vm.evE, Vm.evEs, Vm.evIt, Vm.evPt, Vm.Res.bind_assoc, Vm.Res.bind_ok, Vm.Res.Ok_ok, Vm.bindT, Vm.setAll, Vm.boolOf, Vm.isNon, Vm.b_add, Vm.b_sub, Vm.a_add, Vm.c_eq, Vm.c_ne, Vm.c_lt, Vm.c_le, Vm.c_gt, Vm.c_ge, Vm.Bf_len, Vm.Bf_sum, Vm.Bf_min2, Vm.wipeE, Vm.Tg.slots, Vm.lcTurn, Vm.forTurn, List.map_cons, List.map_nil, List.length_cons, List.length_nil, List.length_map, List.cons_append, List.nil_append, List.getElem?_cons_zero, List.getElem?_cons_succ, List.set_cons_zero, List.set_cons_succ, List.reduceReplicate, Nat.reduceSub, Nat.reduceAdd, Nat.zero_add, Int.toNat_natCast, Bool.not_true, Bool.not_false, decide_true, decide_false, if_true, if_false, c]
      refine ⟨?_, Ext.refl _⟩
      simp [holds, c]
    · cases e with
      | none =>
        simp (config := { implicitDefEqProofs := false }) only [Vm.evF, Vm.evSs, Vm.evS, Vm.evX, Vm.evE, Vm.evEs, Vm.evIt, Vm.evPt, Vm.Res.bind_assoc, Vm.Res.bind_ok, Vm.Res.Ok_ok, Vm.bindT, Vm.setAll, Vm.boolOf, Vm.isNon, Vm.b_add, Vm.b_sub, Vm.a_add, Vm.c_eq, Vm.c_ne, Vm.c_lt, Vm.c_le, Vm.c_gt, Vm.c_ge, Vm.Bf_len, Vm.Bf_sum, Vm.Bf_min2, Vm.wipeE, Vm.Tg.slots, Vm.lcTurn, Vm.forTurn, List.map_cons, List.map_nil, List.length_cons, List.length_nil, List.length_map, List.cons_append, List.nil_append, List.getElem?_cons_zero, List.getElem?_cons_succ, List.set_cons_zero, List.set_cons_succ, List.reduceReplicate, Nat.reduceSub, Nat.reduceAdd, Nat.zero_add, Int.toNat_natCast, Bool.not_true, Bool.not_false, decide_true, decide_false, if_true, if_false, c, ix2, optP]
        refine ⟨?_, Ext.refl _⟩
        simp [holds, c]
      | some x =>
        simp (config := { implicitDefEqProofs := false }) only [Vm.evF, Vm.evSs, Vm.evS, Vm.evX, Vm.evE, Vm.evEs, Vm.evIt, Vm.evPt, Vm.Res.bind_assoc, Vm.Res.bind_ok, Vm.Res.Ok_ok, Vm.bindT, Vm.setAll, Vm.boolOf, Vm.isNon, Vm.b_add, Vm.b_sub, Vm.a_add, Vm.c_eq, Vm.c_ne, Vm.c_lt, Vm.c_le, Vm.c_gt, Vm.c_ge, Vm.Bf_len, Vm.Bf_sum, Vm.Bf_min2, Vm.wipeE, Vm.Tg.slots, Vm.lcTurn, Vm.forTurn, List.map_cons, List.map_nil, List.length_cons, List.length_nil, List.length_map, List.cons_append, List.nil_append, List.getElem?_cons_zero, List.getElem?_cons_succ, List.set_cons_zero, List.set_cons_succ, List.reduceReplicate, Nat.reduceSub, Nat.reduceAdd, Nat.zero_add, Int.toNat_natCast, Bool.not_true, Bool.not_false, decide_true, decide_false, if_true, if_false, c, ix2, ix1, optP]
        refine ⟨?_, Ext.refl _⟩
        simp [holds, c]
end
end K05

set_option Elab.async false
set_option linter.all false
set_option maxRecDepth 100000
/-! S07: when literals can be met together. -/
namespace L07
open PySem Vm L06
def alw1 (t : Str) : Lit → Bool
  | .tw b us => decide (t ∈ us) == b
  | _ => true
def alw (L : List Lit) (t : Str) : Bool := L.all (alw1 t)
def agH (g : Int) : Lit → Prop
  | .ag f e => f ≤ g ∧ ∀ x, e = some x → g < x
  | _ => True
def tiH (b : Int) : Lit → Prop
  | .kn true v => b ≤ v
  | .kn false v => v + 1 ≤ b
  | _ => True
def TT (L : List Lit) : Prop := ∃ t, alw L t = true
def AA (L : List Lit) : Prop := ∃ g : Int, 0 ≤ g ∧ ∀ l ∈ L, agH g l
def KK (L : List Lit) : Prop := ∃ b : Int, 0 ≤ b ∧ ∀ l ∈ L, tiH b l
def Tog (L : List Lit) (o : Option Str) : Prop := (o = some "town" ∧ ¬ TT L) ∨ (o = some "age" ∧ TT L ∧ ¬ AA L) ∨ (o = some "kin" ∧ TT L ∧ AA L ∧ ¬ KK L) ∨ (o = none ∧ TT L ∧ AA L ∧ KK L)
theorem TT.sub {L M : List Lit} (h : ∀ l ∈ M, l ∈ L) (t : TT L) : TT M := by
  obtain ⟨t, e⟩ := t
  refine ⟨t, ?_⟩
  unfold alw at e ⊢
  rw [List.all_eq_true] at e ⊢
  exact fun l hl => e l (h l hl)
theorem AA.sub {L M : List Lit} (h : ∀ l ∈ M, l ∈ L) (t : AA L) : AA M := by
  obtain ⟨g, g0, e⟩ := t
  exact ⟨g, g0, fun l hl => e l (h l hl)⟩
theorem KK.sub {L M : List Lit} (h : ∀ l ∈ M, l ∈ L) (t : KK L) : KK M := by
  obtain ⟨g, g0, e⟩ := t
  exact ⟨g, g0, fun l hl => e l (h l hl)⟩
theorem tog_same {L M : List Lit} {o q : Option Str} (h : ∀ l, l ∈ M ↔ l ∈ L) (a : Tog L o) (b : Tog M q) : q = o := by
  have t : TT M ↔ TT L := ⟨TT.sub fun l hl => (h l).mpr hl, TT.sub fun l hl => (h l).mp hl⟩
  have g : AA M ↔ AA L := ⟨AA.sub fun l hl => (h l).mpr hl, AA.sub fun l hl => (h l).mp hl⟩
  have k : KK M ↔ KK L := ⟨KK.sub fun l hl => (h l).mpr hl, KK.sub fun l hl => (h l).mp hl⟩
  unfold Tog at a b
  rw [t, g, k] at b
  rcases a with ⟨rfl, a⟩ | ⟨rfl, a⟩ | ⟨rfl, a⟩ | ⟨rfl, a⟩ <;> rcases b with ⟨rfl, b⟩ | ⟨rfl, b⟩ | ⟨rfl, b⟩ | ⟨rfl, b⟩ <;> first | rfl | (exfalso; simp_all)
theorem tog_sub {L M : List Lit} {q : Option Str} (h : ∀ l ∈ M, l ∈ L) (a : Tog L none) (b : Tog M q) : q = none := by
  rcases a with ⟨e, _⟩ | ⟨e, _⟩ | ⟨e, _⟩ | ⟨_, t, g, k⟩
  · cases e
  · cases e
  · cases e
  · have t' := t.sub h
    have g' := g.sub h
    have k' := k.sub h
    rcases b with ⟨rfl, b⟩ | ⟨rfl, _, b⟩ | ⟨rfl, _, _, b⟩ | ⟨rfl, b⟩
    · exact absurd t' b
    · exact absurd g' b
    · exact absurd k' b
    · rfl
/-! ### ages -/
def agS (s : Int × Option Int) : Lit → Int × Option Int
  | .ag f e => (if s.1 < f then f else s.1, match e with
    | none => s.2
    | some y => match s.2 with
      | none => some y
      | some z => if y < z then some y else some z)
  | _ => s
def agesF (s : Int × Option Int) (L : List Lit) : Int × Option Int := L.foldl agS s
theorem agS_iff {s : Int × Option Int} {l : Lit} {g : Int} : ((agS s l).1 ≤ g ∧ ∀ x, (agS s l).2 = some x → g < x) ↔ (s.1 ≤ g ∧ ∀ x, s.2 = some x → g < x) ∧ agH g l := by
  obtain ⟨a, e⟩ := s
  cases l with
  | tw b us => simp [agS, agH]
  | kn b v => simp [agS, agH]
  | ag f y =>
    have c1 : (if a < f then f else a) ≤ g ↔ a ≤ g ∧ f ≤ g := by split <;> omega
    cases y with
    | none => simp [agS, agH, c1]; exact ⟨fun ⟨⟨p, q⟩, r⟩ => ⟨⟨p, r⟩, q⟩, fun ⟨⟨p, q⟩, r⟩ => ⟨⟨p, r⟩, q⟩⟩
    | some y =>
      cases e with
      | none => simp [agS, agH, c1]; exact ⟨fun ⟨⟨p, q⟩, r⟩ => ⟨p, q, r⟩, fun ⟨p, q, r⟩ => ⟨⟨p, q⟩, r⟩⟩
      | some z =>
        have c2 : (∀ x, (if y < z then some y else some z) = some x → g < x) ↔ g < z ∧ g < y := by
          split
          · constructor
            · intro h
              have := h y rfl
              omega
            · intro h x e
              cases e
              exact h.2
          · constructor
            · intro h
              have := h z rfl
              omega
            · intro h x e
              cases e
              exact h.1
        simp only [agS, agH, c1, c2]
        constructor
        · rintro ⟨⟨p, q⟩, r, t⟩
          exact ⟨⟨p, fun x e => by cases e; exact r⟩, q, fun x e => by cases e; exact t⟩
        · rintro ⟨⟨p, q⟩, r, t⟩
          exact ⟨⟨p, r⟩, q z rfl, t y rfl⟩
theorem agesF_iff {g : Int} : ∀ {L : List Lit} {s : Int × Option Int}, ((agesF s L).1 ≤ g ∧ ∀ x, (agesF s L).2 = some x → g < x) ↔ (s.1 ≤ g ∧ ∀ x, s.2 = some x → g < x) ∧ ∀ l ∈ L, agH g l
  | [], s => by simp [agesF]
  | l :: L, s => by
    have ih := agesF_iff (g := g) (L := L) (s := agS s l)
    have e : agesF s (l :: L) = agesF (agS s l) L := rfl
    rw [e, ih, agS_iff]
    simp only [List.mem_cons, forall_eq_or_imp]
    exact ⟨fun ⟨⟨p, q⟩, r⟩ => ⟨p, q, r⟩, fun ⟨p, q, r⟩ => ⟨⟨p, q⟩, r⟩⟩
theorem ages_ok {L : List Lit} {a : Int} {e : Option Int} (h : agesF (0, none) L = (a, e)) : (AA L ↔ (e = none ∨ ∃ x, e = some x ∧ a < x)) ∧ ((e = none ∨ ∃ x, e = some x ∧ a < x) → 0 ≤ a ∧ ∀ l ∈ L, agH a l) := by
  have k := fun g => agesF_iff (g := g) (L := L) (s := (0, none))
  rw [h] at k
  have up : (e = none ∨ ∃ x, e = some x ∧ a < x) → 0 ≤ a ∧ ∀ l ∈ L, agH a l := fun q => by
    have := (k a).mp ⟨Int.le_refl _, fun x ex => by
      rcases q with rfl | ⟨y, rfl, ly⟩
      · cases ex
      · cases ex
        exact ly⟩
    exact ⟨this.1.1, this.2⟩
  refine ⟨⟨fun ⟨g, g0, q⟩ => ?_, fun q => ⟨a, up q⟩⟩, up⟩
  have := (k g).mpr ⟨⟨g0, fun x ex => nomatch ex⟩, q⟩
  cases e with
  | none => exact .inl rfl
  | some x => exact .inr ⟨x, rfl, by have := this.1; have := (‹a ≤ g ∧ ∀ y, some x = some y → g < y›).2 x rfl; omega⟩
/-! ### ties -/
def tiS (s : Int × Option Int) : Lit → Int × Option Int
  | .kn false v => (if s.1 < v + 1 then v + 1 else s.1, s.2)
  | .kn true v => (s.1, match s.2 with
    | none => some v
    | some z => if v < z then some v else some z)
  | _ => s
def tiF (s : Int × Option Int) (L : List Lit) : Int × Option Int := L.foldl tiS s
theorem tiS_iff {s : Int × Option Int} {l : Lit} {b : Int} : ((tiS s l).1 ≤ b ∧ ∀ x, (tiS s l).2 = some x → b ≤ x) ↔ (s.1 ≤ b ∧ ∀ x, s.2 = some x → b ≤ x) ∧ tiH b l := by
  obtain ⟨m, k⟩ := s
  cases l with
  | tw b us => simp [tiS, tiH]
  | ag f e => simp [tiS, tiH]
  | kn q v =>
    cases q with
    | false =>
      have c1 : (if m < v + 1 then v + 1 else m) ≤ b ↔ m ≤ b ∧ v + 1 ≤ b := by split <;> omega
      simp only [tiS, tiH, c1]
      exact ⟨fun ⟨⟨p, q⟩, r⟩ => ⟨⟨p, r⟩, q⟩, fun ⟨⟨p, q⟩, r⟩ => ⟨⟨p, r⟩, q⟩⟩
    | true =>
      cases k with
      | none =>
        simp only [tiS, tiH]
        exact ⟨fun ⟨p, q⟩ => ⟨⟨p, fun x e => nomatch e⟩, q v rfl⟩, fun ⟨⟨p, _⟩, q⟩ => ⟨p, fun x e => by cases e; exact q⟩⟩
      | some z =>
        have c2 : (∀ x, (if v < z then some v else some z) = some x → b ≤ x) ↔ b ≤ z ∧ b ≤ v := by
          split
          · constructor
            · intro h
              have := h v rfl
              omega
            · intro h x e
              cases e
              exact h.2
          · constructor
            · intro h
              have := h z rfl
              omega
            · intro h x e
              cases e
              exact h.1
        simp only [tiS, tiH, c2]
        exact ⟨fun ⟨p, q, r⟩ => ⟨⟨p, fun x e => by cases e; exact q⟩, r⟩, fun ⟨⟨p, q⟩, r⟩ => ⟨p, q z rfl, r⟩⟩
theorem tiF_iff {b : Int} : ∀ {L : List Lit} {s : Int × Option Int}, ((tiF s L).1 ≤ b ∧ ∀ x, (tiF s L).2 = some x → b ≤ x) ↔ (s.1 ≤ b ∧ ∀ x, s.2 = some x → b ≤ x) ∧ ∀ l ∈ L, tiH b l
  | [], s => by simp [tiF]
  | l :: L, s => by
    have ih := tiF_iff (b := b) (L := L) (s := tiS s l)
    have e : tiF s (l :: L) = tiF (tiS s l) L := rfl
    rw [e, ih, tiS_iff]
    simp only [List.mem_cons, forall_eq_or_imp]
    exact ⟨fun ⟨⟨p, q⟩, r⟩ => ⟨p, q, r⟩, fun ⟨p, q, r⟩ => ⟨⟨p, q⟩, r⟩⟩
theorem ties_ok {L : List Lit} {m : Int} {k : Option Int} (h : tiF (0, none) L = (m, k)) : (KK L ↔ (k = none ∨ ∃ x, k = some x ∧ m ≤ x)) ∧ ((∃ x, k = some x ∧ m ≤ x) → 0 ≤ m ∧ ∀ l ∈ L, tiH m l) ∧ (k = none → ∀ v, Lit.kn true v ∉ L) := by
  have kk := fun b => tiF_iff (b := b) (L := L) (s := (0, none))
  rw [h] at kk
  have up : ∀ b, (m ≤ b ∧ ∀ x, k = some x → b ≤ x) → 0 ≤ b ∧ ∀ l ∈ L, tiH b l := fun b q => by
    have := (kk b).mp q
    exact ⟨this.1.1, this.2⟩
  refine ⟨⟨fun ⟨b, b0, q⟩ => ?_, fun q => ?_⟩, fun ⟨x, e, lx⟩ => up m ⟨Int.le_refl _, fun y ey => by rw [e] at ey; cases ey; exact lx⟩, fun e v hv => ?_⟩
  · have t := (kk b).mpr ⟨⟨b0, fun x ex => nomatch ex⟩, q⟩
    cases k with
    | none => exact .inl rfl
    | some x => exact .inr ⟨x, rfl, by have := t.1; have := t.2 x rfl; dsimp only at *; omega⟩
  · exact ⟨m, up m ⟨Int.le_refl _, fun y ey => by
      rcases q with rfl | ⟨x, rfl, lx⟩
      · cases ey
      · cases ey
        exact lx⟩⟩
  · have := (up (if m < v + 1 then v + 1 else m) ⟨by split <;> omega, fun x ex => by rw [e] at ex; cases ex⟩).2 _ hv
    simp only [tiH] at this
    split at this <;> omega
end L07

set_option Elab.async false
set_option linter.all false
set_option maxRecDepth 100000
set_option maxHeartbeats 4000000
namespace K05
open PySem PySem.Spec PyProof.Rows L2 Vm L06 L07
theorem asc_nodup {us : List Str} (h : us.Pairwise TLt) : us.Nodup := h.imp fun {a b} q z => by subst z; exact ln_irr _ q
theorem few_one {t : Str} : ∀ {us : List Str}, us.Nodup → decide (((us.filter fun u => decide (u = t)).length : Int) = 1) = decide (t ∈ us)
  | [], _ => by simp
  | u :: us, nd => by
    obtain ⟨n1, n2⟩ := List.nodup_cons.mp nd
    have ih := few_one (t := t) n2
    by_cases c : u = t
    · subst c
      have e : us.filter (fun z => decide (z = u)) = [] := by
        rw [List.filter_eq_nil_iff]
        intro z hz hd
        have : z = u := of_decide_eq_true hd
        subst this
        exact n1 hz
      rw [List.filter_cons, if_pos (decide_eq_true rfl), e]
      simp
    · rw [List.filter_cons, if_neg (by simp [c]), ih]
      have c2 : ¬ t = u := fun q => c q.symm
      simp [c2]
section
variable {h : IH} {N a p b n : Nat} {cs : List Int} {ts : List Str}
theorem tw_is {bo : Bool} : decide (twS bo = "town") = bo ∧ decide (twS bo = "out") = !bo := by cases bo <;> decide
theorem tw_flip {bo : Bool} : (decide (twS bo = "town") = bo ∧ decide (twS bo = "out") = !bo) ∧ decide (twS bo = "kin") = false ∧ decide (twS bo = "far") = false := by cases bo <;> decide
theorem Bf_max2 {i j : Int} : Bf 7 [.int i, .int j] h = .ok (.int (if i < j then j else i)) h := rfl
end
theorem all_hold {L : List Lit} {w : Who} (ok : ∀ l ∈ L, l.Ok) (a : alw L w.t = true) (g : ∀ l ∈ L, agH w.g l) (k : (w.b = none ∧ ∀ v, Lit.kn true v ∉ L) ∨ ∃ m, w.b = some m ∧ ∀ l ∈ L, tiH m l) : ∀ l ∈ L, holds l w = true := fun l hl => by
  cases l with
  | tw b us =>
    have q := List.all_eq_true.mp a _ hl
    have f1 := few_one (t := w.t) (asc_nodup (ok _ hl).2.2.1)
    show (decide (((us.filter fun u => decide (u = w.t)).length : Int) = 1) == b) = true
    rw [f1]
    exact q
  | kn b v =>
    rcases k with ⟨e, n⟩ | ⟨m, e, q⟩
    · cases b with
      | true => exact absurd hl (n v)
      | false => simp [holds, e]
    · have t := q _ hl
      cases b with
      | true =>
        have t' : m ≤ v := t
        have c : ¬ v < m := by omega
        simp [holds, e, c]
      | false =>
        have t' : v + 1 ≤ m := t
        have c : v < m := by omega
        simp [holds, e, c]
  | ag f e =>
    have t := g _ hl
    have c : ¬ w.g < f := by have := t.1; omega
    cases e with
    | none => simp [holds, c]
    | some x =>
      have c2 := t.2 x rfl
      have c3 : ¬ x ≤ w.g := by omega
      simp [holds, c, c3]
end K05

set_option Elab.async false
set_option linter.all false
set_option maxRecDepth 100000
set_option maxHeartbeats 4000000
namespace K05
open PySem PySem.Spec PyProof.Rows L2 Vm L06 L07
def lts (L : List Lit) : PV := .tup (L.map Lit.pv)
def optS : Option Str → PV
  | none => .non
  | some s => .str s
section
variable {h : IH} {N a p b n : Nat} {cs : List Int} {ts : List Str}
theorem s_allows {L : List Lit} {t : Str} (hN : 1 ≤ N) (ok : ∀ l ∈ L, l.Ok) : (sem Bf ds N 6 [lts L, .str t] h).Ok fun r h1 => r = .bl (alw L t) ∧ h1 = h := by
  obtain ⟨N, rfl, k⟩ := pre hN (by decide)
  rw [sem_at (d := d__allows) (L := 3) (b := b__allows) rfl rfl rfl]
  simp (config := { implicitDefEqProofs := false }) only [Vm.evF, Vm.evSs, Vm.evS, Vm.evX, Vm.evE, Vm.evEs, Vm.evIt, Vm.evPt, Vm.Res.bind_assoc, Vm.Res.bind_ok, Vm.Res.Ok_ok, Vm.bindT, Vm.setAll, Vm.boolOf, Vm.isNon, Vm.b_add, Vm.b_sub, Vm.a_add, Vm.c_eq, Vm.c_ne, Vm.c_lt, Vm.c_le, Vm.c_gt, Vm.c_ge, Vm.Bf_len, Vm.Bf_sum, Vm.Bf_min2, Vm.wipeE, Vm.Tg.slots, Vm.lcTurn, Vm.forTurn, List.map_cons, List.map_nil, List.length_cons, List.length_nil, List.length_map, List.cons_append, List.nil_append, List.getElem?_cons_zero, List.getElem?_cons_succ, List.set_cons_zero, List.set_cons_succ, List.reduceReplicate, Nat.reduceSub, Nat.reduceAdd, Nat.zero_add, Int.toNat_natCast, Bool.not_true, Bool.not_false, decide_true, decide_false, if_true, if_false, b__allows, lts, rd]
  refine Res.ok_bind ((for_inv (xs := L.map Lit.pv) (src := .items (L.map Lit.pv)) (Q := fun o h1 => h1 = h ∧ ((∃ ev1, o = .nx ev1 ∧ alw L t = true) ∨ (o = .rt (.bl false) ∧ alw L t = false)))
    (fun k ev1 h1 => (∃ u, ev1 = [some (.tup (L.map Lit.pv)), some (.str t), u]) ∧ h1 = h ∧ ∀ l ∈ L.take k, alw1 t l = true) (fun k ev1 h1 j => rfl) (fun k x ev1 h1 e j => ?_) (fun ev1 h1 j => ?_) _ 0 _ h (by simp [Src.fuel]) (Nat.zero_le _) ⟨⟨_, rfl⟩, rfl, by simp⟩).mono fun o h1 q => ?_)
  · rw [List.getElem?_map] at e
    cases el : L[k]? with
    | none => rw [el] at e; cases e
    | some l =>
      rw [el] at e
      cases e
      obtain ⟨⟨u, rfl⟩, hh, al⟩ := j
      have tk : L.take (k + 1) = L.take k ++ [l] := by rw [List.take_add_one, el]; rfl
      have ml := List.mem_of_getElem? el
      have up : alw1 t l = true → ∀ l' ∈ L.take (k + 1), alw1 t l' = true := fun c l' hl' => by
        rw [tk] at hl'
        rcases List.mem_append.mp hl' with q | q
        · exact al l' q
        · have : l' = l := by simpa using q
          subst this
          exact c
      have dn : alw1 t l = false → alw L t = false := fun c => by
        cases q : alw L t with
        | false => rfl
        | true =>
          have := List.all_eq_true.mp q l ml
          rw [c] at this
          cases this
      cases l with
      | tw bo us =>
        have c1 := cont_tup (h := h1) (neg := false) (s := t) (zs := us)
        have c2 := cont_tup (h := h1) (neg := true) (s := t) (zs := us)
        cases bo
        · by_cases m : t ∈ us
          · simp (config := { implicitDefEqProofs := false }) only [Vm.evF, Vm.evSs, Vm.evS, Vm.evX, Vm.evE, Vm.evEs, Vm.evIt, Vm.evPt, Vm.Res.bind_assoc, Vm.Res.bind_ok, Vm.Res.Ok_ok, Vm.bindT, Vm.setAll, Vm.boolOf, Vm.isNon, Vm.b_add, Vm.b_sub, Vm.a_add, Vm.c_eq, Vm.c_ne, Vm.c_lt, Vm.c_le, Vm.c_gt, Vm.c_ge, Vm.Bf_len, Vm.Bf_sum, Vm.Bf_min2, Vm.wipeE, Vm.Tg.slots, Vm.lcTurn, Vm.forTurn, List.map_cons, List.map_nil, List.length_cons, List.length_nil, List.length_map, List.cons_append, List.nil_append, List.getElem?_cons_zero, List.getElem?_cons_succ, List.set_cons_zero, List.set_cons_succ, List.reduceReplicate, Nat.reduceSub, Nat.reduceAdd, Nat.zero_add, Int.toNat_natCast, Bool.not_true, Bool.not_false, decide_true, decide_false, if_true, if_false, Lit.pv, ix0, ix1, c_eqs, tw_is.1, tw_is.2, c1, c2, m]
            exact ⟨hh, .inr ⟨rfl, dn (by simp [alw1, m])⟩⟩
          · simp (config := { implicitDefEqProofs := false }) only [Vm.evF, Vm.evSs, Vm.evS, Vm.evX, Vm.evE, Vm.evEs, Vm.evIt, Vm.evPt, Vm.Res.bind_assoc, Vm.Res.bind_ok, Vm.Res.Ok_ok, Vm.bindT, Vm.setAll, Vm.boolOf, Vm.isNon, Vm.b_add, Vm.b_sub, Vm.a_add, Vm.c_eq, Vm.c_ne, Vm.c_lt, Vm.c_le, Vm.c_gt, Vm.c_ge, Vm.Bf_len, Vm.Bf_sum, Vm.Bf_min2, Vm.wipeE, Vm.Tg.slots, Vm.lcTurn, Vm.forTurn, List.map_cons, List.map_nil, List.length_cons, List.length_nil, List.length_map, List.cons_append, List.nil_append, List.getElem?_cons_zero, List.getElem?_cons_succ, List.set_cons_zero, List.set_cons_succ, List.reduceReplicate, Nat.reduceSub, Nat.reduceAdd, Nat.zero_add, Int.toNat_natCast, Bool.not_true, Bool.not_false, decide_true, decide_false, if_true, if_false, Lit.pv, ix0, ix1, c_eqs, tw_is.1, tw_is.2, c1, c2, m]
            exact ⟨⟨_, rfl⟩, hh, up (by simp [alw1, m])⟩
        · by_cases m : t ∈ us
          · simp (config := { implicitDefEqProofs := false }) only [Vm.evF, Vm.evSs, Vm.evS, Vm.evX, Vm.evE, Vm.evEs, Vm.evIt, Vm.evPt, Vm.Res.bind_assoc, Vm.Res.bind_ok, Vm.Res.Ok_ok, Vm.bindT, Vm.setAll, Vm.boolOf, Vm.isNon, Vm.b_add, Vm.b_sub, Vm.a_add, Vm.c_eq, Vm.c_ne, Vm.c_lt, Vm.c_le, Vm.c_gt, Vm.c_ge, Vm.Bf_len, Vm.Bf_sum, Vm.Bf_min2, Vm.wipeE, Vm.Tg.slots, Vm.lcTurn, Vm.forTurn, List.map_cons, List.map_nil, List.length_cons, List.length_nil, List.length_map, List.cons_append, List.nil_append, List.getElem?_cons_zero, List.getElem?_cons_succ, List.set_cons_zero, List.set_cons_succ, List.reduceReplicate, Nat.reduceSub, Nat.reduceAdd, Nat.zero_add, Int.toNat_natCast, Bool.not_true, Bool.not_false, decide_true, decide_false, if_true, if_false, Lit.pv, ix0, ix1, c_eqs, tw_is.1, tw_is.2, c1, c2, m]
            exact ⟨⟨_, rfl⟩, hh, up (by simp [alw1, m])⟩
          · simp (config := { implicitDefEqProofs := false }) only [Vm.evF, Vm.evSs, Vm.evS, Vm.evX, Vm.evE, Vm.evEs, Vm.evIt, Vm.evPt, Vm.Res.bind_assoc, Vm.Res.bind_ok, Vm.Res.Ok_ok, Vm.bindT, Vm.setAll, Vm.boolOf, Vm.isNon, Vm.b_add, Vm.b_sub, Vm.a_add, Vm.c_eq, Vm.c_ne, Vm.c_lt, Vm.c_le, Vm.c_gt, Vm.c_ge, Vm.Bf_len, Vm.Bf_sum, Vm.Bf_min2, Vm.wipeE, Vm.Tg.slots, Vm.lcTurn, Vm.forTurn, List.map_cons, List.map_nil, List.length_cons, List.length_nil, List.length_map, List.cons_append, List.nil_append, List.getElem?_cons_zero, List.getElem?_cons_succ, List.set_cons_zero, List.set_cons_succ, List.reduceReplicate, Nat.reduceSub, Nat.reduceAdd, Nat.zero_add, Int.toNat_natCast, Bool.not_true, Bool.not_false, decide_true, decide_false, if_true, if_false, Lit.pv, ix0, ix1, c_eqs, tw_is.1, tw_is.2, c1, c2, m]
            exact ⟨hh, .inr ⟨trivial, dn (by simp [alw1, m])⟩⟩
      | kn bo v =>
        simp (config := { implicitDefEqProofs := false }) only [Vm.evF, Vm.evSs, Vm.evS, Vm.evX, Vm.evE, Vm.evEs, Vm.evIt, Vm.evPt, Vm.Res.bind_assoc, Vm.Res.bind_ok, Vm.Res.Ok_ok, Vm.bindT, Vm.setAll, Vm.boolOf, Vm.isNon, Vm.b_add, Vm.b_sub, Vm.a_add, Vm.c_eq, Vm.c_ne, Vm.c_lt, Vm.c_le, Vm.c_gt, Vm.c_ge, Vm.Bf_len, Vm.Bf_sum, Vm.Bf_min2, Vm.wipeE, Vm.Tg.slots, Vm.lcTurn, Vm.forTurn, List.map_cons, List.map_nil, List.length_cons, List.length_nil, List.length_map, List.cons_append, List.nil_append, List.getElem?_cons_zero, List.getElem?_cons_succ, List.set_cons_zero, List.set_cons_succ, List.reduceReplicate, Nat.reduceSub, Nat.reduceAdd, Nat.zero_add, Int.toNat_natCast, Bool.not_true, Bool.not_false, decide_true, decide_false, if_true, if_false, Lit.pv, ix0, ix1, c_eqs, knS_ne.2.2.2.1, knS_ne.2.2.2.2]
        exact ⟨⟨_, rfl⟩, hh, up rfl⟩
      | ag f e =>
        have e2 : decide (("age" : Str) = "town") = false := by decide
        have e3 : decide (("age" : Str) = "out") = false := by decide
        simp (config := { implicitDefEqProofs := false }) only [Vm.evF, Vm.evSs, Vm.evS, Vm.evX, Vm.evE, Vm.evEs, Vm.evIt, Vm.evPt, Vm.Res.bind_assoc, Vm.Res.bind_ok, Vm.Res.Ok_ok, Vm.bindT, Vm.setAll, Vm.boolOf, Vm.isNon, Vm.b_add, Vm.b_sub, Vm.a_add, Vm.c_eq, Vm.c_ne, Vm.c_lt, Vm.c_le, Vm.c_gt, Vm.c_ge, Vm.Bf_len, Vm.Bf_sum, Vm.Bf_min2, Vm.wipeE, Vm.Tg.slots, Vm.lcTurn, Vm.forTurn, List.map_cons, List.map_nil, List.length_cons, List.length_nil, List.length_map, List.cons_append, List.nil_append, List.getElem?_cons_zero, List.getElem?_cons_succ, List.set_cons_zero, List.set_cons_succ, List.reduceReplicate, Nat.reduceSub, Nat.reduceAdd, Nat.zero_add, Int.toNat_natCast, Bool.not_true, Bool.not_false, decide_true, decide_false, if_true, if_false, Lit.pv, ix0, ix1, c_eqs, e2, e3]
        exact ⟨⟨_, rfl⟩, hh, up rfl⟩
  · obtain ⟨⟨u, rfl⟩, hh, al⟩ := j
    rw [List.length_map, List.take_of_length_le (Nat.le_refl _)] at al
    exact ⟨hh, .inl ⟨_, rfl, List.all_eq_true.mpr al⟩⟩
  · obtain ⟨hh, ⟨ev1, rfl, e⟩ | ⟨rfl, e⟩⟩ := q
    · simp (config := { implicitDefEqProofs := false }) only [Vm.evF, Vm.evSs, Vm.evS, Vm.evX, Vm.evE, Vm.evEs, Vm.evIt, Vm.evPt, Vm.Res.bind_assoc, Vm.Res.bind_ok, Vm.Res.Ok_ok, Vm.bindT, Vm.setAll, Vm.boolOf, Vm.isNon, Vm.b_add, Vm.b_sub, Vm.a_add, Vm.c_eq, Vm.c_ne, Vm.c_lt, Vm.c_le, Vm.c_gt, Vm.c_ge, Vm.Bf_len, Vm.Bf_sum, Vm.Bf_min2, Vm.wipeE, Vm.Tg.slots, Vm.lcTurn, Vm.forTurn, List.map_cons, List.map_nil, List.length_cons, List.length_nil, List.length_map, List.cons_append, List.nil_append, List.getElem?_cons_zero, List.getElem?_cons_succ, List.set_cons_zero, List.set_cons_succ, List.reduceReplicate, Nat.reduceSub, Nat.reduceAdd, Nat.zero_add, Int.toNat_natCast, Bool.not_true, Bool.not_false, decide_true, decide_false, if_true, if_false]
      rw [e]
      exact ⟨rfl, hh⟩
    · simp (config := { implicitDefEqProofs := false }) only [Vm.evF, Vm.evSs, Vm.evS, Vm.evX, Vm.evE, Vm.evEs, Vm.evIt, Vm.evPt, Vm.Res.bind_assoc, Vm.Res.bind_ok, Vm.Res.Ok_ok, Vm.bindT, Vm.setAll, Vm.boolOf, Vm.isNon, Vm.b_add, Vm.b_sub, Vm.a_add, Vm.c_eq, Vm.c_ne, Vm.c_lt, Vm.c_le, Vm.c_gt, Vm.c_ge, Vm.Bf_len, Vm.Bf_sum, Vm.Bf_min2, Vm.wipeE, Vm.Tg.slots, Vm.lcTurn, Vm.forTurn, List.map_cons, List.map_nil, List.length_cons, List.length_nil, List.length_map, List.cons_append, List.nil_append, List.getElem?_cons_zero, List.getElem?_cons_succ, List.set_cons_zero, List.set_cons_succ, List.reduceReplicate, Nat.reduceSub, Nat.reduceAdd, Nat.zero_add, Int.toNat_natCast, Bool.not_true, Bool.not_false, decide_true, decide_false, if_true, if_false]
      rw [e]
      exact ⟨rfl, hh⟩
theorem s_first {L : List Lit} {us : List Str} (hN : 2 ≤ N) (ok : ∀ l ∈ L, l.Ok) : (sem Bf ds N 5 [lts L, .tup (us.map PV.str)] h).Ok fun r h1 => (∃ o : Option Str, r = optS o ∧ (∀ t, o = some t → alw L t = true ∧ t ∈ us) ∧ (o = none → ∀ t ∈ us, alw L t = false)) ∧ h1 = h := by
  obtain ⟨N, rfl, k⟩ := pre hN (by decide)
  rw [sem_at (d := d__first_allowed) (L := 3) (b := b__first_allowed) rfl rfl rfl]
  simp (config := { implicitDefEqProofs := false }) only [Vm.evF, Vm.evSs, Vm.evS, Vm.evX, Vm.evE, Vm.evEs, Vm.evIt, Vm.evPt, Vm.Res.bind_assoc, Vm.Res.bind_ok, Vm.Res.Ok_ok, Vm.bindT, Vm.setAll, Vm.boolOf, Vm.isNon, Vm.b_add, Vm.b_sub, Vm.a_add, Vm.c_eq, Vm.c_ne, Vm.c_lt, Vm.c_le, Vm.c_gt, Vm.c_ge, Vm.Bf_len, Vm.Bf_sum, Vm.Bf_min2, Vm.wipeE, Vm.Tg.slots, Vm.lcTurn, Vm.forTurn, List.map_cons, List.map_nil, List.length_cons, List.length_nil, List.length_map, List.cons_append, List.nil_append, List.getElem?_cons_zero, List.getElem?_cons_succ, List.set_cons_zero, List.set_cons_succ, List.reduceReplicate, Nat.reduceSub, Nat.reduceAdd, Nat.zero_add, Int.toNat_natCast, Bool.not_true, Bool.not_false, decide_true, decide_false, if_true, if_false, b__first_allowed, rd]
  refine Res.ok_bind ((for_inv (xs := us.map PV.str) (src := .items (us.map PV.str)) (Q := fun o h1 => h1 = h ∧ ((∃ ev1, o = .nx ev1 ∧ ∀ t ∈ us, alw L t = false) ∨ ∃ t, o = .rt (.str t) ∧ alw L t = true ∧ t ∈ us))
    (fun k ev1 h1 => (∃ u, ev1 = [some (lts L), some (.tup (us.map PV.str)), u]) ∧ h1 = h ∧ ∀ t ∈ us.take k, alw L t = false) (fun k ev1 h1 j => rfl) (fun k x ev1 h1 e j => ?_) (fun ev1 h1 j => ?_) _ 0 _ h (by simp [Src.fuel]) (Nat.zero_le _) ⟨⟨_, rfl⟩, rfl, by simp⟩).mono fun o h1 q => ?_)
  · rw [List.getElem?_map] at e
    cases el : us[k]? with
    | none => rw [el] at e; cases e
    | some t =>
      rw [el] at e
      cases e
      obtain ⟨⟨u, rfl⟩, hh, al⟩ := j
      have tk : us.take (k + 1) = us.take k ++ [t] := by rw [List.take_add_one, el]; rfl
      simp (config := { implicitDefEqProofs := false }) only [Vm.evF, Vm.evSs, Vm.evS, Vm.evX, Vm.evE, Vm.evEs, Vm.evIt, Vm.evPt, Vm.Res.bind_assoc, Vm.Res.bind_ok, Vm.Res.Ok_ok, Vm.bindT, Vm.setAll, Vm.boolOf, Vm.isNon, Vm.b_add, Vm.b_sub, Vm.a_add, Vm.c_eq, Vm.c_ne, Vm.c_lt, Vm.c_le, Vm.c_gt, Vm.c_ge, Vm.Bf_len, Vm.Bf_sum, Vm.Bf_min2, Vm.wipeE, Vm.Tg.slots, Vm.lcTurn, Vm.forTurn, List.map_cons, List.map_nil, List.length_cons, List.length_nil, List.length_map, List.cons_append, List.nil_append, List.getElem?_cons_zero, List.getElem?_cons_succ, List.set_cons_zero, List.set_cons_succ, List.reduceReplicate, Nat.reduceSub, Nat.reduceAdd, Nat.zero_add, Int.toNat_natCast, Bool.not_true, Bool.not_false, decide_true, decide_false, if_true, if_false]
      refine Res.ok_bind ((s_allows (N := N) (h := h1) (L := L) (t := t) (by omega) ok).mono fun r h2 q => ?_)
      obtain ⟨rfl, rfl⟩ := q
      cases c : alw L t
      · simp (config := { implicitDefEqProofs := false }) only [Vm.evF, Vm.evSs, Vm.evS, Vm.evX, Vm.evE, Vm.evEs, Vm.evIt, Vm.evPt, Vm.Res.bind_assoc, Vm.Res.bind_ok, Vm.Res.Ok_ok, Vm.bindT, Vm.setAll, Vm.boolOf, Vm.isNon, Vm.b_add, Vm.b_sub, Vm.a_add, Vm.c_eq, Vm.c_ne, Vm.c_lt, Vm.c_le, Vm.c_gt, Vm.c_ge, Vm.Bf_len, Vm.Bf_sum, Vm.Bf_min2, Vm.wipeE, Vm.Tg.slots, Vm.lcTurn, Vm.forTurn, List.map_cons, List.map_nil, List.length_cons, List.length_nil, List.length_map, List.cons_append, List.nil_append, List.getElem?_cons_zero, List.getElem?_cons_succ, List.set_cons_zero, List.set_cons_succ, List.reduceReplicate, Nat.reduceSub, Nat.reduceAdd, Nat.zero_add, Int.toNat_natCast, Bool.not_true, Bool.not_false, decide_true, decide_false, if_true, if_false, c]
        refine ⟨⟨_, rfl⟩, hh, fun t' ht => ?_⟩
        rw [tk] at ht
        rcases List.mem_append.mp ht with q | q
        · exact al t' q
        · have : t' = t := by simpa using q
          subst this
          exact c
      · simp (config := { implicitDefEqProofs := false }) only [Vm.evF, Vm.evSs, Vm.evS, Vm.evX, Vm.evE, Vm.evEs, Vm.evIt, Vm.evPt, Vm.Res.bind_assoc, Vm.Res.bind_ok, Vm.Res.Ok_ok, Vm.bindT, Vm.setAll, Vm.boolOf, Vm.isNon, Vm.b_add, Vm.b_sub, Vm.a_add, Vm.c_eq, Vm.c_ne, Vm.c_lt, Vm.c_le, Vm.c_gt, Vm.c_ge, Vm.Bf_len, Vm.Bf_sum, Vm.Bf_min2, Vm.wipeE, Vm.Tg.slots, Vm.lcTurn, Vm.forTurn, List.map_cons, List.map_nil, List.length_cons, List.length_nil, List.length_map, List.cons_append, List.nil_append, List.getElem?_cons_zero, List.getElem?_cons_succ, List.set_cons_zero, List.set_cons_succ, List.reduceReplicate, Nat.reduceSub, Nat.reduceAdd, Nat.zero_add, Int.toNat_natCast, Bool.not_true, Bool.not_false, decide_true, decide_false, if_true, if_false, c]
        exact ⟨hh, .inr ⟨t, rfl, c, List.mem_of_getElem? el⟩⟩
  · obtain ⟨⟨u, rfl⟩, hh, al⟩ := j
    rw [List.length_map, List.take_of_length_le (Nat.le_refl _)] at al
    exact ⟨hh, .inl ⟨_, rfl, al⟩⟩
  · obtain ⟨hh, ⟨ev1, rfl, e⟩ | ⟨t, rfl, e⟩⟩ := q
    · simp (config := { implicitDefEqProofs := false }) only [Vm.evF, Vm.evSs, Vm.evS, Vm.evX, Vm.evE, Vm.evEs, Vm.evIt, Vm.evPt, Vm.Res.bind_assoc, Vm.Res.bind_ok, Vm.Res.Ok_ok, Vm.bindT, Vm.setAll, Vm.boolOf, Vm.isNon, Vm.b_add, Vm.b_sub, Vm.a_add, Vm.c_eq, Vm.c_ne, Vm.c_lt, Vm.c_le, Vm.c_gt, Vm.c_ge, Vm.Bf_len, Vm.Bf_sum, Vm.Bf_min2, Vm.wipeE, Vm.Tg.slots, Vm.lcTurn, Vm.forTurn, List.map_cons, List.map_nil, List.length_cons, List.length_nil, List.length_map, List.cons_append, List.nil_append, List.getElem?_cons_zero, List.getElem?_cons_succ, List.set_cons_zero, List.set_cons_succ, List.reduceReplicate, Nat.reduceSub, Nat.reduceAdd, Nat.zero_add, Int.toNat_natCast, Bool.not_true, Bool.not_false, decide_true, decide_false, if_true, if_false]
      exact ⟨⟨none, rfl, (fun t e => nomatch e), fun _ => e⟩, hh⟩
    · simp (config := { implicitDefEqProofs := false }) only [Vm.evF, Vm.evSs, Vm.evS, Vm.evX, Vm.evE, Vm.evEs, Vm.evIt, Vm.evPt, Vm.Res.bind_assoc, Vm.Res.bind_ok, Vm.Res.Ok_ok, Vm.bindT, Vm.setAll, Vm.boolOf, Vm.isNon, Vm.b_add, Vm.b_sub, Vm.a_add, Vm.c_eq, Vm.c_ne, Vm.c_lt, Vm.c_le, Vm.c_gt, Vm.c_ge, Vm.Bf_len, Vm.Bf_sum, Vm.Bf_min2, Vm.wipeE, Vm.Tg.slots, Vm.lcTurn, Vm.forTurn, List.map_cons, List.map_nil, List.length_cons, List.length_nil, List.length_map, List.cons_append, List.nil_append, List.getElem?_cons_zero, List.getElem?_cons_succ, List.set_cons_zero, List.set_cons_succ, List.reduceReplicate, Nat.reduceSub, Nat.reduceAdd, Nat.zero_add, Int.toNat_natCast, Bool.not_true, Bool.not_false, decide_true, decide_false, if_true, if_false]
      exact ⟨⟨some t, rfl, fun t' e' => by cases e'; exact e, fun e => nomatch e⟩, hh⟩
/-! ### words by number -/
def Wd (n : Nat) : Str := if n < 26 then (⟨#[97 + n]⟩ : Str) ++ ("" : Str) else (⟨#[97 + (n / 26 - 1)]⟩ : Str) ++ ((⟨#[97 + n % 26]⟩ : Str) ++ ("" : Str))
theorem Wd_nodup : ((List.range 200).map Wd).Nodup := by decide +kernel
theorem add_txt {x y : Str} (l : x.length + y.length ≤ 1000) : binF .add (.str x) (.str y) h = .ok (.str (x ++ y)) h := by
  have : x.length + y.length ≤ sizeLine := by rw [sizeLine_eq]; omega
  show (if x.length + y.length ≤ sizeLine then (Res.ok (PV.str (x ++ y)) h : Res PV) else .stuck) = _
  rw [if_pos this]
theorem aug_sub {i j : Int} : augF .sub (.int i) (.int j) h = .ok (.int (i - j)) h := rfl
theorem aug_div {i : Int} : augF .fdiv (.int i) (.int 26) h = .ok (.int (i / 26)) h := rfl
theorem s_word {n : Nat} (hN : 1 ≤ N) (l : n < 200) : (sem Bf ds N 7 [.int n] h).Ok fun r h1 => r = .str (Wd n) ∧ h1 = h := by
  obtain ⟨N, rfl, k⟩ := pre hN (by decide)
  rw [sem_at (d := d__word_at) (L := 3) (b := b__word_at) rfl rfl rfl]
  simp (config := { implicitDefEqProofs := false }) only [Vm.evF, Vm.evSs, Vm.evS, Vm.evX, Vm.evE, Vm.evEs, Vm.evIt, Vm.evPt, Vm.Res.bind_assoc, Vm.Res.bind_ok, Vm.Res.Ok_ok, Vm.bindT, Vm.setAll, Vm.boolOf, Vm.isNon, Vm.b_add, Vm.b_sub, Vm.a_add, Vm.c_eq, Vm.c_ne, Vm.c_lt, Vm.c_le, Vm.c_gt, Vm.c_ge, Vm.Bf_len, Vm.Bf_sum, Vm.Bf_min2, Vm.wipeE, Vm.Tg.slots, Vm.lcTurn, Vm.forTurn, List.map_cons, List.map_nil, List.length_cons, List.length_nil, List.length_map, List.cons_append, List.nil_append, List.getElem?_cons_zero, List.getElem?_cons_succ, List.set_cons_zero, List.set_cons_succ, List.reduceReplicate, Nat.reduceSub, Nat.reduceAdd, Nat.zero_add, Int.toNat_natCast, Bool.not_true, Bool.not_false, decide_true, decide_false, if_true, if_false, b__word_at]
  refine Res.ok_bind ((whl_inv (Q := fun o h1 => h1 = h ∧ ∃ u v, o = .nx [u, some (.str (Wd n)), v]) (fun m ev1 h1 => h1 = h ∧ ((m = 2 ∧ ev1 = [some (.int n), some (.str ""), some (.int ((n : Int) + 1))]) ∨ (m = 1 ∧ 26 ≤ n ∧ ev1 = [some (.int n), some (.str ((⟨#[97 + n % 26]⟩ : Str) ++ ("" : Str))), some (.int ((n / 26 : Nat) : Int))]) ∨ (m = 0 ∧ ev1 = [some (.int n), some (.str (Wd n)), some (.int 0)]))) (fun m ev1 h1 j => ?_) 100000 2 _ h (by decide) ⟨rfl, .inl ⟨rfl, rfl⟩⟩).mono fun o h1 q => ?_)
  · obtain ⟨hh, ⟨rfl, rfl⟩ | ⟨rfl, ge, rfl⟩ | ⟨rfl, rfl⟩⟩ := j
    · have c : (0 : Int) < (n : Int) + 1 := by omega
      simp (config := { implicitDefEqProofs := false }) only [Vm.evF, Vm.evSs, Vm.evS, Vm.evX, Vm.evE, Vm.evEs, Vm.evIt, Vm.evPt, Vm.Res.bind_assoc, Vm.Res.bind_ok, Vm.Res.Ok_ok, Vm.bindT, Vm.setAll, Vm.boolOf, Vm.isNon, Vm.b_add, Vm.b_sub, Vm.a_add, Vm.c_eq, Vm.c_ne, Vm.c_lt, Vm.c_le, Vm.c_gt, Vm.c_ge, Vm.Bf_len, Vm.Bf_sum, Vm.Bf_min2, Vm.wipeE, Vm.Tg.slots, Vm.lcTurn, Vm.forTurn, List.map_cons, List.map_nil, List.length_cons, List.length_nil, List.length_map, List.cons_append, List.nil_append, List.getElem?_cons_zero, List.getElem?_cons_succ, List.set_cons_zero, List.set_cons_succ, List.reduceReplicate, Nat.reduceSub, Nat.reduceAdd, Nat.zero_add, Int.toNat_natCast, Bool.not_true, Bool.not_false, decide_true, decide_false, if_true, if_false, c]
      refine .inr ⟨trivial, ?_⟩
      have em := em_bd (i := (n : Int) + 1 - 1) (show (0 : Int) < 26 by decide)
      have et : 97 + (((n : Int) + 1 - 1) % 26).toNat = 97 + n % 26 := by omega
      simp (config := { implicitDefEqProofs := false }) only [Vm.evF, Vm.evSs, Vm.evS, Vm.evX, Vm.evE, Vm.evEs, Vm.evIt, Vm.evPt, Vm.Res.bind_assoc, Vm.Res.bind_ok, Vm.Res.Ok_ok, Vm.bindT, Vm.setAll, Vm.boolOf, Vm.isNon, Vm.b_add, Vm.b_sub, Vm.a_add, Vm.c_eq, Vm.c_ne, Vm.c_lt, Vm.c_le, Vm.c_gt, Vm.c_ge, Vm.Bf_len, Vm.Bf_sum, Vm.Bf_min2, Vm.wipeE, Vm.Tg.slots, Vm.lcTurn, Vm.forTurn, List.map_cons, List.map_nil, List.length_cons, List.length_nil, List.length_map, List.cons_append, List.nil_append, List.getElem?_cons_zero, List.getElem?_cons_succ, List.set_cons_zero, List.set_cons_succ, List.reduceReplicate, Nat.reduceSub, Nat.reduceAdd, Nat.zero_add, Int.toNat_natCast, Bool.not_true, Bool.not_false, decide_true, decide_false, if_true, if_false, aug_sub, Cst.pv, mod_ok (i := (n : Int) + 1 - 1) (h := h1) (show (0 : Int) < 26 by decide), let_ok (h := h1) em.1 em.2, et]
      rw [add_txt (by show 1 + 0 ≤ 1000; omega)]
      simp (config := { implicitDefEqProofs := false }) only [Vm.evF, Vm.evSs, Vm.evS, Vm.evX, Vm.evE, Vm.evEs, Vm.evIt, Vm.evPt, Vm.Res.bind_assoc, Vm.Res.bind_ok, Vm.Res.Ok_ok, Vm.bindT, Vm.setAll, Vm.boolOf, Vm.isNon, Vm.b_add, Vm.b_sub, Vm.a_add, Vm.c_eq, Vm.c_ne, Vm.c_lt, Vm.c_le, Vm.c_gt, Vm.c_ge, Vm.Bf_len, Vm.Bf_sum, Vm.Bf_min2, Vm.wipeE, Vm.Tg.slots, Vm.lcTurn, Vm.forTurn, List.map_cons, List.map_nil, List.length_cons, List.length_nil, List.length_map, List.cons_append, List.nil_append, List.getElem?_cons_zero, List.getElem?_cons_succ, List.set_cons_zero, List.set_cons_succ, List.reduceReplicate, Nat.reduceSub, Nat.reduceAdd, Nat.zero_add, Int.toNat_natCast, Bool.not_true, Bool.not_false, decide_true, decide_false, if_true, if_false, aug_div]
      by_cases c : n < 26
      · refine ⟨0, by decide, hh, .inr (.inr ⟨rfl, ?_⟩)⟩
        have e1 : ((n : Int) + 1 - 1) / 26 = 0 := by omega
        have e2 : n % 26 = n := by omega
        rw [e1]
        unfold Wd
        rw [if_pos c, e2]
      · refine ⟨1, by decide, hh, .inr (.inl ⟨rfl, by omega, ?_⟩)⟩
        have e1 : ((n : Int) + 1 - 1) / 26 = ((n / 26 : Nat) : Int) := by omega
        rw [e1]
    · have c : (0 : Int) < ((n / 26 : Nat) : Int) := by omega
      simp (config := { implicitDefEqProofs := false }) only [Vm.evF, Vm.evSs, Vm.evS, Vm.evX, Vm.evE, Vm.evEs, Vm.evIt, Vm.evPt, Vm.Res.bind_assoc, Vm.Res.bind_ok, Vm.Res.Ok_ok, Vm.bindT, Vm.setAll, Vm.boolOf, Vm.isNon, Vm.b_add, Vm.b_sub, Vm.a_add, Vm.c_eq, Vm.c_ne, Vm.c_lt, Vm.c_le, Vm.c_gt, Vm.c_ge, Vm.Bf_len, Vm.Bf_sum, Vm.Bf_min2, Vm.wipeE, Vm.Tg.slots, Vm.lcTurn, Vm.forTurn, List.map_cons, List.map_nil, List.length_cons, List.length_nil, List.length_map, List.cons_append, List.nil_append, List.getElem?_cons_zero, List.getElem?_cons_succ, List.set_cons_zero, List.set_cons_succ, List.reduceReplicate, Nat.reduceSub, Nat.reduceAdd, Nat.zero_add, Int.toNat_natCast, Bool.not_true, Bool.not_false, decide_true, decide_false, if_true, if_false, c]
      refine .inr ⟨trivial, ?_⟩
      have em := em_bd (i := ((n / 26 : Nat) : Int) - 1) (show (0 : Int) < 26 by decide)
      have et : 97 + ((((n / 26 : Nat) : Int) - 1) % 26).toNat = 97 + (n / 26 - 1) := by omega
      simp (config := { implicitDefEqProofs := false }) only [Vm.evF, Vm.evSs, Vm.evS, Vm.evX, Vm.evE, Vm.evEs, Vm.evIt, Vm.evPt, Vm.Res.bind_assoc, Vm.Res.bind_ok, Vm.Res.Ok_ok, Vm.bindT, Vm.setAll, Vm.boolOf, Vm.isNon, Vm.b_add, Vm.b_sub, Vm.a_add, Vm.c_eq, Vm.c_ne, Vm.c_lt, Vm.c_le, Vm.c_gt, Vm.c_ge, Vm.Bf_len, Vm.Bf_sum, Vm.Bf_min2, Vm.wipeE, Vm.Tg.slots, Vm.lcTurn, Vm.forTurn, List.map_cons, List.map_nil, List.length_cons, List.length_nil, List.length_map, List.cons_append, List.nil_append, List.getElem?_cons_zero, List.getElem?_cons_succ, List.set_cons_zero, List.set_cons_succ, List.reduceReplicate, Nat.reduceSub, Nat.reduceAdd, Nat.zero_add, Int.toNat_natCast, Bool.not_true, Bool.not_false, decide_true, decide_false, if_true, if_false, aug_sub, Cst.pv, mod_ok (i := ((n / 26 : Nat) : Int) - 1) (h := h1) (show (0 : Int) < 26 by decide), let_ok (h := h1) em.1 em.2, et]
      rw [add_txt (by show 1 + 1 ≤ 1000; omega)]
      simp (config := { implicitDefEqProofs := false }) only [Vm.evF, Vm.evSs, Vm.evS, Vm.evX, Vm.evE, Vm.evEs, Vm.evIt, Vm.evPt, Vm.Res.bind_assoc, Vm.Res.bind_ok, Vm.Res.Ok_ok, Vm.bindT, Vm.setAll, Vm.boolOf, Vm.isNon, Vm.b_add, Vm.b_sub, Vm.a_add, Vm.c_eq, Vm.c_ne, Vm.c_lt, Vm.c_le, Vm.c_gt, Vm.c_ge, Vm.Bf_len, Vm.Bf_sum, Vm.Bf_min2, Vm.wipeE, Vm.Tg.slots, Vm.lcTurn, Vm.forTurn, List.map_cons, List.map_nil, List.length_cons, List.length_nil, List.length_map, List.cons_append, List.nil_append, List.getElem?_cons_zero, List.getElem?_cons_succ, List.set_cons_zero, List.set_cons_succ, List.reduceReplicate, Nat.reduceSub, Nat.reduceAdd, Nat.zero_add, Int.toNat_natCast, Bool.not_true, Bool.not_false, decide_true, decide_false, if_true, if_false, aug_div]
      refine ⟨0, by decide, hh, .inr (.inr ⟨rfl, ?_⟩)⟩
      have e1 : (((n / 26 : Nat) : Int) - 1) / 26 = 0 := by omega
      rw [e1]
      unfold Wd
      rw [if_neg (by omega)]
    · simp (config := { implicitDefEqProofs := false }) only [Vm.evF, Vm.evSs, Vm.evS, Vm.evX, Vm.evE, Vm.evEs, Vm.evIt, Vm.evPt, Vm.Res.bind_assoc, Vm.Res.bind_ok, Vm.Res.Ok_ok, Vm.bindT, Vm.setAll, Vm.boolOf, Vm.isNon, Vm.b_add, Vm.b_sub, Vm.a_add, Vm.c_eq, Vm.c_ne, Vm.c_lt, Vm.c_le, Vm.c_gt, Vm.c_ge, Vm.Bf_len, Vm.Bf_sum, Vm.Bf_min2, Vm.wipeE, Vm.Tg.slots, Vm.lcTurn, Vm.forTurn, List.map_cons, List.map_nil, List.length_cons, List.length_nil, List.length_map, List.cons_append, List.nil_append, List.getElem?_cons_zero, List.getElem?_cons_succ, List.set_cons_zero, List.set_cons_succ, List.reduceReplicate, Nat.reduceSub, Nat.reduceAdd, Nat.zero_add, Int.toNat_natCast, Bool.not_true, Bool.not_false, decide_true, decide_false, if_true, if_false]
      exact .inl ⟨by simp, hh, _, _, rfl⟩
  · obtain ⟨hh, u, v, rfl⟩ := q
    simp (config := { implicitDefEqProofs := false }) only [Vm.evF, Vm.evSs, Vm.evS, Vm.evX, Vm.evE, Vm.evEs, Vm.evIt, Vm.evPt, Vm.Res.bind_assoc, Vm.Res.bind_ok, Vm.Res.Ok_ok, Vm.bindT, Vm.setAll, Vm.boolOf, Vm.isNon, Vm.b_add, Vm.b_sub, Vm.a_add, Vm.c_eq, Vm.c_ne, Vm.c_lt, Vm.c_le, Vm.c_gt, Vm.c_ge, Vm.Bf_len, Vm.Bf_sum, Vm.Bf_min2, Vm.wipeE, Vm.Tg.slots, Vm.lcTurn, Vm.forTurn, List.map_cons, List.map_nil, List.length_cons, List.length_nil, List.length_map, List.cons_append, List.nil_append, List.getElem?_cons_zero, List.getElem?_cons_succ, List.set_cons_zero, List.set_cons_succ, List.reduceReplicate, Nat.reduceSub, Nat.reduceAdd, Nat.zero_add, Int.toNat_natCast, Bool.not_true, Bool.not_false, decide_true, decide_false, if_true, if_false]
    exact ⟨trivial, hh⟩
end
end K05

set_option Elab.async false
set_option linter.all false
set_option maxRecDepth 100000
set_option maxHeartbeats 4000000
namespace K05
open PySem PySem.Spec PyProof.Rows L2 Vm L06 L07
def bar1 : Lit → List Str
  | .tw false us => us
  | _ => []
theorem bars_len : ∀ {L : List Lit}, (∀ l ∈ L, l.Ok) → (L.flatMap bar1).length ≤ 6 * L.length
  | [], _ => by simp
  | l :: L, ok => by
    have ih := bars_len (L := L) fun x hx => ok x (List.mem_cons_of_mem _ hx)
    have b : (bar1 l).length ≤ 6 := by
      have o := ok l List.mem_cons_self
      cases l with
      | tw q us =>
        cases q
        · exact o.2.1
        · exact Nat.zero_le _
      | kn q v => exact Nat.zero_le _
      | ag f e => exact Nat.zero_le _
    rw [List.flatMap_cons, List.length_append, List.length_cons]
    omega
theorem bars_few {L : List Lit} {n : Nat} (ok : ∀ l ∈ L, l.Ok) (hL : L.length ≤ 20) (nt : ∀ us, Lit.tw true us ∉ L) (l64 : n ≤ 200) (hb : ∀ i, i < n → alw L (Wd i) = false) : n ≤ 120 := by
  have nd : ((List.range n).map Wd).Nodup := Wd_nodup.sublist ((List.range_sublist.mpr l64).map Wd)
  have s := nodup_sub nd (m := L.flatMap bar1) fun x hx => by
    obtain ⟨i, hi, rfl⟩ := List.mem_map.mp hx
    have q := hb i (List.mem_range.mp hi)
    unfold alw at q
    rw [List.all_eq_false] at q
    obtain ⟨l, hl, c⟩ := q
    refine List.mem_flatMap.mpr ⟨l, hl, ?_⟩
    cases l with
    | tw bo us =>
      cases bo with
      | true => exact absurd hl (nt us)
      | false =>
        unfold bar1
        by_cases m : Wd i ∈ us
        · exact m
        · exact absurd (by simp [alw1, m]) c
    | kn bo v => exact absurd rfl c
    | ag f e => exact absurd rfl c
  have bl := bars_len ok
  rw [List.length_map, List.length_range] at s
  omega
theorem Wd_all : ((List.range 200).all fun n => isWB (Wd n)) = true := by decide +kernel
theorem Wd_ok {n : Nat} (l : n < 200) : IsW (Wd n) := isW_of (List.all_eq_true.mp Wd_all n (List.mem_range.mpr l))
section
variable {h : IH} {N a p b n : Nat} {cs : List Int} {ts : List Str}
theorem s_num {L : List Lit} {u : Option PV} (hN : 1 ≤ N) (ok : ∀ l ∈ L, l.Ok) (hL : L.length ≤ 20) (nt : ∀ us, Lit.tw true us ∉ L) :
    (evSs (sem Bf ds N) Bf (.cons (.x (.set (.one 2) (.int 0))) (.cons (.whl (.not (.call 6 (.cons (.var 0) (.cons (.call 7 (.cons (.var 2) .nil)) .nil)))) (.cons (.x (.augv 2 .add (.int 1))) .nil)) (.cons (.x (.ret (.call 7 (.cons (.var 2) .nil)))) .nil))) [some (lts L), u, none] h).Ok fun o h1 => (∃ t, o = .rt (.str t) ∧ alw L t = true ∧ IsW t) ∧ h1 = h := by
  simp (config := { implicitDefEqProofs := false }) only [Vm.evF, Vm.evSs, Vm.evS, Vm.evX, Vm.evE, Vm.evEs, Vm.evIt, Vm.evPt, Vm.Res.bind_assoc, Vm.Res.bind_ok, Vm.Res.Ok_ok, Vm.bindT, Vm.setAll, Vm.boolOf, Vm.isNon, Vm.b_add, Vm.b_sub, Vm.a_add, Vm.c_eq, Vm.c_ne, Vm.c_lt, Vm.c_le, Vm.c_gt, Vm.c_ge, Vm.Bf_len, Vm.Bf_sum, Vm.Bf_min2, Vm.wipeE, Vm.Tg.slots, Vm.lcTurn, Vm.forTurn, List.map_cons, List.map_nil, List.length_cons, List.length_nil, List.length_map, List.cons_append, List.nil_append, List.getElem?_cons_zero, List.getElem?_cons_succ, List.set_cons_zero, List.set_cons_succ, List.reduceReplicate, Nat.reduceSub, Nat.reduceAdd, Nat.zero_add, Int.toNat_natCast, Bool.not_true, Bool.not_false, decide_true, decide_false, if_true, if_false]
  refine Res.ok_bind ((whl_inv (Q := fun o h1 => h1 = h ∧ ∃ n : Nat, n < 200 ∧ alw L (Wd n) = true ∧ o = .nx [some (lts L), u, some (.int n)]) (fun m ev1 h1 => h1 = h ∧ ∃ n : Nat, m + n = 199 ∧ (∀ i, i < n → alw L (Wd i) = false) ∧ ev1 = [some (lts L), u, some (.int n)]) (fun m ev1 h1 j => ?_) 100000 199 _ h (by decide) ⟨rfl, 0, rfl, (fun i hi => nomatch hi), rfl⟩).mono fun o h1 q => ?_)
  · obtain ⟨hh, n, mn, hb, rfl⟩ := j
    simp (config := { implicitDefEqProofs := false }) only [Vm.evF, Vm.evSs, Vm.evS, Vm.evX, Vm.evE, Vm.evEs, Vm.evIt, Vm.evPt, Vm.Res.bind_assoc, Vm.Res.bind_ok, Vm.Res.Ok_ok, Vm.bindT, Vm.setAll, Vm.boolOf, Vm.isNon, Vm.b_add, Vm.b_sub, Vm.a_add, Vm.c_eq, Vm.c_ne, Vm.c_lt, Vm.c_le, Vm.c_gt, Vm.c_ge, Vm.Bf_len, Vm.Bf_sum, Vm.Bf_min2, Vm.wipeE, Vm.Tg.slots, Vm.lcTurn, Vm.forTurn, List.map_cons, List.map_nil, List.length_cons, List.length_nil, List.length_map, List.cons_append, List.nil_append, List.getElem?_cons_zero, List.getElem?_cons_succ, List.set_cons_zero, List.set_cons_succ, List.reduceReplicate, Nat.reduceSub, Nat.reduceAdd, Nat.zero_add, Int.toNat_natCast, Bool.not_true, Bool.not_false, decide_true, decide_false, if_true, if_false]
    refine Res.ok_bind ((s_word (N := N) (h := h1) (n := n) (by omega) (by omega)).mono fun r h2 q => ?_)
    obtain ⟨rfl, rfl⟩ := q
    try simp (config := { implicitDefEqProofs := false }) only [Vm.evF, Vm.evSs, Vm.evS, Vm.evX, Vm.evE, Vm.evEs, Vm.evIt, Vm.evPt, Vm.Res.bind_assoc, Vm.Res.bind_ok, Vm.Res.Ok_ok, Vm.bindT, Vm.setAll, Vm.boolOf, Vm.isNon, Vm.b_add, Vm.b_sub, Vm.a_add, Vm.c_eq, Vm.c_ne, Vm.c_lt, Vm.c_le, Vm.c_gt, Vm.c_ge, Vm.Bf_len, Vm.Bf_sum, Vm.Bf_min2, Vm.wipeE, Vm.Tg.slots, Vm.lcTurn, Vm.forTurn, List.map_cons, List.map_nil, List.length_cons, List.length_nil, List.length_map, List.cons_append, List.nil_append, List.getElem?_cons_zero, List.getElem?_cons_succ, List.set_cons_zero, List.set_cons_succ, List.reduceReplicate, Nat.reduceSub, Nat.reduceAdd, Nat.zero_add, Int.toNat_natCast, Bool.not_true, Bool.not_false, decide_true, decide_false, if_true, if_false]
    refine Res.ok_bind ((s_allows (N := N) (h := h2) (L := L) (t := Wd n) (by omega) ok).mono fun r h3 q => ?_)
    obtain ⟨rfl, rfl⟩ := q
    have n62 := bars_few ok hL nt (n := n) (by omega) hb
    cases c : alw L (Wd n)
    · simp (config := { implicitDefEqProofs := false }) only [Vm.evF, Vm.evSs, Vm.evS, Vm.evX, Vm.evE, Vm.evEs, Vm.evIt, Vm.evPt, Vm.Res.bind_assoc, Vm.Res.bind_ok, Vm.Res.Ok_ok, Vm.bindT, Vm.setAll, Vm.boolOf, Vm.isNon, Vm.b_add, Vm.b_sub, Vm.a_add, Vm.c_eq, Vm.c_ne, Vm.c_lt, Vm.c_le, Vm.c_gt, Vm.c_ge, Vm.Bf_len, Vm.Bf_sum, Vm.Bf_min2, Vm.wipeE, Vm.Tg.slots, Vm.lcTurn, Vm.forTurn, List.map_cons, List.map_nil, List.length_cons, List.length_nil, List.length_map, List.cons_append, List.nil_append, List.getElem?_cons_zero, List.getElem?_cons_succ, List.set_cons_zero, List.set_cons_succ, List.reduceReplicate, Nat.reduceSub, Nat.reduceAdd, Nat.zero_add, Int.toNat_natCast, Bool.not_true, Bool.not_false, decide_true, decide_false, if_true, if_false, c]
      refine .inr ⟨trivial, m - 1, by omega, hh, n + 1, by omega, fun i hi => ?_, rfl⟩
      by_cases e : i = n
      · subst e
        exact c
      · exact hb i (by omega)
    · simp (config := { implicitDefEqProofs := false }) only [Vm.evF, Vm.evSs, Vm.evS, Vm.evX, Vm.evE, Vm.evEs, Vm.evIt, Vm.evPt, Vm.Res.bind_assoc, Vm.Res.bind_ok, Vm.Res.Ok_ok, Vm.bindT, Vm.setAll, Vm.boolOf, Vm.isNon, Vm.b_add, Vm.b_sub, Vm.a_add, Vm.c_eq, Vm.c_ne, Vm.c_lt, Vm.c_le, Vm.c_gt, Vm.c_ge, Vm.Bf_len, Vm.Bf_sum, Vm.Bf_min2, Vm.wipeE, Vm.Tg.slots, Vm.lcTurn, Vm.forTurn, List.map_cons, List.map_nil, List.length_cons, List.length_nil, List.length_map, List.cons_append, List.nil_append, List.getElem?_cons_zero, List.getElem?_cons_succ, List.set_cons_zero, List.set_cons_succ, List.reduceReplicate, Nat.reduceSub, Nat.reduceAdd, Nat.zero_add, Int.toNat_natCast, Bool.not_true, Bool.not_false, decide_true, decide_false, if_true, if_false, c]
      exact .inl ⟨trivial, hh, n, by omega, c, rfl⟩
  · obtain ⟨hh, n, l, e, rfl⟩ := q
    simp (config := { implicitDefEqProofs := false }) only [Vm.evF, Vm.evSs, Vm.evS, Vm.evX, Vm.evE, Vm.evEs, Vm.evIt, Vm.evPt, Vm.Res.bind_assoc, Vm.Res.bind_ok, Vm.Res.Ok_ok, Vm.bindT, Vm.setAll, Vm.boolOf, Vm.isNon, Vm.b_add, Vm.b_sub, Vm.a_add, Vm.c_eq, Vm.c_ne, Vm.c_lt, Vm.c_le, Vm.c_gt, Vm.c_ge, Vm.Bf_len, Vm.Bf_sum, Vm.Bf_min2, Vm.wipeE, Vm.Tg.slots, Vm.lcTurn, Vm.forTurn, List.map_cons, List.map_nil, List.length_cons, List.length_nil, List.length_map, List.cons_append, List.nil_append, List.getElem?_cons_zero, List.getElem?_cons_succ, List.set_cons_zero, List.set_cons_succ, List.reduceReplicate, Nat.reduceSub, Nat.reduceAdd, Nat.zero_add, Int.toNat_natCast, Bool.not_true, Bool.not_false, decide_true, decide_false, if_true, if_false]
    refine Res.ok_bind ((s_word (N := N) (h := h1) (n := n) (by omega) (by omega)).mono fun r h2 q => ?_)
    obtain ⟨rfl, rfl⟩ := q
    try simp (config := { implicitDefEqProofs := false }) only [Vm.evF, Vm.evSs, Vm.evS, Vm.evX, Vm.evE, Vm.evEs, Vm.evIt, Vm.evPt, Vm.Res.bind_assoc, Vm.Res.bind_ok, Vm.Res.Ok_ok, Vm.bindT, Vm.setAll, Vm.boolOf, Vm.isNon, Vm.b_add, Vm.b_sub, Vm.a_add, Vm.c_eq, Vm.c_ne, Vm.c_lt, Vm.c_le, Vm.c_gt, Vm.c_ge, Vm.Bf_len, Vm.Bf_sum, Vm.Bf_min2, Vm.wipeE, Vm.Tg.slots, Vm.lcTurn, Vm.forTurn, List.map_cons, List.map_nil, List.length_cons, List.length_nil, List.length_map, List.cons_append, List.nil_append, List.getElem?_cons_zero, List.getElem?_cons_succ, List.set_cons_zero, List.set_cons_succ, List.reduceReplicate, Nat.reduceSub, Nat.reduceAdd, Nat.zero_add, Int.toNat_natCast, Bool.not_true, Bool.not_false, decide_true, decide_false, if_true, if_false]
    exact ⟨⟨_, rfl, e, Wd_ok l⟩, hh⟩
theorem s_town {L : List Lit} (hN : 3 ≤ N) (ok : ∀ l ∈ L, l.Ok) (hL : L.length ≤ 20) : (sem Bf ds N 4 [lts L] h).Ok fun r h1 => (∃ o : Option Str, r = optS o ∧ (∀ t, o = some t → alw L t = true ∧ IsW t) ∧ (o = none → ¬ TT L)) ∧ h1 = h := by
  obtain ⟨N, rfl, k⟩ := pre hN (by decide)
  rw [sem_at (d := d__town_by) (L := 3) (b := b__town_by) rfl rfl rfl]
  unfold b__town_by
  generalize hT : Ss.cons (.x (.set (.one 2) (.int 0))) (.cons (.whl (.not (.call 6 (.cons (.var 0) (.cons (.call 7 (.cons (.var 2) .nil)) .nil)))) (.cons (.x (.augv 2 .add (.int 1))) .nil)) (.cons (.x (.ret (.call 7 (.cons (.var 2) .nil)))) .nil)) = T
  simp (config := { implicitDefEqProofs := false }) only [Vm.evF, Vm.evSs, Vm.evS, Vm.evX, Vm.evE, Vm.evEs, Vm.evIt, Vm.evPt, Vm.Res.bind_assoc, Vm.Res.bind_ok, Vm.Res.Ok_ok, Vm.bindT, Vm.setAll, Vm.boolOf, Vm.isNon, Vm.b_add, Vm.b_sub, Vm.a_add, Vm.c_eq, Vm.c_ne, Vm.c_lt, Vm.c_le, Vm.c_gt, Vm.c_ge, Vm.Bf_len, Vm.Bf_sum, Vm.Bf_min2, Vm.wipeE, Vm.Tg.slots, Vm.lcTurn, Vm.forTurn, List.map_cons, List.map_nil, List.length_cons, List.length_nil, List.length_map, List.cons_append, List.nil_append, List.getElem?_cons_zero, List.getElem?_cons_succ, List.set_cons_zero, List.set_cons_succ, List.reduceReplicate, Nat.reduceSub, Nat.reduceAdd, Nat.zero_add, Int.toNat_natCast, Bool.not_true, Bool.not_false, decide_true, decide_false, if_true, if_false, lts, rd]
  refine Res.ok_bind ((for_inv (xs := L.map Lit.pv) (src := .items (L.map Lit.pv)) (Q := fun o h1 => h1 = h ∧ ((∃ u, o = .nx [some (lts L), u, none] ∧ ∀ us, Lit.tw true us ∉ L) ∨ ∃ q : Option Str, o = .rt (optS q) ∧ (∀ t, q = some t → alw L t = true ∧ IsW t) ∧ (q = none → ¬ TT L)))
    (fun k ev1 h1 => (∃ u, ev1 = [some (lts L), u, none]) ∧ h1 = h ∧ ∀ us, Lit.tw true us ∉ L.take k) (fun k ev1 h1 j => rfl) (fun k x ev1 h1 e j => ?_) (fun ev1 h1 j => ?_) _ 0 _ h (by simp [Src.fuel]) (Nat.zero_le _) ⟨⟨_, rfl⟩, rfl, by simp⟩).mono fun o h1 q => ?_)
  · rw [List.getElem?_map] at e
    cases el : L[k]? with
    | none => rw [el] at e; cases e
    | some l =>
      rw [el] at e
      cases e
      obtain ⟨⟨u, rfl⟩, hh, al⟩ := j
      have tk : L.take (k + 1) = L.take k ++ [l] := by rw [List.take_add_one, el]; rfl
      have ml := List.mem_of_getElem? el
      have up : (∀ us, l ≠ .tw true us) → ∀ us, Lit.tw true us ∉ L.take (k + 1) := fun c us m => by
        rw [tk] at m
        rcases List.mem_append.mp m with q | q
        · exact al us q
        · exact c us (by simpa using Eq.symm (List.mem_singleton.mp q))
      cases l with
      | tw bo us =>
        cases bo
        · simp (config := { implicitDefEqProofs := false }) only [Vm.evF, Vm.evSs, Vm.evS, Vm.evX, Vm.evE, Vm.evEs, Vm.evIt, Vm.evPt, Vm.Res.bind_assoc, Vm.Res.bind_ok, Vm.Res.Ok_ok, Vm.bindT, Vm.setAll, Vm.boolOf, Vm.isNon, Vm.b_add, Vm.b_sub, Vm.a_add, Vm.c_eq, Vm.c_ne, Vm.c_lt, Vm.c_le, Vm.c_gt, Vm.c_ge, Vm.Bf_len, Vm.Bf_sum, Vm.Bf_min2, Vm.wipeE, Vm.Tg.slots, Vm.lcTurn, Vm.forTurn, List.map_cons, List.map_nil, List.length_cons, List.length_nil, List.length_map, List.cons_append, List.nil_append, List.getElem?_cons_zero, List.getElem?_cons_succ, List.set_cons_zero, List.set_cons_succ, List.reduceReplicate, Nat.reduceSub, Nat.reduceAdd, Nat.zero_add, Int.toNat_natCast, Bool.not_true, Bool.not_false, decide_true, decide_false, if_true, if_false, Lit.pv, ix0, ix1, c_eqs, tw_is.1]
          exact ⟨⟨_, rfl⟩, hh, up fun us q => by cases q⟩
        · simp (config := { implicitDefEqProofs := false }) only [Vm.evF, Vm.evSs, Vm.evS, Vm.evX, Vm.evE, Vm.evEs, Vm.evIt, Vm.evPt, Vm.Res.bind_assoc, Vm.Res.bind_ok, Vm.Res.Ok_ok, Vm.bindT, Vm.setAll, Vm.boolOf, Vm.isNon, Vm.b_add, Vm.b_sub, Vm.a_add, Vm.c_eq, Vm.c_ne, Vm.c_lt, Vm.c_le, Vm.c_gt, Vm.c_ge, Vm.Bf_len, Vm.Bf_sum, Vm.Bf_min2, Vm.wipeE, Vm.Tg.slots, Vm.lcTurn, Vm.forTurn, List.map_cons, List.map_nil, List.length_cons, List.length_nil, List.length_map, List.cons_append, List.nil_append, List.getElem?_cons_zero, List.getElem?_cons_succ, List.set_cons_zero, List.set_cons_succ, List.reduceReplicate, Nat.reduceSub, Nat.reduceAdd, Nat.zero_add, Int.toNat_natCast, Bool.not_true, Bool.not_false, decide_true, decide_false, if_true, if_false, Lit.pv, ix0, ix1, c_eqs, tw_is.1]
          refine Res.ok_bind ((s_first (N := N) (h := h1) (L := L) (us := us) (by omega) ok).mono fun r h2 q => ?_)
          obtain ⟨⟨o, rfl, o1, o2⟩, rfl⟩ := q
          refine ⟨hh, .inr ⟨o, rfl, fun t et => ⟨(o1 t et).1, (ok _ ml).2.2.2 t (o1 t et).2⟩, fun e tt => ?_⟩⟩
          obtain ⟨t, et⟩ := tt
          have m : t ∈ us := by
            have := List.all_eq_true.mp et _ ml
            simpa [alw1] using this
          rw [o2 e t m] at et
          cases et
      | kn bo v =>
        simp (config := { implicitDefEqProofs := false }) only [Vm.evF, Vm.evSs, Vm.evS, Vm.evX, Vm.evE, Vm.evEs, Vm.evIt, Vm.evPt, Vm.Res.bind_assoc, Vm.Res.bind_ok, Vm.Res.Ok_ok, Vm.bindT, Vm.setAll, Vm.boolOf, Vm.isNon, Vm.b_add, Vm.b_sub, Vm.a_add, Vm.c_eq, Vm.c_ne, Vm.c_lt, Vm.c_le, Vm.c_gt, Vm.c_ge, Vm.Bf_len, Vm.Bf_sum, Vm.Bf_min2, Vm.wipeE, Vm.Tg.slots, Vm.lcTurn, Vm.forTurn, List.map_cons, List.map_nil, List.length_cons, List.length_nil, List.length_map, List.cons_append, List.nil_append, List.getElem?_cons_zero, List.getElem?_cons_succ, List.set_cons_zero, List.set_cons_succ, List.reduceReplicate, Nat.reduceSub, Nat.reduceAdd, Nat.zero_add, Int.toNat_natCast, Bool.not_true, Bool.not_false, decide_true, decide_false, if_true, if_false, Lit.pv, ix0, ix1, c_eqs, knS_ne.2.2.2.1]
        exact ⟨⟨_, rfl⟩, hh, up fun us q => by cases q⟩
      | ag f e =>
        have e2 : decide (("age" : Str) = "town") = false := by decide
        simp (config := { implicitDefEqProofs := false }) only [Vm.evF, Vm.evSs, Vm.evS, Vm.evX, Vm.evE, Vm.evEs, Vm.evIt, Vm.evPt, Vm.Res.bind_assoc, Vm.Res.bind_ok, Vm.Res.Ok_ok, Vm.bindT, Vm.setAll, Vm.boolOf, Vm.isNon, Vm.b_add, Vm.b_sub, Vm.a_add, Vm.c_eq, Vm.c_ne, Vm.c_lt, Vm.c_le, Vm.c_gt, Vm.c_ge, Vm.Bf_len, Vm.Bf_sum, Vm.Bf_min2, Vm.wipeE, Vm.Tg.slots, Vm.lcTurn, Vm.forTurn, List.map_cons, List.map_nil, List.length_cons, List.length_nil, List.length_map, List.cons_append, List.nil_append, List.getElem?_cons_zero, List.getElem?_cons_succ, List.set_cons_zero, List.set_cons_succ, List.reduceReplicate, Nat.reduceSub, Nat.reduceAdd, Nat.zero_add, Int.toNat_natCast, Bool.not_true, Bool.not_false, decide_true, decide_false, if_true, if_false, Lit.pv, ix0, ix1, c_eqs, e2]
        exact ⟨⟨_, rfl⟩, hh, up fun us q => by cases q⟩
  · obtain ⟨⟨u, rfl⟩, hh, al⟩ := j
    rw [List.length_map, List.take_of_length_le (Nat.le_refl _)] at al
    exact ⟨hh, .inl ⟨_, rfl, al⟩⟩
  · obtain ⟨hh, ⟨u, rfl, e⟩ | ⟨q, rfl, e1, e2⟩⟩ := q
    · simp (config := { implicitDefEqProofs := false }) only [Vm.evF, Vm.evSs, Vm.evS, Vm.evX, Vm.evE, Vm.evEs, Vm.evIt, Vm.evPt, Vm.Res.bind_assoc, Vm.Res.bind_ok, Vm.Res.Ok_ok, Vm.bindT, Vm.setAll, Vm.boolOf, Vm.isNon, Vm.b_add, Vm.b_sub, Vm.a_add, Vm.c_eq, Vm.c_ne, Vm.c_lt, Vm.c_le, Vm.c_gt, Vm.c_ge, Vm.Bf_len, Vm.Bf_sum, Vm.Bf_min2, Vm.wipeE, Vm.Tg.slots, Vm.lcTurn, Vm.forTurn, List.map_cons, List.map_nil, List.length_cons, List.length_nil, List.length_map, List.cons_append, List.nil_append, List.getElem?_cons_zero, List.getElem?_cons_succ, List.set_cons_zero, List.set_cons_succ, List.reduceReplicate, Nat.reduceSub, Nat.reduceAdd, Nat.zero_add, Int.toNat_natCast, Bool.not_true, Bool.not_false, decide_true, decide_false, if_true, if_false]
      rw [← hT]
      refine Res.ok_bind ((s_num (N := N) (h := h1) (L := L) (u := u) (by omega) ok hL e).mono fun o h2 q => ?_)
      obtain ⟨⟨t, rfl, et, iw⟩, rfl⟩ := q
      simp (config := { implicitDefEqProofs := false }) only [Vm.evF, Vm.evSs, Vm.evS, Vm.evX, Vm.evE, Vm.evEs, Vm.evIt, Vm.evPt, Vm.Res.bind_assoc, Vm.Res.bind_ok, Vm.Res.Ok_ok, Vm.bindT, Vm.setAll, Vm.boolOf, Vm.isNon, Vm.b_add, Vm.b_sub, Vm.a_add, Vm.c_eq, Vm.c_ne, Vm.c_lt, Vm.c_le, Vm.c_gt, Vm.c_ge, Vm.Bf_len, Vm.Bf_sum, Vm.Bf_min2, Vm.wipeE, Vm.Tg.slots, Vm.lcTurn, Vm.forTurn, List.map_cons, List.map_nil, List.length_cons, List.length_nil, List.length_map, List.cons_append, List.nil_append, List.getElem?_cons_zero, List.getElem?_cons_succ, List.set_cons_zero, List.set_cons_succ, List.reduceReplicate, Nat.reduceSub, Nat.reduceAdd, Nat.zero_add, Int.toNat_natCast, Bool.not_true, Bool.not_false, decide_true, decide_false, if_true, if_false]
      exact ⟨⟨some t, rfl, (fun t' e' => by cases e'; exact ⟨et, iw⟩), fun e => nomatch e⟩, hh⟩
    · simp (config := { implicitDefEqProofs := false }) only [Vm.evF, Vm.evSs, Vm.evS, Vm.evX, Vm.evE, Vm.evEs, Vm.evIt, Vm.evPt, Vm.Res.bind_assoc, Vm.Res.bind_ok, Vm.Res.Ok_ok, Vm.bindT, Vm.setAll, Vm.boolOf, Vm.isNon, Vm.b_add, Vm.b_sub, Vm.a_add, Vm.c_eq, Vm.c_ne, Vm.c_lt, Vm.c_le, Vm.c_gt, Vm.c_ge, Vm.Bf_len, Vm.Bf_sum, Vm.Bf_min2, Vm.wipeE, Vm.Tg.slots, Vm.lcTurn, Vm.forTurn, List.map_cons, List.map_nil, List.length_cons, List.length_nil, List.length_map, List.cons_append, List.nil_append, List.getElem?_cons_zero, List.getElem?_cons_succ, List.set_cons_zero, List.set_cons_succ, List.reduceReplicate, Nat.reduceSub, Nat.reduceAdd, Nat.zero_add, Int.toNat_natCast, Bool.not_true, Bool.not_false, decide_true, decide_false, if_true, if_false]
      exact ⟨⟨q, rfl, e1, e2⟩, hh⟩
theorem s_agf {L : List Lit} (hN : 1 ≤ N) (ok : ∀ l ∈ L, l.Ok) : (sem Bf ds N 8 [lts L] h).Ok fun r h1 => r = .tup [.int (agesF (0, none) L).1, optP (agesF (0, none) L).2] ∧ h1 = h := by
  obtain ⟨N, rfl, k⟩ := pre hN (by decide)
  rw [sem_at (d := d__ages) (L := 4) (b := b__ages) rfl rfl rfl]
  simp (config := { implicitDefEqProofs := false }) only [Vm.evF, Vm.evSs, Vm.evS, Vm.evX, Vm.evE, Vm.evEs, Vm.evIt, Vm.evPt, Vm.Res.bind_assoc, Vm.Res.bind_ok, Vm.Res.Ok_ok, Vm.bindT, Vm.setAll, Vm.boolOf, Vm.isNon, Vm.b_add, Vm.b_sub, Vm.a_add, Vm.c_eq, Vm.c_ne, Vm.c_lt, Vm.c_le, Vm.c_gt, Vm.c_ge, Vm.Bf_len, Vm.Bf_sum, Vm.Bf_min2, Vm.wipeE, Vm.Tg.slots, Vm.lcTurn, Vm.forTurn, List.map_cons, List.map_nil, List.length_cons, List.length_nil, List.length_map, List.cons_append, List.nil_append, List.getElem?_cons_zero, List.getElem?_cons_succ, List.set_cons_zero, List.set_cons_succ, List.reduceReplicate, Nat.reduceSub, Nat.reduceAdd, Nat.zero_add, Int.toNat_natCast, Bool.not_true, Bool.not_false, decide_true, decide_false, if_true, if_false, b__ages, lts, rd]
  refine Res.ok_bind ((for_inv (xs := L.map Lit.pv) (src := .items (L.map Lit.pv)) (Q := fun o h1 => h1 = h ∧ ∃ u, o = .nx [some (.tup (L.map Lit.pv)), some (.int (agesF (0, none) L).1), some (optP (agesF (0, none) L).2), u])
    (fun k ev1 h1 => h1 = h ∧ ∃ u, ev1 = [some (.tup (L.map Lit.pv)), some (.int (agesF (0, none) (L.take k)).1), some (optP (agesF (0, none) (L.take k)).2), u]) (fun k ev1 h1 j => rfl) (fun k x ev1 h1 e j => ?_) (fun ev1 h1 j => ?_) _ 0 _ h (by simp [Src.fuel]) (Nat.zero_le _) ⟨rfl, _, rfl⟩).mono fun o h1 q => ?_)
  · rw [List.getElem?_map] at e
    cases el : L[k]? with
    | none => rw [el] at e; cases e
    | some l =>
      rw [el] at e
      cases e
      obtain ⟨hh, u, rfl⟩ := j
      have tk : agesF (0, none) (L.take (k + 1)) = agS (agesF (0, none) (L.take k)) l := by
        rw [List.take_add_one, el]
        unfold agesF
        rw [List.foldl_append]
        rfl
      rw [tk]
      generalize agesF (0, none) (L.take k) = s
      obtain ⟨a, e⟩ := s
      cases l with
      | tw bo us =>
        simp (config := { implicitDefEqProofs := false }) only [Vm.evF, Vm.evSs, Vm.evS, Vm.evX, Vm.evE, Vm.evEs, Vm.evIt, Vm.evPt, Vm.Res.bind_assoc, Vm.Res.bind_ok, Vm.Res.Ok_ok, Vm.bindT, Vm.setAll, Vm.boolOf, Vm.isNon, Vm.b_add, Vm.b_sub, Vm.a_add, Vm.c_eq, Vm.c_ne, Vm.c_lt, Vm.c_le, Vm.c_gt, Vm.c_ge, Vm.Bf_len, Vm.Bf_sum, Vm.Bf_min2, Vm.wipeE, Vm.Tg.slots, Vm.lcTurn, Vm.forTurn, List.map_cons, List.map_nil, List.length_cons, List.length_nil, List.length_map, List.cons_append, List.nil_append, List.getElem?_cons_zero, List.getElem?_cons_succ, List.set_cons_zero, List.set_cons_succ, List.reduceReplicate, Nat.reduceSub, Nat.reduceAdd, Nat.zero_add, Int.toNat_natCast, Bool.not_true, Bool.not_false, decide_true, decide_false, if_true, if_false, Lit.pv, ix0, ix1, c_eqs, twS_ne.1]
        exact ⟨hh, _, rfl⟩
      | kn bo v =>
        simp (config := { implicitDefEqProofs := false }) only [Vm.evF, Vm.evSs, Vm.evS, Vm.evX, Vm.evE, Vm.evEs, Vm.evIt, Vm.evPt, Vm.Res.bind_assoc, Vm.Res.bind_ok, Vm.Res.Ok_ok, Vm.bindT, Vm.setAll, Vm.boolOf, Vm.isNon, Vm.b_add, Vm.b_sub, Vm.a_add, Vm.c_eq, Vm.c_ne, Vm.c_lt, Vm.c_le, Vm.c_gt, Vm.c_ge, Vm.Bf_len, Vm.Bf_sum, Vm.Bf_min2, Vm.wipeE, Vm.Tg.slots, Vm.lcTurn, Vm.forTurn, List.map_cons, List.map_nil, List.length_cons, List.length_nil, List.length_map, List.cons_append, List.nil_append, List.getElem?_cons_zero, List.getElem?_cons_succ, List.set_cons_zero, List.set_cons_succ, List.reduceReplicate, Nat.reduceSub, Nat.reduceAdd, Nat.zero_add, Int.toNat_natCast, Bool.not_true, Bool.not_false, decide_true, decide_false, if_true, if_false, Lit.pv, ix0, ix1, c_eqs, knS_ne.1]
        exact ⟨hh, _, rfl⟩
      | ag f y =>
        have e2 : decide (("age" : Str) = "age") = true := by decide
        cases y with
        | none =>
          simp (config := { implicitDefEqProofs := false }) only [Vm.evF, Vm.evSs, Vm.evS, Vm.evX, Vm.evE, Vm.evEs, Vm.evIt, Vm.evPt, Vm.Res.bind_assoc, Vm.Res.bind_ok, Vm.Res.Ok_ok, Vm.bindT, Vm.setAll, Vm.boolOf, Vm.isNon, Vm.b_add, Vm.b_sub, Vm.a_add, Vm.c_eq, Vm.c_ne, Vm.c_lt, Vm.c_le, Vm.c_gt, Vm.c_ge, Vm.Bf_len, Vm.Bf_sum, Vm.Bf_min2, Vm.wipeE, Vm.Tg.slots, Vm.lcTurn, Vm.forTurn, List.map_cons, List.map_nil, List.length_cons, List.length_nil, List.length_map, List.cons_append, List.nil_append, List.getElem?_cons_zero, List.getElem?_cons_succ, List.set_cons_zero, List.set_cons_succ, List.reduceReplicate, Nat.reduceSub, Nat.reduceAdd, Nat.zero_add, Int.toNat_natCast, Bool.not_true, Bool.not_false, decide_true, decide_false, if_true, if_false, Lit.pv, optP, ix0, ix1, ix2, c_eqs, e2, Bf_max2]
          exact ⟨hh, _, rfl⟩
        | some y =>
          cases e with
          | none =>
            simp (config := { implicitDefEqProofs := false }) only [Vm.evF, Vm.evSs, Vm.evS, Vm.evX, Vm.evE, Vm.evEs, Vm.evIt, Vm.evPt, Vm.Res.bind_assoc, Vm.Res.bind_ok, Vm.Res.Ok_ok, Vm.bindT, Vm.setAll, Vm.boolOf, Vm.isNon, Vm.b_add, Vm.b_sub, Vm.a_add, Vm.c_eq, Vm.c_ne, Vm.c_lt, Vm.c_le, Vm.c_gt, Vm.c_ge, Vm.Bf_len, Vm.Bf_sum, Vm.Bf_min2, Vm.wipeE, Vm.Tg.slots, Vm.lcTurn, Vm.forTurn, List.map_cons, List.map_nil, List.length_cons, List.length_nil, List.length_map, List.cons_append, List.nil_append, List.getElem?_cons_zero, List.getElem?_cons_succ, List.set_cons_zero, List.set_cons_succ, List.reduceReplicate, Nat.reduceSub, Nat.reduceAdd, Nat.zero_add, Int.toNat_natCast, Bool.not_true, Bool.not_false, decide_true, decide_false, if_true, if_false, Lit.pv, optP, ix0, ix1, ix2, c_eqs, e2, Bf_max2]
            exact ⟨hh, _, rfl⟩
          | some z =>
            by_cases c : y < z
            · simp (config := { implicitDefEqProofs := false }) only [Vm.evF, Vm.evSs, Vm.evS, Vm.evX, Vm.evE, Vm.evEs, Vm.evIt, Vm.evPt, Vm.Res.bind_assoc, Vm.Res.bind_ok, Vm.Res.Ok_ok, Vm.bindT, Vm.setAll, Vm.boolOf, Vm.isNon, Vm.b_add, Vm.b_sub, Vm.a_add, Vm.c_eq, Vm.c_ne, Vm.c_lt, Vm.c_le, Vm.c_gt, Vm.c_ge, Vm.Bf_len, Vm.Bf_sum, Vm.Bf_min2, Vm.wipeE, Vm.Tg.slots, Vm.lcTurn, Vm.forTurn, List.map_cons, List.map_nil, List.length_cons, List.length_nil, List.length_map, List.cons_append, List.nil_append, List.getElem?_cons_zero, List.getElem?_cons_succ, List.set_cons_zero, List.set_cons_succ, List.reduceReplicate, Nat.reduceSub, Nat.reduceAdd, Nat.zero_add, Int.toNat_natCast, Bool.not_true, Bool.not_false, decide_true, decide_false, if_true, if_false, Lit.pv, optP, ix0, ix1, ix2, c_eqs, e2, Bf_max2, c]
              refine ⟨hh, some (.tup [.str "age", .int f, .int y]), ?_⟩
              simp only [agS, c, if_true]
            · simp (config := { implicitDefEqProofs := false }) only [Vm.evF, Vm.evSs, Vm.evS, Vm.evX, Vm.evE, Vm.evEs, Vm.evIt, Vm.evPt, Vm.Res.bind_assoc, Vm.Res.bind_ok, Vm.Res.Ok_ok, Vm.bindT, Vm.setAll, Vm.boolOf, Vm.isNon, Vm.b_add, Vm.b_sub, Vm.a_add, Vm.c_eq, Vm.c_ne, Vm.c_lt, Vm.c_le, Vm.c_gt, Vm.c_ge, Vm.Bf_len, Vm.Bf_sum, Vm.Bf_min2, Vm.wipeE, Vm.Tg.slots, Vm.lcTurn, Vm.forTurn, List.map_cons, List.map_nil, List.length_cons, List.length_nil, List.length_map, List.cons_append, List.nil_append, List.getElem?_cons_zero, List.getElem?_cons_succ, List.set_cons_zero, List.set_cons_succ, List.reduceReplicate, Nat.reduceSub, Nat.reduceAdd, Nat.zero_add, Int.toNat_natCast, Bool.not_true, Bool.not_false, decide_true, decide_false, if_true, if_false, Lit.pv, optP, ix0, ix1, ix2, c_eqs, e2, Bf_max2, c]
              refine ⟨hh, some (.tup [.str "age", .int f, .int y]), ?_⟩
              simp only [agS, c, if_false]
  · obtain ⟨hh, u, rfl⟩ := j
    rw [List.length_map, List.take_of_length_le (Nat.le_refl _)]
    exact ⟨hh, _, rfl⟩
  · obtain ⟨hh, u, rfl⟩ := q
    have nt := newT_ok (h := h1) (xs := [.int (agesF (0, none) L).1, optP (agesF (0, none) L).2]) (by simp)
    simp (config := { implicitDefEqProofs := false }) only [Vm.evF, Vm.evSs, Vm.evS, Vm.evX, Vm.evE, Vm.evEs, Vm.evIt, Vm.evPt, Vm.Res.bind_assoc, Vm.Res.bind_ok, Vm.Res.Ok_ok, Vm.bindT, Vm.setAll, Vm.boolOf, Vm.isNon, Vm.b_add, Vm.b_sub, Vm.a_add, Vm.c_eq, Vm.c_ne, Vm.c_lt, Vm.c_le, Vm.c_gt, Vm.c_ge, Vm.Bf_len, Vm.Bf_sum, Vm.Bf_min2, Vm.wipeE, Vm.Tg.slots, Vm.lcTurn, Vm.forTurn, List.map_cons, List.map_nil, List.length_cons, List.length_nil, List.length_map, List.cons_append, List.nil_append, List.getElem?_cons_zero, List.getElem?_cons_succ, List.set_cons_zero, List.set_cons_succ, List.reduceReplicate, Nat.reduceSub, Nat.reduceAdd, Nat.zero_add, Int.toNat_natCast, Bool.not_true, Bool.not_false, decide_true, decide_false, if_true, if_false, nt]
    exact ⟨trivial, hh⟩
theorem s_ties {L : List Lit} (hN : 1 ≤ N) (ok : ∀ l ∈ L, l.Ok) : (sem Bf ds N 9 [lts L] h).Ok fun r h1 => r = .tup [.int (tiF (0, none) L).1, optP (tiF (0, none) L).2] ∧ h1 = h := by
  obtain ⟨N, rfl, k⟩ := pre hN (by decide)
  rw [sem_at (d := d__ties) (L := 4) (b := b__ties) rfl rfl rfl]
  simp (config := { implicitDefEqProofs := false }) only [Vm.evF, Vm.evSs, Vm.evS, Vm.evX, Vm.evE, Vm.evEs, Vm.evIt, Vm.evPt, Vm.Res.bind_assoc, Vm.Res.bind_ok, Vm.Res.Ok_ok, Vm.bindT, Vm.setAll, Vm.boolOf, Vm.isNon, Vm.b_add, Vm.b_sub, Vm.a_add, Vm.c_eq, Vm.c_ne, Vm.c_lt, Vm.c_le, Vm.c_gt, Vm.c_ge, Vm.Bf_len, Vm.Bf_sum, Vm.Bf_min2, Vm.wipeE, Vm.Tg.slots, Vm.lcTurn, Vm.forTurn, List.map_cons, List.map_nil, List.length_cons, List.length_nil, List.length_map, List.cons_append, List.nil_append, List.getElem?_cons_zero, List.getElem?_cons_succ, List.set_cons_zero, List.set_cons_succ, List.reduceReplicate, Nat.reduceSub, Nat.reduceAdd, Nat.zero_add, Int.toNat_natCast, Bool.not_true, Bool.not_false, decide_true, decide_false, if_true, if_false, b__ties, lts, rd]
  refine Res.ok_bind ((for_inv (xs := L.map Lit.pv) (src := .items (L.map Lit.pv)) (Q := fun o h1 => h1 = h ∧ ∃ u, o = .nx [some (.tup (L.map Lit.pv)), some (.int (tiF (0, none) L).1), some (optP (tiF (0, none) L).2), u])
    (fun k ev1 h1 => h1 = h ∧ ∃ u, ev1 = [some (.tup (L.map Lit.pv)), some (.int (tiF (0, none) (L.take k)).1), some (optP (tiF (0, none) (L.take k)).2), u]) (fun k ev1 h1 j => rfl) (fun k x ev1 h1 e j => ?_) (fun ev1 h1 j => ?_) _ 0 _ h (by simp [Src.fuel]) (Nat.zero_le _) ⟨rfl, _, rfl⟩).mono fun o h1 q => ?_)
  · rw [List.getElem?_map] at e
    cases el : L[k]? with
    | none => rw [el] at e; cases e
    | some l =>
      rw [el] at e
      cases e
      obtain ⟨hh, u, rfl⟩ := j
      have tk : tiF (0, none) (L.take (k + 1)) = tiS (tiF (0, none) (L.take k)) l := by
        rw [List.take_add_one, el]
        unfold tiF
        rw [List.foldl_append]
        rfl
      rw [tk]
      generalize tiF (0, none) (L.take k) = s
      obtain ⟨a, e⟩ := s
      cases l with
      | tw bo us =>
        simp (config := { implicitDefEqProofs := false }) only [Vm.evF, Vm.evSs, Vm.evS, Vm.evX, Vm.evE, Vm.evEs, Vm.evIt, Vm.evPt, Vm.Res.bind_assoc, Vm.Res.bind_ok, Vm.Res.Ok_ok, Vm.bindT, Vm.setAll, Vm.boolOf, Vm.isNon, Vm.b_add, Vm.b_sub, Vm.a_add, Vm.c_eq, Vm.c_ne, Vm.c_lt, Vm.c_le, Vm.c_gt, Vm.c_ge, Vm.Bf_len, Vm.Bf_sum, Vm.Bf_min2, Vm.wipeE, Vm.Tg.slots, Vm.lcTurn, Vm.forTurn, List.map_cons, List.map_nil, List.length_cons, List.length_nil, List.length_map, List.cons_append, List.nil_append, List.getElem?_cons_zero, List.getElem?_cons_succ, List.set_cons_zero, List.set_cons_succ, List.reduceReplicate, Nat.reduceSub, Nat.reduceAdd, Nat.zero_add, Int.toNat_natCast, Bool.not_true, Bool.not_false, decide_true, decide_false, if_true, if_false, Lit.pv, ix0, ix1, c_eqs, tw_flip.2.1, tw_flip.2.2]
        exact ⟨hh, _, rfl⟩
      | ag f y =>
        have e2 : decide (("age" : Str) = "far") = false := by decide
        have e3 : decide (("age" : Str) = "kin") = false := by decide
        simp (config := { implicitDefEqProofs := false }) only [Vm.evF, Vm.evSs, Vm.evS, Vm.evX, Vm.evE, Vm.evEs, Vm.evIt, Vm.evPt, Vm.Res.bind_assoc, Vm.Res.bind_ok, Vm.Res.Ok_ok, Vm.bindT, Vm.setAll, Vm.boolOf, Vm.isNon, Vm.b_add, Vm.b_sub, Vm.a_add, Vm.c_eq, Vm.c_ne, Vm.c_lt, Vm.c_le, Vm.c_gt, Vm.c_ge, Vm.Bf_len, Vm.Bf_sum, Vm.Bf_min2, Vm.wipeE, Vm.Tg.slots, Vm.lcTurn, Vm.forTurn, List.map_cons, List.map_nil, List.length_cons, List.length_nil, List.length_map, List.cons_append, List.nil_append, List.getElem?_cons_zero, List.getElem?_cons_succ, List.set_cons_zero, List.set_cons_succ, List.reduceReplicate, Nat.reduceSub, Nat.reduceAdd, Nat.zero_add, Int.toNat_natCast, Bool.not_true, Bool.not_false, decide_true, decide_false, if_true, if_false, Lit.pv, ix0, ix1, c_eqs, e2, e3]
        exact ⟨hh, _, rfl⟩
      | kn bo v =>
        cases bo with
        | false =>
          simp (config := { implicitDefEqProofs := false }) only [Vm.evF, Vm.evSs, Vm.evS, Vm.evX, Vm.evE, Vm.evEs, Vm.evIt, Vm.evPt, Vm.Res.bind_assoc, Vm.Res.bind_ok, Vm.Res.Ok_ok, Vm.bindT, Vm.setAll, Vm.boolOf, Vm.isNon, Vm.b_add, Vm.b_sub, Vm.a_add, Vm.c_eq, Vm.c_ne, Vm.c_lt, Vm.c_le, Vm.c_gt, Vm.c_ge, Vm.Bf_len, Vm.Bf_sum, Vm.Bf_min2, Vm.wipeE, Vm.Tg.slots, Vm.lcTurn, Vm.forTurn, List.map_cons, List.map_nil, List.length_cons, List.length_nil, List.length_map, List.cons_append, List.nil_append, List.getElem?_cons_zero, List.getElem?_cons_succ, List.set_cons_zero, List.set_cons_succ, List.reduceReplicate, Nat.reduceSub, Nat.reduceAdd, Nat.zero_add, Int.toNat_natCast, Bool.not_true, Bool.not_false, decide_true, decide_false, if_true, if_false, Lit.pv, ix0, ix1, c_eqs, knS_ne.2.1, knS_ne.2.2.1, Bf_max2]
          exact ⟨hh, _, rfl⟩
        | true =>
          cases e with
          | none =>
            simp (config := { implicitDefEqProofs := false }) only [Vm.evF, Vm.evSs, Vm.evS, Vm.evX, Vm.evE, Vm.evEs, Vm.evIt, Vm.evPt, Vm.Res.bind_assoc, Vm.Res.bind_ok, Vm.Res.Ok_ok, Vm.bindT, Vm.setAll, Vm.boolOf, Vm.isNon, Vm.b_add, Vm.b_sub, Vm.a_add, Vm.c_eq, Vm.c_ne, Vm.c_lt, Vm.c_le, Vm.c_gt, Vm.c_ge, Vm.Bf_len, Vm.Bf_sum, Vm.Bf_min2, Vm.wipeE, Vm.Tg.slots, Vm.lcTurn, Vm.forTurn, List.map_cons, List.map_nil, List.length_cons, List.length_nil, List.length_map, List.cons_append, List.nil_append, List.getElem?_cons_zero, List.getElem?_cons_succ, List.set_cons_zero, List.set_cons_succ, List.reduceReplicate, Nat.reduceSub, Nat.reduceAdd, Nat.zero_add, Int.toNat_natCast, Bool.not_true, Bool.not_false, decide_true, decide_false, if_true, if_false, Lit.pv, optP, ix0, ix1, c_eqs, knS_ne.2.1, knS_ne.2.2.1]
            exact ⟨hh, _, rfl⟩
          | some z =>
            by_cases c : v < z
            · simp (config := { implicitDefEqProofs := false }) only [Vm.evF, Vm.evSs, Vm.evS, Vm.evX, Vm.evE, Vm.evEs, Vm.evIt, Vm.evPt, Vm.Res.bind_assoc, Vm.Res.bind_ok, Vm.Res.Ok_ok, Vm.bindT, Vm.setAll, Vm.boolOf, Vm.isNon, Vm.b_add, Vm.b_sub, Vm.a_add, Vm.c_eq, Vm.c_ne, Vm.c_lt, Vm.c_le, Vm.c_gt, Vm.c_ge, Vm.Bf_len, Vm.Bf_sum, Vm.Bf_min2, Vm.wipeE, Vm.Tg.slots, Vm.lcTurn, Vm.forTurn, List.map_cons, List.map_nil, List.length_cons, List.length_nil, List.length_map, List.cons_append, List.nil_append, List.getElem?_cons_zero, List.getElem?_cons_succ, List.set_cons_zero, List.set_cons_succ, List.reduceReplicate, Nat.reduceSub, Nat.reduceAdd, Nat.zero_add, Int.toNat_natCast, Bool.not_true, Bool.not_false, decide_true, decide_false, if_true, if_false, Lit.pv, optP, ix0, ix1, c_eqs, knS_ne.2.1, knS_ne.2.2.1, c]
              refine ⟨hh, some (.tup [.str (knS true), .int v]), ?_⟩
              simp only [tiS, c, if_true]
            · simp (config := { implicitDefEqProofs := false }) only [Vm.evF, Vm.evSs, Vm.evS, Vm.evX, Vm.evE, Vm.evEs, Vm.evIt, Vm.evPt, Vm.Res.bind_assoc, Vm.Res.bind_ok, Vm.Res.Ok_ok, Vm.bindT, Vm.setAll, Vm.boolOf, Vm.isNon, Vm.b_add, Vm.b_sub, Vm.a_add, Vm.c_eq, Vm.c_ne, Vm.c_lt, Vm.c_le, Vm.c_gt, Vm.c_ge, Vm.Bf_len, Vm.Bf_sum, Vm.Bf_min2, Vm.wipeE, Vm.Tg.slots, Vm.lcTurn, Vm.forTurn, List.map_cons, List.map_nil, List.length_cons, List.length_nil, List.length_map, List.cons_append, List.nil_append, List.getElem?_cons_zero, List.getElem?_cons_succ, List.set_cons_zero, List.set_cons_succ, List.reduceReplicate, Nat.reduceSub, Nat.reduceAdd, Nat.zero_add, Int.toNat_natCast, Bool.not_true, Bool.not_false, decide_true, decide_false, if_true, if_false, Lit.pv, optP, ix0, ix1, c_eqs, knS_ne.2.1, knS_ne.2.2.1, c]
              refine ⟨hh, some (.tup [.str (knS true), .int v]), ?_⟩
              simp only [tiS, c, if_false]
  · obtain ⟨hh, u, rfl⟩ := j
    rw [List.length_map, List.take_of_length_le (Nat.le_refl _)]
    exact ⟨hh, _, rfl⟩
  · obtain ⟨hh, u, rfl⟩ := q
    have nt := newT_ok (h := h1) (xs := [.int (tiF (0, none) L).1, optP (tiF (0, none) L).2]) (by simp)
    simp (config := { implicitDefEqProofs := false }) only [Vm.evF, Vm.evSs, Vm.evS, Vm.evX, Vm.evE, Vm.evEs, Vm.evIt, Vm.evPt, Vm.Res.bind_assoc, Vm.Res.bind_ok, Vm.Res.Ok_ok, Vm.bindT, Vm.setAll, Vm.boolOf, Vm.isNon, Vm.b_add, Vm.b_sub, Vm.a_add, Vm.c_eq, Vm.c_ne, Vm.c_lt, Vm.c_le, Vm.c_gt, Vm.c_ge, Vm.Bf_len, Vm.Bf_sum, Vm.Bf_min2, Vm.wipeE, Vm.Tg.slots, Vm.lcTurn, Vm.forTurn, List.map_cons, List.map_nil, List.length_cons, List.length_nil, List.length_map, List.cons_append, List.nil_append, List.getElem?_cons_zero, List.getElem?_cons_succ, List.set_cons_zero, List.set_cons_succ, List.reduceReplicate, Nat.reduceSub, Nat.reduceAdd, Nat.zero_add, Int.toNat_natCast, Bool.not_true, Bool.not_false, decide_true, decide_false, if_true, if_false, nt]
    exact ⟨trivial, hh⟩
end
end K05

set_option Elab.async false
set_option linter.all false
set_option maxRecDepth 100000
set_option maxHeartbeats 4000000
namespace K05
open PySem PySem.Spec PyProof.Rows L2 Vm L06 L07
section
variable {h : IH} {N a p b n : Nat} {cs : List Int} {ts : List Str}
theorem isNon_optS {o : Option Str} : isNon (optS o) = o.isNone := by cases o <;> rfl
def byP (k : Nat) (L : List Lit) : Prop := match k with
  | 0 => TT L
  | 1 => AA L
  | _ => KK L
def sorts : List Str := ["town", "age", "kin"]
theorem s_by {L : List Lit} {s : Str} {k : Nat} (hN : 4 ≤ N) (ok : ∀ l ∈ L, l.Ok) (hL : L.length ≤ 20) (e : sorts[k]? = some s) : (sem Bf ds N 2 [.str s, lts L] h).Ok fun r h1 => (∃ q : Bool, r = .bl q ∧ (q = true ↔ byP k L)) ∧ h1 = h := by
  obtain ⟨N, rfl, k'⟩ := pre hN (by decide)
  rw [sem_at (d := d_together_by) (L := 5) (b := b_together_by) rfl rfl rfl]
  have tt : decide (("town" : Str) = "town") = true := by decide
  have ta : decide (("age" : Str) = "town") = false := by decide
  have aa : decide (("age" : Str) = "age") = true := by decide
  have tk : decide (("kin" : Str) = "town") = false := by decide
  have ak : decide (("kin" : Str) = "age") = false := by decide
  match k, e with
  | 0, e =>
    cases e
    simp (config := { implicitDefEqProofs := false }) only [Vm.evF, Vm.evSs, Vm.evS, Vm.evX, Vm.evE, Vm.evEs, Vm.evIt, Vm.evPt, Vm.Res.bind_assoc, Vm.Res.bind_ok, Vm.Res.Ok_ok, Vm.bindT, Vm.setAll, Vm.boolOf, Vm.isNon, Vm.b_add, Vm.b_sub, Vm.a_add, Vm.c_eq, Vm.c_ne, Vm.c_lt, Vm.c_le, Vm.c_gt, Vm.c_ge, Vm.Bf_len, Vm.Bf_sum, Vm.Bf_min2, Vm.wipeE, Vm.Tg.slots, Vm.lcTurn, Vm.forTurn, List.map_cons, List.map_nil, List.length_cons, List.length_nil, List.length_map, List.cons_append, List.nil_append, List.getElem?_cons_zero, List.getElem?_cons_succ, List.set_cons_zero, List.set_cons_succ, List.reduceReplicate, Nat.reduceSub, Nat.reduceAdd, Nat.zero_add, Int.toNat_natCast, Bool.not_true, Bool.not_false, decide_true, decide_false, if_true, if_false, b_together_by, c_eqs, tt]
    refine Res.ok_bind ((s_town (N := N) (h := h) (L := L) (by omega) ok hL).mono fun r h1 q => ?_)
    obtain ⟨⟨o, rfl, o1, o2⟩, rfl⟩ := q
    cases o with
    | none =>
      simp (config := { implicitDefEqProofs := false }) only [Vm.evF, Vm.evSs, Vm.evS, Vm.evX, Vm.evE, Vm.evEs, Vm.evIt, Vm.evPt, Vm.Res.bind_assoc, Vm.Res.bind_ok, Vm.Res.Ok_ok, Vm.bindT, Vm.setAll, Vm.boolOf, Vm.isNon, Vm.b_add, Vm.b_sub, Vm.a_add, Vm.c_eq, Vm.c_ne, Vm.c_lt, Vm.c_le, Vm.c_gt, Vm.c_ge, Vm.Bf_len, Vm.Bf_sum, Vm.Bf_min2, Vm.wipeE, Vm.Tg.slots, Vm.lcTurn, Vm.forTurn, List.map_cons, List.map_nil, List.length_cons, List.length_nil, List.length_map, List.cons_append, List.nil_append, List.getElem?_cons_zero, List.getElem?_cons_succ, List.set_cons_zero, List.set_cons_succ, List.reduceReplicate, Nat.reduceSub, Nat.reduceAdd, Nat.zero_add, Int.toNat_natCast, Bool.not_true, Bool.not_false, decide_true, decide_false, if_true, if_false, optS]
      exact ⟨⟨false, rfl, ⟨(fun e => nomatch e), fun t => absurd t (o2 rfl)⟩⟩, trivial⟩
    | some t =>
      simp (config := { implicitDefEqProofs := false }) only [Vm.evF, Vm.evSs, Vm.evS, Vm.evX, Vm.evE, Vm.evEs, Vm.evIt, Vm.evPt, Vm.Res.bind_assoc, Vm.Res.bind_ok, Vm.Res.Ok_ok, Vm.bindT, Vm.setAll, Vm.boolOf, Vm.isNon, Vm.b_add, Vm.b_sub, Vm.a_add, Vm.c_eq, Vm.c_ne, Vm.c_lt, Vm.c_le, Vm.c_gt, Vm.c_ge, Vm.Bf_len, Vm.Bf_sum, Vm.Bf_min2, Vm.wipeE, Vm.Tg.slots, Vm.lcTurn, Vm.forTurn, List.map_cons, List.map_nil, List.length_cons, List.length_nil, List.length_map, List.cons_append, List.nil_append, List.getElem?_cons_zero, List.getElem?_cons_succ, List.set_cons_zero, List.set_cons_succ, List.reduceReplicate, Nat.reduceSub, Nat.reduceAdd, Nat.zero_add, Int.toNat_natCast, Bool.not_true, Bool.not_false, decide_true, decide_false, if_true, if_false, optS]
      exact ⟨⟨true, rfl, fun _ => ⟨t, (o1 t rfl).1⟩, fun _ => rfl⟩, trivial⟩
  | 1, e =>
    cases e
    simp (config := { implicitDefEqProofs := false }) only [Vm.evF, Vm.evSs, Vm.evS, Vm.evX, Vm.evE, Vm.evEs, Vm.evIt, Vm.evPt, Vm.Res.bind_assoc, Vm.Res.bind_ok, Vm.Res.Ok_ok, Vm.bindT, Vm.setAll, Vm.boolOf, Vm.isNon, Vm.b_add, Vm.b_sub, Vm.a_add, Vm.c_eq, Vm.c_ne, Vm.c_lt, Vm.c_le, Vm.c_gt, Vm.c_ge, Vm.Bf_len, Vm.Bf_sum, Vm.Bf_min2, Vm.wipeE, Vm.Tg.slots, Vm.lcTurn, Vm.forTurn, List.map_cons, List.map_nil, List.length_cons, List.length_nil, List.length_map, List.cons_append, List.nil_append, List.getElem?_cons_zero, List.getElem?_cons_succ, List.set_cons_zero, List.set_cons_succ, List.reduceReplicate, Nat.reduceSub, Nat.reduceAdd, Nat.zero_add, Int.toNat_natCast, Bool.not_true, Bool.not_false, decide_true, decide_false, if_true, if_false, b_together_by, c_eqs, ta, aa]
    refine Res.ok_bind ((s_agf (N := N) (h := h) (L := L) (by omega) ok).mono fun r h1 q => ?_)
    obtain ⟨rfl, rfl⟩ := q
    have A := ages_ok (L := L) (a := (agesF (0, none) L).1) (e := (agesF (0, none) L).2) rfl
    generalize (agesF (0, none) L).1 = a at A
    generalize (agesF (0, none) L).2 = e at A
    cases e with
    | none =>
      simp (config := { implicitDefEqProofs := false }) only [Vm.evF, Vm.evSs, Vm.evS, Vm.evX, Vm.evE, Vm.evEs, Vm.evIt, Vm.evPt, Vm.Res.bind_assoc, Vm.Res.bind_ok, Vm.Res.Ok_ok, Vm.bindT, Vm.setAll, Vm.boolOf, Vm.isNon, Vm.b_add, Vm.b_sub, Vm.a_add, Vm.c_eq, Vm.c_ne, Vm.c_lt, Vm.c_le, Vm.c_gt, Vm.c_ge, Vm.Bf_len, Vm.Bf_sum, Vm.Bf_min2, Vm.wipeE, Vm.Tg.slots, Vm.lcTurn, Vm.forTurn, List.map_cons, List.map_nil, List.length_cons, List.length_nil, List.length_map, List.cons_append, List.nil_append, List.getElem?_cons_zero, List.getElem?_cons_succ, List.set_cons_zero, List.set_cons_succ, List.reduceReplicate, Nat.reduceSub, Nat.reduceAdd, Nat.zero_add, Int.toNat_natCast, Bool.not_true, Bool.not_false, decide_true, decide_false, if_true, if_false, rd, optP]
      exact ⟨⟨true, rfl, fun _ => A.1.mpr (.inl rfl), fun _ => rfl⟩, trivial⟩
    | some x =>
      simp (config := { implicitDefEqProofs := false }) only [Vm.evF, Vm.evSs, Vm.evS, Vm.evX, Vm.evE, Vm.evEs, Vm.evIt, Vm.evPt, Vm.Res.bind_assoc, Vm.Res.bind_ok, Vm.Res.Ok_ok, Vm.bindT, Vm.setAll, Vm.boolOf, Vm.isNon, Vm.b_add, Vm.b_sub, Vm.a_add, Vm.c_eq, Vm.c_ne, Vm.c_lt, Vm.c_le, Vm.c_gt, Vm.c_ge, Vm.Bf_len, Vm.Bf_sum, Vm.Bf_min2, Vm.wipeE, Vm.Tg.slots, Vm.lcTurn, Vm.forTurn, List.map_cons, List.map_nil, List.length_cons, List.length_nil, List.length_map, List.cons_append, List.nil_append, List.getElem?_cons_zero, List.getElem?_cons_succ, List.set_cons_zero, List.set_cons_succ, List.reduceReplicate, Nat.reduceSub, Nat.reduceAdd, Nat.zero_add, Int.toNat_natCast, Bool.not_true, Bool.not_false, decide_true, decide_false, if_true, if_false, rd, optP]
      refine ⟨⟨_, rfl, fun q => A.1.mpr (.inr ⟨x, rfl, of_decide_eq_true q⟩), fun q => ?_⟩, trivial⟩
      rcases A.1.mp q with c | ⟨y, c, l⟩
      · cases c
      · cases c
        exact decide_eq_true l
  | 2, e =>
    cases e
    simp (config := { implicitDefEqProofs := false }) only [Vm.evF, Vm.evSs, Vm.evS, Vm.evX, Vm.evE, Vm.evEs, Vm.evIt, Vm.evPt, Vm.Res.bind_assoc, Vm.Res.bind_ok, Vm.Res.Ok_ok, Vm.bindT, Vm.setAll, Vm.boolOf, Vm.isNon, Vm.b_add, Vm.b_sub, Vm.a_add, Vm.c_eq, Vm.c_ne, Vm.c_lt, Vm.c_le, Vm.c_gt, Vm.c_ge, Vm.Bf_len, Vm.Bf_sum, Vm.Bf_min2, Vm.wipeE, Vm.Tg.slots, Vm.lcTurn, Vm.forTurn, List.map_cons, List.map_nil, List.length_cons, List.length_nil, List.length_map, List.cons_append, List.nil_append, List.getElem?_cons_zero, List.getElem?_cons_succ, List.set_cons_zero, List.set_cons_succ, List.reduceReplicate, Nat.reduceSub, Nat.reduceAdd, Nat.zero_add, Int.toNat_natCast, Bool.not_true, Bool.not_false, decide_true, decide_false, if_true, if_false, b_together_by, c_eqs, tk, ak]
    refine Res.ok_bind ((s_ties (N := N) (h := h) (L := L) (by omega) ok).mono fun r h1 q => ?_)
    obtain ⟨rfl, rfl⟩ := q
    have A := ties_ok (L := L) (m := (tiF (0, none) L).1) (k := (tiF (0, none) L).2) rfl
    generalize (tiF (0, none) L).1 = a at A
    generalize (tiF (0, none) L).2 = e at A
    cases e with
    | none =>
      simp (config := { implicitDefEqProofs := false }) only [Vm.evF, Vm.evSs, Vm.evS, Vm.evX, Vm.evE, Vm.evEs, Vm.evIt, Vm.evPt, Vm.Res.bind_assoc, Vm.Res.bind_ok, Vm.Res.Ok_ok, Vm.bindT, Vm.setAll, Vm.boolOf, Vm.isNon, Vm.b_add, Vm.b_sub, Vm.a_add, Vm.c_eq, Vm.c_ne, Vm.c_lt, Vm.c_le, Vm.c_gt, Vm.c_ge, Vm.Bf_len, Vm.Bf_sum, Vm.Bf_min2, Vm.wipeE, Vm.Tg.slots, Vm.lcTurn, Vm.forTurn, List.map_cons, List.map_nil, List.length_cons, List.length_nil, List.length_map, List.cons_append, List.nil_append, List.getElem?_cons_zero, List.getElem?_cons_succ, List.set_cons_zero, List.set_cons_succ, List.reduceReplicate, Nat.reduceSub, Nat.reduceAdd, Nat.zero_add, Int.toNat_natCast, Bool.not_true, Bool.not_false, decide_true, decide_false, if_true, if_false, rd, optP]
      exact ⟨⟨true, rfl, fun _ => A.1.mpr (.inl rfl), fun _ => rfl⟩, trivial⟩
    | some x =>
      simp (config := { implicitDefEqProofs := false }) only [Vm.evF, Vm.evSs, Vm.evS, Vm.evX, Vm.evE, Vm.evEs, Vm.evIt, Vm.evPt, Vm.Res.bind_assoc, Vm.Res.bind_ok, Vm.Res.Ok_ok, Vm.bindT, Vm.setAll, Vm.boolOf, Vm.isNon, Vm.b_add, Vm.b_sub, Vm.a_add, Vm.c_eq, Vm.c_ne, Vm.c_lt, Vm.c_le, Vm.c_gt, Vm.c_ge, Vm.Bf_len, Vm.Bf_sum, Vm.Bf_min2, Vm.wipeE, Vm.Tg.slots, Vm.lcTurn, Vm.forTurn, List.map_cons, List.map_nil, List.length_cons, List.length_nil, List.length_map, List.cons_append, List.nil_append, List.getElem?_cons_zero, List.getElem?_cons_succ, List.set_cons_zero, List.set_cons_succ, List.reduceReplicate, Nat.reduceSub, Nat.reduceAdd, Nat.zero_add, Int.toNat_natCast, Bool.not_true, Bool.not_false, decide_true, decide_false, if_true, if_false, rd, optP]
      refine ⟨⟨_, rfl, fun q => A.1.mpr (.inr ⟨x, rfl, of_decide_eq_true q⟩), fun q => ?_⟩, trivial⟩
      rcases A.1.mp q with c | ⟨y, c, l⟩
      · cases c
      · cases c
        exact decide_eq_true l
  | k + 3, e => cases e
theorem s_tog {L : List Lit} (hN : 5 ≤ N) (ok : ∀ l ∈ L, l.Ok) (hL : L.length ≤ 20) : (sem Bf ds N 1 [lts L] h).Ok fun r h1 => (∃ o, r = optS o ∧ Tog L o) ∧ h1 = h := by
  obtain ⟨N, rfl, k⟩ := pre hN (by decide)
  rw [sem_at (d := d_together) (L := 2) (b := b_together) rfl rfl rfl]
  simp (config := { implicitDefEqProofs := false }) only [Vm.evF, Vm.evSs, Vm.evS, Vm.evX, Vm.evE, Vm.evEs, Vm.evIt, Vm.evPt, Vm.Res.bind_assoc, Vm.Res.bind_ok, Vm.Res.Ok_ok, Vm.bindT, Vm.setAll, Vm.boolOf, Vm.isNon, Vm.b_add, Vm.b_sub, Vm.a_add, Vm.c_eq, Vm.c_ne, Vm.c_lt, Vm.c_le, Vm.c_gt, Vm.c_ge, Vm.Bf_len, Vm.Bf_sum, Vm.Bf_min2, Vm.wipeE, Vm.Tg.slots, Vm.lcTurn, Vm.forTurn, List.map_cons, List.map_nil, List.length_cons, List.length_nil, List.length_map, List.cons_append, List.nil_append, List.getElem?_cons_zero, List.getElem?_cons_succ, List.set_cons_zero, List.set_cons_succ, List.reduceReplicate, Nat.reduceSub, Nat.reduceAdd, Nat.zero_add, Int.toNat_natCast, Bool.not_true, Bool.not_false, decide_true, decide_false, if_true, if_false, b_together, Cst.pv, rd]
  rw [show [PV.str "town", PV.str "age", PV.str "kin"] = sorts.map PV.str from rfl]
  refine Res.ok_bind ((for_inv (xs := sorts.map PV.str) (src := .items (sorts.map PV.str)) (Q := fun o h1 => h1 = h ∧ ((∃ u, o = .nx u ∧ Tog L none) ∨ ∃ q, o = .rt (optS q) ∧ Tog L q))
    (fun k ev1 h1 => (∃ u, ev1 = [some (lts L), u]) ∧ h1 = h ∧ ∀ i, i < k → byP i L) (fun k ev1 h1 j => rfl) (fun k x ev1 h1 e j => ?_) (fun ev1 h1 j => ?_) _ 0 _ h (by simp [Src.fuel]) (Nat.zero_le _) ⟨⟨_, rfl⟩, rfl, fun i hi => by omega⟩).mono fun o h1 q => ?_)
  · rw [List.getElem?_map] at e
    cases el : sorts[k]? with
    | none => rw [el] at e; cases e
    | some s =>
      rw [el] at e
      cases e
      obtain ⟨⟨u, rfl⟩, hh, al⟩ := j
      simp (config := { implicitDefEqProofs := false }) only [Vm.evF, Vm.evSs, Vm.evS, Vm.evX, Vm.evE, Vm.evEs, Vm.evIt, Vm.evPt, Vm.Res.bind_assoc, Vm.Res.bind_ok, Vm.Res.Ok_ok, Vm.bindT, Vm.setAll, Vm.boolOf, Vm.isNon, Vm.b_add, Vm.b_sub, Vm.a_add, Vm.c_eq, Vm.c_ne, Vm.c_lt, Vm.c_le, Vm.c_gt, Vm.c_ge, Vm.Bf_len, Vm.Bf_sum, Vm.Bf_min2, Vm.wipeE, Vm.Tg.slots, Vm.lcTurn, Vm.forTurn, List.map_cons, List.map_nil, List.length_cons, List.length_nil, List.length_map, List.cons_append, List.nil_append, List.getElem?_cons_zero, List.getElem?_cons_succ, List.set_cons_zero, List.set_cons_succ, List.reduceReplicate, Nat.reduceSub, Nat.reduceAdd, Nat.zero_add, Int.toNat_natCast, Bool.not_true, Bool.not_false, decide_true, decide_false, if_true, if_false]
      refine Res.ok_bind ((s_by (N := N) (h := h1) (L := L) (s := s) (k := k) (by omega) ok hL el).mono fun r h2 q => ?_)
      obtain ⟨⟨q, rfl, qi⟩, rfl⟩ := q
      cases q
      · simp (config := { implicitDefEqProofs := false }) only [Vm.evF, Vm.evSs, Vm.evS, Vm.evX, Vm.evE, Vm.evEs, Vm.evIt, Vm.evPt, Vm.Res.bind_assoc, Vm.Res.bind_ok, Vm.Res.Ok_ok, Vm.bindT, Vm.setAll, Vm.boolOf, Vm.isNon, Vm.b_add, Vm.b_sub, Vm.a_add, Vm.c_eq, Vm.c_ne, Vm.c_lt, Vm.c_le, Vm.c_gt, Vm.c_ge, Vm.Bf_len, Vm.Bf_sum, Vm.Bf_min2, Vm.wipeE, Vm.Tg.slots, Vm.lcTurn, Vm.forTurn, List.map_cons, List.map_nil, List.length_cons, List.length_nil, List.length_map, List.cons_append, List.nil_append, List.getElem?_cons_zero, List.getElem?_cons_succ, List.set_cons_zero, List.set_cons_succ, List.reduceReplicate, Nat.reduceSub, Nat.reduceAdd, Nat.zero_add, Int.toNat_natCast, Bool.not_true, Bool.not_false, decide_true, decide_false, if_true, if_false]
        refine ⟨hh, .inr ⟨some s, rfl, ?_⟩⟩
        have n : ¬ byP k L := fun t => by cases qi.mpr t
        match k, el with
        | 0, el => cases el; exact .inl ⟨rfl, n⟩
        | 1, el => cases el; exact .inr (.inl ⟨rfl, al 0 (by omega), n⟩)
        | 2, el => cases el; exact .inr (.inr (.inl ⟨rfl, al 0 (by omega), al 1 (by omega), n⟩))
        | k + 3, el => cases el
      · simp (config := { implicitDefEqProofs := false }) only [Vm.evF, Vm.evSs, Vm.evS, Vm.evX, Vm.evE, Vm.evEs, Vm.evIt, Vm.evPt, Vm.Res.bind_assoc, Vm.Res.bind_ok, Vm.Res.Ok_ok, Vm.bindT, Vm.setAll, Vm.boolOf, Vm.isNon, Vm.b_add, Vm.b_sub, Vm.a_add, Vm.c_eq, Vm.c_ne, Vm.c_lt, Vm.c_le, Vm.c_gt, Vm.c_ge, Vm.Bf_len, Vm.Bf_sum, Vm.Bf_min2, Vm.wipeE, Vm.Tg.slots, Vm.lcTurn, Vm.forTurn, List.map_cons, List.map_nil, List.length_cons, List.length_nil, List.length_map, List.cons_append, List.nil_append, List.getElem?_cons_zero, List.getElem?_cons_succ, List.set_cons_zero, List.set_cons_succ, List.reduceReplicate, Nat.reduceSub, Nat.reduceAdd, Nat.zero_add, Int.toNat_natCast, Bool.not_true, Bool.not_false, decide_true, decide_false, if_true, if_false]
        refine ⟨⟨_, rfl⟩, hh, fun i hi => ?_⟩
        by_cases c : i = k
        · subst c
          exact qi.mp rfl
        · exact al i (by omega)
  · obtain ⟨⟨u, rfl⟩, hh, al⟩ := j
    have l3 : (sorts.map PV.str).length = 3 := rfl
    rw [l3] at al
    exact ⟨hh, .inl ⟨_, rfl, .inr (.inr (.inr ⟨rfl, al 0 (by omega), al 1 (by omega), al 2 (by omega)⟩))⟩⟩
  · obtain ⟨hh, ⟨u, rfl, t⟩ | ⟨q, rfl, t⟩⟩ := q
    · simp (config := { implicitDefEqProofs := false }) only [Vm.evF, Vm.evSs, Vm.evS, Vm.evX, Vm.evE, Vm.evEs, Vm.evIt, Vm.evPt, Vm.Res.bind_assoc, Vm.Res.bind_ok, Vm.Res.Ok_ok, Vm.bindT, Vm.setAll, Vm.boolOf, Vm.isNon, Vm.b_add, Vm.b_sub, Vm.a_add, Vm.c_eq, Vm.c_ne, Vm.c_lt, Vm.c_le, Vm.c_gt, Vm.c_ge, Vm.Bf_len, Vm.Bf_sum, Vm.Bf_min2, Vm.wipeE, Vm.Tg.slots, Vm.lcTurn, Vm.forTurn, List.map_cons, List.map_nil, List.length_cons, List.length_nil, List.length_map, List.cons_append, List.nil_append, List.getElem?_cons_zero, List.getElem?_cons_succ, List.set_cons_zero, List.set_cons_succ, List.reduceReplicate, Nat.reduceSub, Nat.reduceAdd, Nat.zero_add, Int.toNat_natCast, Bool.not_true, Bool.not_false, decide_true, decide_false, if_true, if_false]
      exact ⟨⟨none, rfl, t⟩, hh⟩
    · simp (config := { implicitDefEqProofs := false }) only [Vm.evF, Vm.evSs, Vm.evS, Vm.evX, Vm.evE, Vm.evEs, Vm.evIt, Vm.evPt, Vm.Res.bind_assoc, Vm.Res.bind_ok, Vm.Res.Ok_ok, Vm.bindT, Vm.setAll, Vm.boolOf, Vm.isNon, Vm.b_add, Vm.b_sub, Vm.a_add, Vm.c_eq, Vm.c_ne, Vm.c_lt, Vm.c_le, Vm.c_gt, Vm.c_ge, Vm.Bf_len, Vm.Bf_sum, Vm.Bf_min2, Vm.wipeE, Vm.Tg.slots, Vm.lcTurn, Vm.forTurn, List.map_cons, List.map_nil, List.length_cons, List.length_nil, List.length_map, List.cons_append, List.nil_append, List.getElem?_cons_zero, List.getElem?_cons_succ, List.set_cons_zero, List.set_cons_succ, List.reduceReplicate, Nat.reduceSub, Nat.reduceAdd, Nat.zero_add, Int.toNat_natCast, Bool.not_true, Bool.not_false, decide_true, decide_false, if_true, if_false]
      exact ⟨⟨q, rfl, t⟩, hh⟩
theorem s_typeby {L : List Lit} (hN : 6 ≤ N) (ok : ∀ l ∈ L, l.Ok) (hL : L.length ≤ 20) : (sem Bf ds N 3 [lts L] h).Ok fun r h1 => (∃ o, Tog L o ∧ ((o ≠ none ∧ r = .non) ∨ (o = none ∧ ∃ w : Who, r = w.pv ∧ (∀ l ∈ L, holds l w = true) ∧ IsW w.t ∧ 0 ≤ w.g ∧ ∀ x, w.b = some x → 0 ≤ x))) ∧ h1 = h := by
  obtain ⟨N, rfl, k⟩ := pre hN (by decide)
  rw [sem_at (d := d_type_by) (L := 6) (b := b_type_by) rfl rfl rfl]
  simp (config := { implicitDefEqProofs := false }) only [Vm.evF, Vm.evSs, Vm.evS, Vm.evX, Vm.evE, Vm.evEs, Vm.evIt, Vm.evPt, Vm.Res.bind_assoc, Vm.Res.bind_ok, Vm.Res.Ok_ok, Vm.bindT, Vm.setAll, Vm.boolOf, Vm.isNon, Vm.b_add, Vm.b_sub, Vm.a_add, Vm.c_eq, Vm.c_ne, Vm.c_lt, Vm.c_le, Vm.c_gt, Vm.c_ge, Vm.Bf_len, Vm.Bf_sum, Vm.Bf_min2, Vm.wipeE, Vm.Tg.slots, Vm.lcTurn, Vm.forTurn, List.map_cons, List.map_nil, List.length_cons, List.length_nil, List.length_map, List.cons_append, List.nil_append, List.getElem?_cons_zero, List.getElem?_cons_succ, List.set_cons_zero, List.set_cons_succ, List.reduceReplicate, Nat.reduceSub, Nat.reduceAdd, Nat.zero_add, Int.toNat_natCast, Bool.not_true, Bool.not_false, decide_true, decide_false, if_true, if_false, b_type_by]
  refine Res.ok_bind ((s_tog (N := N) (h := h) (L := L) (by omega) ok hL).mono fun r h1 q => ?_)
  obtain ⟨⟨o, rfl, to⟩, rfl⟩ := q
  cases o with
  | some s =>
    simp (config := { implicitDefEqProofs := false }) only [Vm.evF, Vm.evSs, Vm.evS, Vm.evX, Vm.evE, Vm.evEs, Vm.evIt, Vm.evPt, Vm.Res.bind_assoc, Vm.Res.bind_ok, Vm.Res.Ok_ok, Vm.bindT, Vm.setAll, Vm.boolOf, Vm.isNon, Vm.b_add, Vm.b_sub, Vm.a_add, Vm.c_eq, Vm.c_ne, Vm.c_lt, Vm.c_le, Vm.c_gt, Vm.c_ge, Vm.Bf_len, Vm.Bf_sum, Vm.Bf_min2, Vm.wipeE, Vm.Tg.slots, Vm.lcTurn, Vm.forTurn, List.map_cons, List.map_nil, List.length_cons, List.length_nil, List.length_map, List.cons_append, List.nil_append, List.getElem?_cons_zero, List.getElem?_cons_succ, List.set_cons_zero, List.set_cons_succ, List.reduceReplicate, Nat.reduceSub, Nat.reduceAdd, Nat.zero_add, Int.toNat_natCast, Bool.not_true, Bool.not_false, decide_true, decide_false, if_true, if_false, optS]
    exact ⟨⟨some s, to, .inl ⟨by simp, trivial⟩⟩, trivial⟩
  | none =>
    simp (config := { implicitDefEqProofs := false }) only [Vm.evF, Vm.evSs, Vm.evS, Vm.evX, Vm.evE, Vm.evEs, Vm.evIt, Vm.evPt, Vm.Res.bind_assoc, Vm.Res.bind_ok, Vm.Res.Ok_ok, Vm.bindT, Vm.setAll, Vm.boolOf, Vm.isNon, Vm.b_add, Vm.b_sub, Vm.a_add, Vm.c_eq, Vm.c_ne, Vm.c_lt, Vm.c_le, Vm.c_gt, Vm.c_ge, Vm.Bf_len, Vm.Bf_sum, Vm.Bf_min2, Vm.wipeE, Vm.Tg.slots, Vm.lcTurn, Vm.forTurn, List.map_cons, List.map_nil, List.length_cons, List.length_nil, List.length_map, List.cons_append, List.nil_append, List.getElem?_cons_zero, List.getElem?_cons_succ, List.set_cons_zero, List.set_cons_succ, List.reduceReplicate, Nat.reduceSub, Nat.reduceAdd, Nat.zero_add, Int.toNat_natCast, Bool.not_true, Bool.not_false, decide_true, decide_false, if_true, if_false, optS]
    have t3 : TT L ∧ AA L ∧ KK L := by
      rcases to with ⟨e, _⟩ | ⟨e, _⟩ | ⟨e, _⟩ | ⟨_, t⟩
      · cases e
      · cases e
      · cases e
      · exact t
    refine Res.ok_bind ((s_agf (N := N) (h := h1) (L := L) (by omega) ok).mono fun r h2 q => ?_)
    obtain ⟨rfl, rfl⟩ := q
    have A := ages_ok (L := L) (a := (agesF (0, none) L).1) (e := (agesF (0, none) L).2) rfl
    generalize (agesF (0, none) L).1 = a at A
    generalize (agesF (0, none) L).2 = e at A
    have Ag := (A.2 (A.1.mp t3.2.1)).2
    simp (config := { implicitDefEqProofs := false }) only [Vm.evF, Vm.evSs, Vm.evS, Vm.evX, Vm.evE, Vm.evEs, Vm.evIt, Vm.evPt, Vm.Res.bind_assoc, Vm.Res.bind_ok, Vm.Res.Ok_ok, Vm.bindT, Vm.setAll, Vm.boolOf, Vm.isNon, Vm.b_add, Vm.b_sub, Vm.a_add, Vm.c_eq, Vm.c_ne, Vm.c_lt, Vm.c_le, Vm.c_gt, Vm.c_ge, Vm.Bf_len, Vm.Bf_sum, Vm.Bf_min2, Vm.wipeE, Vm.Tg.slots, Vm.lcTurn, Vm.forTurn, List.map_cons, List.map_nil, List.length_cons, List.length_nil, List.length_map, List.cons_append, List.nil_append, List.getElem?_cons_zero, List.getElem?_cons_succ, List.set_cons_zero, List.set_cons_succ, List.reduceReplicate, Nat.reduceSub, Nat.reduceAdd, Nat.zero_add, Int.toNat_natCast, Bool.not_true, Bool.not_false, decide_true, decide_false, if_true, if_false, rd]
    refine Res.ok_bind ((s_ties (N := N) (h := h2) (L := L) (by omega) ok).mono fun r h3 q => ?_)
    obtain ⟨rfl, rfl⟩ := q
    have B := ties_ok (L := L) (m := (tiF (0, none) L).1) (k := (tiF (0, none) L).2) rfl
    generalize (tiF (0, none) L).1 = m at B
    generalize (tiF (0, none) L).2 = kk at B
    simp (config := { implicitDefEqProofs := false }) only [Vm.evF, Vm.evSs, Vm.evS, Vm.evX, Vm.evE, Vm.evEs, Vm.evIt, Vm.evPt, Vm.Res.bind_assoc, Vm.Res.bind_ok, Vm.Res.Ok_ok, Vm.bindT, Vm.setAll, Vm.boolOf, Vm.isNon, Vm.b_add, Vm.b_sub, Vm.a_add, Vm.c_eq, Vm.c_ne, Vm.c_lt, Vm.c_le, Vm.c_gt, Vm.c_ge, Vm.Bf_len, Vm.Bf_sum, Vm.Bf_min2, Vm.wipeE, Vm.Tg.slots, Vm.lcTurn, Vm.forTurn, List.map_cons, List.map_nil, List.length_cons, List.length_nil, List.length_map, List.cons_append, List.nil_append, List.getElem?_cons_zero, List.getElem?_cons_succ, List.set_cons_zero, List.set_cons_succ, List.reduceReplicate, Nat.reduceSub, Nat.reduceAdd, Nat.zero_add, Int.toNat_natCast, Bool.not_true, Bool.not_false, decide_true, decide_false, if_true, if_false, rd]
    cases kk with
    | none =>
      simp (config := { implicitDefEqProofs := false }) only [Vm.evF, Vm.evSs, Vm.evS, Vm.evX, Vm.evE, Vm.evEs, Vm.evIt, Vm.evPt, Vm.Res.bind_assoc, Vm.Res.bind_ok, Vm.Res.Ok_ok, Vm.bindT, Vm.setAll, Vm.boolOf, Vm.isNon, Vm.b_add, Vm.b_sub, Vm.a_add, Vm.c_eq, Vm.c_ne, Vm.c_lt, Vm.c_le, Vm.c_gt, Vm.c_ge, Vm.Bf_len, Vm.Bf_sum, Vm.Bf_min2, Vm.wipeE, Vm.Tg.slots, Vm.lcTurn, Vm.forTurn, List.map_cons, List.map_nil, List.length_cons, List.length_nil, List.length_map, List.cons_append, List.nil_append, List.getElem?_cons_zero, List.getElem?_cons_succ, List.set_cons_zero, List.set_cons_succ, List.reduceReplicate, Nat.reduceSub, Nat.reduceAdd, Nat.zero_add, Int.toNat_natCast, Bool.not_true, Bool.not_false, decide_true, decide_false, if_true, if_false, optP]
      refine Res.ok_bind ((s_town (N := N) (h := h3) (L := L) (by omega) ok hL).mono fun r h4 q => ?_)
      obtain ⟨⟨o, rfl, o1, o2⟩, rfl⟩ := q
      cases o with
      | none => exact absurd t3.1 (o2 rfl)
      | some t =>
        have nt := newT_ok (h := h4) (xs := [.str t, .int a, .non]) (by simp)
        simp (config := { implicitDefEqProofs := false }) only [Vm.evF, Vm.evSs, Vm.evS, Vm.evX, Vm.evE, Vm.evEs, Vm.evIt, Vm.evPt, Vm.Res.bind_assoc, Vm.Res.bind_ok, Vm.Res.Ok_ok, Vm.bindT, Vm.setAll, Vm.boolOf, Vm.isNon, Vm.b_add, Vm.b_sub, Vm.a_add, Vm.c_eq, Vm.c_ne, Vm.c_lt, Vm.c_le, Vm.c_gt, Vm.c_ge, Vm.Bf_len, Vm.Bf_sum, Vm.Bf_min2, Vm.wipeE, Vm.Tg.slots, Vm.lcTurn, Vm.forTurn, List.map_cons, List.map_nil, List.length_cons, List.length_nil, List.length_map, List.cons_append, List.nil_append, List.getElem?_cons_zero, List.getElem?_cons_succ, List.set_cons_zero, List.set_cons_succ, List.reduceReplicate, Nat.reduceSub, Nat.reduceAdd, Nat.zero_add, Int.toNat_natCast, Bool.not_true, Bool.not_false, decide_true, decide_false, if_true, if_false, optS, nt]
        exact ⟨⟨none, to, .inr ⟨rfl, ⟨t, a, none⟩, rfl, all_hold ok (o1 t rfl).1 Ag (.inl ⟨rfl, B.2.2 rfl⟩), (o1 t rfl).2, (A.2 (A.1.mp t3.2.1)).1, fun x e => nomatch e⟩⟩, trivial⟩
    | some x =>
      simp (config := { implicitDefEqProofs := false }) only [Vm.evF, Vm.evSs, Vm.evS, Vm.evX, Vm.evE, Vm.evEs, Vm.evIt, Vm.evPt, Vm.Res.bind_assoc, Vm.Res.bind_ok, Vm.Res.Ok_ok, Vm.bindT, Vm.setAll, Vm.boolOf, Vm.isNon, Vm.b_add, Vm.b_sub, Vm.a_add, Vm.c_eq, Vm.c_ne, Vm.c_lt, Vm.c_le, Vm.c_gt, Vm.c_ge, Vm.Bf_len, Vm.Bf_sum, Vm.Bf_min2, Vm.wipeE, Vm.Tg.slots, Vm.lcTurn, Vm.forTurn, List.map_cons, List.map_nil, List.length_cons, List.length_nil, List.length_map, List.cons_append, List.nil_append, List.getElem?_cons_zero, List.getElem?_cons_succ, List.set_cons_zero, List.set_cons_succ, List.reduceReplicate, Nat.reduceSub, Nat.reduceAdd, Nat.zero_add, Int.toNat_natCast, Bool.not_true, Bool.not_false, decide_true, decide_false, if_true, if_false, optP]
      refine Res.ok_bind ((s_town (N := N) (h := h3) (L := L) (by omega) ok hL).mono fun r h4 q => ?_)
      obtain ⟨⟨o, rfl, o1, o2⟩, rfl⟩ := q
      cases o with
      | none => exact absurd t3.1 (o2 rfl)
      | some t =>
        have nt := newT_ok (h := h4) (xs := [.str t, .int a, .int m]) (by simp)
        have kx : ∃ y, some x = some y ∧ m ≤ y := by
          rcases B.1.mp t3.2.2 with c | c
          · cases c
          · exact c
        simp (config := { implicitDefEqProofs := false }) only [Vm.evF, Vm.evSs, Vm.evS, Vm.evX, Vm.evE, Vm.evEs, Vm.evIt, Vm.evPt, Vm.Res.bind_assoc, Vm.Res.bind_ok, Vm.Res.Ok_ok, Vm.bindT, Vm.setAll, Vm.boolOf, Vm.isNon, Vm.b_add, Vm.b_sub, Vm.a_add, Vm.c_eq, Vm.c_ne, Vm.c_lt, Vm.c_le, Vm.c_gt, Vm.c_ge, Vm.Bf_len, Vm.Bf_sum, Vm.Bf_min2, Vm.wipeE, Vm.Tg.slots, Vm.lcTurn, Vm.forTurn, List.map_cons, List.map_nil, List.length_cons, List.length_nil, List.length_map, List.cons_append, List.nil_append, List.getElem?_cons_zero, List.getElem?_cons_succ, List.set_cons_zero, List.set_cons_succ, List.reduceReplicate, Nat.reduceSub, Nat.reduceAdd, Nat.zero_add, Int.toNat_natCast, Bool.not_true, Bool.not_false, decide_true, decide_false, if_true, if_false, optS, nt]
        exact ⟨⟨none, to, .inr ⟨rfl, ⟨t, a, some m⟩, rfl, all_hold ok (o1 t rfl).1 Ag (.inr ⟨m, rfl, (B.2.1 kx).2⟩), (o1 t rfl).2, (A.2 (A.1.mp t3.2.1)).1, fun x e => by cases e; exact (B.2.1 kx).1⟩⟩, trivial⟩
end
end K05

set_option Elab.async false
set_option linter.all false
set_option maxRecDepth 100000
set_option maxHeartbeats 4000000
namespace K05
open PySem PySem.Spec PyProof.Rows L2 Vm L06 L07
def optL : Option Int → List Int
  | none => []
  | some x => [x]
def twU : Lit → List Str
  | .tw _ us => us
  | _ => []
def agU : Lit → List Int
  | .ag f e => f :: optL e
  | _ => []
def knU : Lit → List Int
  | .kn _ v => [v + 1]
  | _ => []
def fiv (us : List Str) : List Str := (["q", "qq", "other", "fresh", "else"] : List Str).filter fun u => !decide (u ∈ us)
section
variable {h : IH} {N a p b n : Nat} {cs : List Int} {ts : List Str}
theorem ext_ok {xs ys : List PV} {y : PV} (e : h[a]? = some (.lst xs)) (q : rdX h y = some ys) (l : xs.length + ys.length ≤ 1000000) : extF (.ref a) y h = .ok () (h.set a (.lst (xs ++ ys))) := by
  have : xs.length + ys.length ≤ sizeLine := by rw [sizeLine_eq]; omega
  simp only [extF, e, q, this, if_true]
theorem lstC_ok {xs : List PV} (e : h[a]? = some (.lst xs)) : lstC (.ref a) h = true := by simp only [lstC, e]
theorem add_refs {c d : Nat} {xs ys : List PV} (e : h[c]? = some (.lst xs)) (e2 : h[d]? = some (.lst ys)) (l : xs.length + ys.length ≤ 1000000) : binF .add (.ref c) (.ref d) h = .ok (.ref h.length) (h ++ [.lst (xs ++ ys)]) := by
  show (match h[c]?, h[d]? with
    | some (.lst xs), some (.lst ys) => new h (xs ++ ys)
    | _, _ => .stuck) = _
  rw [e, e2]
  exact new_ok (by rw [List.length_append]; exact l)
theorem cut2 {x y z : PV} : cutP [x, y, z] (some 2) none = [z] := rfl
theorem few_body {l : Lit} (ok : l.Ok) {us : List Str} {gs ms : List Int} {T G M : Nat} {u0 : PV} {o5 o6 o7 : Option PV}
    (eT : h[T]? = some (.lst (us.map PV.str))) (eG : h[G]? = some (.lst (gs.map PV.int))) (eM : h[M]? = some (.lst (.non :: ms.map PV.int))) (d1 : T ≠ G) (d2 : T ≠ M) (d3 : G ≠ M) (lu : us.length ≤ 1000) (lg : gs.length ≤ 1000) (lm : ms.length ≤ 1000) :
    (evSs (sem Bf ds N) Bf (.cons (.ifs (.cont false (.ix (.var 4) (.int 0)) (.tup (.cons (.str "town") (.cons (.str "out") .nil)))) (.cons (.x (.ext (.var 1) (.ix (.var 4) (.int 1)))) .nil) (.cons (.ifs (.cmp .eq (.ix (.var 4) (.int 0)) (.str "age")) (.cons (.x (.ext (.var 2) (.bin .add (.lst (.cons (.ix (.var 4) (.int 1)) .nil)) (.lc (.var 7) (.one 7) (.seq (.slc (.var 4) (.yes (.int 2)) .no)) (.notn (.var 7)))))) .nil) (.cons (.x (.app (.var 3) (.bin .add (.ix (.var 4) (.int 1)) (.int 1)))) .nil)) .nil)) .nil)
      [some u0, some (.ref T), some (.ref G), some (.ref M), some l.pv, o5, o6, o7] h).Ok fun o h1 => o = .nx [some u0, some (.ref T), some (.ref G), some (.ref M), some l.pv, o5, o6, o7] ∧ h1[T]? = some (.lst ((us ++ twU l).map PV.str)) ∧ h1[G]? = some (.lst ((gs ++ agU l).map PV.int)) ∧ h1[M]? = some (.lst (.non :: (ms ++ knU l).map PV.int)) ∧
        h.length ≤ h1.length ∧ (∀ i : Nat, i < h.length → i ≠ T → i ≠ G → i ≠ M → h1[i]? = h[i]?) := by
  have lT := (List.getElem?_eq_some_iff.mp eT).1
  have lG := (List.getElem?_eq_some_iff.mp eG).1
  have lM := (List.getElem?_eq_some_iff.mp eM).1
  have nt := newT_ok (h := h) (xs := [.str "town", .str "out"]) (by simp)
  cases l with
  | tw bo ws =>
    obtain ⟨u1, u2, u3, u4⟩ := ok
    have ex := ext_ok (ys := ws.map PV.str) (y := .tup (ws.map PV.str)) eT rfl (by rw [List.length_map, List.length_map]; omega)
    simp (config := { implicitDefEqProofs := false }) only [Vm.evF, Vm.evSs, Vm.evS, Vm.evX, Vm.evE, Vm.evEs, Vm.evIt, Vm.evPt, Vm.Res.bind_assoc, Vm.Res.bind_ok, Vm.Res.Ok_ok, Vm.bindT, Vm.setAll, Vm.boolOf, Vm.isNon, Vm.b_add, Vm.b_sub, Vm.a_add, Vm.c_eq, Vm.c_ne, Vm.c_lt, Vm.c_le, Vm.c_gt, Vm.c_ge, Vm.Bf_len, Vm.Bf_sum, Vm.Bf_min2, Vm.wipeE, Vm.Tg.slots, Vm.lcTurn, Vm.forTurn, List.map_cons, List.map_nil, List.length_cons, List.length_nil, List.length_map, List.cons_append, List.nil_append, List.getElem?_cons_zero, List.getElem?_cons_succ, List.set_cons_zero, List.set_cons_succ, List.reduceReplicate, Nat.reduceSub, Nat.reduceAdd, Nat.zero_add, Int.toNat_natCast, Bool.not_true, Bool.not_false, decide_true, decide_false, if_true, if_false, Lit.pv, ix0, ix1, nt, tw_in, lstC_ok eT, ex]
    refine ⟨trivial, by rw [set_same eT]; show _ = some (HV.lst ((us ++ ws).map PV.str)); rw [List.map_append], by rw [set_other d1]; show _ = some (HV.lst ((gs ++ []).map PV.int)); rw [List.append_nil]; exact eG, by rw [set_other d2]; show _ = some (HV.lst (PV.non :: (ms ++ []).map PV.int)); rw [List.append_nil]; exact eM, by rw [List.length_set]; exact Nat.le_refl _, fun i _ n1 _ _ => set_other (Ne.symm n1)⟩
  | kn bo v =>
    have v0 : 0 ≤ v := ok
    have ap := appF_ok (a := M) (v := .int (v + 1)) eM (by rw [List.length_cons, List.length_map]; omega)
    simp (config := { implicitDefEqProofs := false }) only [Vm.evF, Vm.evSs, Vm.evS, Vm.evX, Vm.evE, Vm.evEs, Vm.evIt, Vm.evPt, Vm.Res.bind_assoc, Vm.Res.bind_ok, Vm.Res.Ok_ok, Vm.bindT, Vm.setAll, Vm.boolOf, Vm.isNon, Vm.b_add, Vm.b_sub, Vm.a_add, Vm.c_eq, Vm.c_ne, Vm.c_lt, Vm.c_le, Vm.c_gt, Vm.c_ge, Vm.Bf_len, Vm.Bf_sum, Vm.Bf_min2, Vm.wipeE, Vm.Tg.slots, Vm.lcTurn, Vm.forTurn, List.map_cons, List.map_nil, List.length_cons, List.length_nil, List.length_map, List.cons_append, List.nil_append, List.getElem?_cons_zero, List.getElem?_cons_succ, List.set_cons_zero, List.set_cons_succ, List.reduceReplicate, Nat.reduceSub, Nat.reduceAdd, Nat.zero_add, Int.toNat_natCast, Bool.not_true, Bool.not_false, decide_true, decide_false, if_true, if_false, Lit.pv, ix0, ix1, nt, kn_in, c_eqs, knS_ne.1, eM, ap]
    refine ⟨trivial, by rw [set_other (Ne.symm d2)]; show _ = some (HV.lst ((us ++ []).map PV.str)); rw [List.append_nil]; exact eT, by rw [set_other (Ne.symm d3)]; show _ = some (HV.lst ((gs ++ []).map PV.int)); rw [List.append_nil]; exact eG, ?_, by rw [List.length_set]; exact Nat.le_refl _, fun i _ _ _ n3 => set_other (Ne.symm n3)⟩
    · rw [set_same eM]
      show _ = some (HV.lst (PV.non :: (ms ++ [v + 1]).map PV.int))
      rw [List.map_append]
      rfl
  | ag f e =>
    obtain ⟨f0, fe⟩ := ok
    have e1 : decide (("age" : Str) = "age") = true := by decide
    have nl := new_ok (h := h) (xs := [.int f]) (by simp)
    have sl : slcF (.tup [.str "age", .int f, optP e]) (some 2) none (h ++ [.lst [.int f]]) = .ok (.tup [optP e]) (h ++ [.lst [.int f]]) := rfl
    have ec := at_end h (.lst [PV.int f])
    have x1 := Ext.app h [HV.lst [PV.int f]]
    generalize h ++ [HV.lst [PV.int f]] = g at nl sl ec x1
    simp (config := { implicitDefEqProofs := false }) only [Vm.evF, Vm.evSs, Vm.evS, Vm.evX, Vm.evE, Vm.evEs, Vm.evIt, Vm.evPt, Vm.Res.bind_assoc, Vm.Res.bind_ok, Vm.Res.Ok_ok, Vm.bindT, Vm.setAll, Vm.boolOf, Vm.isNon, Vm.b_add, Vm.b_sub, Vm.a_add, Vm.c_eq, Vm.c_ne, Vm.c_lt, Vm.c_le, Vm.c_gt, Vm.c_ge, Vm.Bf_len, Vm.Bf_sum, Vm.Bf_min2, Vm.wipeE, Vm.Tg.slots, Vm.lcTurn, Vm.forTurn, List.map_cons, List.map_nil, List.length_cons, List.length_nil, List.length_map, List.cons_append, List.nil_append, List.getElem?_cons_zero, List.getElem?_cons_succ, List.set_cons_zero, List.set_cons_succ, List.reduceReplicate, Nat.reduceSub, Nat.reduceAdd, Nat.zero_add, Int.toNat_natCast, Bool.not_true, Bool.not_false, decide_true, decide_false, if_true, if_false, Lit.pv, ix0, ix1, nt, ag_in, c_eqs, e1, lstC_ok eG, nl, sl]
    refine Res.ok_bind ((lc_pure (xs := [optP e]) (h0 := g) (fun x => if Vm.isNon x then none else some x) get_items (by simp [Src.fuel]) (by simp) (fun k2 x h4 e4 x4 => ?_)).mono fun acc h4 q => ?_)
    · have : x = optP e := by
        have lt := (List.getElem?_eq_some_iff.mp e4).1
        simp at lt
        subst lt
        simpa using e4.symm
      subst this
      refine Res.calm_of ?_
      cases e with
      | none =>
        simp (config := { implicitDefEqProofs := false }) only [Vm.evF, Vm.evSs, Vm.evS, Vm.evX, Vm.evE, Vm.evEs, Vm.evIt, Vm.evPt, Vm.Res.bind_assoc, Vm.Res.bind_ok, Vm.Res.Ok_ok, Vm.bindT, Vm.setAll, Vm.boolOf, Vm.isNon, Vm.b_add, Vm.b_sub, Vm.a_add, Vm.c_eq, Vm.c_ne, Vm.c_lt, Vm.c_le, Vm.c_gt, Vm.c_ge, Vm.Bf_len, Vm.Bf_sum, Vm.Bf_min2, Vm.wipeE, Vm.Tg.slots, Vm.lcTurn, Vm.forTurn, List.map_cons, List.map_nil, List.length_cons, List.length_nil, List.length_map, List.cons_append, List.nil_append, List.getElem?_cons_zero, List.getElem?_cons_succ, List.set_cons_zero, List.set_cons_succ, List.reduceReplicate, Nat.reduceSub, Nat.reduceAdd, Nat.zero_add, Int.toNat_natCast, Bool.not_true, Bool.not_false, decide_true, decide_false, if_true, if_false, optP]
        first | exact ⟨rfl, x4⟩ | exact ⟨trivial, x4⟩
      | some y =>
        simp (config := { implicitDefEqProofs := false }) only [Vm.evF, Vm.evSs, Vm.evS, Vm.evX, Vm.evE, Vm.evEs, Vm.evIt, Vm.evPt, Vm.Res.bind_assoc, Vm.Res.bind_ok, Vm.Res.Ok_ok, Vm.bindT, Vm.setAll, Vm.boolOf, Vm.isNon, Vm.b_add, Vm.b_sub, Vm.a_add, Vm.c_eq, Vm.c_ne, Vm.c_lt, Vm.c_le, Vm.c_gt, Vm.c_ge, Vm.Bf_len, Vm.Bf_sum, Vm.Bf_min2, Vm.wipeE, Vm.Tg.slots, Vm.lcTurn, Vm.forTurn, List.map_cons, List.map_nil, List.length_cons, List.length_nil, List.length_map, List.cons_append, List.nil_append, List.getElem?_cons_zero, List.getElem?_cons_succ, List.set_cons_zero, List.set_cons_succ, List.reduceReplicate, Nat.reduceSub, Nat.reduceAdd, Nat.zero_add, Int.toNat_natCast, Bool.not_true, Bool.not_false, decide_true, decide_false, if_true, if_false, optP]
        first | exact ⟨rfl, x4⟩ | exact ⟨trivial, x4⟩
    · obtain ⟨rfl, x4⟩ := q
      have ea : [optP e].filterMap (fun x => if Vm.isNon x then none else some x) = (optL e).map PV.int := by cases e <;> rfl
      rw [ea]
      have ec2 := (x4.trans (Ext.app h4 [HV.lst ((optL e).map PV.int)])).get ec
      have ed := at_end h4 (.lst ((optL e).map PV.int))
      have x5 := (x1.trans x4).trans (Ext.app h4 [HV.lst ((optL e).map PV.int)])
      generalize h4 ++ [HV.lst ((optL e).map PV.int)] = h5 at ec2 ed x5
      have lo : (optL e).length ≤ 1 := by cases e <;> simp [optL]
      have ad := add_refs ec2 ed (by rw [List.length_map]; simp; omega)
      have e6 := at_end h5 (.lst ([PV.int f] ++ (optL e).map PV.int))
      have x6 := x5.trans (Ext.app h5 [HV.lst ([PV.int f] ++ (optL e).map PV.int)])
      generalize h5 ++ [HV.lst ([PV.int f] ++ (optL e).map PV.int)] = h6 at ad e6 x6
      have eG6 := x6.get eG
      have r6 : rdX h6 (.ref h5.length) = some ([PV.int f] ++ (optL e).map PV.int) := by simp only [rdX, e6]
      have ex := ext_ok eG6 r6 (by simp; omega)
      simp (config := { implicitDefEqProofs := false }) only [Vm.evF, Vm.evSs, Vm.evS, Vm.evX, Vm.evE, Vm.evEs, Vm.evIt, Vm.evPt, Vm.Res.bind_assoc, Vm.Res.bind_ok, Vm.Res.Ok_ok, Vm.bindT, Vm.setAll, Vm.boolOf, Vm.isNon, Vm.b_add, Vm.b_sub, Vm.a_add, Vm.c_eq, Vm.c_ne, Vm.c_lt, Vm.c_le, Vm.c_gt, Vm.c_ge, Vm.Bf_len, Vm.Bf_sum, Vm.Bf_min2, Vm.wipeE, Vm.Tg.slots, Vm.lcTurn, Vm.forTurn, List.map_cons, List.map_nil, List.length_cons, List.length_nil, List.length_map, List.cons_append, List.nil_append, List.getElem?_cons_zero, List.getElem?_cons_succ, List.set_cons_zero, List.set_cons_succ, List.reduceReplicate, Nat.reduceSub, Nat.reduceAdd, Nat.zero_add, Int.toNat_natCast, Bool.not_true, Bool.not_false, decide_true, decide_false, if_true, if_false, ad, ex]
      refine ⟨trivial, by rw [set_other (Ne.symm d1)]; show _ = some (HV.lst ((us ++ []).map PV.str)); rw [List.append_nil]; exact x6.get eT, ?_, by rw [set_other d3]; show _ = some (HV.lst (PV.non :: (ms ++ []).map PV.int)); rw [List.append_nil]; exact x6.get eM, by rw [List.length_set]; exact x6.len, fun i hi n1 n2 n3 => ?_⟩
      · rw [set_same eG6]
        show _ = some (HV.lst ((gs ++ (f :: optL e)).map PV.int))
        rw [List.map_append]
        rfl
      · rw [set_other (Ne.symm n2)]
        obtain ⟨z, rfl⟩ := x6
        exact List.getElem?_append_left hi
end
def fewB : Ss := .cons (.ifs (.cont false (.ix (.var 4) (.int 0)) (.tup (.cons (.str "town") (.cons (.str "out") .nil)))) (.cons (.x (.ext (.var 1) (.ix (.var 4) (.int 1)))) .nil) (.cons (.ifs (.cmp .eq (.ix (.var 4) (.int 0)) (.str "age")) (.cons (.x (.ext (.var 2) (.bin .add (.lst (.cons (.ix (.var 4) (.int 1)) .nil)) (.lc (.var 7) (.one 7) (.seq (.slc (.var 4) (.yes (.int 2)) .no)) (.notn (.var 7)))))) .nil) (.cons (.x (.app (.var 3) (.bin .add (.ix (.var 4) (.int 1)) (.int 1)))) .nil)) .nil)) .nil
def fewE : Ss := .cons (.x (.set (.one 5) (.slc (.lc (.var 6) (.one 6) (.seq (.tup (.cons (.str "q") (.cons (.str "qq") (.cons (.str "other") (.cons (.str "fresh") (.cons (.str "else") .nil))))))) (.cont true (.var 6) (.var 1))) .no (.yes (.int 1))))) (.cons (.x (.ret (.tup (.cons (.bin .add (.tset (.var 1)) (.var 5)) (.cons (.sset (.var 2)) (.cons (.bin .add (.slc (.var 3) .no (.yes (.int 1))) (.sset (.slc (.var 3) (.yes (.int 1)) .no))) .nil)))))) .nil)
theorem few_eq : b__law_few = .cons (.x (.set (.one 1) (.lst (.nil)))) (.cons (.x (.set (.one 2) (.lst (.cons (.int 0) .nil)))) (.cons (.x (.set (.one 3) (.lst (.cons (.non) (.cons (.int 0) .nil))))) (.cons (.for (.one 4) (.seq (.var 0)) fewB) fewE))) := rfl
theorem ext_of {h h1 : IH} (l : h.length ≤ h1.length) (k : ∀ i : Nat, i < h.length → h1[i]? = h[i]?) : Ext h h1 := by
  refine ⟨h1.drop h.length, ?_⟩
  refine List.ext_getElem? fun i => ?_
  by_cases hi : i < h.length
  · rw [List.getElem?_append_left hi, k i hi]
  · rw [List.getElem?_append_right (by omega), List.getElem?_drop]
    congr 1
    omega
section
variable {h : IH} {N a p b n : Nat} {cs : List Int} {ts : List Str}
theorem insU_len {z : Str} : ∀ {xs : List Str}, (insU z xs).length ≤ xs.length + 1
  | [] => by simp [insU]
  | x :: xs => by
    unfold insU
    split
    · have := insU_len (z := z) (xs := xs)
      simp only [List.length_cons]
      omega
    · split
      · simp
      · simp
theorem srtU_len : ∀ {zs : List Str}, (srtU zs).length ≤ zs.length
  | [] => by simp [srtU]
  | z :: zs => by
    have a := srtU_len (zs := zs)
    have b := insU_len (z := z) (xs := srtU zs)
    show (insU z (srtU zs)).length ≤ _
    simp only [List.length_cons]
    omega
theorem tset_ok {c : Nat} {zs : List Str} (e : h[c]? = some (.lst (zs.map PV.str))) (l : zs.length < 1000) : tsetF (.ref c) h = .ok (.ref h.length) (h ++ [.lst ((srtU zs).map PV.str)]) := by
  have n := new_ok (h := h) (xs := (srtU zs).map PV.str) (by rw [List.length_map]; have := srtU_len (zs := zs); omega)
  simp only [tsetF, e, strsOf_map, n]
  rw [if_pos l]
theorem slc_ref {c : Nat} {xs : List PV} {lo hi : Option Int} (e : h[c]? = some (.lst xs)) (l : (cutP xs lo hi).length ≤ 1000000) : slcF (.ref c) lo hi h = .ok (.ref h.length) (h ++ [.lst (cutP xs lo hi)]) := by
  show (match h[c]? with
    | some (.lst xs) => new h (cutP xs lo hi)
    | _ => .stuck) = _
  rw [e]
  exact new_ok l
theorem cut_h {x : PV} {xs : List PV} : cutP (x :: xs) none (some 1) = [x] := by
  unfold cutP
  have e : HT.sIx (x :: xs).length (x :: xs).length (some 1) = 1 := by
    have := HT.sIx_nat (x :: xs).length (x :: xs).length 1
    rw [show ((1 : Nat) : Int) = 1 from rfl] at this
    rw [this, List.length_cons]
    omega
  rw [e]
  rfl
theorem cut_t {x : PV} {xs : List PV} : cutP (x :: xs) (some 1) none = xs := by
  unfold cutP
  have e : HT.sIx (x :: xs).length 0 (some 1) = 1 := by
    have := HT.sIx_nat (x :: xs).length 0 1
    rw [show ((1 : Nat) : Int) = 1 from rfl] at this
    rw [this, List.length_cons]
    omega
  rw [e]
  show (xs.take (HT.sIx (x :: xs).length (x :: xs).length none - 1)) = xs
  have e2 : HT.sIx (x :: xs).length (x :: xs).length none = xs.length + 1 := rfl
  rw [e2]
  exact List.take_of_length_le (by omega)
theorem optP_some : ∀ ms : List Int, (ms.map fun x => some x).map optP = ms.map PV.int
  | [] => rfl
  | m :: ms => by rw [List.map_cons, List.map_cons, List.map_cons, optP_some ms]; rfl
theorem few_end {us : List Str} {gs ms : List Int} {T G M : Nat} {u0 : PV} {o4 o5 o6 o7 : Option PV}
    (eT : h[T]? = some (.lst (us.map PV.str))) (eG : h[G]? = some (.lst (gs.map PV.int))) (eM : h[M]? = some (.lst (.non :: ms.map PV.int))) (lu : us.length ≤ 200) (lg : gs.length ≤ 60) (lm : ms.length ≤ 60) :
    (evSs (sem Bf ds N) Bf fewE [some u0, some (.ref T), some (.ref G), some (.ref M), o4, o5, o6, o7] h).Ok fun o h1 => ∃ (t g m : Nat), o = .rt (.tup [.ref t, .ref g, .ref m]) ∧ h1[t]? = some (.lst ((srtU us ++ (fiv us).take 1).map PV.str)) ∧ h1[g]? = some (.lst ((ssetL gs).map PV.int)) ∧ h1[m]? = some (.lst (.non :: (ssetL ms).map PV.int)) ∧ Ext h h1 := by
  have nt := newT_ok (h := h) (xs := (["q", "qq", "other", "fresh", "else"] : List Str).map PV.str) (by simp)
  have ew : (["q", "qq", "other", "fresh", "else"] : List Str).map PV.str = [.str "q", .str "qq", .str "other", .str "fresh", .str "else"] := rfl
  rw [ew] at nt
  simp (config := { implicitDefEqProofs := false }) only [Vm.evF, Vm.evSs, Vm.evS, Vm.evX, Vm.evE, Vm.evEs, Vm.evIt, Vm.evPt, Vm.Res.bind_assoc, Vm.Res.bind_ok, Vm.Res.Ok_ok, Vm.bindT, Vm.setAll, Vm.boolOf, Vm.isNon, Vm.b_add, Vm.b_sub, Vm.a_add, Vm.c_eq, Vm.c_ne, Vm.c_lt, Vm.c_le, Vm.c_gt, Vm.c_ge, Vm.Bf_len, Vm.Bf_sum, Vm.Bf_min2, Vm.wipeE, Vm.Tg.slots, Vm.lcTurn, Vm.forTurn, List.map_cons, List.map_nil, List.length_cons, List.length_nil, List.length_map, List.cons_append, List.nil_append, List.getElem?_cons_zero, List.getElem?_cons_succ, List.set_cons_zero, List.set_cons_succ, List.reduceReplicate, Nat.reduceSub, Nat.reduceAdd, Nat.zero_add, Int.toNat_natCast, Bool.not_true, Bool.not_false, decide_true, decide_false, if_true, if_false, fewE, nt]
  rw [← ew]
  refine Res.ok_bind ((lc_pure (xs := (["q", "qq", "other", "fresh", "else"] : List Str).map PV.str) (h0 := h) (fun x => match x with
      | .str u => if !decide (u ∈ us) then some (.str u) else none
      | _ => none) get_items (by simp [Src.fuel]) (by simp) (fun k2 x h4 e4 x4 => ?_)).mono fun acc h4 q => ?_)
  · rw [List.getElem?_map] at e4
    cases ec : (["q", "qq", "other", "fresh", "else"] : List Str)[k2]? with
    | none => rw [ec] at e4; cases e4
    | some u =>
      rw [ec] at e4
      cases e4
      refine Res.calm_of ?_
      simp (config := { implicitDefEqProofs := false }) only [Vm.evF, Vm.evSs, Vm.evS, Vm.evX, Vm.evE, Vm.evEs, Vm.evIt, Vm.evPt, Vm.Res.bind_assoc, Vm.Res.bind_ok, Vm.Res.Ok_ok, Vm.bindT, Vm.setAll, Vm.boolOf, Vm.isNon, Vm.b_add, Vm.b_sub, Vm.a_add, Vm.c_eq, Vm.c_ne, Vm.c_lt, Vm.c_le, Vm.c_gt, Vm.c_ge, Vm.Bf_len, Vm.Bf_sum, Vm.Bf_min2, Vm.wipeE, Vm.Tg.slots, Vm.lcTurn, Vm.forTurn, List.map_cons, List.map_nil, List.length_cons, List.length_nil, List.length_map, List.cons_append, List.nil_append, List.getElem?_cons_zero, List.getElem?_cons_succ, List.set_cons_zero, List.set_cons_succ, List.reduceReplicate, Nat.reduceSub, Nat.reduceAdd, Nat.zero_add, Int.toNat_natCast, Bool.not_true, Bool.not_false, decide_true, decide_false, if_true, if_false, cont_ref (neg := true) (s := u) (x4.get eT)]
      by_cases c : u ∈ us
      · simp [c, x4]
      · simp [c, x4]
  · obtain ⟨qa, x4⟩ := q
    have qa2 : acc = ((["q", "qq", "other", "fresh", "else"] : List Str).filter fun u => !decide (u ∈ us)).map PV.str := qa.trans (fm_eq (P := fun u => !decide (u ∈ us)) _)
    clear qa
    subst qa2
    have l5 : (fiv us).length ≤ 5 := List.length_filter_le ..
    rw [show ((["q", "qq", "other", "fresh", "else"] : List Str).filter fun u => !decide (u ∈ us)) = fiv us from rfl]
    generalize fiv us = zs at l5
    have e1 := at_end h4 (.lst (zs.map PV.str))
    have x1 := x4.trans (Ext.app h4 [HV.lst (zs.map PV.str)])
    generalize h4 ++ [HV.lst (zs.map PV.str)] = g1 at e1 x1
    have c1 := cut4 (zs := zs) (k := 1)
    rw [show ((1 : Nat) : Int) = 1 from rfl] at c1
    have s1 := slc_ref (lo := none) (hi := some 1) e1 (by rw [c1, List.length_map, List.length_take]; omega)
    rw [c1] at s1
    have e2 := at_end g1 (.lst ((zs.take 1).map PV.str))
    have x2 := x1.trans (Ext.app g1 [HV.lst ((zs.take 1).map PV.str)])
    generalize g1 ++ [HV.lst ((zs.take 1).map PV.str)] = g2 at s1 e2 x2
    have t1 := tset_ok (x2.get eT) (by omega)
    have e3 := at_end g2 (.lst ((srtU us).map PV.str))
    have e2' := (Ext.app g2 [HV.lst ((srtU us).map PV.str)]).get e2
    have x3 := x2.trans (Ext.app g2 [HV.lst ((srtU us).map PV.str)])
    generalize g2 ++ [HV.lst ((srtU us).map PV.str)] = g3 at t1 e3 e2' x3
    have lU := srtU_len (zs := us)
    have l1 : (zs.take 1).length ≤ 1 := by rw [List.length_take]; omega
    have ad := add_refs e3 e2' (by rw [List.length_map, List.length_map]; omega)
    rw [← List.map_append] at ad
    have e5 := at_end g3 (.lst ((srtU us ++ zs.take 1).map PV.str))
    have x5 := x3.trans (Ext.app g3 [HV.lst ((srtU us ++ zs.take 1).map PV.str)])
    generalize g3 ++ [HV.lst ((srtU us ++ zs.take 1).map PV.str)] = g5 at ad e5 x5
    have ss := sset_ok (x5.get eG) (by omega)
    have lS := ssetL_len (ns := gs)
    have e6 := at_end g5 (.lst ((ssetL gs).map PV.int))
    have y6 := Ext.app g5 [HV.lst ((ssetL gs).map PV.int)]
    generalize g5 ++ [HV.lst ((ssetL gs).map PV.int)] = g6 at ss e6 y6
    have x6 := x5.trans y6
    have s7 := slc_ref (lo := none) (hi := some 1) (x6.get eM) (by rw [cut_h]; simp)
    rw [cut_h] at s7
    have e7 := at_end g6 (.lst [PV.non])
    have y7 := Ext.app g6 [HV.lst [PV.non]]
    generalize g6 ++ [HV.lst [PV.non]] = g7 at s7 e7 y7
    have x7 := x6.trans y7
    have s8 := slc_ref (lo := some 1) (hi := none) (x7.get eM) (by rw [cut_t, List.length_map]; omega)
    rw [cut_t] at s8
    have e8 := at_end g7 (.lst (ms.map PV.int))
    have y8 := Ext.app g7 [HV.lst (ms.map PV.int)]
    generalize g7 ++ [HV.lst (ms.map PV.int)] = g8 at s8 e8 y8
    have s9 := sset_ok e8 (by omega)
    have lM := ssetL_len (ns := ms)
    have e9 := at_end g8 (.lst ((ssetL ms).map PV.int))
    have y9 := Ext.app g8 [HV.lst ((ssetL ms).map PV.int)]
    generalize g8 ++ [HV.lst ((ssetL ms).map PV.int)] = g9 at s9 e9 y9
    have ad2 := add_refs ((y8.trans y9).get e7) e9 (by rw [List.length_map]; simp; omega)
    have e10 := at_end g9 (.lst ([PV.non] ++ (ssetL ms).map PV.int))
    have y10 := Ext.app g9 [HV.lst ([PV.non] ++ (ssetL ms).map PV.int)]
    generalize g9 ++ [HV.lst ([PV.non] ++ (ssetL ms).map PV.int)] = g10 at ad2 e10 y10
    have nt3 := newT_ok (h := g10) (xs := [.ref g3.length, .ref g5.length, .ref g9.length]) (by simp)
    simp (config := { implicitDefEqProofs := false }) only [Vm.evF, Vm.evSs, Vm.evS, Vm.evX, Vm.evE, Vm.evEs, Vm.evIt, Vm.evPt, Vm.Res.bind_assoc, Vm.Res.bind_ok, Vm.Res.Ok_ok, Vm.bindT, Vm.setAll, Vm.boolOf, Vm.isNon, Vm.b_add, Vm.b_sub, Vm.a_add, Vm.c_eq, Vm.c_ne, Vm.c_lt, Vm.c_le, Vm.c_gt, Vm.c_ge, Vm.Bf_len, Vm.Bf_sum, Vm.Bf_min2, Vm.wipeE, Vm.Tg.slots, Vm.lcTurn, Vm.forTurn, List.map_cons, List.map_nil, List.length_cons, List.length_nil, List.length_map, List.cons_append, List.nil_append, List.getElem?_cons_zero, List.getElem?_cons_succ, List.set_cons_zero, List.set_cons_succ, List.reduceReplicate, Nat.reduceSub, Nat.reduceAdd, Nat.zero_add, Int.toNat_natCast, Bool.not_true, Bool.not_false, decide_true, decide_false, if_true, if_false, s1, t1, ad, ss, s7, s8, s9, ad2, nt3]
    have yy := (((y6.trans y7).trans y8).trans y9).trans y10
    exact ⟨g3.length, g5.length, g9.length, rfl, yy.get e5, (((y7.trans y8).trans y9).trans y10).get e6, e10, x5.trans yy⟩
theorem twU_len : ∀ {L : List Lit}, (∀ l ∈ L, l.Ok) → (L.flatMap twU).length ≤ 6 * L.length
  | [], _ => by simp
  | l :: L, ok => by
    have ih := twU_len (L := L) fun x hx => ok x (List.mem_cons_of_mem _ hx)
    have b : (twU l).length ≤ 6 := by
      have o := ok l List.mem_cons_self
      cases l with
      | tw q us => exact o.2.1
      | kn q v => exact Nat.zero_le _
      | ag f e => exact Nat.zero_le _
    rw [List.flatMap_cons, List.length_append, List.length_cons]
    omega
theorem agU_len : ∀ {L : List Lit}, (L.flatMap agU).length ≤ 2 * L.length
  | [] => by simp
  | l :: L => by
    have ih := agU_len (L := L)
    have b : (agU l).length ≤ 2 := by cases l with
      | ag f e => cases e <;> simp [agU, optL]
      | _ => exact Nat.zero_le _
    rw [List.flatMap_cons, List.length_append, List.length_cons]
    omega
theorem knU_len : ∀ {L : List Lit}, (L.flatMap knU).length ≤ L.length
  | [] => by simp
  | l :: L => by
    have ih := knU_len (L := L)
    have b : (knU l).length ≤ 1 := by cases l <;> simp [knU]
    rw [List.flatMap_cons, List.length_append, List.length_cons]
    omega
theorem s_few {L : List Lit} (hN : 1 ≤ N) (hL : L.length ≤ 20) (ok : ∀ l ∈ L, l.Ok) : (sem Bf ds N 19 [lts L] h).Ok fun r h1 => ∃ (t g m : Nat), r = .tup [.ref t, .ref g, .ref m] ∧ h1[t]? = some (.lst ((srtU (L.flatMap twU) ++ (fiv (L.flatMap twU)).take 1).map PV.str)) ∧ h1[g]? = some (.lst ((ssetL (0 :: L.flatMap agU)).map PV.int)) ∧ h1[m]? = some (.lst (.non :: (ssetL (0 :: L.flatMap knU)).map PV.int)) ∧ Ext h h1 := by
  obtain ⟨N, rfl, k⟩ := pre hN (by decide)
  rw [sem_at (d := d__law_few) (L := 8) (b := b__law_few) rfl rfl rfl, few_eq]
  have n1 := new_ok (h := h) (xs := []) (by decide)
  have n2 := new_ok (h := h ++ [.lst []]) (xs := [.int 0]) (by simp)
  have n3 := new_ok (h := h ++ [.lst []] ++ [.lst [.int 0]]) (xs := [.non, .int 0]) (by simp)
  generalize hB : fewB = B
  generalize hE : fewE = E
  simp (config := { implicitDefEqProofs := false }) only [Vm.evF, Vm.evSs, Vm.evS, Vm.evX, Vm.evE, Vm.evEs, Vm.evIt, Vm.evPt, Vm.Res.bind_assoc, Vm.Res.bind_ok, Vm.Res.Ok_ok, Vm.bindT, Vm.setAll, Vm.boolOf, Vm.isNon, Vm.b_add, Vm.b_sub, Vm.a_add, Vm.c_eq, Vm.c_ne, Vm.c_lt, Vm.c_le, Vm.c_gt, Vm.c_ge, Vm.Bf_len, Vm.Bf_sum, Vm.Bf_min2, Vm.wipeE, Vm.Tg.slots, Vm.lcTurn, Vm.forTurn, List.map_cons, List.map_nil, List.length_cons, List.length_nil, List.length_map, List.cons_append, List.nil_append, List.getElem?_cons_zero, List.getElem?_cons_succ, List.set_cons_zero, List.set_cons_succ, List.reduceReplicate, Nat.reduceSub, Nat.reduceAdd, Nat.zero_add, Int.toNat_natCast, Bool.not_true, Bool.not_false, decide_true, decide_false, if_true, if_false, n1, n2, n3, lts, rd]
  generalize hg0 : h ++ [HV.lst []] ++ [HV.lst [PV.int 0]] ++ [HV.lst [PV.non, PV.int 0]] = g0
  generalize hG : (h ++ [HV.lst []]).length = G
  generalize hM : (h ++ [HV.lst []] ++ [HV.lst [PV.int 0]]).length = M
  have lG : G = h.length + 1 := by rw [← hG]; simp
  have lM : M = h.length + 2 := by rw [← hM]; simp
  have eM : g0[M]? = some (.lst (.non :: ((0 : Int) :: ([] : List Lit).flatMap knU).map PV.int)) := by rw [← hg0, ← hM]; exact at_end _ _
  have eG : g0[G]? = some (.lst (((0 : Int) :: ([] : List Lit).flatMap agU).map PV.int)) := by
    rw [← hg0, ← hG]
    exact (Ext.app _ _).get (at_end (h ++ [HV.lst []]) (.lst [PV.int 0]))
  have eT : g0[h.length]? = some (.lst ((([] : List Lit).flatMap twU).map PV.str)) := by
    rw [← hg0, List.append_assoc]
    exact (Ext.app _ _).get (at_end h (.lst []))
  have x0 : Ext h g0 := by rw [← hg0, List.append_assoc, List.append_assoc]; exact Ext.app _ _
  clear hg0 hG hM n1 n2 n3
  have tl := twU_len ok
  have al := agU_len (L := L)
  have kl := knU_len (L := L)
  refine Res.ok_bind ((for_inv (xs := L.map Lit.pv) (src := .items (L.map Lit.pv)) (Q := fun o h1 => ∃ u v w x, o = .nx [some (.tup (L.map Lit.pv)), some (.ref h.length), some (.ref G), some (.ref M), u, v, w, x] ∧ h1[h.length]? = some (.lst ((L.flatMap twU).map PV.str)) ∧ h1[G]? = some (.lst ((0 :: L.flatMap agU).map PV.int)) ∧ h1[M]? = some (.lst (.non :: (0 :: L.flatMap knU).map PV.int)) ∧ Ext h h1)
    (fun k ev1 h1 => (∃ u v w x, ev1 = [some (.tup (L.map Lit.pv)), some (.ref h.length), some (.ref G), some (.ref M), u, v, w, x]) ∧ h1[h.length]? = some (.lst (((L.take k).flatMap twU).map PV.str)) ∧ h1[G]? = some (.lst ((0 :: (L.take k).flatMap agU).map PV.int)) ∧ h1[M]? = some (.lst (.non :: (0 :: (L.take k).flatMap knU).map PV.int)) ∧ Ext h h1)
    (fun _ _ _ _ => rfl) (fun k x ev1 h1 e j => ?_) (fun ev1 h1 j => ?_) _ 0 _ g0 (by simp [Src.fuel]) (Nat.zero_le _) ⟨⟨_, _, _, _, rfl⟩, eT, eG, eM, x0⟩).mono fun o h1 q => ?_)
  · rw [List.getElem?_map] at e
    cases el : L[k]? with
    | none => rw [el] at e; cases e
    | some l =>
      rw [el] at e
      cases e
      have kl' := (List.getElem?_eq_some_iff.mp el).1
      obtain ⟨⟨u, v, w, x, rfl⟩, e1, e2, e3, x1⟩ := j
      have okt : ∀ l ∈ L.take k, l.Ok := fun l hl => ok l (List.mem_of_mem_take hl)
      have lk : (L.take k).length ≤ 20 := by rw [List.length_take]; omega
      have t1 := twU_len okt
      have t2 := agU_len (L := L.take k)
      have t3 := knU_len (L := L.take k)
      have tk : L.take (k + 1) = L.take k ++ [l] := by rw [List.take_add_one, el]; rfl
      simp (config := { implicitDefEqProofs := false }) only [Vm.evF, Vm.evSs, Vm.evS, Vm.evX, Vm.evE, Vm.evEs, Vm.evIt, Vm.evPt, Vm.Res.bind_assoc, Vm.Res.bind_ok, Vm.Res.Ok_ok, Vm.bindT, Vm.setAll, Vm.boolOf, Vm.isNon, Vm.b_add, Vm.b_sub, Vm.a_add, Vm.c_eq, Vm.c_ne, Vm.c_lt, Vm.c_le, Vm.c_gt, Vm.c_ge, Vm.Bf_len, Vm.Bf_sum, Vm.Bf_min2, Vm.wipeE, Vm.Tg.slots, Vm.lcTurn, Vm.forTurn, List.map_cons, List.map_nil, List.length_cons, List.length_nil, List.length_map, List.cons_append, List.nil_append, List.getElem?_cons_zero, List.getElem?_cons_succ, List.set_cons_zero, List.set_cons_succ, List.reduceReplicate, Nat.reduceSub, Nat.reduceAdd, Nat.zero_add, Int.toNat_natCast, Bool.not_true, Bool.not_false, decide_true, decide_false, if_true, if_false]
      rw [← hB]
      refine (few_body (N := N) (l := l) (T := h.length) (G := G) (M := M) (u0 := .tup (L.map Lit.pv)) (ok l (List.mem_of_getElem? el)) e1 e2 e3 (by omega) (by omega) (by omega) (by omega) (by rw [List.length_cons]; omega) (by rw [List.length_cons]; omega)).mono fun o h2 q => ?_
      obtain ⟨rfl, f1, f2, f3, hl2, old⟩ := q
      refine ⟨⟨_, _, _, _, rfl⟩, ?_, ?_, ?_, ?_⟩
      · rw [f1, tk, List.flatMap_append]
        simp
      · rw [f2, tk, List.flatMap_append]
        simp
      · rw [f3, tk, List.flatMap_append]
        simp
      · exact ext_of (Nat.le_trans x1.len hl2) fun i hi => by
          rw [old i (Nat.lt_of_lt_of_le hi x1.len) (by omega) (by omega) (by omega)]
          obtain ⟨z, rfl⟩ := x1
          exact List.getElem?_append_left hi
  · obtain ⟨⟨u, v, w, x, rfl⟩, e1, e2, e3, x1⟩ := j
    rw [List.length_map, List.take_of_length_le (Nat.le_refl _)] at e1 e2 e3
    exact ⟨u, v, w, x, rfl, e1, e2, e3, x1⟩
  · obtain ⟨u, v, w, x, rfl, e1, e2, e3, x1⟩ := q
    simp (config := { implicitDefEqProofs := false }) only [Vm.evF, Vm.evSs, Vm.evS, Vm.evX, Vm.evE, Vm.evEs, Vm.evIt, Vm.evPt, Vm.Res.bind_assoc, Vm.Res.bind_ok, Vm.Res.Ok_ok, Vm.bindT, Vm.setAll, Vm.boolOf, Vm.isNon, Vm.b_add, Vm.b_sub, Vm.a_add, Vm.c_eq, Vm.c_ne, Vm.c_lt, Vm.c_le, Vm.c_gt, Vm.c_ge, Vm.Bf_len, Vm.Bf_sum, Vm.Bf_min2, Vm.wipeE, Vm.Tg.slots, Vm.lcTurn, Vm.forTurn, List.map_cons, List.map_nil, List.length_cons, List.length_nil, List.length_map, List.cons_append, List.nil_append, List.getElem?_cons_zero, List.getElem?_cons_succ, List.set_cons_zero, List.set_cons_succ, List.reduceReplicate, Nat.reduceSub, Nat.reduceAdd, Nat.zero_add, Int.toNat_natCast, Bool.not_true, Bool.not_false, decide_true, decide_false, if_true, if_false]
    rw [← hE]
    refine Res.ok_bind ((few_end (N := N) (u0 := .tup (L.map Lit.pv)) e1 e2 e3 (by omega) (by rw [List.length_cons]; omega) (by rw [List.length_cons]; omega)).mono fun o h2 q => ?_)
    obtain ⟨t, g, m, rfl, f1, f2, f3, x2⟩ := q
    simp (config := { implicitDefEqProofs := false }) only [Vm.evF, Vm.evSs, Vm.evS, Vm.evX, Vm.evE, Vm.evEs, Vm.evIt, Vm.evPt, Vm.Res.bind_assoc, Vm.Res.bind_ok, Vm.Res.Ok_ok, Vm.bindT, Vm.setAll, Vm.boolOf, Vm.isNon, Vm.b_add, Vm.b_sub, Vm.a_add, Vm.c_eq, Vm.c_ne, Vm.c_lt, Vm.c_le, Vm.c_gt, Vm.c_ge, Vm.Bf_len, Vm.Bf_sum, Vm.Bf_min2, Vm.wipeE, Vm.Tg.slots, Vm.lcTurn, Vm.forTurn, List.map_cons, List.map_nil, List.length_cons, List.length_nil, List.length_map, List.cons_append, List.nil_append, List.getElem?_cons_zero, List.getElem?_cons_succ, List.set_cons_zero, List.set_cons_succ, List.reduceReplicate, Nat.reduceSub, Nat.reduceAdd, Nat.zero_add, Int.toNat_natCast, Bool.not_true, Bool.not_false, decide_true, decide_false, if_true, if_false]
    exact ⟨t, g, m, rfl, f1, f2, f3, x1.trans x2⟩
end
end K05

set_option Elab.async false
set_option linter.all false
set_option maxRecDepth 100000
set_option maxHeartbeats 4000000
namespace K05
open PySem PySem.Spec PyProof.Rows L2 Vm L06 L07
def Good (l : Lit) : Prop := l.Ok ∧ Lo l
def isSort : Nat → Lit → Bool
  | 0, .tw _ _ => true
  | 1, .ag _ _ => true
  | 2, .kn _ _ => true
  | _, _ => false
def WT (L : List Lit) : List Who := (srtU (L.flatMap twU) ++ (fiv (L.flatMap twU)).take 1).map fun t => ⟨t, 0, none⟩
def WA (L : List Lit) : List Who := (ssetL (0 :: L.flatMap agU)).map fun g => ⟨"q", g, none⟩
def WK (L : List Lit) : List Who := (none :: (ssetL (0 :: L.flatMap knU)).map some).map fun o => ⟨"q", 0, o⟩
def whos (k : Nat) (L : List Lit) : List Who := match k with
  | 0 => WT L
  | 1 => WA L
  | _ => WK L
def met (k : Nat) (L : List Lit) : Bool := (whos k L).any fun w => (L.filter (isSort k)).all fun l => holds l w
theorem tw_holds {b : Bool} {us : List Str} {w : Who} (ok : (Lit.tw b us).Ok) : holds (.tw b us) w = alw1 w.t (.tw b us) := by
  have f1 := few_one (t := w.t) (asc_nodup ok.2.2.1)
  show (decide (((us.filter fun u => decide (u = w.t)).length : Int) = 1) == b) = _
  rw [f1]
  rfl
theorem ag_holds {f : Int} {e : Option Int} {w : Who} : holds (.ag f e) w = true ↔ agH w.g (.ag f e) := by
  cases e with
  | none => simp [holds, agH]
  | some x =>
    simp [holds, agH]
theorem kn_holds {b : Bool} {v x : Int} {t : Str} {g : Int} : holds (.kn b v) ⟨t, g, some x⟩ = true ↔ tiH x (.kn b v) := by
  cases b
  · by_cases c : v < x
    · simp [holds, tiH, c]
      omega
    · simp [holds, tiH, c]
      omega
  · by_cases c : v < x
    · simp [holds, tiH, c]
    · simp [holds, tiH, c]
      omega
theorem met_iff {k : Nat} {L : List Lit} : met k L = true ↔ ∃ w ∈ whos k L, ∀ l ∈ L, isSort k l = true → holds l w = true := by
  unfold met
  rw [List.any_eq_true]
  constructor
  · rintro ⟨w, hw, q⟩
    refine ⟨w, hw, fun l hl s => ?_⟩
    exact List.all_eq_true.mp q l (List.mem_filter.mpr ⟨hl, s⟩)
  · rintro ⟨w, hw, q⟩
    refine ⟨w, hw, List.all_eq_true.mpr fun l hl => ?_⟩
    have := List.mem_filter.mp hl
    exact q l this.1 this.2
theorem agF_mem : ∀ {L : List Lit} {s : Int × Option Int}, (agesF s L).1 = s.1 ∨ (agesF s L).1 ∈ L.flatMap agU
  | [], s => .inl rfl
  | l :: L, s => by
    have ih := agF_mem (L := L) (s := agS s l)
    have e : agesF s (l :: L) = agesF (agS s l) L := rfl
    rw [e, List.flatMap_cons]
    rcases ih with q | q
    · rw [q]
      cases l with
      | ag f y =>
        simp only [agS]
        split
        · exact .inr (List.mem_append_left _ List.mem_cons_self)
        · exact .inl rfl
      | tw b us => exact .inl rfl
      | kn b v => exact .inl rfl
    · exact .inr (List.mem_append_right _ q)
theorem tiF_mem : ∀ {L : List Lit} {s : Int × Option Int}, (tiF s L).1 = s.1 ∨ (tiF s L).1 ∈ L.flatMap knU
  | [], s => .inl rfl
  | l :: L, s => by
    have ih := tiF_mem (L := L) (s := tiS s l)
    have e : tiF s (l :: L) = tiF (tiS s l) L := rfl
    rw [e, List.flatMap_cons]
    rcases ih with q | q
    · rw [q]
      cases l with
      | kn b v =>
        cases b
        · simp only [tiS]
          split
          · exact .inr (List.mem_append_left _ List.mem_cons_self)
          · exact .inl rfl
        · exact .inl rfl
      | tw b us => exact .inl rfl
      | ag f e => exact .inl rfl
    · exact .inr (List.mem_append_right _ q)
theorem tiF_none : ∀ {L : List Lit} {s : Int × Option Int}, (∀ v, Lit.kn true v ∉ L) → s.2 = none → (tiF s L).2 = none
  | [], s, _, h => h
  | l :: L, s, n, h => by
    have e : tiF s (l :: L) = tiF (tiS s l) L := rfl
    rw [e]
    refine tiF_none (fun v hv => n v (List.mem_cons_of_mem _ hv)) ?_
    cases l with
    | kn b v =>
      cases b
      · exact h
      · exact absurd List.mem_cons_self (n v)
    | tw b us => exact h
    | ag f e => exact h
theorem ag_nn {L : List Lit} (ok : ∀ l ∈ L, Good l) : ∀ g ∈ (0 : Int) :: L.flatMap agU, 0 ≤ g ∧ g ≤ 1000 := fun g hg => by
  rcases List.mem_cons.mp hg with rfl | hg
  · omega
  · obtain ⟨l, hl, m⟩ := List.mem_flatMap.mp hg
    obtain ⟨o, lo⟩ := ok l hl
    cases l with
    | ag f e =>
      have f0 : 0 ≤ f := o.1
      have f1 : f ≤ 1000 := lo.1
      rcases List.mem_cons.mp m with rfl | m
      · omega
      · cases e with
        | none => cases m
        | some x =>
          have : g = x := by simpa [optL] using m
          have := o.2 x rfl
          have := lo.2 x rfl
          omega
    | tw b us => cases m
    | kn b v => cases m
theorem kn_nn {L : List Lit} (ok : ∀ l ∈ L, Good l) : ∀ g ∈ (0 : Int) :: L.flatMap knU, 0 ≤ g ∧ g ≤ 1001 := fun g hg => by
  rcases List.mem_cons.mp hg with rfl | hg
  · omega
  · obtain ⟨l, hl, m⟩ := List.mem_flatMap.mp hg
    obtain ⟨o, lo⟩ := ok l hl
    cases l with
    | kn b v =>
      have v0 : 0 ≤ v := o
      have v1 : v ≤ 1000 := lo
      have : g = v + 1 := by simpa [knU] using m
      omega
    | tw b us => cases m
    | ag f e => cases m
theorem tw_ok {L : List Lit} (ok : ∀ l ∈ L, Good l) : ∀ t ∈ L.flatMap twU, IsW t ∧ t ≠ "other" := fun t ht => by
  obtain ⟨l, hl, m⟩ := List.mem_flatMap.mp ht
  obtain ⟨o, lo⟩ := ok l hl
  cases l with
  | tw b us => exact ⟨o.2.2.2 t m, fun e => lo (by rw [← e]; exact m)⟩
  | kn b v => cases m
  | ag f e => cases m
theorem met_ok {L : List Lit} (ok : ∀ l ∈ L, Good l) : ∀ k, k < 3 → (met k L = true ↔ byP k L)
  | 0, _ => by
    rw [met_iff]
    constructor
    · rintro ⟨w, _, q⟩
      refine ⟨w.t, List.all_eq_true.mpr fun l hl => ?_⟩
      cases l with
      | tw b us =>
        have := q _ hl rfl
        rw [tw_holds (ok _ hl).1] at this
        exact this
      | kn b v => rfl
      | ag f e => rfl
    · rintro ⟨t, e⟩
      have fin : ∀ z, (z ∈ srtU (L.flatMap twU) ++ (fiv (L.flatMap twU)).take 1) → (∀ l ∈ L, alw1 z l = true) → ∃ w ∈ whos 0 L, ∀ l ∈ L, isSort 0 l = true → holds l w = true := fun z hz q => by
        refine ⟨⟨z, 0, none⟩, List.mem_map.mpr ⟨z, hz, rfl⟩, fun l hl s => ?_⟩
        cases l with
        | tw b us => rw [tw_holds (ok _ hl).1]; exact q _ hl
        | kn b v => cases s
        | ag f e => cases s
      by_cases m : t ∈ L.flatMap twU
      · exact fin t (List.mem_append_left _ (srtU_mem.mpr m)) fun l hl => List.all_eq_true.mp e l hl
      · have ho : ("other" : Str) ∈ fiv (L.flatMap twU) := by
          unfold fiv
          rw [List.mem_filter]
          refine ⟨by simp, ?_⟩
          have : ("other" : Str) ∉ L.flatMap twU := fun z => (tw_ok ok _ z).2 rfl
          simp [this]
        obtain ⟨z, zs, hz⟩ : ∃ z zs, fiv (L.flatMap twU) = z :: zs := by
          cases e2 : fiv (L.flatMap twU) with
          | nil => rw [e2] at ho; cases ho
          | cons z zs => exact ⟨z, zs, rfl⟩
        have zn : z ∉ L.flatMap twU := by
          have : z ∈ fiv (L.flatMap twU) := by rw [hz]; exact List.mem_cons_self
          have := (List.mem_filter.mp this).2
          simpa using this
        refine fin z (List.mem_append_right _ (by rw [hz]; exact List.mem_cons_self)) fun l hl => ?_
        have a := List.all_eq_true.mp e l hl
        cases l with
        | tw b us =>
          have n1 : t ∉ us := fun q => m (List.mem_flatMap.mpr ⟨_, hl, q⟩)
          have n2 : z ∉ us := fun q => zn (List.mem_flatMap.mpr ⟨_, hl, q⟩)
          simp only [alw1, n1, n2] at a ⊢
          exact a
        | kn b v => rfl
        | ag f e => rfl
  | 1, _ => by
    rw [met_iff]
    constructor
    · rintro ⟨w, hw, q⟩
      obtain ⟨g, hg, rfl⟩ := List.mem_map.mp hw
      refine ⟨g, (ag_nn ok g (ssetL_mem.mp hg)).1, fun l hl => ?_⟩
      cases l with
      | ag f e => exact ag_holds.mp (q _ hl rfl)
      | tw b us => trivial
      | kn b v => trivial
    · intro h
      have A := ages_ok (L := L) (a := (agesF (0, none) L).1) (e := (agesF (0, none) L).2) rfl
      have q := (A.2 (A.1.mp h)).2
      have m := agF_mem (L := L) (s := ((0 : Int), none))
      generalize (agesF (0, none) L).1 = a at q m
      refine ⟨⟨"q", a, none⟩, List.mem_map.mpr ⟨a, ssetL_mem.mpr ?_, rfl⟩, fun l hl s => ?_⟩
      · rcases m with m | m
        · rw [m]
          exact List.mem_cons_self
        · exact List.mem_cons_of_mem _ m
      · cases l with
        | ag f e => exact ag_holds.mpr (q _ hl)
        | tw b us => cases s
        | kn b v => cases s
  | 2, _ => by
    rw [met_iff]
    have B := ties_ok (L := L) (m := (tiF (0, none) L).1) (k := (tiF (0, none) L).2) rfl
    have tn := fun h => tiF_none (L := L) (s := ((0 : Int), none)) h rfl
    have m := tiF_mem (L := L) (s := ((0 : Int), none))
    generalize (tiF (0, none) L).1 = a at B m
    generalize (tiF (0, none) L).2 = kk at B tn
    constructor
    · rintro ⟨w, hw, q⟩
      obtain ⟨o, ho, rfl⟩ := List.mem_map.mp hw
      cases o with
      | none =>
        refine B.1.mpr (.inl (tn fun v hv => ?_))
        have := q _ hv rfl
        simp [holds] at this
      | some x =>
        have hx : x ∈ (0 : Int) :: L.flatMap knU := by
          rcases List.mem_cons.mp ho with e | e
          · cases e
          · obtain ⟨y, hy, e⟩ := List.mem_map.mp e
            cases e
            exact ssetL_mem.mp hy
        refine ⟨x, (kn_nn ok x hx).1, fun l hl => ?_⟩
        cases l with
        | kn b v => exact kn_holds.mp (q _ hl rfl)
        | tw b us => trivial
        | ag f e => trivial
    · intro h
      cases kk with
      | none =>
        refine ⟨⟨"q", 0, none⟩, List.mem_map.mpr ⟨none, List.mem_cons_self, rfl⟩, fun l hl s => ?_⟩
        cases l with
        | kn b v =>
          cases b
          · rfl
          · exact absurd hl (B.2.2 rfl v)
        | tw b us => cases s
        | ag f e => cases s
      | some x =>
        have kx : ∃ y, some x = some y ∧ a ≤ y := by
          rcases B.1.mp h with c | c
          · cases c
          · exact c
        have q := (B.2.1 kx).2
        refine ⟨⟨"q", 0, some a⟩, List.mem_map.mpr ⟨some a, List.mem_cons_of_mem _ (List.mem_map.mpr ⟨a, ssetL_mem.mpr ?_, rfl⟩), rfl⟩, fun l hl s => ?_⟩
        · rcases m with m | m
          · rw [m]
            exact List.mem_cons_self
          · exact List.mem_cons_of_mem _ m
        · cases l with
          | kn b v => exact kn_holds.mpr (q _ hl)
          | tw b us => cases s
          | ag f e => cases s
  | k + 3, h => by omega
end K05

set_option Elab.async false
set_option linter.all false
set_option maxRecDepth 100000
set_option maxHeartbeats 4000000
namespace K05
open PySem PySem.Spec PyProof.Rows L2 Vm L06 L07
def TxOk (z : Str) : Prop := z.length ≤ 20 ∧ ∀ c ∈ z.cps.toList, c < 1114112
theorem twn_ok {z : Str} (h : IsW z) : TxOk z := ⟨by have := h.2.1; omega, fun c hc => by have := h.2.2 c hc; omega⟩
theorem nat_small {i : Int} (h0 : 0 ≤ i) (h : i ≤ 2000) : i.natAbs < 10 ^ 100 := by
  have : i.natAbs ≤ 2000 := by omega
  exact Nat.lt_of_le_of_lt this (by decide +kernel)
theorem sm_opt {o : Option Int} (h : ∀ x, o = some x → 0 ≤ x ∧ x ≤ 2000) : Sm 0 202 (optP o) := by
  cases o with
  | none => exact Sm.non.mono (by decide) (by decide)
  | some x => exact (Sm.int (nat_small (h x rfl).1 (h x rfl).2)).mono (by decide) (by decide)
theorem sm_txt {z : Str} (h : TxOk z) : Sm 0 202 (.str z) := (Sm.str h.2).mono (Nat.le_refl _) (by have := h.1; omega)
theorem sm_int {i : Int} (h0 : 0 ≤ i) (h : i ≤ 2000) : Sm 0 202 (.int i) := (Sm.int (nat_small h0 h)).mono (by decide) (by decide)
theorem in2 {P : PV → Prop} {x y : PV} (a : P x) (b : P y) : ∀ z ∈ [x, y], P z := fun z hz => by
  rcases List.mem_cons.mp hz with rfl | hz
  · exact a
  · rcases List.mem_cons.mp hz with rfl | hz
    · exact b
    · cases hz
theorem in3 {P : PV → Prop} {x y u : PV} (a : P x) (b : P y) (c : P u) : ∀ z ∈ [x, y, u], P z := fun z hz => by
  rcases List.mem_cons.mp hz with rfl | hz
  · exact a
  · exact in2 b c z hz
def WLo (w : Who) : Prop := TxOk w.t ∧ (0 ≤ w.g ∧ w.g ≤ 2000) ∧ ∀ x, w.b = some x → 0 ≤ x ∧ x ≤ 2000
theorem sm_who {w : Who} (h : WLo w) : Sm 1 615 w.pv := Sm.tup (n := 0) (L := 202) (c := 3) (in3 (sm_txt h.1) (sm_int h.2.1.1 h.2.1.2) (sm_opt h.2.2)) (by simp)
theorem whos_lo {L : List Lit} (ok : ∀ l ∈ L, Good l) {k : Nat} : ∀ w ∈ whos k L, WLo w := fun w hw => by
  have tq : TxOk "q" := ⟨by decide, by decide +kernel⟩
  match k with
  | 0 =>
    obtain ⟨t, ht, rfl⟩ := List.mem_map.mp hw
    refine ⟨?_, ⟨Int.le_refl 0, by show (0 : Int) ≤ 2000; decide⟩, fun x e => nomatch e⟩
    rcases List.mem_append.mp ht with q | q
    · exact twn_ok (tw_ok ok t (srtU_mem.mp q)).1
    · have := (List.mem_filter.mp (List.mem_of_mem_take q)).1
      have five : ∀ z ∈ (["q", "qq", "other", "fresh", "else"] : List Str), z.length ≤ 20 ∧ ∀ c ∈ z.cps.toList, c < 1114112 := by decide +kernel
      exact five t this
  | 1 =>
    obtain ⟨g, hg, rfl⟩ := List.mem_map.mp hw
    have := ag_nn ok g (ssetL_mem.mp hg)
    exact ⟨tq, ⟨this.1, by show g ≤ 2000; omega⟩, fun x e => nomatch e⟩
  | k + 2 =>
    obtain ⟨o, ho, rfl⟩ := List.mem_map.mp hw
    refine ⟨tq, ⟨Int.le_refl 0, by show (0 : Int) ≤ 2000; decide⟩, fun x e => ?_⟩
    have e' : o = some x := e
    subst e'
    rcases List.mem_cons.mp ho with e | e
    · cases e
    · obtain ⟨y, hy, e⟩ := List.mem_map.mp e
      cases e
      have := kn_nn ok x (ssetL_mem.mp hy)
      omega
section
variable {h : IH} {N a p b n : Nat} {cs : List Int} {ts : List Str}
theorem flats_bls : ∀ zs : List Bool, flatsP (zs.map PV.bl) = some (zs.map V.bl)
  | [] => rfl
  | z :: zs => by
    show (match flatP (.bl z), flatsP (zs.map PV.bl) with
      | some v, some vs => some (v :: vs)
      | _, _ => none) = _
    rw [flats_bls zs]
    rfl
theorem inV_bls : ∀ bs : List Bool, inV (.bl false) (bs.map V.bl) = !(bs.all id)
  | [] => rfl
  | z :: zs => by
    have ih := inV_bls zs
    unfold inV at ih ⊢
    rw [List.map_cons, List.any_cons, ih, List.all_cons]
    cases z <;> rfl
theorem cont_nf {c : Nat} {bs : List Bool} (e : h[c]? = some (.lst (bs.map PV.bl))) : contF true (.bl false) (.ref c) h = .ok (.bl (bs.all id)) h := by
  show contV true (.bl false) (.ref c) h = _
  simp only [contV, flatP, rd_ref e, Option.bind_some, flats_bls, inV_bls]
  simp
theorem all_map {ls : List Lit} {w : Who} : (ls.map fun l => holds l w).all id = ls.all fun l => holds l w := by
  rw [List.all_map]
  rfl
/-- a comprehension that tells each thing's g -/
theorem lc_map {α : Type} {xs : List α} {f g : α → PV} {src : Src} {fn : PV → IH → Res (Option PV)} {h0 : IH} {m : Nat} (hsrc : ∀ (k : Nat) h, Ext h0 h → src.get h k = some (xs.map f)[k]?) (hm : m = xs.length + 1) (hl : xs.length ≤ 1000) (hf : ∀ x ∈ xs, ∀ h, Ext h0 h → (fn (f x) h).Ok fun o h1 => o = some (g x) ∧ Ext h h1) :
    (lcLoop src fn m 0 [] h0).Ok fun acc h1 => acc = xs.map g ∧ Ext h0 h1 := by
  subst hm
  refine (lc_inv (xs := xs.map f) (src := src) (fun k acc h => acc = (xs.take k).map g ∧ Ext h0 h) (fun k _ h j => hsrc k h j.2) (by rw [List.length_map]; omega) (fun k x acc h e j => ?_) _ 0 [] h0 (by rw [List.length_map]; rfl) (Nat.zero_le _) (Nat.le_refl _) ⟨rfl, Ext.refl _⟩).mono fun acc h1 q => ?_
  · rw [List.getElem?_map] at e
    cases el : xs[k]? with
    | none => rw [el] at e; cases e
    | some l =>
      rw [el] at e
      cases e
      obtain ⟨rfl, x0⟩ := j
      refine (hf l (List.mem_of_getElem? el) h x0).mono fun o h1 q => ?_
      obtain ⟨rfl, x1⟩ := q
      refine ⟨?_, x0.trans x1⟩
      rw [List.take_add_one, el, List.map_append]
      rfl
  · rw [List.length_map, List.take_of_length_le (Nat.le_refl _)] at q
    exact q
/-- a comprehension that keeps those of p -/
theorem lc_keep {α : Type} {xs : List α} {f : α → PV} {p : α → Bool} {src : Src} {fn : PV → IH → Res (Option PV)} {h0 : IH} {m : Nat} (hsrc : ∀ (k : Nat) h, Ext h0 h → src.get h k = some (xs.map f)[k]?) (hm : m = xs.length + 1) (hl : xs.length ≤ 1000) (hf : ∀ x ∈ xs, ∀ h, Ext h0 h → (fn (f x) h).Ok fun o h1 => o = (if p x = true then some (f x) else none) ∧ Ext h h1) :
    (lcLoop src fn m 0 [] h0).Ok fun acc h1 => acc = (xs.filter p).map f ∧ Ext h0 h1 := by
  subst hm
  refine (lc_inv (xs := xs.map f) (src := src) (fun k acc h => acc = ((xs.take k).filter p).map f ∧ Ext h0 h) (fun k _ h j => hsrc k h j.2) (by rw [List.length_map]; omega) (fun k x acc h e j => ?_) _ 0 [] h0 (by rw [List.length_map]; rfl) (Nat.zero_le _) (Nat.le_refl _) ⟨rfl, Ext.refl _⟩).mono fun acc h1 q => ?_
  · rw [List.getElem?_map] at e
    cases el : xs[k]? with
    | none => rw [el] at e; cases e
    | some l =>
      rw [el] at e
      cases e
      obtain ⟨rfl, x0⟩ := j
      refine (hf l (List.mem_of_getElem? el) h x0).mono fun o h1 q => ?_
      obtain ⟨rfl, x1⟩ := q
      have tk : xs.take (k + 1) = xs.take k ++ [l] := by rw [List.take_add_one, el]; rfl
      by_cases c : p l = true
      · simp only [c, if_true]
        refine ⟨?_, x0.trans x1⟩
        rw [tk, List.filter_append, List.map_append]
        simp [List.filter_cons, c]
      · simp only [c]
        refine ⟨?_, x0.trans x1⟩
        rw [tk, List.filter_append, List.map_append]
        simp [List.filter_cons, c]
  · rw [List.length_map, List.take_of_length_le (Nat.le_refl _)] at q
    exact q
/-- no False in [holds(one, who) for one in own] -/
theorem s_allh {O : List Lit} {w : Who} {src : Src} {h0 : IH} {fn : PV → IH → Res (Option PV)} {m : Nat} (hN : 1 ≤ N) (hsrc : ∀ (k : Nat) h, Ext h0 h → src.get h k = some (O.map Lit.pv)[k]?) (hm : m = O.length + 1) (ok : ∀ l ∈ O, l.Ok) (hO : O.length ≤ 20)
    (hfn : ∀ l h, fn (Lit.pv l) h = ((sem Bf ds N 16 [l.pv, w.pv] h).bind fun z h4 => .ok (some z) h4).calm) : (lcLoop src fn m 0 [] h0).Ok fun acc h1 => acc = (O.map fun l => holds l w).map PV.bl ∧ Ext h0 h1 := by
  refine (lc_map (xs := O) (f := Lit.pv) (g := fun l => .bl (holds l w)) hsrc hm (by omega) (fun l hl h1 x1 => ?_)).mono fun acc h1 q => ?_
  · rw [hfn]
    refine Res.calm_of ?_
    refine Res.ok_bind ((s_holds (N := N) (h := h1) hN (ok l hl)).mono fun r h2 q => ?_)
    obtain ⟨rfl, x2⟩ := q
    exact ⟨rfl, x2⟩
  · rw [q.1, List.map_map]
    exact ⟨rfl, q.2⟩
def names (k : Nat) : List Str := match k with
  | 0 => ["town", "out"]
  | 1 => ["age"]
  | _ => ["kin", "far"]
theorem in_names {k : Nat} {l : Lit} (hk : k < 3) : ∃ w rest, l.pv = .tup (.str w :: rest) ∧ decide (w ∈ names k) = isSort k l := by
  match k, hk with
  | 0, _ =>
    cases l with
    | tw b us => exact ⟨_, _, rfl, by show decide (_ ∈ names 0) = true; cases b <;> decide⟩
    | kn b v => exact ⟨_, _, rfl, by show decide (_ ∈ names 0) = false; cases b <;> decide⟩
    | ag f e => exact ⟨_, _, rfl, by show decide (_ ∈ names 0) = false; decide⟩
  | 1, _ =>
    cases l with
    | tw b us => exact ⟨_, _, rfl, by show decide (_ ∈ names 1) = false; cases b <;> decide⟩
    | kn b v => exact ⟨_, _, rfl, by show decide (_ ∈ names 1) = false; cases b <;> decide⟩
    | ag f e => exact ⟨_, _, rfl, by show decide (_ ∈ names 1) = true; decide⟩
  | 2, _ =>
    cases l with
    | tw b us => exact ⟨_, _, rfl, by show decide (_ ∈ names 2) = false; cases b <;> decide⟩
    | kn b v => exact ⟨_, _, rfl, by show decide (_ ∈ names 2) = true; cases b <;> decide⟩
    | ag f e => exact ⟨_, _, rfl, by show decide (_ ∈ names 2) = false; decide⟩
  | k + 3, h => omega
def menuE : E := .dget (.ddis ["town", "age", "kin"] (.cons (.tup (.cons (.str "town") (.cons (.str "out") .nil))) (.cons (.tup (.cons (.str "age") .nil)) (.cons (.tup (.cons (.str "kin") (.cons (.str "far") .nil))) .nil)))) (.var 5)
theorem s_menu {k : Nat} {s : Str} {ev : Ev} (e : sorts[k]? = some s) (he : ev[5]? = some (some (.str s))) : (evE (sem Bf ds N) Bf menuE ev h).Ok fun r h1 => r = .tup ((names k).map PV.str) ∧ Ext h h1 := by
  have t1 := newT_ok (h := h) (xs := [.str "town", .str "out"]) (by simp)
  have t2 := newT_ok (h := h) (xs := [.str "age"]) (by simp)
  have t3 := newT_ok (h := h) (xs := [.str "kin", .str "far"]) (by simp)
  have dd : ddisF ["town", "age", "kin"] [.tup [.str "town", .str "out"], .tup [.str "age"], .tup [.str "kin", .str "far"]] h = .ok (.ref h.length) (h ++ [.dct [("town", .tup [.str "town", .str "out"]), ("age", .tup [.str "age"]), ("kin", .tup [.str "kin", .str "far"])]]) := by
    unfold ddisF
    rw [if_pos (by decide)]
    rfl
  have e1 := at_end h (.dct [("town", PV.tup [.str "town", .str "out"]), ("age", .tup [.str "age"]), ("kin", .tup [.str "kin", .str "far"])])
  have x1 := Ext.app h [HV.dct [("town", PV.tup [.str "town", .str "out"]), ("age", .tup [.str "age"]), ("kin", .tup [.str "kin", .str "far"])]]
  unfold menuE
  simp (config := { implicitDefEqProofs := false }) only [Vm.evF, Vm.evSs, Vm.evS, Vm.evX, Vm.evE, Vm.evEs, Vm.evIt, Vm.evPt, Vm.Res.bind_assoc, Vm.Res.bind_ok, Vm.Res.Ok_ok, Vm.bindT, Vm.setAll, Vm.boolOf, Vm.isNon, Vm.b_add, Vm.b_sub, Vm.a_add, Vm.c_eq, Vm.c_ne, Vm.c_lt, Vm.c_le, Vm.c_gt, Vm.c_ge, Vm.Bf_len, Vm.Bf_sum, Vm.Bf_min2, Vm.wipeE, Vm.Tg.slots, Vm.lcTurn, Vm.forTurn, List.map_cons, List.map_nil, List.length_cons, List.length_nil, List.length_map, List.cons_append, List.nil_append, List.getElem?_cons_zero, List.getElem?_cons_succ, List.set_cons_zero, List.set_cons_succ, List.reduceReplicate, Nat.reduceSub, Nat.reduceAdd, Nat.zero_add, Int.toNat_natCast, Bool.not_true, Bool.not_false, decide_true, decide_false, if_true, if_false, t1, t2, t3, dd, he]
  generalize h ++ [HV.dct [("town", PV.tup [.str "town", .str "out"]), ("age", .tup [.str "age"]), ("kin", .tup [.str "kin", .str "far"])]] = g at e1 x1
  have dg : ∀ y, ([("town", PV.tup [.str "town", .str "out"]), ("age", .tup [.str "age"]), ("kin", .tup [.str "kin", .str "far"])] : List (Str × PV)).lookup s = some y → dgetF (.ref h.length) (.str s) g = .ok y g := fun y hy => by
    simp only [dgetF, e1, hy]
  match k, e with
  | 0, e =>
    cases e
    rw [dg _ rfl]
    exact ⟨rfl, x1⟩
  | 1, e =>
    cases e
    rw [dg _ rfl]
    exact ⟨rfl, x1⟩
  | 2, e =>
    cases e
    rw [dg _ rfl]
    exact ⟨rfl, x1⟩
  | k + 3, e => cases e
end
end K05

set_option Elab.async false
set_option linter.all false
set_option maxRecDepth 100000
set_option maxHeartbeats 4000000
namespace K05
open PySem PySem.Spec PyProof.Rows L2 Vm L06 L07
def bodyS : Ss := .cons (.x (.set (.one 7) menuE)) (.cons (.x (.set (.one 8) (.lc (.var 9) (.one 9) (.seq (.var 0)) (.cont false (.ix (.var 9) (.int 0)) (.var 7))))) (.cons (.ifs (.cmp .eq (.lc (.var 13) (.one 13) (.seq (.var 6)) (.cont true (.bl false) (.lc (.call 16 (.cons (.var 14) (.cons (.var 13) .nil))) (.one 14) (.seq (.var 8)) (.bl true)))) (.lst (.nil))) (.cons (.x (.app (.var 1) (.var 5))) .nil) (.nil)) .nil))
theorem fil_any {α : Type} {xs : List α} {f : α → PV} {p : α → Bool} : decide ((xs.filter p).map f = []) = !(xs.any p) := by
  induction xs with
  | nil => rfl
  | cons l ls ih =>
    rw [List.filter_cons, List.any_cons]
    cases p l
    · simpa using ih
    · simp
theorem ssetL_few {ns : List Int} : (ssetL ns).length ≤ ns.length := ssetL_len
theorem whos_few {L : List Lit} (ok : ∀ l ∈ L, Good l) (hL : L.length ≤ 20) {k : Nat} : (whos k L).length ≤ 200 := by
  have t1 := twU_len (L := L) fun l hl => (ok l hl).1
  have t2 := agU_len (L := L)
  have t3 := knU_len (L := L)
  match k with
  | 0 =>
    show (WT L).length ≤ 200
    unfold WT
    rw [List.length_map, List.length_append, List.length_take]
    have := srtU_len (zs := L.flatMap twU)
    omega
  | 1 =>
    show (WA L).length ≤ 200
    unfold WA
    rw [List.length_map]
    have := ssetL_few (ns := 0 :: L.flatMap agU)
    rw [List.length_cons] at this
    omega
  | k + 2 =>
    show (WK L).length ≤ 200
    unfold WK
    rw [List.length_map, List.length_cons, List.length_map]
    have := ssetL_few (ns := 0 :: L.flatMap knU)
    rw [List.length_cons] at this
    omega
section
variable {h : IH} {N a p b n : Nat} {cs : List Int} {ts : List Str}
theorem s_body {L : List Lit} {k : Nat} {s : Str} {f q : Nat} {fs : List Str} {o2 o3 o4 o7 o8 o9 o10 o11 o12 o13 o14 : Option PV} (hN : 1 ≤ N) (ok : ∀ l ∈ L, Good l) (hL : L.length ≤ 20) (hk : k < 3) (es : sorts[k]? = some s) (ef : h[f]? = some (.lst (fs.map PV.str))) (eq' : h[q]? = some (.lst ((whos k L).map Who.pv))) (lf : fs.length ≤ 10) :
    (evSs (sem Bf ds N) Bf bodyS [some (lts L), some (.ref f), o2, o3, o4, some (.str s), some (.ref q), o7, o8, o9, o10, o11, o12, o13, o14] h).Ok fun o h1 => (∃ u7 u8 u9 u10 u11 u12 u13 u14, o = .nx [some (lts L), some (.ref f), o2, o3, o4, some (.str s), some (.ref q), u7, u8, u9, u10, u11, u12, u13, u14]) ∧ h1[f]? = some (.lst ((if met k L = true then fs else fs ++ [s]).map PV.str)) ∧ But f h h1 := by
  unfold bodyS
  generalize hM : menuE = M
  simp (config := { implicitDefEqProofs := false }) only [Vm.evF, Vm.evSs, Vm.evS, Vm.evX, Vm.evE, Vm.evEs, Vm.evIt, Vm.evPt, Vm.Res.bind_assoc, Vm.Res.bind_ok, Vm.Res.Ok_ok, Vm.bindT, Vm.setAll, Vm.boolOf, Vm.isNon, Vm.b_add, Vm.b_sub, Vm.a_add, Vm.c_eq, Vm.c_ne, Vm.c_lt, Vm.c_le, Vm.c_gt, Vm.c_ge, Vm.Bf_len, Vm.Bf_sum, Vm.Bf_min2, Vm.wipeE, Vm.Tg.slots, Vm.lcTurn, Vm.forTurn, List.map_cons, List.map_nil, List.length_cons, List.length_nil, List.length_map, List.cons_append, List.nil_append, List.getElem?_cons_zero, List.getElem?_cons_succ, List.set_cons_zero, List.set_cons_succ, List.reduceReplicate, Nat.reduceSub, Nat.reduceAdd, Nat.zero_add, Int.toNat_natCast, Bool.not_true, Bool.not_false, decide_true, decide_false, if_true, if_false]
  rw [← hM]
  refine Res.ok_bind ((s_menu (N := N) (h := h) (k := k) (s := s) es rfl).mono fun r h1 z => ?_)
  obtain ⟨rfl, x1⟩ := z
  simp (config := { implicitDefEqProofs := false }) only [Vm.evF, Vm.evSs, Vm.evS, Vm.evX, Vm.evE, Vm.evEs, Vm.evIt, Vm.evPt, Vm.Res.bind_assoc, Vm.Res.bind_ok, Vm.Res.Ok_ok, Vm.bindT, Vm.setAll, Vm.boolOf, Vm.isNon, Vm.b_add, Vm.b_sub, Vm.a_add, Vm.c_eq, Vm.c_ne, Vm.c_lt, Vm.c_le, Vm.c_gt, Vm.c_ge, Vm.Bf_len, Vm.Bf_sum, Vm.Bf_min2, Vm.wipeE, Vm.Tg.slots, Vm.lcTurn, Vm.forTurn, List.map_cons, List.map_nil, List.length_cons, List.length_nil, List.length_map, List.cons_append, List.nil_append, List.getElem?_cons_zero, List.getElem?_cons_succ, List.set_cons_zero, List.set_cons_succ, List.reduceReplicate, Nat.reduceSub, Nat.reduceAdd, Nat.zero_add, Int.toNat_natCast, Bool.not_true, Bool.not_false, decide_true, decide_false, if_true, if_false, lts]
  refine Res.ok_bind ((lc_keep (xs := L) (f := Lit.pv) (p := isSort k) (h0 := h1) get_items (by simp [Src.fuel]) (by omega) (fun l hl h2 x2 => ?_)).mono fun acc h3 z => ?_)
  · obtain ⟨w, rest, e1, e2⟩ := in_names (l := l) hk
    refine Res.calm_of ?_
    rw [e1]
    simp (config := { implicitDefEqProofs := false }) only [Vm.evF, Vm.evSs, Vm.evS, Vm.evX, Vm.evE, Vm.evEs, Vm.evIt, Vm.evPt, Vm.Res.bind_assoc, Vm.Res.bind_ok, Vm.Res.Ok_ok, Vm.bindT, Vm.setAll, Vm.boolOf, Vm.isNon, Vm.b_add, Vm.b_sub, Vm.a_add, Vm.c_eq, Vm.c_ne, Vm.c_lt, Vm.c_le, Vm.c_gt, Vm.c_ge, Vm.Bf_len, Vm.Bf_sum, Vm.Bf_min2, Vm.wipeE, Vm.Tg.slots, Vm.lcTurn, Vm.forTurn, List.map_cons, List.map_nil, List.length_cons, List.length_nil, List.length_map, List.cons_append, List.nil_append, List.getElem?_cons_zero, List.getElem?_cons_succ, List.set_cons_zero, List.set_cons_succ, List.reduceReplicate, Nat.reduceSub, Nat.reduceAdd, Nat.zero_add, Int.toNat_natCast, Bool.not_true, Bool.not_false, decide_true, decide_false, if_true, if_false, ix0, cont_tup (h := h2) (neg := false) (s := w) (zs := names k)]
    rw [e2]
    cases isSort k l
    · simp (config := { implicitDefEqProofs := false }) only [Vm.evF, Vm.evSs, Vm.evS, Vm.evX, Vm.evE, Vm.evEs, Vm.evIt, Vm.evPt, Vm.Res.bind_assoc, Vm.Res.bind_ok, Vm.Res.Ok_ok, Vm.bindT, Vm.setAll, Vm.boolOf, Vm.isNon, Vm.b_add, Vm.b_sub, Vm.a_add, Vm.c_eq, Vm.c_ne, Vm.c_lt, Vm.c_le, Vm.c_gt, Vm.c_ge, Vm.Bf_len, Vm.Bf_sum, Vm.Bf_min2, Vm.wipeE, Vm.Tg.slots, Vm.lcTurn, Vm.forTurn, List.map_cons, List.map_nil, List.length_cons, List.length_nil, List.length_map, List.cons_append, List.nil_append, List.getElem?_cons_zero, List.getElem?_cons_succ, List.set_cons_zero, List.set_cons_succ, List.reduceReplicate, Nat.reduceSub, Nat.reduceAdd, Nat.zero_add, Int.toNat_natCast, Bool.not_true, Bool.not_false, decide_true, decide_false, if_true, if_false]
      exact ⟨rfl, Ext.refl _⟩
    · simp (config := { implicitDefEqProofs := false }) only [Vm.evF, Vm.evSs, Vm.evS, Vm.evX, Vm.evE, Vm.evEs, Vm.evIt, Vm.evPt, Vm.Res.bind_assoc, Vm.Res.bind_ok, Vm.Res.Ok_ok, Vm.bindT, Vm.setAll, Vm.boolOf, Vm.isNon, Vm.b_add, Vm.b_sub, Vm.a_add, Vm.c_eq, Vm.c_ne, Vm.c_lt, Vm.c_le, Vm.c_gt, Vm.c_ge, Vm.Bf_len, Vm.Bf_sum, Vm.Bf_min2, Vm.wipeE, Vm.Tg.slots, Vm.lcTurn, Vm.forTurn, List.map_cons, List.map_nil, List.length_cons, List.length_nil, List.length_map, List.cons_append, List.nil_append, List.getElem?_cons_zero, List.getElem?_cons_succ, List.set_cons_zero, List.set_cons_succ, List.reduceReplicate, Nat.reduceSub, Nat.reduceAdd, Nat.zero_add, Int.toNat_natCast, Bool.not_true, Bool.not_false, decide_true, decide_false, if_true, if_false]
      exact ⟨rfl, Ext.refl _⟩
  · obtain ⟨rfl, x3⟩ := z
    have e8 := at_end h3 (.lst ((L.filter (isSort k)).map Lit.pv))
    have x4 := (x1.trans x3).trans (Ext.app h3 [HV.lst ((L.filter (isSort k)).map Lit.pv)])
    try simp (config := { implicitDefEqProofs := false }) only [Vm.evF, Vm.evSs, Vm.evS, Vm.evX, Vm.evE, Vm.evEs, Vm.evIt, Vm.evPt, Vm.Res.bind_assoc, Vm.Res.bind_ok, Vm.Res.Ok_ok, Vm.bindT, Vm.setAll, Vm.boolOf, Vm.isNon, Vm.b_add, Vm.b_sub, Vm.a_add, Vm.c_eq, Vm.c_ne, Vm.c_lt, Vm.c_le, Vm.c_gt, Vm.c_ge, Vm.Bf_len, Vm.Bf_sum, Vm.Bf_min2, Vm.wipeE, Vm.Tg.slots, Vm.lcTurn, Vm.forTurn, List.map_cons, List.map_nil, List.length_cons, List.length_nil, List.length_map, List.cons_append, List.nil_append, List.getElem?_cons_zero, List.getElem?_cons_succ, List.set_cons_zero, List.set_cons_succ, List.reduceReplicate, Nat.reduceSub, Nat.reduceAdd, Nat.zero_add, Int.toNat_natCast, Bool.not_true, Bool.not_false, decide_true, decide_false, if_true, if_false]
    generalize h3 ++ [HV.lst ((L.filter (isSort k)).map Lit.pv)] = g1 at e8 x4
    generalize h3.length = c8 at e8
    have eq1 := x4.get eq'
    simp (config := { implicitDefEqProofs := false }) only [Vm.evF, Vm.evSs, Vm.evS, Vm.evX, Vm.evE, Vm.evEs, Vm.evIt, Vm.evPt, Vm.Res.bind_assoc, Vm.Res.bind_ok, Vm.Res.Ok_ok, Vm.bindT, Vm.setAll, Vm.boolOf, Vm.isNon, Vm.b_add, Vm.b_sub, Vm.a_add, Vm.c_eq, Vm.c_ne, Vm.c_lt, Vm.c_le, Vm.c_gt, Vm.c_ge, Vm.Bf_len, Vm.Bf_sum, Vm.Bf_min2, Vm.wipeE, Vm.Tg.slots, Vm.lcTurn, Vm.forTurn, List.map_cons, List.map_nil, List.length_cons, List.length_nil, List.length_map, List.cons_append, List.nil_append, List.getElem?_cons_zero, List.getElem?_cons_succ, List.set_cons_zero, List.set_cons_succ, List.reduceReplicate, Nat.reduceSub, Nat.reduceAdd, Nat.zero_add, Int.toNat_natCast, Bool.not_true, Bool.not_false, decide_true, decide_false, if_true, if_false, eq1, fuel_heap eq1]
    refine Res.ok_bind ((lc_keep (xs := whos k L) (f := Who.pv) (p := fun w => (L.filter (isSort k)).all fun l => holds l w) (h0 := g1) (get_heap eq1) rfl (by have := whos_few ok hL (k := k); omega) (fun w hw h4 y4 => ?_)).mono fun acc h5 z => ?_)
    · have e8' := y4.get e8
      refine Res.calm_of ?_
      simp (config := { implicitDefEqProofs := false }) only [Vm.evF, Vm.evSs, Vm.evS, Vm.evX, Vm.evE, Vm.evEs, Vm.evIt, Vm.evPt, Vm.Res.bind_assoc, Vm.Res.bind_ok, Vm.Res.Ok_ok, Vm.bindT, Vm.setAll, Vm.boolOf, Vm.isNon, Vm.b_add, Vm.b_sub, Vm.a_add, Vm.c_eq, Vm.c_ne, Vm.c_lt, Vm.c_le, Vm.c_gt, Vm.c_ge, Vm.Bf_len, Vm.Bf_sum, Vm.Bf_min2, Vm.wipeE, Vm.Tg.slots, Vm.lcTurn, Vm.forTurn, List.map_cons, List.map_nil, List.length_cons, List.length_nil, List.length_map, List.cons_append, List.nil_append, List.getElem?_cons_zero, List.getElem?_cons_succ, List.set_cons_zero, List.set_cons_succ, List.reduceReplicate, Nat.reduceSub, Nat.reduceAdd, Nat.zero_add, Int.toNat_natCast, Bool.not_true, Bool.not_false, decide_true, decide_false, if_true, if_false, e8', fuel_heap e8']
      refine Res.ok_bind ((lc_map (xs := L.filter (isSort k)) (f := Lit.pv) (g := fun l => .bl (holds l w)) (h0 := h4) (get_heap e8') rfl (by have := List.length_filter_le (isSort k) L; omega) (fun l hl h6 y6 => ?_)).mono fun acc h7 z => ?_)
      · refine Res.calm_of ?_
        simp (config := { implicitDefEqProofs := false }) only [Vm.evF, Vm.evSs, Vm.evS, Vm.evX, Vm.evE, Vm.evEs, Vm.evIt, Vm.evPt, Vm.Res.bind_assoc, Vm.Res.bind_ok, Vm.Res.Ok_ok, Vm.bindT, Vm.setAll, Vm.boolOf, Vm.isNon, Vm.b_add, Vm.b_sub, Vm.a_add, Vm.c_eq, Vm.c_ne, Vm.c_lt, Vm.c_le, Vm.c_gt, Vm.c_ge, Vm.Bf_len, Vm.Bf_sum, Vm.Bf_min2, Vm.wipeE, Vm.Tg.slots, Vm.lcTurn, Vm.forTurn, List.map_cons, List.map_nil, List.length_cons, List.length_nil, List.length_map, List.cons_append, List.nil_append, List.getElem?_cons_zero, List.getElem?_cons_succ, List.set_cons_zero, List.set_cons_succ, List.reduceReplicate, Nat.reduceSub, Nat.reduceAdd, Nat.zero_add, Int.toNat_natCast, Bool.not_true, Bool.not_false, decide_true, decide_false, if_true, if_false]
        refine Res.ok_bind ((s_holds (N := N) (h := h6) hN (ok l (List.mem_filter.mp hl).1).1).mono fun r h8 z => ?_)
        obtain ⟨rfl, x8⟩ := z
        simp (config := { implicitDefEqProofs := false }) only [Vm.evF, Vm.evSs, Vm.evS, Vm.evX, Vm.evE, Vm.evEs, Vm.evIt, Vm.evPt, Vm.Res.bind_assoc, Vm.Res.bind_ok, Vm.Res.Ok_ok, Vm.bindT, Vm.setAll, Vm.boolOf, Vm.isNon, Vm.b_add, Vm.b_sub, Vm.a_add, Vm.c_eq, Vm.c_ne, Vm.c_lt, Vm.c_le, Vm.c_gt, Vm.c_ge, Vm.Bf_len, Vm.Bf_sum, Vm.Bf_min2, Vm.wipeE, Vm.Tg.slots, Vm.lcTurn, Vm.forTurn, List.map_cons, List.map_nil, List.length_cons, List.length_nil, List.length_map, List.cons_append, List.nil_append, List.getElem?_cons_zero, List.getElem?_cons_succ, List.set_cons_zero, List.set_cons_succ, List.reduceReplicate, Nat.reduceSub, Nat.reduceAdd, Nat.zero_add, Int.toNat_natCast, Bool.not_true, Bool.not_false, decide_true, decide_false, if_true, if_false]
        exact ⟨trivial, x8⟩
      · obtain ⟨rfl, y7⟩ := z
        have e9 : (h7 ++ [HV.lst ((L.filter (isSort k)).map fun l => PV.bl (holds l w))])[h7.length]? = some (.lst (((L.filter (isSort k)).map fun l => holds l w).map PV.bl)) := by
          rw [List.map_map]
          exact at_end _ _
        have cn := cont_nf e9
        rw [all_map] at cn
        simp (config := { implicitDefEqProofs := false }) only [Vm.evF, Vm.evSs, Vm.evS, Vm.evX, Vm.evE, Vm.evEs, Vm.evIt, Vm.evPt, Vm.Res.bind_assoc, Vm.Res.bind_ok, Vm.Res.Ok_ok, Vm.bindT, Vm.setAll, Vm.boolOf, Vm.isNon, Vm.b_add, Vm.b_sub, Vm.a_add, Vm.c_eq, Vm.c_ne, Vm.c_lt, Vm.c_le, Vm.c_gt, Vm.c_ge, Vm.Bf_len, Vm.Bf_sum, Vm.Bf_min2, Vm.wipeE, Vm.Tg.slots, Vm.lcTurn, Vm.forTurn, List.map_cons, List.map_nil, List.length_cons, List.length_nil, List.length_map, List.cons_append, List.nil_append, List.getElem?_cons_zero, List.getElem?_cons_succ, List.set_cons_zero, List.set_cons_succ, List.reduceReplicate, Nat.reduceSub, Nat.reduceAdd, Nat.zero_add, Int.toNat_natCast, Bool.not_true, Bool.not_false, decide_true, decide_false, if_true, if_false, cn]
        have y9 := y7.trans (Ext.app h7 [HV.lst ((L.filter (isSort k)).map fun l => PV.bl (holds l w))])
        cases c : ((L.filter (isSort k)).all fun l => holds l w)
        · simp (config := { implicitDefEqProofs := false }) only [Vm.evF, Vm.evSs, Vm.evS, Vm.evX, Vm.evE, Vm.evEs, Vm.evIt, Vm.evPt, Vm.Res.bind_assoc, Vm.Res.bind_ok, Vm.Res.Ok_ok, Vm.bindT, Vm.setAll, Vm.boolOf, Vm.isNon, Vm.b_add, Vm.b_sub, Vm.a_add, Vm.c_eq, Vm.c_ne, Vm.c_lt, Vm.c_le, Vm.c_gt, Vm.c_ge, Vm.Bf_len, Vm.Bf_sum, Vm.Bf_min2, Vm.wipeE, Vm.Tg.slots, Vm.lcTurn, Vm.forTurn, List.map_cons, List.map_nil, List.length_cons, List.length_nil, List.length_map, List.cons_append, List.nil_append, List.getElem?_cons_zero, List.getElem?_cons_succ, List.set_cons_zero, List.set_cons_succ, List.reduceReplicate, Nat.reduceSub, Nat.reduceAdd, Nat.zero_add, Int.toNat_natCast, Bool.not_true, Bool.not_false, decide_true, decide_false, if_true, if_false]
          exact ⟨rfl, y9⟩
        · simp (config := { implicitDefEqProofs := false }) only [Vm.evF, Vm.evSs, Vm.evS, Vm.evX, Vm.evE, Vm.evEs, Vm.evIt, Vm.evPt, Vm.Res.bind_assoc, Vm.Res.bind_ok, Vm.Res.Ok_ok, Vm.bindT, Vm.setAll, Vm.boolOf, Vm.isNon, Vm.b_add, Vm.b_sub, Vm.a_add, Vm.c_eq, Vm.c_ne, Vm.c_lt, Vm.c_le, Vm.c_gt, Vm.c_ge, Vm.Bf_len, Vm.Bf_sum, Vm.Bf_min2, Vm.wipeE, Vm.Tg.slots, Vm.lcTurn, Vm.forTurn, List.map_cons, List.map_nil, List.length_cons, List.length_nil, List.length_map, List.cons_append, List.nil_append, List.getElem?_cons_zero, List.getElem?_cons_succ, List.set_cons_zero, List.set_cons_succ, List.reduceReplicate, Nat.reduceSub, Nat.reduceAdd, Nat.zero_add, Int.toNat_natCast, Bool.not_true, Bool.not_false, decide_true, decide_false, if_true, if_false]
          exact ⟨trivial, y9⟩
    · obtain ⟨rfl, y5⟩ := z
      have e10 := at_end h5 (.lst (((whos k L).filter fun w => (L.filter (isSort k)).all fun l => holds l w).map Who.pv))
      have x5 := (x4.trans y5).trans (Ext.app h5 [HV.lst (((whos k L).filter fun w => (L.filter (isSort k)).all fun l => holds l w).map Who.pv)])
      have sm : ∀ x ∈ ((whos k L).filter fun w => (L.filter (isSort k)).all fun l => holds l w).map Who.pv, Sm 1 615 x := fun x hx => by
        obtain ⟨w, hw, rfl⟩ := List.mem_map.mp hx
        exact sm_who (whos_lo ok w (List.mem_filter.mp hw).1)
      have fa := fil_any (xs := whos k L) (f := Who.pv) (p := fun w => (L.filter (isSort k)).all fun l => holds l w)
      rw [show ((whos k L).any fun w => (L.filter (isSort k)).all fun l => holds l w) = met k L from rfl] at fa
      try simp (config := { implicitDefEqProofs := false }) only [Vm.evF, Vm.evSs, Vm.evS, Vm.evX, Vm.evE, Vm.evEs, Vm.evIt, Vm.evPt, Vm.Res.bind_assoc, Vm.Res.bind_ok, Vm.Res.Ok_ok, Vm.bindT, Vm.setAll, Vm.boolOf, Vm.isNon, Vm.b_add, Vm.b_sub, Vm.a_add, Vm.c_eq, Vm.c_ne, Vm.c_lt, Vm.c_le, Vm.c_gt, Vm.c_ge, Vm.Bf_len, Vm.Bf_sum, Vm.Bf_min2, Vm.wipeE, Vm.Tg.slots, Vm.lcTurn, Vm.forTurn, List.map_cons, List.map_nil, List.length_cons, List.length_nil, List.length_map, List.cons_append, List.nil_append, List.getElem?_cons_zero, List.getElem?_cons_succ, List.set_cons_zero, List.set_cons_succ, List.reduceReplicate, Nat.reduceSub, Nat.reduceAdd, Nat.zero_add, Int.toNat_natCast, Bool.not_true, Bool.not_false, decide_true, decide_false, if_true, if_false]
      generalize (((whos k L).filter fun w => (L.filter (isSort k)).all fun l => holds l w).map Who.pv) = fl at e10 x5 sm fa
      generalize h5.length = c10 at e10
      generalize h5 ++ [HV.lst fl] = g2 at e10 x5
      have nl := new_ok (h := g2) (xs := []) (by decide)
      have e11 := at_end g2 (.lst [])
      have e10' := (Ext.app g2 [HV.lst []]).get e10
      have x6 := x5.trans (Ext.app g2 [HV.lst []])
      have eq := (eq_refnil e10' sm (by decide) e11).1
      rw [fa] at eq
      simp (config := { implicitDefEqProofs := false }) only [Vm.evF, Vm.evSs, Vm.evS, Vm.evX, Vm.evE, Vm.evEs, Vm.evIt, Vm.evPt, Vm.Res.bind_assoc, Vm.Res.bind_ok, Vm.Res.Ok_ok, Vm.bindT, Vm.setAll, Vm.boolOf, Vm.isNon, Vm.b_add, Vm.b_sub, Vm.a_add, Vm.c_eq, Vm.c_ne, Vm.c_lt, Vm.c_le, Vm.c_gt, Vm.c_ge, Vm.Bf_len, Vm.Bf_sum, Vm.Bf_min2, Vm.wipeE, Vm.Tg.slots, Vm.lcTurn, Vm.forTurn, List.map_cons, List.map_nil, List.length_cons, List.length_nil, List.length_map, List.cons_append, List.nil_append, List.getElem?_cons_zero, List.getElem?_cons_succ, List.set_cons_zero, List.set_cons_succ, List.reduceReplicate, Nat.reduceSub, Nat.reduceAdd, Nat.zero_add, Int.toNat_natCast, Bool.not_true, Bool.not_false, decide_true, decide_false, if_true, if_false, nl, eq]
      generalize g2 ++ [HV.lst []] = g3 at nl e11 e10' x6 eq
      cases c : met k L
      · have ef3 := x6.get ef
        have ap := appF_ok (a := f) (v := .str s) ef3 (by rw [List.length_map]; omega)
        simp (config := { implicitDefEqProofs := false }) only [Vm.evF, Vm.evSs, Vm.evS, Vm.evX, Vm.evE, Vm.evEs, Vm.evIt, Vm.evPt, Vm.Res.bind_assoc, Vm.Res.bind_ok, Vm.Res.Ok_ok, Vm.bindT, Vm.setAll, Vm.boolOf, Vm.isNon, Vm.b_add, Vm.b_sub, Vm.a_add, Vm.c_eq, Vm.c_ne, Vm.c_lt, Vm.c_le, Vm.c_gt, Vm.c_ge, Vm.Bf_len, Vm.Bf_sum, Vm.Bf_min2, Vm.wipeE, Vm.Tg.slots, Vm.lcTurn, Vm.forTurn, List.map_cons, List.map_nil, List.length_cons, List.length_nil, List.length_map, List.cons_append, List.nil_append, List.getElem?_cons_zero, List.getElem?_cons_succ, List.set_cons_zero, List.set_cons_succ, List.reduceReplicate, Nat.reduceSub, Nat.reduceAdd, Nat.zero_add, Int.toNat_natCast, Bool.not_true, Bool.not_false, decide_true, decide_false, if_true, if_false, ef3, ap]
        refine ⟨⟨_, _, _, _, _, _, _, _, rfl⟩, ?_, (But.of x6).trans But.set⟩
        rw [set_same ef3]
        simp
      · simp (config := { implicitDefEqProofs := false }) only [Vm.evF, Vm.evSs, Vm.evS, Vm.evX, Vm.evE, Vm.evEs, Vm.evIt, Vm.evPt, Vm.Res.bind_assoc, Vm.Res.bind_ok, Vm.Res.Ok_ok, Vm.bindT, Vm.setAll, Vm.boolOf, Vm.isNon, Vm.b_add, Vm.b_sub, Vm.a_add, Vm.c_eq, Vm.c_ne, Vm.c_lt, Vm.c_le, Vm.c_gt, Vm.c_ge, Vm.Bf_len, Vm.Bf_sum, Vm.Bf_min2, Vm.wipeE, Vm.Tg.slots, Vm.lcTurn, Vm.forTurn, List.map_cons, List.map_nil, List.length_cons, List.length_nil, List.length_map, List.cons_append, List.nil_append, List.getElem?_cons_zero, List.getElem?_cons_succ, List.set_cons_zero, List.set_cons_succ, List.reduceReplicate, Nat.reduceSub, Nat.reduceAdd, Nat.zero_add, Int.toNat_natCast, Bool.not_true, Bool.not_false, decide_true, decide_false, if_true, if_false]
        refine ⟨⟨_, _, _, _, _, _, _, _, rfl⟩, ?_, But.of x6⟩
        simpa using x6.get ef
end
end K05

set_option Elab.async false
set_option linter.all false
set_option maxRecDepth 100000
set_option maxHeartbeats 4000000
namespace K05
open PySem PySem.Spec PyProof.Rows L2 Vm L06 L07
theorem sorts_eq : b__law_sorts = .cons (.x (.set (.many [2, 3, 4]) (.call 19 (.cons (.var 0) .nil)))) (.cons (.x (.set (.one 1) (.lst (.nil)))) (.cons (.for (.many [5, 6]) (.seq (.tup (.cons (.tup (.cons (.str "town") (.cons (.lc (.tup (.cons (.var 10) (.cons (.int 0) (.cons (.non) .nil)))) (.one 10) (.seq (.var 2)) (.bl true)) .nil))) (.cons (.tup (.cons (.str "age") (.cons (.lc (.tup (.cons (.str "q") (.cons (.var 11) (.cons (.non) .nil)))) (.one 11) (.seq (.var 3)) (.bl true)) .nil))) (.cons (.tup (.cons (.str "kin") (.cons (.lc (.tup (.cons (.str "q") (.cons (.int 0) (.cons (.var 12) .nil)))) (.one 12) (.seq (.var 4)) (.bl true)) .nil))) .nil))))) bodyS) (.cons (.x (.ret (.var 1))) .nil))) := rfl
theorem ext_but {h g h' : IH} {f : Nat} (x : Ext h g) (b : But f g h') (l : h.length ≤ f) : Ext h h' := ext_of (Nat.le_trans x.len b.1) fun i hi => by
  rw [b.2 i (Nat.lt_of_lt_of_le hi x.len) (by omega)]
  obtain ⟨z, rfl⟩ := x
  exact List.getElem?_append_left hi
section
variable {h : IH} {N a p b n : Nat} {cs : List Int} {ts : List Str}
def FsOk (L : List Lit) (k : Nat) (fs : List Str) : Prop := (∀ z ∈ fs, z ∈ sorts) ∧ ((fs = [] ∧ ∀ i, i < k → byP i L) ∨ ∃ s rest, fs = s :: rest ∧ Tog L (some s))
theorem fs_step {L : List Lit} {k : Nat} {s : Str} {fs : List Str} (ok : ∀ l ∈ L, Good l) (hk : k < 3) (es : sorts[k]? = some s) (F : FsOk L k fs) : FsOk L (k + 1) (if met k L = true then fs else fs ++ [s]) := by
  have m := met_ok ok k hk
  obtain ⟨ms, F⟩ := F
  refine ⟨fun z hz => ?_, ?_⟩
  · split at hz
    · exact ms z hz
    · rcases List.mem_append.mp hz with q | q
      · exact ms z q
      · have : z = s := by simpa using q
        subst this
        exact List.mem_of_getElem? es
  rcases F with ⟨rfl, al⟩ | ⟨s', rest, rfl, t⟩
  · by_cases c : met k L = true
    · rw [if_pos c]
      refine .inl ⟨rfl, fun i hi => ?_⟩
      by_cases e : i = k
      · subst e
        exact m.mp c
      · exact al i (by omega)
    · rw [if_neg c]
      refine .inr ⟨s, [], rfl, ?_⟩
      have n : ¬ byP k L := fun t => c (m.mpr t)
      match k, es with
      | 0, es => cases es; exact .inl ⟨rfl, n⟩
      | 1, es => cases es; exact .inr (.inl ⟨rfl, al 0 (by omega), n⟩)
      | 2, es => cases es; exact .inr (.inr (.inl ⟨rfl, al 0 (by omega), al 1 (by omega), n⟩))
      | k + 3, es => cases es
  · refine .inr ?_
    split
    · exact ⟨s', rest, rfl, t⟩
    · exact ⟨s', rest ++ [s], rfl, t⟩
theorem s_sorts {L : List Lit} (hN : 2 ≤ N) (ok : ∀ l ∈ L, Good l) (hL : L.length ≤ 20) : (sem Bf ds N 20 [lts L] h).Ok fun r h1 => (∃ (c : Nat) (fs : List Str), r = .ref c ∧ h1[c]? = some (.lst (fs.map PV.str)) ∧ fs.length ≤ 3 ∧ FsOk L 3 fs) ∧ Ext h h1 := by
  obtain ⟨N, rfl, k⟩ := pre hN (by decide)
  rw [sem_at (d := d__law_sorts) (L := 15) (b := b__law_sorts) rfl rfl rfl, sorts_eq]
  generalize hB : bodyS = B
  simp (config := { implicitDefEqProofs := false }) only [Vm.evF, Vm.evSs, Vm.evS, Vm.evX, Vm.evE, Vm.evEs, Vm.evIt, Vm.evPt, Vm.Res.bind_assoc, Vm.Res.bind_ok, Vm.Res.Ok_ok, Vm.bindT, Vm.setAll, Vm.boolOf, Vm.isNon, Vm.b_add, Vm.b_sub, Vm.a_add, Vm.c_eq, Vm.c_ne, Vm.c_lt, Vm.c_le, Vm.c_gt, Vm.c_ge, Vm.Bf_len, Vm.Bf_sum, Vm.Bf_min2, Vm.wipeE, Vm.Tg.slots, Vm.lcTurn, Vm.forTurn, List.map_cons, List.map_nil, List.length_cons, List.length_nil, List.length_map, List.cons_append, List.nil_append, List.getElem?_cons_zero, List.getElem?_cons_succ, List.set_cons_zero, List.set_cons_succ, List.reduceReplicate, Nat.reduceSub, Nat.reduceAdd, Nat.zero_add, Int.toNat_natCast, Bool.not_true, Bool.not_false, decide_true, decide_false, if_true, if_false]
  refine Res.ok_bind ((s_few (N := N) (h := h) (L := L) (by omega) hL fun l hl => (ok l hl).1).mono fun r h1 z => ?_)
  obtain ⟨t, g, m, rfl, et, eg, em, x1⟩ := z
  have nl := new_ok (h := h1) (xs := []) (by decide)
  simp (config := { implicitDefEqProofs := false }) only [Vm.evF, Vm.evSs, Vm.evS, Vm.evX, Vm.evE, Vm.evEs, Vm.evIt, Vm.evPt, Vm.Res.bind_assoc, Vm.Res.bind_ok, Vm.Res.Ok_ok, Vm.bindT, Vm.setAll, Vm.boolOf, Vm.isNon, Vm.b_add, Vm.b_sub, Vm.a_add, Vm.c_eq, Vm.c_ne, Vm.c_lt, Vm.c_le, Vm.c_gt, Vm.c_ge, Vm.Bf_len, Vm.Bf_sum, Vm.Bf_min2, Vm.wipeE, Vm.Tg.slots, Vm.lcTurn, Vm.forTurn, List.map_cons, List.map_nil, List.length_cons, List.length_nil, List.length_map, List.cons_append, List.nil_append, List.getElem?_cons_zero, List.getElem?_cons_succ, List.set_cons_zero, List.set_cons_succ, List.reduceReplicate, Nat.reduceSub, Nat.reduceAdd, Nat.zero_add, Int.toNat_natCast, Bool.not_true, Bool.not_false, decide_true, decide_false, if_true, if_false, rd, nl]
  have ef := at_end h1 (.lst (([] : List Str).map PV.str))
  have y0 := Ext.app h1 [HV.lst (([] : List Str).map PV.str)]
  have x2 := x1.trans y0
  have lf : h.length ≤ h1.length := x1.len
  have ltt := (List.getElem?_eq_some_iff.mp et).1
  generalize hf : h1.length = f at ef nl lf ltt
  have lg0 : (h1 ++ [HV.lst (([] : List Str).map PV.str)]).length = f + 1 := by rw [← hf]; simp
  rw [show HV.lst [] = HV.lst (([] : List Str).map PV.str) from rfl]
  have et := y0.get et
  have eg := y0.get eg
  have em := y0.get em
  generalize h1 ++ [HV.lst (([] : List Str).map PV.str)] = g1 at et eg em ef x2 lg0
  have w0 := whos_few ok hL (k := 0)
  have w1 := whos_few ok hL (k := 1)
  have w2 := whos_few ok hL (k := 2)
  simp (config := { implicitDefEqProofs := false }) only [Vm.evF, Vm.evSs, Vm.evS, Vm.evX, Vm.evE, Vm.evEs, Vm.evIt, Vm.evPt, Vm.Res.bind_assoc, Vm.Res.bind_ok, Vm.Res.Ok_ok, Vm.bindT, Vm.setAll, Vm.boolOf, Vm.isNon, Vm.b_add, Vm.b_sub, Vm.a_add, Vm.c_eq, Vm.c_ne, Vm.c_lt, Vm.c_le, Vm.c_gt, Vm.c_ge, Vm.Bf_len, Vm.Bf_sum, Vm.Bf_min2, Vm.wipeE, Vm.Tg.slots, Vm.lcTurn, Vm.forTurn, List.map_cons, List.map_nil, List.length_cons, List.length_nil, List.length_map, List.cons_append, List.nil_append, List.getElem?_cons_zero, List.getElem?_cons_succ, List.set_cons_zero, List.set_cons_succ, List.reduceReplicate, Nat.reduceSub, Nat.reduceAdd, Nat.zero_add, Int.toNat_natCast, Bool.not_true, Bool.not_false, decide_true, decide_false, if_true, if_false, et, fuel_heap et]
  refine Res.ok_bind ((lc_map (xs := srtU (L.flatMap twU) ++ (fiv (L.flatMap twU)).take 1) (f := PV.str) (g := fun t => (⟨t, 0, none⟩ : Who).pv) (h0 := g1) (get_heap et) rfl (by
    have : (WT L).length ≤ 200 := w0
    unfold WT at this
    rw [List.length_map] at this
    omega) (fun z hz h2 y2 => ?_)).mono fun acc h2 z => ?_)
  · have nt := newT_ok (h := h2) (xs := [.str z, .int 0, .non]) (by simp)
    refine Res.calm_of ?_
    simp (config := { implicitDefEqProofs := false }) only [Vm.evF, Vm.evSs, Vm.evS, Vm.evX, Vm.evE, Vm.evEs, Vm.evIt, Vm.evPt, Vm.Res.bind_assoc, Vm.Res.bind_ok, Vm.Res.Ok_ok, Vm.bindT, Vm.setAll, Vm.boolOf, Vm.isNon, Vm.b_add, Vm.b_sub, Vm.a_add, Vm.c_eq, Vm.c_ne, Vm.c_lt, Vm.c_le, Vm.c_gt, Vm.c_ge, Vm.Bf_len, Vm.Bf_sum, Vm.Bf_min2, Vm.wipeE, Vm.Tg.slots, Vm.lcTurn, Vm.forTurn, List.map_cons, List.map_nil, List.length_cons, List.length_nil, List.length_map, List.cons_append, List.nil_append, List.getElem?_cons_zero, List.getElem?_cons_succ, List.set_cons_zero, List.set_cons_succ, List.reduceReplicate, Nat.reduceSub, Nat.reduceAdd, Nat.zero_add, Int.toNat_natCast, Bool.not_true, Bool.not_false, decide_true, decide_false, if_true, if_false, nt]
    exact ⟨rfl, Ext.refl _⟩
  obtain ⟨rfl, y2⟩ := z
  have e1 := at_end h2 (.lst ((srtU (L.flatMap twU) ++ (fiv (L.flatMap twU)).take 1).map fun t => (⟨t, 0, none⟩ : Who).pv))
  have y3 := y2.trans (Ext.app h2 [HV.lst ((srtU (L.flatMap twU) ++ (fiv (L.flatMap twU)).take 1).map fun t => (⟨t, 0, none⟩ : Who).pv)])
  try simp (config := { implicitDefEqProofs := false }) only [Vm.evF, Vm.evSs, Vm.evS, Vm.evX, Vm.evE, Vm.evEs, Vm.evIt, Vm.evPt, Vm.Res.bind_assoc, Vm.Res.bind_ok, Vm.Res.Ok_ok, Vm.bindT, Vm.setAll, Vm.boolOf, Vm.isNon, Vm.b_add, Vm.b_sub, Vm.a_add, Vm.c_eq, Vm.c_ne, Vm.c_lt, Vm.c_le, Vm.c_gt, Vm.c_ge, Vm.Bf_len, Vm.Bf_sum, Vm.Bf_min2, Vm.wipeE, Vm.Tg.slots, Vm.lcTurn, Vm.forTurn, List.map_cons, List.map_nil, List.length_cons, List.length_nil, List.length_map, List.cons_append, List.nil_append, List.getElem?_cons_zero, List.getElem?_cons_succ, List.set_cons_zero, List.set_cons_succ, List.reduceReplicate, Nat.reduceSub, Nat.reduceAdd, Nat.zero_add, Int.toNat_natCast, Bool.not_true, Bool.not_false, decide_true, decide_false, if_true, if_false]
  have c1f : h2.length ≠ f := by have := y2.len; omega
  generalize hc1 : h2.length = c1 at e1 c1f
  generalize h2 ++ [HV.lst ((srtU (L.flatMap twU) ++ (fiv (L.flatMap twU)).take 1).map fun t => (⟨t, 0, none⟩ : Who).pv)] = g2 at e1 y3
  have nt1 := newT_ok (h := g2) (xs := [.str "town", .ref c1]) (by simp)
  have eg2 := y3.get eg
  simp (config := { implicitDefEqProofs := false }) only [Vm.evF, Vm.evSs, Vm.evS, Vm.evX, Vm.evE, Vm.evEs, Vm.evIt, Vm.evPt, Vm.Res.bind_assoc, Vm.Res.bind_ok, Vm.Res.Ok_ok, Vm.bindT, Vm.setAll, Vm.boolOf, Vm.isNon, Vm.b_add, Vm.b_sub, Vm.a_add, Vm.c_eq, Vm.c_ne, Vm.c_lt, Vm.c_le, Vm.c_gt, Vm.c_ge, Vm.Bf_len, Vm.Bf_sum, Vm.Bf_min2, Vm.wipeE, Vm.Tg.slots, Vm.lcTurn, Vm.forTurn, List.map_cons, List.map_nil, List.length_cons, List.length_nil, List.length_map, List.cons_append, List.nil_append, List.getElem?_cons_zero, List.getElem?_cons_succ, List.set_cons_zero, List.set_cons_succ, List.reduceReplicate, Nat.reduceSub, Nat.reduceAdd, Nat.zero_add, Int.toNat_natCast, Bool.not_true, Bool.not_false, decide_true, decide_false, if_true, if_false, nt1, eg2, fuel_heap eg2]
  refine Res.ok_bind ((lc_map (xs := ssetL (0 :: L.flatMap agU)) (f := PV.int) (g := fun t => (⟨"q", t, none⟩ : Who).pv) (h0 := g2) (get_heap eg2) rfl (by
    have : (WA L).length ≤ 200 := w1
    unfold WA at this
    rw [List.length_map] at this
    omega) (fun z hz h2 y2 => ?_)).mono fun acc h4 z => ?_)
  · have nt := newT_ok (h := h2) (xs := [.str "q", .int z, .non]) (by simp)
    refine Res.calm_of ?_
    simp (config := { implicitDefEqProofs := false }) only [Vm.evF, Vm.evSs, Vm.evS, Vm.evX, Vm.evE, Vm.evEs, Vm.evIt, Vm.evPt, Vm.Res.bind_assoc, Vm.Res.bind_ok, Vm.Res.Ok_ok, Vm.bindT, Vm.setAll, Vm.boolOf, Vm.isNon, Vm.b_add, Vm.b_sub, Vm.a_add, Vm.c_eq, Vm.c_ne, Vm.c_lt, Vm.c_le, Vm.c_gt, Vm.c_ge, Vm.Bf_len, Vm.Bf_sum, Vm.Bf_min2, Vm.wipeE, Vm.Tg.slots, Vm.lcTurn, Vm.forTurn, List.map_cons, List.map_nil, List.length_cons, List.length_nil, List.length_map, List.cons_append, List.nil_append, List.getElem?_cons_zero, List.getElem?_cons_succ, List.set_cons_zero, List.set_cons_succ, List.reduceReplicate, Nat.reduceSub, Nat.reduceAdd, Nat.zero_add, Int.toNat_natCast, Bool.not_true, Bool.not_false, decide_true, decide_false, if_true, if_false, nt]
    exact ⟨rfl, Ext.refl _⟩
  obtain ⟨rfl, y4⟩ := z
  have e2 := at_end h4 (.lst ((ssetL (0 :: L.flatMap agU)).map fun t => (⟨"q", t, none⟩ : Who).pv))
  have y5 := y4.trans (Ext.app h4 [HV.lst ((ssetL (0 :: L.flatMap agU)).map fun t => (⟨"q", t, none⟩ : Who).pv)])
  try simp (config := { implicitDefEqProofs := false }) only [Vm.evF, Vm.evSs, Vm.evS, Vm.evX, Vm.evE, Vm.evEs, Vm.evIt, Vm.evPt, Vm.Res.bind_assoc, Vm.Res.bind_ok, Vm.Res.Ok_ok, Vm.bindT, Vm.setAll, Vm.boolOf, Vm.isNon, Vm.b_add, Vm.b_sub, Vm.a_add, Vm.c_eq, Vm.c_ne, Vm.c_lt, Vm.c_le, Vm.c_gt, Vm.c_ge, Vm.Bf_len, Vm.Bf_sum, Vm.Bf_min2, Vm.wipeE, Vm.Tg.slots, Vm.lcTurn, Vm.forTurn, List.map_cons, List.map_nil, List.length_cons, List.length_nil, List.length_map, List.cons_append, List.nil_append, List.getElem?_cons_zero, List.getElem?_cons_succ, List.set_cons_zero, List.set_cons_succ, List.reduceReplicate, Nat.reduceSub, Nat.reduceAdd, Nat.zero_add, Int.toNat_natCast, Bool.not_true, Bool.not_false, decide_true, decide_false, if_true, if_false]
  have c2f : h4.length ≠ f := by have := y3.len; have := y4.len; omega
  generalize hc2 : h4.length = c2 at e2 c2f
  generalize h4 ++ [HV.lst ((ssetL (0 :: L.flatMap agU)).map fun t => (⟨"q", t, none⟩ : Who).pv)] = g3 at e2 y5
  have nt2 := newT_ok (h := g3) (xs := [.str "age", .ref c2]) (by simp)
  have em3 : g3[m]? = some (.lst ((none :: (ssetL (0 :: L.flatMap knU)).map some).map optP)) := by
    rw [y5.get (y3.get em), List.map_cons, List.map_map]
    rfl
  simp (config := { implicitDefEqProofs := false }) only [Vm.evF, Vm.evSs, Vm.evS, Vm.evX, Vm.evE, Vm.evEs, Vm.evIt, Vm.evPt, Vm.Res.bind_assoc, Vm.Res.bind_ok, Vm.Res.Ok_ok, Vm.bindT, Vm.setAll, Vm.boolOf, Vm.isNon, Vm.b_add, Vm.b_sub, Vm.a_add, Vm.c_eq, Vm.c_ne, Vm.c_lt, Vm.c_le, Vm.c_gt, Vm.c_ge, Vm.Bf_len, Vm.Bf_sum, Vm.Bf_min2, Vm.wipeE, Vm.Tg.slots, Vm.lcTurn, Vm.forTurn, List.map_cons, List.map_nil, List.length_cons, List.length_nil, List.length_map, List.cons_append, List.nil_append, List.getElem?_cons_zero, List.getElem?_cons_succ, List.set_cons_zero, List.set_cons_succ, List.reduceReplicate, Nat.reduceSub, Nat.reduceAdd, Nat.zero_add, Int.toNat_natCast, Bool.not_true, Bool.not_false, decide_true, decide_false, if_true, if_false, nt2, em3, fuel_heap em3]
  refine Res.ok_bind ((lc_map (xs := none :: (ssetL (0 :: L.flatMap knU)).map some) (f := optP) (g := fun t => (⟨"q", 0, t⟩ : Who).pv) (h0 := g3) (get_heap em3) (by simp) (by
    have : (WK L).length ≤ 200 := w2
    unfold WK at this
    rw [List.length_map] at this
    omega) (fun z hz h2 y2 => ?_)).mono fun acc h6 z => ?_)
  · have nt := newT_ok (h := h2) (xs := [.str "q", .int 0, optP z]) (by simp)
    refine Res.calm_of ?_
    simp (config := { implicitDefEqProofs := false }) only [Vm.evF, Vm.evSs, Vm.evS, Vm.evX, Vm.evE, Vm.evEs, Vm.evIt, Vm.evPt, Vm.Res.bind_assoc, Vm.Res.bind_ok, Vm.Res.Ok_ok, Vm.bindT, Vm.setAll, Vm.boolOf, Vm.isNon, Vm.b_add, Vm.b_sub, Vm.a_add, Vm.c_eq, Vm.c_ne, Vm.c_lt, Vm.c_le, Vm.c_gt, Vm.c_ge, Vm.Bf_len, Vm.Bf_sum, Vm.Bf_min2, Vm.wipeE, Vm.Tg.slots, Vm.lcTurn, Vm.forTurn, List.map_cons, List.map_nil, List.length_cons, List.length_nil, List.length_map, List.cons_append, List.nil_append, List.getElem?_cons_zero, List.getElem?_cons_succ, List.set_cons_zero, List.set_cons_succ, List.reduceReplicate, Nat.reduceSub, Nat.reduceAdd, Nat.zero_add, Int.toNat_natCast, Bool.not_true, Bool.not_false, decide_true, decide_false, if_true, if_false, nt]
    exact ⟨rfl, Ext.refl _⟩
  obtain ⟨rfl, y6⟩ := z
  have e3 := at_end h6 (.lst ((none :: (ssetL (0 :: L.flatMap knU)).map some).map fun t => (⟨"q", 0, t⟩ : Who).pv))
  have y7 := y6.trans (Ext.app h6 [HV.lst ((none :: (ssetL (0 :: L.flatMap knU)).map some).map fun t => (⟨"q", 0, t⟩ : Who).pv)])
  have c3f : h6.length ≠ f := by have := y3.len; have := y5.len; have := y6.len; omega
  try simp (config := { implicitDefEqProofs := false }) only [Vm.evF, Vm.evSs, Vm.evS, Vm.evX, Vm.evE, Vm.evEs, Vm.evIt, Vm.evPt, Vm.Res.bind_assoc, Vm.Res.bind_ok, Vm.Res.Ok_ok, Vm.bindT, Vm.setAll, Vm.boolOf, Vm.isNon, Vm.b_add, Vm.b_sub, Vm.a_add, Vm.c_eq, Vm.c_ne, Vm.c_lt, Vm.c_le, Vm.c_gt, Vm.c_ge, Vm.Bf_len, Vm.Bf_sum, Vm.Bf_min2, Vm.wipeE, Vm.Tg.slots, Vm.lcTurn, Vm.forTurn, List.map_cons, List.map_nil, List.length_cons, List.length_nil, List.length_map, List.cons_append, List.nil_append, List.getElem?_cons_zero, List.getElem?_cons_succ, List.set_cons_zero, List.set_cons_succ, List.reduceReplicate, Nat.reduceSub, Nat.reduceAdd, Nat.zero_add, Int.toNat_natCast, Bool.not_true, Bool.not_false, decide_true, decide_false, if_true, if_false]
  simp only [List.map_cons] at e3 y7
  generalize hc3 : h6.length = c3 at e3 c3f
  generalize h6 ++ [HV.lst ((⟨"q", 0, none⟩ : Who).pv :: ((ssetL (0 :: L.flatMap knU)).map some).map fun t => (⟨"q", 0, t⟩ : Who).pv)] = g4 at e3 y7
  have nt3 := newT_ok (h := g4) (xs := [.str "kin", .ref c3]) (by simp)
  have nt4 := newT_ok (h := g4) (xs := [.tup [.str "town", .ref c1], .tup [.str "age", .ref c2], .tup [.str "kin", .ref c3]]) (by simp)
  have E1 : g4[c1]? = some (.lst ((whos 0 L).map Who.pv)) := by
    show _ = some (HV.lst ((WT L).map Who.pv))
    unfold WT
    rw [List.map_map]
    exact (y5.trans y7).get e1
  have E2 : g4[c2]? = some (.lst ((whos 1 L).map Who.pv)) := by
    show _ = some (HV.lst ((WA L).map Who.pv))
    unfold WA
    rw [List.map_map]
    exact y7.get e2
  have E3 : g4[c3]? = some (.lst ((whos 2 L).map Who.pv)) := by
    show _ = some (HV.lst ((WK L).map Who.pv))
    unfold WK
    rw [List.map_map, List.map_cons]
    exact e3
  have EF := (y3.trans (y5.trans y7)).get ef
  have XX := x2.trans (y3.trans (y5.trans y7))
  have key : ∀ (k : Nat) x, ([PV.tup [.str "town", .ref c1], .tup [.str "age", .ref c2], .tup [.str "kin", .ref c3]] : List PV)[k]? = some x → k < 3 ∧ ∃ s c, x = .tup [.str s, .ref c] ∧ sorts[k]? = some s ∧ g4[c]? = some (.lst ((whos k L).map Who.pv)) ∧ c ≠ f := fun k x e => by
    match k, e with
    | 0, e => cases e; exact ⟨by omega, _, _, rfl, rfl, E1, c1f⟩
    | 1, e => cases e; exact ⟨by omega, _, _, rfl, rfl, E2, c2f⟩
    | 2, e => cases e; exact ⟨by omega, _, _, rfl, rfl, E3, c3f⟩
    | k + 3, e => cases e
  simp (config := { implicitDefEqProofs := false }) only [Vm.evF, Vm.evSs, Vm.evS, Vm.evX, Vm.evE, Vm.evEs, Vm.evIt, Vm.evPt, Vm.Res.bind_assoc, Vm.Res.bind_ok, Vm.Res.Ok_ok, Vm.bindT, Vm.setAll, Vm.boolOf, Vm.isNon, Vm.b_add, Vm.b_sub, Vm.a_add, Vm.c_eq, Vm.c_ne, Vm.c_lt, Vm.c_le, Vm.c_gt, Vm.c_ge, Vm.Bf_len, Vm.Bf_sum, Vm.Bf_min2, Vm.wipeE, Vm.Tg.slots, Vm.lcTurn, Vm.forTurn, List.map_cons, List.map_nil, List.length_cons, List.length_nil, List.length_map, List.cons_append, List.nil_append, List.getElem?_cons_zero, List.getElem?_cons_succ, List.set_cons_zero, List.set_cons_succ, List.reduceReplicate, Nat.reduceSub, Nat.reduceAdd, Nat.zero_add, Int.toNat_natCast, Bool.not_true, Bool.not_false, decide_true, decide_false, if_true, if_false, nt3, nt4]
  generalize hxs : ([PV.tup [.str "town", .ref c1], .tup [.str "age", .ref c2], .tup [.str "kin", .ref c3]] : List PV) = xs at key
  have l3 : xs.length = 3 := by rw [← hxs]; rfl
  clear hxs E1 E2 E3 e1 e2 e3 nt1 nt2 nt3 nt4 nl
  refine Res.ok_bind ((for_inv (xs := xs) (src := .items xs) (Q := fun o h1 => (∃ u2 u3 u4 u5 u6 u7 u8 u9 u10 u11 u12 u13 u14, o = .nx [some (lts L), some (.ref f), u2, u3, u4, u5, u6, u7, u8, u9, u10, u11, u12, u13, u14]) ∧ But f g4 h1 ∧ ∃ fs, h1[f]? = some (.lst (fs.map PV.str)) ∧ fs.length ≤ 3 ∧ FsOk L 3 fs)
    (fun k ev1 h1 => (∃ u2 u3 u4 u5 u6 u7 u8 u9 u10 u11 u12 u13 u14, ev1 = [some (lts L), some (.ref f), u2, u3, u4, u5, u6, u7, u8, u9, u10, u11, u12, u13, u14]) ∧ But f g4 h1 ∧ ∃ fs, h1[f]? = some (.lst (fs.map PV.str)) ∧ fs.length ≤ k ∧ FsOk L k fs) (fun _ _ _ _ => rfl) (fun k x ev1 h1 e j => ?_) (fun ev1 h1 j => ?_) _ 0 _ g4 rfl (Nat.zero_le _) ⟨⟨_, _, _, _, _, _, _, _, _, _, _, _, _, rfl⟩, But.refl _ _, [], EF, Nat.le_refl _, (fun z hz => nomatch hz), .inl ⟨rfl, fun i hi => by omega⟩⟩).mono fun o h9 z => ?_)
  · obtain ⟨hk, s, c, rfl, es, ec, cf⟩ := key k x e
    obtain ⟨⟨u2, u3, u4, u5, u6, u7, u8, u9, u10, u11, u12, u13, u14, rfl⟩, b1, fs, ef1, lf1, F⟩ := j
    simp (config := { implicitDefEqProofs := false }) only [Vm.evF, Vm.evSs, Vm.evS, Vm.evX, Vm.evE, Vm.evEs, Vm.evIt, Vm.evPt, Vm.Res.bind_assoc, Vm.Res.bind_ok, Vm.Res.Ok_ok, Vm.bindT, Vm.setAll, Vm.boolOf, Vm.isNon, Vm.b_add, Vm.b_sub, Vm.a_add, Vm.c_eq, Vm.c_ne, Vm.c_lt, Vm.c_le, Vm.c_gt, Vm.c_ge, Vm.Bf_len, Vm.Bf_sum, Vm.Bf_min2, Vm.wipeE, Vm.Tg.slots, Vm.lcTurn, Vm.forTurn, List.map_cons, List.map_nil, List.length_cons, List.length_nil, List.length_map, List.cons_append, List.nil_append, List.getElem?_cons_zero, List.getElem?_cons_succ, List.set_cons_zero, List.set_cons_succ, List.reduceReplicate, Nat.reduceSub, Nat.reduceAdd, Nat.zero_add, Int.toNat_natCast, Bool.not_true, Bool.not_false, decide_true, decide_false, if_true, if_false, rd]
    rw [← hB]
    refine (s_body (N := N) (h := h1) (L := L) (k := k) (s := s) (f := f) (q := c) (fs := fs) (by omega) ok hL hk es ef1 (b1.get cf ec) (by omega)).mono fun o h2 z => ?_
    obtain ⟨⟨v7, v8, v9, v10, v11, v12, v13, v14, rfl⟩, ef2, b2⟩ := z
    refine ⟨⟨_, _, _, _, _, _, _, _, _, _, _, _, _, rfl⟩, b1.trans b2, _, ef2, ?_, fs_step ok hk es F⟩
    split
    · omega
    · rw [List.length_append]
      simp
      omega
  · obtain ⟨⟨u2, u3, u4, u5, u6, u7, u8, u9, u10, u11, u12, u13, u14, rfl⟩, b1, fs, ef1, lf1, F⟩ := j
    rw [l3] at lf1 F
    exact ⟨⟨_, _, _, _, _, _, _, _, _, _, _, _, _, rfl⟩, b1, fs, ef1, lf1, F⟩
  · obtain ⟨⟨u2, u3, u4, u5, u6, u7, u8, u9, u10, u11, u12, u13, u14, rfl⟩, b1, fs, ef1, lf1, F⟩ := z
    simp (config := { implicitDefEqProofs := false }) only [Vm.evF, Vm.evSs, Vm.evS, Vm.evX, Vm.evE, Vm.evEs, Vm.evIt, Vm.evPt, Vm.Res.bind_assoc, Vm.Res.bind_ok, Vm.Res.Ok_ok, Vm.bindT, Vm.setAll, Vm.boolOf, Vm.isNon, Vm.b_add, Vm.b_sub, Vm.a_add, Vm.c_eq, Vm.c_ne, Vm.c_lt, Vm.c_le, Vm.c_gt, Vm.c_ge, Vm.Bf_len, Vm.Bf_sum, Vm.Bf_min2, Vm.wipeE, Vm.Tg.slots, Vm.lcTurn, Vm.forTurn, List.map_cons, List.map_nil, List.length_cons, List.length_nil, List.length_map, List.cons_append, List.nil_append, List.getElem?_cons_zero, List.getElem?_cons_succ, List.set_cons_zero, List.set_cons_succ, List.reduceReplicate, Nat.reduceSub, Nat.reduceAdd, Nat.zero_add, Int.toNat_natCast, Bool.not_true, Bool.not_false, decide_true, decide_false, if_true, if_false]
    exact ⟨⟨f, fs, rfl, ef1, lf1, F⟩, ext_but XX b1 lf⟩
end
end K05

set_option Elab.async false
set_option linter.all false
set_option maxRecDepth 100000
set_option maxHeartbeats 4000000
namespace K05
open PySem PySem.Spec PyProof.Rows L2 Vm L06 L07
theorem tx_twS {b : Bool} : TxOk (twS b) := by cases b <;> exact ⟨by decide, by decide +kernel⟩
theorem tx_knS {b : Bool} : TxOk (knS b) := by cases b <;> exact ⟨by decide, by decide +kernel⟩
theorem tx_age : TxOk "age" := ⟨by decide, by decide +kernel⟩
theorem sm_lit {l : Lit} (h : Good l) : Sm 2 2465 l.pv := by
  obtain ⟨ok, lo⟩ := h
  cases l with
  | tw b us =>
    obtain ⟨u1, u2, u3, u4⟩ := ok
    have s : Sm 1 1227 (.tup (us.map PV.str)) := Sm.tup (n := 0) (L := 202) (c := 6) (fun x hx => by
      obtain ⟨u, hu, rfl⟩ := List.mem_map.mp hx
      exact sm_txt (twn_ok (u4 u hu))) (by rw [List.length_map]; exact u2)
    exact (Sm.tup (c := 2) (in2 ((sm_txt tx_twS).mono (n' := 1) (L' := 1227) (by decide) (by decide)) s) (by simp)).mono (by decide) (by decide)
  | kn b v =>
    have v0 : 0 ≤ v := ok
    have v1 : v ≤ 1000 := lo
    exact (Sm.tup (c := 2) (in2 (sm_txt tx_knS) (sm_int v0 (by omega))) (by simp)).mono (by decide) (by decide)
  | ag f e =>
    obtain ⟨f0, fe⟩ := ok
    have f1 : f ≤ 1000 := lo.1
    exact (Sm.tup (c := 3) (in3 (sm_txt tx_age) (sm_int f0 (by omega)) (sm_opt fun x e => by
      have := fe x e
      have := lo.2 x e
      omega)) (by simp)).mono (by decide) (by decide)
theorem sm_lts {L : List Lit} (ok : ∀ l ∈ L, Good l) (hL : L.length ≤ 20) : Sm 3 49343 (lts L) := Sm.tup (n := 2) (L := 2465) (c := 20) (fun x hx => by
  obtain ⟨u, hu, rfl⟩ := List.mem_map.mp hx
  exact sm_lit (ok u hu)) (by rw [List.length_map]; exact hL)
section
variable {h : IH} {N a p b n : Nat} {cs : List Int} {ts : List Str}
theorem show_sm {n L : Nat} {xs : List PV} (s : Sm n L (.tup xs)) (hn : n < 40) (hL : L ≤ 10000000) : Bf 9 [.tup xs] h = .ok (.str (dt (.tup xs)).shown) h := by
  show showF (.tup xs) h = _
  have h3 : (dt (.tup xs)).depth ≤ 40 := Nat.le_trans s.dep (by omega)
  have h4 : (dt (.tup xs)).shown.length ≤ sizeLine := by
    have := s.len
    rw [sizeLine_eq]
    omega
  simp only [showF, s.dat h 40 hn, s.shw, s.nod, h3, h4, and_self, if_true]
theorem rep_str {z : Str} (t : TxOk z) : Bf 9 [.str z] h = .ok (.str (reprText z)) h := by
  have := StrLaws.reprText_len z fun c hc => Nat.lt_trans (t.2 c hc) (by decide)
  have l : (reprText z).length ≤ sizeLine := by
    have := t.1
    rw [sizeLine_eq]
    omega
  show (if (reprText z).length ≤ sizeLine then (Res.ok (PV.str (reprText z)) h : Res PV) else .stuck) = _
  rw [if_pos l]
theorem rep_non : Bf 9 [.non] h = .ok (.str "None") h := rfl
theorem sorts_tx : ∀ z ∈ sorts, TxOk z := by unfold TxOk; decide +kernel
theorem isN {v : Int} (hN : 1 ≤ N) {l : Int} : (sem Bf ds N 17 [.int v, .int l] h) = .ok (.bl (decide (l ≤ v))) h := by
  obtain ⟨N, rfl, k⟩ := pre hN (by decide)
  rw [sem_at (d := d__law_is_number) (L := 2) (b := b__law_is_number) rfl rfl rfl]
  simp (config := { implicitDefEqProofs := false }) only [Vm.evF, Vm.evSs, Vm.evS, Vm.evX, Vm.evE, Vm.evEs, Vm.evIt, Vm.evPt, Vm.Res.bind_assoc, Vm.Res.bind_ok, Vm.Res.Ok_ok, Vm.bindT, Vm.setAll, Vm.boolOf, Vm.isNon, Vm.b_add, Vm.b_sub, Vm.a_add, Vm.c_eq, Vm.c_ne, Vm.c_lt, Vm.c_le, Vm.c_gt, Vm.c_ge, Vm.Bf_len, Vm.Bf_sum, Vm.Bf_min2, Vm.wipeE, Vm.Tg.slots, Vm.lcTurn, Vm.forTurn, List.map_cons, List.map_nil, List.length_cons, List.length_nil, List.length_map, List.cons_append, List.nil_append, List.getElem?_cons_zero, List.getElem?_cons_succ, List.set_cons_zero, List.set_cons_succ, List.reduceReplicate, Nat.reduceSub, Nat.reduceAdd, Nat.zero_add, Int.toNat_natCast, Bool.not_true, Bool.not_false, decide_true, decide_false, if_true, if_false, b__law_is_number, isF_int, isF_bool]
theorem Bf_len_str {z : Str} (l : z.length ≤ 1000) : Bf 0 [.str z] h = .ok (.int z.length) h := by
  show biLen [.str z] h = _
  have : z.length ≤ sizeLine := by rw [sizeLine_eq]; omega
  simp [biLen, this]
theorem sgn_in {c : Nat} (l : 97 ≤ c) (u : c ≤ 122) : contF true (.str ⟨#[c]⟩) (.str lettersT) h = .ok (.bl false) h := by
  have q : ((List.range' 97 26).all fun c => decide (c ∈ lettersT.cps.toList)) = true := by decide +kernel
  have m := of_decide_eq_true (List.all_eq_true.mp q c (List.mem_range'_1.mpr (by omega)))
  simp [contF, m]
theorem isW {z : Str} (hN : 1 ≤ N) (w : IsW z) : (sem Bf ds N 18 [.str z] h).Ok fun r h1 => r = .bl true ∧ Ext h h1 := by
  obtain ⟨N, rfl, k⟩ := pre hN (by decide)
  rw [sem_at (d := d__law_is_word) (L := 2) (b := b__law_is_word) rfl rfl rfl]
  have c1 : ¬ ((z.length : Int) < 1) := by have := w.1; omega
  have c2 : ¬ ((8 : Int) < z.length) := by have := w.2.1; omega
  simp (config := { implicitDefEqProofs := false }) only [Vm.evF, Vm.evSs, Vm.evS, Vm.evX, Vm.evE, Vm.evEs, Vm.evIt, Vm.evPt, Vm.Res.bind_assoc, Vm.Res.bind_ok, Vm.Res.Ok_ok, Vm.bindT, Vm.setAll, Vm.boolOf, Vm.isNon, Vm.b_add, Vm.b_sub, Vm.a_add, Vm.c_eq, Vm.c_ne, Vm.c_lt, Vm.c_le, Vm.c_gt, Vm.c_ge, Vm.Bf_len, Vm.Bf_sum, Vm.Bf_min2, Vm.wipeE, Vm.Tg.slots, Vm.lcTurn, Vm.forTurn, List.map_cons, List.map_nil, List.length_cons, List.length_nil, List.length_map, List.cons_append, List.nil_append, List.getElem?_cons_zero, List.getElem?_cons_succ, List.set_cons_zero, List.set_cons_succ, List.reduceReplicate, Nat.reduceSub, Nat.reduceAdd, Nat.zero_add, Int.toNat_natCast, Bool.not_true, Bool.not_false, decide_true, decide_false, if_true, if_false, b__law_is_word, isF_str, Bf_len_str (h := h) (z := z) (by have := w.2.1; omega), c1, c2]
  refine Res.ok_bind ((lc_pure (xs := Vm.signs z) (h0 := h) (fun x => none) get_items (by simp [Src.fuel]) (by
      have e1 : (Vm.signs z).length = z.length := by simp [Vm.signs, Str.length]
      have := w.2.1
      omega) (fun k2 x h4 e4 x4 => ?_)).mono fun acc h4 q => ?_)
  · unfold Vm.signs at e4
    rw [List.getElem?_map] at e4
    cases ec : z.cps.toList[k2]? with
    | none => rw [ec] at e4; cases e4
    | some c =>
      rw [ec] at e4
      cases e4
      have cb := w.2.2 c (List.mem_of_getElem? ec)
      refine Res.calm_of ?_
      simp (config := { implicitDefEqProofs := false }) only [Vm.evF, Vm.evSs, Vm.evS, Vm.evX, Vm.evE, Vm.evEs, Vm.evIt, Vm.evPt, Vm.Res.bind_assoc, Vm.Res.bind_ok, Vm.Res.Ok_ok, Vm.bindT, Vm.setAll, Vm.boolOf, Vm.isNon, Vm.b_add, Vm.b_sub, Vm.a_add, Vm.c_eq, Vm.c_ne, Vm.c_lt, Vm.c_le, Vm.c_gt, Vm.c_ge, Vm.Bf_len, Vm.Bf_sum, Vm.Bf_min2, Vm.wipeE, Vm.Tg.slots, Vm.lcTurn, Vm.forTurn, List.map_cons, List.map_nil, List.length_cons, List.length_nil, List.length_map, List.cons_append, List.nil_append, List.getElem?_cons_zero, List.getElem?_cons_succ, List.set_cons_zero, List.set_cons_succ, List.reduceReplicate, Nat.reduceSub, Nat.reduceAdd, Nat.zero_add, Int.toNat_natCast, Bool.not_true, Bool.not_false, decide_true, decide_false, if_true, if_false, sgn_in (h := h4) cb.1 cb.2]
      exact ⟨trivial, x4⟩
  · obtain ⟨rfl, x4⟩ := q
    have en : (Vm.signs z).filterMap (fun x => (none : Option PV)) = [] := by
      generalize Vm.signs z = l
      induction l with
      | nil => rfl
      | cons y l ih => rw [List.filterMap_cons, ih]
    rw [en]
    have nl := new_ok (h := h4 ++ [.lst []]) (xs := []) (by decide)
    have e1 : (h4 ++ [HV.lst []] ++ [HV.lst []])[h4.length]? = some (.lst []) := (Ext.app _ _).get (at_end h4 (.lst []))
    have eq := eq_nils e1 (at_end (h4 ++ [HV.lst []]) (.lst []))
    simp (config := { implicitDefEqProofs := false }) only [Vm.evF, Vm.evSs, Vm.evS, Vm.evX, Vm.evE, Vm.evEs, Vm.evIt, Vm.evPt, Vm.Res.bind_assoc, Vm.Res.bind_ok, Vm.Res.Ok_ok, Vm.bindT, Vm.setAll, Vm.boolOf, Vm.isNon, Vm.b_add, Vm.b_sub, Vm.a_add, Vm.c_eq, Vm.c_ne, Vm.c_lt, Vm.c_le, Vm.c_gt, Vm.c_ge, Vm.Bf_len, Vm.Bf_sum, Vm.Bf_min2, Vm.wipeE, Vm.Tg.slots, Vm.lcTurn, Vm.forTurn, List.map_cons, List.map_nil, List.length_cons, List.length_nil, List.length_map, List.cons_append, List.nil_append, List.getElem?_cons_zero, List.getElem?_cons_succ, List.set_cons_zero, List.set_cons_succ, List.reduceReplicate, Nat.reduceSub, Nat.reduceAdd, Nat.zero_add, Int.toNat_natCast, Bool.not_true, Bool.not_false, decide_true, decide_false, if_true, if_false, nl, eq.1]
    exact ⟨trivial, (x4.trans (Ext.app h4 _)).trans (Ext.app _ _)⟩
def lastX : Sx := .ret (.band (.cont true (.bl false) (.lc (.call 16 (.cons (.var 4) (.cons (.var 3) .nil))) (.one 4) (.seq (.var 0)) (.bl true))) (.cmp .eq (.bi 9 (.cons (.var 0) .nil)) (.var 2)))
theorem s_last {L : List Lit} {w : Who} {K : Str} {o1 : Option PV} (hN : 1 ≤ N) (ok : ∀ l ∈ L, l.Ok) (hL : L.length ≤ 20) (al : ∀ l ∈ L, holds l w = true) (sh : ∀ h : IH, Bf 9 [lts L] h = .ok (.str K) h) : (evX (sem Bf ds N) Bf lastX [some (lts L), o1, some (.str K), some w.pv, none] h).Ok fun o h1 => o = .rt (.bl true) ∧ Ext h h1 := by
  unfold lastX
  simp (config := { implicitDefEqProofs := false }) only [Vm.evF, Vm.evSs, Vm.evS, Vm.evX, Vm.evE, Vm.evEs, Vm.evIt, Vm.evPt, Vm.Res.bind_assoc, Vm.Res.bind_ok, Vm.Res.Ok_ok, Vm.bindT, Vm.setAll, Vm.boolOf, Vm.isNon, Vm.b_add, Vm.b_sub, Vm.a_add, Vm.c_eq, Vm.c_ne, Vm.c_lt, Vm.c_le, Vm.c_gt, Vm.c_ge, Vm.Bf_len, Vm.Bf_sum, Vm.Bf_min2, Vm.wipeE, Vm.Tg.slots, Vm.lcTurn, Vm.forTurn, List.map_cons, List.map_nil, List.length_cons, List.length_nil, List.length_map, List.cons_append, List.nil_append, List.getElem?_cons_zero, List.getElem?_cons_succ, List.set_cons_zero, List.set_cons_succ, List.reduceReplicate, Nat.reduceSub, Nat.reduceAdd, Nat.zero_add, Int.toNat_natCast, Bool.not_true, Bool.not_false, decide_true, decide_false, if_true, if_false, lts]
  refine Res.ok_bind ((lc_map (xs := L) (f := Lit.pv) (g := fun l => .bl (holds l w)) (h0 := h) get_items (by simp [Src.fuel]) (by omega) (fun l hl h6 y6 => ?_)).mono fun acc h7 z => ?_)
  · refine Res.calm_of ?_
    simp (config := { implicitDefEqProofs := false }) only [Vm.evF, Vm.evSs, Vm.evS, Vm.evX, Vm.evE, Vm.evEs, Vm.evIt, Vm.evPt, Vm.Res.bind_assoc, Vm.Res.bind_ok, Vm.Res.Ok_ok, Vm.bindT, Vm.setAll, Vm.boolOf, Vm.isNon, Vm.b_add, Vm.b_sub, Vm.a_add, Vm.c_eq, Vm.c_ne, Vm.c_lt, Vm.c_le, Vm.c_gt, Vm.c_ge, Vm.Bf_len, Vm.Bf_sum, Vm.Bf_min2, Vm.wipeE, Vm.Tg.slots, Vm.lcTurn, Vm.forTurn, List.map_cons, List.map_nil, List.length_cons, List.length_nil, List.length_map, List.cons_append, List.nil_append, List.getElem?_cons_zero, List.getElem?_cons_succ, List.set_cons_zero, List.set_cons_succ, List.reduceReplicate, Nat.reduceSub, Nat.reduceAdd, Nat.zero_add, Int.toNat_natCast, Bool.not_true, Bool.not_false, decide_true, decide_false, if_true, if_false]
    refine Res.ok_bind ((s_holds (N := N) (h := h6) hN (ok l hl)).mono fun r h8 z => ?_)
    obtain ⟨rfl, x8⟩ := z
    simp (config := { implicitDefEqProofs := false }) only [Vm.evF, Vm.evSs, Vm.evS, Vm.evX, Vm.evE, Vm.evEs, Vm.evIt, Vm.evPt, Vm.Res.bind_assoc, Vm.Res.bind_ok, Vm.Res.Ok_ok, Vm.bindT, Vm.setAll, Vm.boolOf, Vm.isNon, Vm.b_add, Vm.b_sub, Vm.a_add, Vm.c_eq, Vm.c_ne, Vm.c_lt, Vm.c_le, Vm.c_gt, Vm.c_ge, Vm.Bf_len, Vm.Bf_sum, Vm.Bf_min2, Vm.wipeE, Vm.Tg.slots, Vm.lcTurn, Vm.forTurn, List.map_cons, List.map_nil, List.length_cons, List.length_nil, List.length_map, List.cons_append, List.nil_append, List.getElem?_cons_zero, List.getElem?_cons_succ, List.set_cons_zero, List.set_cons_succ, List.reduceReplicate, Nat.reduceSub, Nat.reduceAdd, Nat.zero_add, Int.toNat_natCast, Bool.not_true, Bool.not_false, decide_true, decide_false, if_true, if_false]
    exact ⟨trivial, x8⟩
  · obtain ⟨rfl, y7⟩ := z
    have e9 : (h7 ++ [HV.lst (L.map fun l => PV.bl (holds l w))])[h7.length]? = some (.lst ((L.map fun l => holds l w).map PV.bl)) := by
      rw [List.map_map]
      exact at_end _ _
    have cn := cont_nf e9
    have aa : (L.map fun l => holds l w).all id = true := by
      rw [all_map]
      exact List.all_eq_true.mpr al
    rw [aa] at cn
    have sh' := sh (h7 ++ [HV.lst (L.map fun l => PV.bl (holds l w))])
    rw [show lts L = .tup (L.map Lit.pv) from rfl] at sh'
    simp (config := { implicitDefEqProofs := false }) only [Vm.evF, Vm.evSs, Vm.evS, Vm.evX, Vm.evE, Vm.evEs, Vm.evIt, Vm.evPt, Vm.Res.bind_assoc, Vm.Res.bind_ok, Vm.Res.Ok_ok, Vm.bindT, Vm.setAll, Vm.boolOf, Vm.isNon, Vm.b_add, Vm.b_sub, Vm.a_add, Vm.c_eq, Vm.c_ne, Vm.c_lt, Vm.c_le, Vm.c_gt, Vm.c_ge, Vm.Bf_len, Vm.Bf_sum, Vm.Bf_min2, Vm.wipeE, Vm.Tg.slots, Vm.lcTurn, Vm.forTurn, List.map_cons, List.map_nil, List.length_cons, List.length_nil, List.length_map, List.cons_append, List.nil_append, List.getElem?_cons_zero, List.getElem?_cons_succ, List.set_cons_zero, List.set_cons_succ, List.reduceReplicate, Nat.reduceSub, Nat.reduceAdd, Nat.zero_add, Int.toNat_natCast, Bool.not_true, Bool.not_false, decide_true, decide_false, if_true, if_false, cn, sh', c_eqt]
    exact ⟨trivial, y7.trans (Ext.app _ _)⟩
theorem s_right {L : List Lit} (hN : 7 ≤ N) (ok : ∀ l ∈ L, Good l) (hL : L.length ≤ 20) : (sem Bf ds N 21 [lts L] h).Ok fun r h1 => r = .bl true ∧ Ext h h1 := by
  obtain ⟨N, rfl, k⟩ := pre hN (by decide)
  rw [sem_at (d := d__law_is_right) (L := 5) (b := b__law_is_right) rfl rfl rfl]
  have okl : ∀ l ∈ L, l.Ok := fun l hl => (ok l hl).1
  unfold b__law_is_right
  rw [show Sx.ret (.band (.cont true (.bl false) (.lc (.call 16 (.cons (.var 4) (.cons (.var 3) .nil))) (.one 4) (.seq (.var 0)) (.bl true))) (.cmp .eq (.bi 9 (.cons (.var 0) .nil)) (.var 2))) = lastX from rfl]
  generalize hX : lastX = X
  simp (config := { implicitDefEqProofs := false }) only [Vm.evF, Vm.evSs, Vm.evS, Vm.evX, Vm.evE, Vm.evEs, Vm.evIt, Vm.evPt, Vm.Res.bind_assoc, Vm.Res.bind_ok, Vm.Res.Ok_ok, Vm.bindT, Vm.setAll, Vm.boolOf, Vm.isNon, Vm.b_add, Vm.b_sub, Vm.a_add, Vm.c_eq, Vm.c_ne, Vm.c_lt, Vm.c_le, Vm.c_gt, Vm.c_ge, Vm.Bf_len, Vm.Bf_sum, Vm.Bf_min2, Vm.wipeE, Vm.Tg.slots, Vm.lcTurn, Vm.forTurn, List.map_cons, List.map_nil, List.length_cons, List.length_nil, List.length_map, List.cons_append, List.nil_append, List.getElem?_cons_zero, List.getElem?_cons_succ, List.set_cons_zero, List.set_cons_succ, List.reduceReplicate, Nat.reduceSub, Nat.reduceAdd, Nat.zero_add, Int.toNat_natCast, Bool.not_true, Bool.not_false, decide_true, decide_false, if_true, if_false]
  refine Res.ok_bind ((s_sorts (N := N) (h := h) (L := L) (by omega) ok hL).mono fun r h1 z => ?_)
  obtain ⟨⟨c, fs, rfl, ec, l3, ms, F⟩, x1⟩ := z
  have sh := fun h => show_sm (h := h) (sm_lts ok hL) (by decide) (by decide)
  rw [show PV.tup (L.map Lit.pv) = lts L from rfl] at sh
  generalize (dt (lts L)).shown = K at sh
  simp (config := { implicitDefEqProofs := false }) only [Vm.evF, Vm.evSs, Vm.evS, Vm.evX, Vm.evE, Vm.evEs, Vm.evIt, Vm.evPt, Vm.Res.bind_assoc, Vm.Res.bind_ok, Vm.Res.Ok_ok, Vm.bindT, Vm.setAll, Vm.boolOf, Vm.isNon, Vm.b_add, Vm.b_sub, Vm.a_add, Vm.c_eq, Vm.c_ne, Vm.c_lt, Vm.c_le, Vm.c_gt, Vm.c_ge, Vm.Bf_len, Vm.Bf_sum, Vm.Bf_min2, Vm.wipeE, Vm.Tg.slots, Vm.lcTurn, Vm.forTurn, List.map_cons, List.map_nil, List.length_cons, List.length_nil, List.length_map, List.cons_append, List.nil_append, List.getElem?_cons_zero, List.getElem?_cons_succ, List.set_cons_zero, List.set_cons_succ, List.reduceReplicate, Nat.reduceSub, Nat.reduceAdd, Nat.zero_add, Int.toNat_natCast, Bool.not_true, Bool.not_false, decide_true, decide_false, if_true, if_false, sh]
  refine Res.ok_bind ((s_tog (N := N) (h := h1) (L := L) (by omega) okl hL).mono fun r h2 z => ?_)
  obtain ⟨⟨o, rfl, to⟩, rfl⟩ := z
  have nl := new_ok (h := h2) (xs := []) (by decide)
  have e1 := (Ext.app h2 [HV.lst []]).get ec
  have e2 := at_end h2 (.lst [])
  have x2 := x1.trans (Ext.app h2 [HV.lst []])
  have sm : ∀ x ∈ fs.map PV.str, Sm 0 202 x := fun x hx => by
    obtain ⟨z, hz, rfl⟩ := List.mem_map.mp hx
    exact sm_txt (sorts_tx z (ms z hz))
  have eq := (eq_refnil e1 sm (by decide) e2).2
  rcases F with ⟨rfl, al⟩ | ⟨s, rest, rfl, ts⟩
  · have tn : Tog L none := .inr (.inr (.inr ⟨rfl, al 0 (by omega), al 1 (by omega), al 2 (by omega)⟩))
    have eo := tog_same (fun l => Iff.rfl) tn to
    subst eo
    have d : decide (([] : List Str).map PV.str = []) = true := rfl
    rw [d] at eq
    simp (config := { implicitDefEqProofs := false }) only [Vm.evF, Vm.evSs, Vm.evS, Vm.evX, Vm.evE, Vm.evEs, Vm.evIt, Vm.evPt, Vm.Res.bind_assoc, Vm.Res.bind_ok, Vm.Res.Ok_ok, Vm.bindT, Vm.setAll, Vm.boolOf, Vm.isNon, Vm.b_add, Vm.b_sub, Vm.a_add, Vm.c_eq, Vm.c_ne, Vm.c_lt, Vm.c_le, Vm.c_gt, Vm.c_ge, Vm.Bf_len, Vm.Bf_sum, Vm.Bf_min2, Vm.wipeE, Vm.Tg.slots, Vm.lcTurn, Vm.forTurn, List.map_cons, List.map_nil, List.length_cons, List.length_nil, List.length_map, List.cons_append, List.nil_append, List.getElem?_cons_zero, List.getElem?_cons_succ, List.set_cons_zero, List.set_cons_succ, List.reduceReplicate, Nat.reduceSub, Nat.reduceAdd, Nat.zero_add, Int.toNat_natCast, Bool.not_true, Bool.not_false, decide_true, decide_false, if_true, if_false, optS, rep_non, nl, eq, c_net]
    generalize h2 ++ [HV.lst []] = g at nl e1 e2 x2 eq
    refine Res.ok_bind ((s_typeby (N := N) (h := g) (L := L) (by omega) okl hL).mono fun r h3 z => ?_)
    obtain ⟨⟨o3, to3, q3⟩, rfl⟩ := z
    have eo3 := tog_same (fun l => Iff.rfl) tn to3
    subst eo3
    rcases q3 with ⟨e, _⟩ | ⟨_, w, rfl, al, iw, g0, b0⟩
    · exact absurd rfl e
    · have nl3 := new_ok (h := h3) (xs := []) (by decide)
      have e3 := (Ext.app h3 [HV.lst []]).get e1
      have e4 := at_end h3 (.lst [])
      have x3 := x2.trans (Ext.app h3 [HV.lst []])
      have eq3 := (eq_refnil e3 sm (by decide) e4).2
      rw [d] at eq3
      simp (config := { implicitDefEqProofs := false }) only [Vm.evF, Vm.evSs, Vm.evS, Vm.evX, Vm.evE, Vm.evEs, Vm.evIt, Vm.evPt, Vm.Res.bind_assoc, Vm.Res.bind_ok, Vm.Res.Ok_ok, Vm.bindT, Vm.setAll, Vm.boolOf, Vm.isNon, Vm.b_add, Vm.b_sub, Vm.a_add, Vm.c_eq, Vm.c_ne, Vm.c_lt, Vm.c_le, Vm.c_gt, Vm.c_ge, Vm.Bf_len, Vm.Bf_sum, Vm.Bf_min2, Vm.wipeE, Vm.Tg.slots, Vm.lcTurn, Vm.forTurn, List.map_cons, List.map_nil, List.length_cons, List.length_nil, List.length_map, List.cons_append, List.nil_append, List.getElem?_cons_zero, List.getElem?_cons_succ, List.set_cons_zero, List.set_cons_succ, List.reduceReplicate, Nat.reduceSub, Nat.reduceAdd, Nat.zero_add, Int.toNat_natCast, Bool.not_true, Bool.not_false, decide_true, decide_false, if_true, if_false, nl3, eq3]
      generalize h3 ++ [HV.lst []] = g3 at nl3 e3 e4 x3 eq3
      rw [show w.pv = .tup [.str w.t, .int w.g, optP w.b] from rfl]
      have d3 : decide (((0 + 1 + 1 + 1 : Nat) : Int) = 3) = true := by decide
      have d3' : decide (((3 : Nat) : Int) = 3) = true := by decide
      simp (config := { implicitDefEqProofs := false }) only [Vm.evF, Vm.evSs, Vm.evS, Vm.evX, Vm.evE, Vm.evEs, Vm.evIt, Vm.evPt, Vm.Res.bind_assoc, Vm.Res.bind_ok, Vm.Res.Ok_ok, Vm.bindT, Vm.setAll, Vm.boolOf, Vm.isNon, Vm.b_add, Vm.b_sub, Vm.a_add, Vm.c_eq, Vm.c_ne, Vm.c_lt, Vm.c_le, Vm.c_gt, Vm.c_ge, Vm.Bf_len, Vm.Bf_sum, Vm.Bf_min2, Vm.wipeE, Vm.Tg.slots, Vm.lcTurn, Vm.forTurn, List.map_cons, List.map_nil, List.length_cons, List.length_nil, List.length_map, List.cons_append, List.nil_append, List.getElem?_cons_zero, List.getElem?_cons_succ, List.set_cons_zero, List.set_cons_succ, List.reduceReplicate, Nat.reduceSub, Nat.reduceAdd, Nat.zero_add, Int.toNat_natCast, Bool.not_true, Bool.not_false, decide_true, decide_false, if_true, if_false, isF_tuple, d3, d3', ix0, ix1, ix2]
      refine Res.ok_bind ((isW (N := N) (h := g3) (z := w.t) (by omega) iw).mono fun r h4 z => ?_)
      obtain ⟨rfl, x4⟩ := z
      simp (config := { implicitDefEqProofs := false }) only [Vm.evF, Vm.evSs, Vm.evS, Vm.evX, Vm.evE, Vm.evEs, Vm.evIt, Vm.evPt, Vm.Res.bind_assoc, Vm.Res.bind_ok, Vm.Res.Ok_ok, Vm.bindT, Vm.setAll, Vm.boolOf, Vm.isNon, Vm.b_add, Vm.b_sub, Vm.a_add, Vm.c_eq, Vm.c_ne, Vm.c_lt, Vm.c_le, Vm.c_gt, Vm.c_ge, Vm.Bf_len, Vm.Bf_sum, Vm.Bf_min2, Vm.wipeE, Vm.Tg.slots, Vm.lcTurn, Vm.forTurn, List.map_cons, List.map_nil, List.length_cons, List.length_nil, List.length_map, List.cons_append, List.nil_append, List.getElem?_cons_zero, List.getElem?_cons_succ, List.set_cons_zero, List.set_cons_succ, List.reduceReplicate, Nat.reduceSub, Nat.reduceAdd, Nat.zero_add, Int.toNat_natCast, Bool.not_true, Bool.not_false, decide_true, decide_false, if_true, if_false, ix1, isN (N := N) (h := h4) (v := w.g) (l := 0) (by omega), g0]
      have x34 := x3.trans x4
      obtain ⟨wt, wg, wb⟩ := w
      cases wb with
      | none =>
        simp (config := { implicitDefEqProofs := false }) only [Vm.evF, Vm.evSs, Vm.evS, Vm.evX, Vm.evE, Vm.evEs, Vm.evIt, Vm.evPt, Vm.Res.bind_assoc, Vm.Res.bind_ok, Vm.Res.Ok_ok, Vm.bindT, Vm.setAll, Vm.boolOf, Vm.isNon, Vm.b_add, Vm.b_sub, Vm.a_add, Vm.c_eq, Vm.c_ne, Vm.c_lt, Vm.c_le, Vm.c_gt, Vm.c_ge, Vm.Bf_len, Vm.Bf_sum, Vm.Bf_min2, Vm.wipeE, Vm.Tg.slots, Vm.lcTurn, Vm.forTurn, List.map_cons, List.map_nil, List.length_cons, List.length_nil, List.length_map, List.cons_append, List.nil_append, List.getElem?_cons_zero, List.getElem?_cons_succ, List.set_cons_zero, List.set_cons_succ, List.reduceReplicate, Nat.reduceSub, Nat.reduceAdd, Nat.zero_add, Int.toNat_natCast, Bool.not_true, Bool.not_false, decide_true, decide_false, if_true, if_false, ix2, optP]
        rw [← hX, show PV.tup [.str wt, .int wg, .non] = (⟨wt, wg, none⟩ : Who).pv from rfl]
        refine Res.ok_bind ((s_last (N := N) (h := h4) (L := L) (w := ⟨wt, wg, none⟩) (by omega) okl hL al sh).mono fun o h5 z => ?_)
        obtain ⟨rfl, x5⟩ := z
        simp (config := { implicitDefEqProofs := false }) only [Vm.evF, Vm.evSs, Vm.evS, Vm.evX, Vm.evE, Vm.evEs, Vm.evIt, Vm.evPt, Vm.Res.bind_assoc, Vm.Res.bind_ok, Vm.Res.Ok_ok, Vm.bindT, Vm.setAll, Vm.boolOf, Vm.isNon, Vm.b_add, Vm.b_sub, Vm.a_add, Vm.c_eq, Vm.c_ne, Vm.c_lt, Vm.c_le, Vm.c_gt, Vm.c_ge, Vm.Bf_len, Vm.Bf_sum, Vm.Bf_min2, Vm.wipeE, Vm.Tg.slots, Vm.lcTurn, Vm.forTurn, List.map_cons, List.map_nil, List.length_cons, List.length_nil, List.length_map, List.cons_append, List.nil_append, List.getElem?_cons_zero, List.getElem?_cons_succ, List.set_cons_zero, List.set_cons_succ, List.reduceReplicate, Nat.reduceSub, Nat.reduceAdd, Nat.zero_add, Int.toNat_natCast, Bool.not_true, Bool.not_false, decide_true, decide_false, if_true, if_false]
        exact ⟨trivial, x34.trans x5⟩
      | some x =>
        have x0 : 0 ≤ x := b0 x rfl
        simp (config := { implicitDefEqProofs := false }) only [Vm.evF, Vm.evSs, Vm.evS, Vm.evX, Vm.evE, Vm.evEs, Vm.evIt, Vm.evPt, Vm.Res.bind_assoc, Vm.Res.bind_ok, Vm.Res.Ok_ok, Vm.bindT, Vm.setAll, Vm.boolOf, Vm.isNon, Vm.b_add, Vm.b_sub, Vm.a_add, Vm.c_eq, Vm.c_ne, Vm.c_lt, Vm.c_le, Vm.c_gt, Vm.c_ge, Vm.Bf_len, Vm.Bf_sum, Vm.Bf_min2, Vm.wipeE, Vm.Tg.slots, Vm.lcTurn, Vm.forTurn, List.map_cons, List.map_nil, List.length_cons, List.length_nil, List.length_map, List.cons_append, List.nil_append, List.getElem?_cons_zero, List.getElem?_cons_succ, List.set_cons_zero, List.set_cons_succ, List.reduceReplicate, Nat.reduceSub, Nat.reduceAdd, Nat.zero_add, Int.toNat_natCast, Bool.not_true, Bool.not_false, decide_true, decide_false, if_true, if_false, ix2, optP, isN (N := N) (h := h4) (v := x) (l := 0) (by omega), x0]
        rw [← hX, show PV.tup [.str wt, .int wg, .int x] = (⟨wt, wg, some x⟩ : Who).pv from rfl]
        refine Res.ok_bind ((s_last (N := N) (h := h4) (L := L) (w := ⟨wt, wg, some x⟩) (by omega) okl hL al sh).mono fun o h5 z => ?_)
        obtain ⟨rfl, x5⟩ := z
        simp (config := { implicitDefEqProofs := false }) only [Vm.evF, Vm.evSs, Vm.evS, Vm.evX, Vm.evE, Vm.evEs, Vm.evIt, Vm.evPt, Vm.Res.bind_assoc, Vm.Res.bind_ok, Vm.Res.Ok_ok, Vm.bindT, Vm.setAll, Vm.boolOf, Vm.isNon, Vm.b_add, Vm.b_sub, Vm.a_add, Vm.c_eq, Vm.c_ne, Vm.c_lt, Vm.c_le, Vm.c_gt, Vm.c_ge, Vm.Bf_len, Vm.Bf_sum, Vm.Bf_min2, Vm.wipeE, Vm.Tg.slots, Vm.lcTurn, Vm.forTurn, List.map_cons, List.map_nil, List.length_cons, List.length_nil, List.length_map, List.cons_append, List.nil_append, List.getElem?_cons_zero, List.getElem?_cons_succ, List.set_cons_zero, List.set_cons_succ, List.reduceReplicate, Nat.reduceSub, Nat.reduceAdd, Nat.zero_add, Int.toNat_natCast, Bool.not_true, Bool.not_false, decide_true, decide_false, if_true, if_false]
        exact ⟨trivial, x34.trans x5⟩
  · have eo := tog_same (fun l => Iff.rfl) ts to
    subst eo
    have tx := sorts_tx s (ms s List.mem_cons_self)
    have d : decide ((s :: rest).map PV.str = []) = false := by simp
    rw [d] at eq
    have ix : ixF (.ref c) (.int 0) (h2 ++ [HV.lst []]) = .ok (.str s) (h2 ++ [HV.lst []]) := ixF_rd (rd_ref e1) (by decide) rfl
    simp (config := { implicitDefEqProofs := false }) only [Vm.evF, Vm.evSs, Vm.evS, Vm.evX, Vm.evE, Vm.evEs, Vm.evIt, Vm.evPt, Vm.Res.bind_assoc, Vm.Res.bind_ok, Vm.Res.Ok_ok, Vm.bindT, Vm.setAll, Vm.boolOf, Vm.isNon, Vm.b_add, Vm.b_sub, Vm.a_add, Vm.c_eq, Vm.c_ne, Vm.c_lt, Vm.c_le, Vm.c_gt, Vm.c_ge, Vm.Bf_len, Vm.Bf_sum, Vm.Bf_min2, Vm.wipeE, Vm.Tg.slots, Vm.lcTurn, Vm.forTurn, List.map_cons, List.map_nil, List.length_cons, List.length_nil, List.length_map, List.cons_append, List.nil_append, List.getElem?_cons_zero, List.getElem?_cons_succ, List.set_cons_zero, List.set_cons_succ, List.reduceReplicate, Nat.reduceSub, Nat.reduceAdd, Nat.zero_add, Int.toNat_natCast, Bool.not_true, Bool.not_false, decide_true, decide_false, if_true, if_false, optS, rep_str tx, nl, eq, ix, c_net]
    generalize h2 ++ [HV.lst []] = g at nl e1 e2 x2 eq ix
    refine Res.ok_bind ((s_typeby (N := N) (h := g) (L := L) (by omega) okl hL).mono fun r h3 z => ?_)
    obtain ⟨⟨o3, to3, q3⟩, rfl⟩ := z
    have eo3 := tog_same (fun l => Iff.rfl) ts to3
    subst eo3
    rcases q3 with ⟨_, rfl⟩ | ⟨e, _⟩
    · have nl3 := new_ok (h := h3) (xs := []) (by decide)
      have e3 := (Ext.app h3 [HV.lst []]).get e1
      have e4 := at_end h3 (.lst [])
      have x3 := x2.trans (Ext.app h3 [HV.lst []])
      have eq3 := (eq_refnil e3 sm (by decide) e4).2
      rw [d] at eq3
      simp (config := { implicitDefEqProofs := false }) only [Vm.evF, Vm.evSs, Vm.evS, Vm.evX, Vm.evE, Vm.evEs, Vm.evIt, Vm.evPt, Vm.Res.bind_assoc, Vm.Res.bind_ok, Vm.Res.Ok_ok, Vm.bindT, Vm.setAll, Vm.boolOf, Vm.isNon, Vm.b_add, Vm.b_sub, Vm.a_add, Vm.c_eq, Vm.c_ne, Vm.c_lt, Vm.c_le, Vm.c_gt, Vm.c_ge, Vm.Bf_len, Vm.Bf_sum, Vm.Bf_min2, Vm.wipeE, Vm.Tg.slots, Vm.lcTurn, Vm.forTurn, List.map_cons, List.map_nil, List.length_cons, List.length_nil, List.length_map, List.cons_append, List.nil_append, List.getElem?_cons_zero, List.getElem?_cons_succ, List.set_cons_zero, List.set_cons_succ, List.reduceReplicate, Nat.reduceSub, Nat.reduceAdd, Nat.zero_add, Int.toNat_natCast, Bool.not_true, Bool.not_false, decide_true, decide_false, if_true, if_false, nl3, eq3, sh, c_eqt]
      exact ⟨trivial, x3⟩
    · cases e
end
end K05

set_option Elab.async false
set_option linter.all false
set_option maxRecDepth 100000
set_option maxHeartbeats 4000000
namespace K05
open PySem PySem.Spec PyProof.Rows L2 Vm L06 L07
def blk (m : Nat) : Str := Txt.slice lettersT (some (0 + (m : Int) * 4)) (some (0 + (m : Int) * 4 + 4))
def bus (m : Nat) : List Str := (blk m).cps.toList.map fun c => ⟨#[c]⟩
theorem bus_all : ((List.range 7).all fun m => decide (bus m ≠ []) && decide ((bus m).length ≤ 6) && decide ((bus m).Pairwise TLt) && (bus m).all isWB && decide (("other" : Str) ∉ bus m) && decide ((blk m).length ≤ 1000)) = true := by decide +kernel
theorem bus_ok {m : Nat} (h : m < 7) : Good (.tw false (bus m)) ∧ (blk m).length ≤ 1000 := by
  have q := List.all_eq_true.mp bus_all m (List.mem_range.mpr h)
  simp only [Bool.and_eq_true, decide_eq_true_eq, List.all_eq_true] at q
  obtain ⟨⟨⟨⟨⟨q1, q2⟩, q3⟩, q4⟩, q5⟩, q6⟩ := q
  exact ⟨⟨⟨q1, q2, q3, fun u hu => isW_of (q4 u hu)⟩, q5⟩, q6⟩
theorem bus_signs {m : Nat} : Vm.signs (blk m) = (bus m).map PV.str := by
  unfold bus Vm.signs
  rw [List.map_map]
  rfl
def sg (j : Nat) : Str := ⟨#[97 + j]⟩
def sg2 (j : Nat) : Str := repS (sg j) 2
theorem sg_all : ((List.range 26).all fun j => isWB (sg j) && isWB (sg2 j) && decide (TLt (sg j) (sg2 j)) && decide (sg j ≠ "other") && decide (sg2 j ≠ "other") && decide ((sg j).length ≤ 1000)) = true := by decide +kernel
theorem sg_ok {j : Nat} (h : j < 26) : Good (.tw true [sg j]) ∧ Good (.tw true [sg j, sg2 j]) ∧ (sg j).length ≤ 1000 := by
  have q := List.all_eq_true.mp sg_all j (List.mem_range.mpr h)
  simp only [Bool.and_eq_true, decide_eq_true_eq] at q
  obtain ⟨⟨⟨⟨⟨q1, q2⟩, q3⟩, q4⟩, q5⟩, q6⟩ := q
  refine ⟨⟨⟨by simp, by simp, by simp, fun u hu => ?_⟩, fun m => ?_⟩, ⟨⟨by simp, by simp, List.pairwise_cons.mpr ⟨fun y hy => by
    have : y = sg2 j := by simpa using hy
    subst this
    exact q3, List.pairwise_cons.mpr ⟨by simp, .nil⟩⟩, fun u hu => ?_⟩, fun m => ?_⟩, q6⟩
  · have : u = sg j := by simpa using hu
    subst this
    exact isW_of q1
  · have : ("other" : Str) = sg j := by simpa using m
    exact q4 this.symm
  · rcases List.mem_cons.mp hu with rfl | hu
    · exact isW_of q1
    · have : u = sg2 j := by simpa using hu
      subst this
      exact isW_of q2
  · rcases List.mem_cons.mp m with e | m
    · exact q4 e.symm
    · have : ("other" : Str) = sg2 j := by simpa using m
      exact q5 this.symm
theorem But.setn {a c : Nat} {h g : IH} {o : HV} (b : But a h g) (l : h.length ≤ c) : But a h (g.set c o) := ⟨by rw [List.length_set]; exact b.1, fun i hi n => by
  rw [set_other (by omega)]
  exact b.2 i hi n⟩
section
variable {h : IH} {N a p b n : Nat} {cs : List Int} {ts : List Str}
theorem s_lits {m : Nat} {src : Src} {fn : PV → IH → Res (Option PV)} {k0 : Nat} (hN : 3 ≤ N) (t : Tap h a p cs n) (hn : n + 20 * k0 ≤ 80000) (T : Tn h b ts) (nb : b ≠ a) (hs : src = .items (rngs 0 k0)) (hm : m = k0 + 1) (hk : k0 ≤ 100) (hfn : ∀ (k : Nat) h, fn (.int k) h = ((sem Bf ds N 15 [.ref a, .ref b] h).bind fun z h4 => .ok (some z) h4).calm) :
    (lcLoop src fn m 0 [] h).Ok fun acc h1 => ∃ L : List Lit, acc = L.map Lit.pv ∧ L.length = k0 ∧ (∀ l ∈ L, Good l) ∧ Tap h1 a p cs (n + 20 * k0) ∧ But a h h1 := by
  subst hs hm
  refine (lc_inv (xs := rngs 0 k0) (src := .items (rngs 0 k0)) (fun k acc h1 => ∃ L : List Lit, acc = L.map Lit.pv ∧ L.length = k ∧ (∀ l ∈ L, Good l) ∧ Tap h1 a p cs (n + 20 * k) ∧ But a h h1)
    (fun k acc h1 j => rfl) (by rw [rngs_len]; omega) (fun k x acc h1 e j => ?_) _ 0 [] h (by rw [rngs_len]; rfl) (Nat.zero_le _) (Nat.le_refl _) ⟨[], rfl, rfl, by simp, t, But.refl _ _⟩).mono fun acc h1 q => ?_
  · obtain ⟨L, rfl, lL, gL, t1, b1⟩ := j
    obtain ⟨hk, rfl⟩ := rngs0_at e
    rw [hfn]
    refine Res.calm_of ?_
    refine Res.ok_bind ((s_literal (N := N) (h := h1) (by omega) t1 (by omega) (T.but b1 nb) nb).mono fun r h2 q => ?_)
    obtain ⟨l, rfl, g, t2, b2⟩ := q
    refine ⟨L ++ [l], by rw [List.map_append]; rfl, by rw [List.length_append, lL]; rfl, fun z hz => ?_, t2.mono (by omega), b1.trans b2⟩
    rcases List.mem_append.mp hz with q | q
    · exact gL z q
    · have : z = l := by simpa using q
      subst this
      exact g
  · rw [rngs_len] at q
    exact q
theorem s_barred (hN : 4 ≤ N) (t : Tap h a p cs n) (hn : n ≤ 50000) (T : Tn h b ts) (nb : b ≠ a) : (sem Bf ds N 22 [.ref a, .ref b] h).Ok fun r h1 => ∃ L, r = lts L ∧ (∀ l ∈ L, Good l) ∧ L.length ≤ 20 ∧ Tap h1 a p cs (n + 200) ∧ But a h h1 := by
  obtain ⟨N, rfl, k⟩ := pre hN (by decide)
  rw [sem_at (d := d__law_barred) (L := 6) (b := b__law_barred) rfl rfl rfl]
  have r3 : rng3F (.int 0) (.int 26) (.int 4) h = .ok (.items ((List.range 7).map fun (m : Nat) => PV.int (0 + (m : Int) * 4))) h := rfl
  simp (config := { implicitDefEqProofs := false }) only [Vm.evF, Vm.evSs, Vm.evS, Vm.evX, Vm.evE, Vm.evEs, Vm.evIt, Vm.evPt, Vm.Res.bind_assoc, Vm.Res.bind_ok, Vm.Res.Ok_ok, Vm.bindT, Vm.setAll, Vm.boolOf, Vm.isNon, Vm.b_add, Vm.b_sub, Vm.a_add, Vm.c_eq, Vm.c_ne, Vm.c_lt, Vm.c_le, Vm.c_gt, Vm.c_ge, Vm.Bf_len, Vm.Bf_sum, Vm.Bf_min2, Vm.wipeE, Vm.Tg.slots, Vm.lcTurn, Vm.forTurn, List.map_cons, List.map_nil, List.length_cons, List.length_nil, List.length_map, List.cons_append, List.nil_append, List.getElem?_cons_zero, List.getElem?_cons_succ, List.set_cons_zero, List.set_cons_succ, List.reduceReplicate, Nat.reduceSub, Nat.reduceAdd, Nat.zero_add, Int.toNat_natCast, Bool.not_true, Bool.not_false, decide_true, decide_false, if_true, if_false, b__law_barred, r3]
  refine Res.ok_bind ((lc_map (xs := List.range 7) (f := fun (m : Nat) => PV.int (0 + (m : Int) * 4)) (g := fun m => (Lit.tw false (bus m)).pv) (h0 := h) get_items (by simp [Src.fuel]) (by simp) (fun m hm h2 y2 => ?_)).mono fun acc h2 z => ?_)
  · have mo := bus_ok (List.mem_range.mp hm)
    have sl : slcF (.str lettersT) (some (0 + (m : Int) * 4)) (some (0 + (m : Int) * 4 + 4)) h2 = .ok (.str (blk m)) h2 := by
      have : lettersT.length ≤ sizeLine := by rw [sizeLine_eq]; decide +kernel
      show (if lettersT.length ≤ sizeLine then (Res.ok (PV.str (blk m)) h2 : Res PV) else .stuck) = _
      rw [if_pos this]
    have bt : Bf 2 [.str (blk m)] h2 = .ok (.tup ((bus m).map PV.str)) h2 := by
      have : (blk m).length ≤ sizeLine := by have := mo.2; rw [sizeLine_eq]; omega
      show (if (blk m).length ≤ sizeLine then (Res.ok (PV.tup (Vm.signs (blk m))) h2 : Res PV) else .stuck) = _
      rw [if_pos this, bus_signs]
    have nt := newT_ok (h := h2) (xs := [.str "out", .tup ((bus m).map PV.str)]) (by simp)
    refine Res.calm_of ?_
    simp (config := { implicitDefEqProofs := false }) only [Vm.evF, Vm.evSs, Vm.evS, Vm.evX, Vm.evE, Vm.evEs, Vm.evIt, Vm.evPt, Vm.Res.bind_assoc, Vm.Res.bind_ok, Vm.Res.Ok_ok, Vm.bindT, Vm.setAll, Vm.boolOf, Vm.isNon, Vm.b_add, Vm.b_sub, Vm.a_add, Vm.c_eq, Vm.c_ne, Vm.c_lt, Vm.c_le, Vm.c_gt, Vm.c_ge, Vm.Bf_len, Vm.Bf_sum, Vm.Bf_min2, Vm.wipeE, Vm.Tg.slots, Vm.lcTurn, Vm.forTurn, List.map_cons, List.map_nil, List.length_cons, List.length_nil, List.length_map, List.cons_append, List.nil_append, List.getElem?_cons_zero, List.getElem?_cons_succ, List.set_cons_zero, List.set_cons_succ, List.reduceReplicate, Nat.reduceSub, Nat.reduceAdd, Nat.zero_add, Int.toNat_natCast, Bool.not_true, Bool.not_false, decide_true, decide_false, if_true, if_false, sl, bt, nt]
    exact ⟨rfl, Ext.refl _⟩
  obtain ⟨rfl, y2⟩ := z
  have e3 : (h2 ++ [HV.lst ((List.range 7).map fun m => (Lit.tw false (bus m)).pv)])[h2.length]? = some (.lst (((List.range 7).map fun m => Lit.tw false (bus m)).map Lit.pv)) := by
    rw [List.map_map]
    exact at_end _ _
  have y3 := y2.trans (Ext.app h2 [HV.lst ((List.range 7).map fun m => (Lit.tw false (bus m)).pv)])
  have g0 : ∀ l ∈ (List.range 7).map fun m => Lit.tw false (bus m), Good l := fun l hl => by
    obtain ⟨m, hm, rfl⟩ := List.mem_map.mp hl
    exact (bus_ok (List.mem_range.mp hm)).1
  have l0 : ((List.range 7).map fun m => Lit.tw false (bus m)).length = 7 := by simp
  have t3 := t.app y3
  have T3 : Tn (h2 ++ [HV.lst ((List.range 7).map fun m => (Lit.tw false (bus m)).pv)]) b ts := ⟨y3.get T.at', T.len, T.nd, T.ok⟩
  have lc3 : h.length ≤ h2.length := y2.len
  have tl := t.lt
  have bl := (List.getElem?_eq_some_iff.mp T.at').1
  try simp (config := { implicitDefEqProofs := false }) only [Vm.evF, Vm.evSs, Vm.evS, Vm.evX, Vm.evE, Vm.evEs, Vm.evIt, Vm.evPt, Vm.Res.bind_assoc, Vm.Res.bind_ok, Vm.Res.Ok_ok, Vm.bindT, Vm.setAll, Vm.boolOf, Vm.isNon, Vm.b_add, Vm.b_sub, Vm.a_add, Vm.c_eq, Vm.c_ne, Vm.c_lt, Vm.c_le, Vm.c_gt, Vm.c_ge, Vm.Bf_len, Vm.Bf_sum, Vm.Bf_min2, Vm.wipeE, Vm.Tg.slots, Vm.lcTurn, Vm.forTurn, List.map_cons, List.map_nil, List.length_cons, List.length_nil, List.length_map, List.cons_append, List.nil_append, List.getElem?_cons_zero, List.getElem?_cons_succ, List.set_cons_zero, List.set_cons_succ, List.reduceReplicate, Nat.reduceSub, Nat.reduceAdd, Nat.zero_add, Int.toNat_natCast, Bool.not_true, Bool.not_false, decide_true, decide_false, if_true, if_false]
  generalize hc : h2.length = c at e3 lc3
  generalize h2 ++ [HV.lst ((List.range 7).map fun m => (Lit.tw false (bus m)).pv)] = g1 at e3 y3 t3 T3
  generalize ((List.range 7).map fun m => Lit.tw false (bus m)) = M0 at e3 g0 l0
  simp (config := { implicitDefEqProofs := false }) only [Vm.evF, Vm.evSs, Vm.evS, Vm.evX, Vm.evE, Vm.evEs, Vm.evIt, Vm.evPt, Vm.Res.bind_assoc, Vm.Res.bind_ok, Vm.Res.Ok_ok, Vm.bindT, Vm.setAll, Vm.boolOf, Vm.isNon, Vm.b_add, Vm.b_sub, Vm.a_add, Vm.c_eq, Vm.c_ne, Vm.c_lt, Vm.c_le, Vm.c_gt, Vm.c_ge, Vm.Bf_len, Vm.Bf_sum, Vm.Bf_min2, Vm.wipeE, Vm.Tg.slots, Vm.lcTurn, Vm.forTurn, List.map_cons, List.map_nil, List.length_cons, List.length_nil, List.length_map, List.cons_append, List.nil_append, List.getElem?_cons_zero, List.getElem?_cons_succ, List.set_cons_zero, List.set_cons_succ, List.reduceReplicate, Nat.reduceSub, Nat.reduceAdd, Nat.zero_add, Int.toNat_natCast, Bool.not_true, Bool.not_false, decide_true, decide_false, if_true, if_false, lstC, e3]
  refine Res.ok_bind ((s_take (N := N) (h := g1) (k := 9) (by omega) t3 (by omega) (by omega) (by omega)).mono fun r h3 q => ?_)
  obtain ⟨i, rfl, i0, i1, t4, b4⟩ := q
  try simp (config := { implicitDefEqProofs := false }) only [Vm.evF, Vm.evSs, Vm.evS, Vm.evX, Vm.evE, Vm.evEs, Vm.evIt, Vm.evPt, Vm.Res.bind_assoc, Vm.Res.bind_ok, Vm.Res.Ok_ok, Vm.bindT, Vm.setAll, Vm.boolOf, Vm.isNon, Vm.b_add, Vm.b_sub, Vm.a_add, Vm.c_eq, Vm.c_ne, Vm.c_lt, Vm.c_le, Vm.c_gt, Vm.c_ge, Vm.Bf_len, Vm.Bf_sum, Vm.Bf_min2, Vm.wipeE, Vm.Tg.slots, Vm.lcTurn, Vm.forTurn, List.map_cons, List.map_nil, List.length_cons, List.length_nil, List.length_map, List.cons_append, List.nil_append, List.getElem?_cons_zero, List.getElem?_cons_succ, List.set_cons_zero, List.set_cons_succ, List.reduceReplicate, Nat.reduceSub, Nat.reduceAdd, Nat.zero_add, Int.toNat_natCast, Bool.not_true, Bool.not_false, decide_true, decide_false, if_true, if_false]
  rw [rng_if (by omega) (by omega)]
  try simp (config := { implicitDefEqProofs := false }) only [Vm.evF, Vm.evSs, Vm.evS, Vm.evX, Vm.evE, Vm.evEs, Vm.evIt, Vm.evPt, Vm.Res.bind_assoc, Vm.Res.bind_ok, Vm.Res.Ok_ok, Vm.bindT, Vm.setAll, Vm.boolOf, Vm.isNon, Vm.b_add, Vm.b_sub, Vm.a_add, Vm.c_eq, Vm.c_ne, Vm.c_lt, Vm.c_le, Vm.c_gt, Vm.c_ge, Vm.Bf_len, Vm.Bf_sum, Vm.Bf_min2, Vm.wipeE, Vm.Tg.slots, Vm.lcTurn, Vm.forTurn, List.map_cons, List.map_nil, List.length_cons, List.length_nil, List.length_map, List.cons_append, List.nil_append, List.getElem?_cons_zero, List.getElem?_cons_succ, List.set_cons_zero, List.set_cons_succ, List.reduceReplicate, Nat.reduceSub, Nat.reduceAdd, Nat.zero_add, Int.toNat_natCast, Bool.not_true, Bool.not_false, decide_true, decide_false, if_true, if_false]
  refine Res.ok_bind ((s_lits (N := N) (h := h3) (k0 := i.toNat) (by omega) t4 (by omega) (T3.but b4 nb) nb rfl (by simp [Src.fuel, rngs_len]) (by omega) (fun k h => by
    unfold lcTurn
    simp (config := { implicitDefEqProofs := false }) only [Vm.evF, Vm.evSs, Vm.evS, Vm.evX, Vm.evE, Vm.evEs, Vm.evIt, Vm.evPt, Vm.Res.bind_assoc, Vm.Res.bind_ok, Vm.Res.Ok_ok, Vm.bindT, Vm.setAll, Vm.boolOf, Vm.isNon, Vm.b_add, Vm.b_sub, Vm.a_add, Vm.c_eq, Vm.c_ne, Vm.c_lt, Vm.c_le, Vm.c_gt, Vm.c_ge, Vm.Bf_len, Vm.Bf_sum, Vm.Bf_min2, Vm.wipeE, Vm.Tg.slots, Vm.lcTurn, Vm.forTurn, List.map_cons, List.map_nil, List.length_cons, List.length_nil, List.length_map, List.cons_append, List.nil_append, List.getElem?_cons_zero, List.getElem?_cons_succ, List.set_cons_zero, List.set_cons_succ, List.reduceReplicate, Nat.reduceSub, Nat.reduceAdd, Nat.zero_add, Int.toNat_natCast, Bool.not_true, Bool.not_false, decide_true, decide_false, if_true, if_false])).mono fun acc h4 q => ?_)
  obtain ⟨M1, rfl, lM1, g1', t5, b5⟩ := q
  have e5 := at_end h4 (.lst (M1.map Lit.pv))
  have b6 : But a g1 (h4 ++ [HV.lst (M1.map Lit.pv)]) := But.app' (b4.trans b5)
  have t6 := t5.app (Ext.app h4 [HV.lst (M1.map Lit.pv)])
  try simp (config := { implicitDefEqProofs := false }) only [Vm.evF, Vm.evSs, Vm.evS, Vm.evX, Vm.evE, Vm.evEs, Vm.evIt, Vm.evPt, Vm.Res.bind_assoc, Vm.Res.bind_ok, Vm.Res.Ok_ok, Vm.bindT, Vm.setAll, Vm.boolOf, Vm.isNon, Vm.b_add, Vm.b_sub, Vm.a_add, Vm.c_eq, Vm.c_ne, Vm.c_lt, Vm.c_le, Vm.c_gt, Vm.c_ge, Vm.Bf_len, Vm.Bf_sum, Vm.Bf_min2, Vm.wipeE, Vm.Tg.slots, Vm.lcTurn, Vm.forTurn, List.map_cons, List.map_nil, List.length_cons, List.length_nil, List.length_map, List.cons_append, List.nil_append, List.getElem?_cons_zero, List.getElem?_cons_succ, List.set_cons_zero, List.set_cons_succ, List.reduceReplicate, Nat.reduceSub, Nat.reduceAdd, Nat.zero_add, Int.toNat_natCast, Bool.not_true, Bool.not_false, decide_true, decide_false, if_true, if_false]
  generalize h4 ++ [HV.lst (M1.map Lit.pv)] = g2 at e5 b6 t6
  have ec := b6.get (by omega) e3
  have ex := ext_ok (y := .ref h4.length) (ys := M1.map Lit.pv) ec (by simp only [rdX, e5]) (by rw [List.length_map, List.length_map]; omega)
  rw [← List.map_append] at ex
  have ec2 := set_same (o := .lst ((M0 ++ M1).map Lit.pv)) ec
  have t7 := t6.set (i := c) (o := .lst ((M0 ++ M1).map Lit.pv)) (by omega) (by omega)
  have b7 : But a h (g2.set c (.lst ((M0 ++ M1).map Lit.pv))) := But.setn ((But.of y3).trans b6) lc3
  have gM : ∀ l ∈ M0 ++ M1, Good l := fun l hl => by
    rcases List.mem_append.mp hl with q | q
    · exact g0 l q
    · exact g1' l q
  have lM : (M0 ++ M1).length ≤ 16 := by rw [List.length_append]; omega
  simp (config := { implicitDefEqProofs := false }) only [Vm.evF, Vm.evSs, Vm.evS, Vm.evX, Vm.evE, Vm.evEs, Vm.evIt, Vm.evPt, Vm.Res.bind_assoc, Vm.Res.bind_ok, Vm.Res.Ok_ok, Vm.bindT, Vm.setAll, Vm.boolOf, Vm.isNon, Vm.b_add, Vm.b_sub, Vm.a_add, Vm.c_eq, Vm.c_ne, Vm.c_lt, Vm.c_le, Vm.c_gt, Vm.c_ge, Vm.Bf_len, Vm.Bf_sum, Vm.Bf_min2, Vm.wipeE, Vm.Tg.slots, Vm.lcTurn, Vm.forTurn, List.map_cons, List.map_nil, List.length_cons, List.length_nil, List.length_map, List.cons_append, List.nil_append, List.getElem?_cons_zero, List.getElem?_cons_succ, List.set_cons_zero, List.set_cons_succ, List.reduceReplicate, Nat.reduceSub, Nat.reduceAdd, Nat.zero_add, Int.toNat_natCast, Bool.not_true, Bool.not_false, decide_true, decide_false, if_true, if_false, ex]
  generalize g2.set c (.lst ((M0 ++ M1).map Lit.pv)) = g3 at ex ec2 t7 b7
  generalize M0 ++ M1 = M at ec2 gM lM ex
  refine Res.ok_bind ((s_take (N := N) (h := g3) (k := 26) (by omega) t7 (by omega) (by omega) (by omega)).mono fun r h5 q => ?_)
  obtain ⟨j, rfl, j0, j1, t8, b8⟩ := q
  have so := sg_ok (j := j.toNat) (by omega)
  have lt := let_ok (j := j) (h := h5) j0 j1
  rw [show (⟨#[97 + j.toNat]⟩ : Str) = sg j.toNat from rfl] at lt
  generalize hj : j.toNat = jn at so lt
  have mu : ∀ h : IH, binF .mul (.str (sg jn)) (.int 2) h = .ok (.str (sg2 jn)) h := fun h => by
    show (if (0 : Int) ≤ 2 ∧ (2 : Int) ≤ 1000 ∧ (sg jn).length ≤ 1000 then (Res.ok (PV.str (repS (sg jn) 2)) h : Res PV) else .stuck) = _
    rw [if_pos ⟨by decide, by decide, so.2.2⟩]
    rfl
  have ec5 := b8.get (by omega) ec2
  have n1 := new_ok (h := h5) (xs := []) (by decide)
  have x1 := Ext.app h5 [HV.lst []]
  have f1 := at_end h5 (.lst (([] : List Lit).map Lit.pv))
  rw [show HV.lst (([] : List Lit).map Lit.pv) = HV.lst [] from rfl] at f1
  have u1 := fun (h : IH) => newT_ok (h := h) (xs := [.str (sg jn)]) (by simp)
  have u2 := fun (h : IH) => newT_ok (h := h) (xs := [.str "town", .tup [.str (sg jn)]]) (by simp)
  have u3 := fun (h : IH) => newT_ok (h := h) (xs := [.str (sg jn), .str (sg2 jn)]) (by simp)
  have u4 := fun (h : IH) => newT_ok (h := h) (xs := [.str "town", .tup [.str (sg jn), .str (sg2 jn)]]) (by simp)
  simp (config := { implicitDefEqProofs := false }) only [Vm.evF, Vm.evSs, Vm.evS, Vm.evX, Vm.evE, Vm.evEs, Vm.evIt, Vm.evPt, Vm.Res.bind_assoc, Vm.Res.bind_ok, Vm.Res.Ok_ok, Vm.bindT, Vm.setAll, Vm.boolOf, Vm.isNon, Vm.b_add, Vm.b_sub, Vm.a_add, Vm.c_eq, Vm.c_ne, Vm.c_lt, Vm.c_le, Vm.c_gt, Vm.c_ge, Vm.Bf_len, Vm.Bf_sum, Vm.Bf_min2, Vm.wipeE, Vm.Tg.slots, Vm.lcTurn, Vm.forTurn, List.map_cons, List.map_nil, List.length_cons, List.length_nil, List.length_map, List.cons_append, List.nil_append, List.getElem?_cons_zero, List.getElem?_cons_succ, List.set_cons_zero, List.set_cons_succ, List.reduceReplicate, Nat.reduceSub, Nat.reduceAdd, Nat.zero_add, Int.toNat_natCast, Bool.not_true, Bool.not_false, decide_true, decide_false, if_true, if_false, lt, n1]
  generalize hp1 : h5.length = p1 at f1 n1
  generalize h5 ++ [HV.lst []] = h6 at n1 x1 f1
  have n2 := new_ok (h := h6) (xs := [.tup [.str "town", .tup [.str (sg jn)]]]) (by simp)
  have x2 := Ext.app h6 [HV.lst [.tup [.str "town", .tup [.str (sg jn)]]]]
  have f2 := at_end h6 (.lst ([Lit.tw true [sg jn]].map Lit.pv))
  rw [show HV.lst ([Lit.tw true [sg jn]].map Lit.pv) = HV.lst [.tup [.str "town", .tup [.str (sg jn)]]] from rfl] at f2
  simp (config := { implicitDefEqProofs := false }) only [Vm.evF, Vm.evSs, Vm.evS, Vm.evX, Vm.evE, Vm.evEs, Vm.evIt, Vm.evPt, Vm.Res.bind_assoc, Vm.Res.bind_ok, Vm.Res.Ok_ok, Vm.bindT, Vm.setAll, Vm.boolOf, Vm.isNon, Vm.b_add, Vm.b_sub, Vm.a_add, Vm.c_eq, Vm.c_ne, Vm.c_lt, Vm.c_le, Vm.c_gt, Vm.c_ge, Vm.Bf_len, Vm.Bf_sum, Vm.Bf_min2, Vm.wipeE, Vm.Tg.slots, Vm.lcTurn, Vm.forTurn, List.map_cons, List.map_nil, List.length_cons, List.length_nil, List.length_map, List.cons_append, List.nil_append, List.getElem?_cons_zero, List.getElem?_cons_succ, List.set_cons_zero, List.set_cons_succ, List.reduceReplicate, Nat.reduceSub, Nat.reduceAdd, Nat.zero_add, Int.toNat_natCast, Bool.not_true, Bool.not_false, decide_true, decide_false, if_true, if_false, u1, u2, n2]
  generalize hp2 : h6.length = p2 at f2 n2
  generalize h6 ++ [HV.lst [PV.tup [.str "town", .tup [.str (sg jn)]]]] = h7 at n2 x2 f2
  have n3 := new_ok (h := h7) (xs := [.tup [.str "town", .tup [.str (sg jn), .str (sg2 jn)]]]) (by simp)
  have x3 := Ext.app h7 [HV.lst [.tup [.str "town", .tup [.str (sg jn), .str (sg2 jn)]]]]
  have f3 := at_end h7 (.lst ([Lit.tw true [sg jn, sg2 jn]].map Lit.pv))
  rw [show HV.lst ([Lit.tw true [sg jn, sg2 jn]].map Lit.pv) = HV.lst [.tup [.str "town", .tup [.str (sg jn), .str (sg2 jn)]]] from rfl] at f3
  simp (config := { implicitDefEqProofs := false }) only [Vm.evF, Vm.evSs, Vm.evS, Vm.evX, Vm.evE, Vm.evEs, Vm.evIt, Vm.evPt, Vm.Res.bind_assoc, Vm.Res.bind_ok, Vm.Res.Ok_ok, Vm.bindT, Vm.setAll, Vm.boolOf, Vm.isNon, Vm.b_add, Vm.b_sub, Vm.a_add, Vm.c_eq, Vm.c_ne, Vm.c_lt, Vm.c_le, Vm.c_gt, Vm.c_ge, Vm.Bf_len, Vm.Bf_sum, Vm.Bf_min2, Vm.wipeE, Vm.Tg.slots, Vm.lcTurn, Vm.forTurn, List.map_cons, List.map_nil, List.length_cons, List.length_nil, List.length_map, List.cons_append, List.nil_append, List.getElem?_cons_zero, List.getElem?_cons_succ, List.set_cons_zero, List.set_cons_succ, List.reduceReplicate, Nat.reduceSub, Nat.reduceAdd, Nat.zero_add, Int.toNat_natCast, Bool.not_true, Bool.not_false, decide_true, decide_false, if_true, if_false, mu, u3, u4, n3]
  generalize hp3 : h7.length = p3 at f3 n3
  generalize h7 ++ [HV.lst [PV.tup [.str "town", .tup [.str (sg jn), .str (sg2 jn)]]]] = h8 at n3 x3 f3
  have n4 := new_ok (h := h8) (xs := [.ref p1, .ref p2, .ref p3]) (by simp)
  have x4 := Ext.app h8 [HV.lst [.ref p1, .ref p2, .ref p3]]
  have f4 := at_end h8 (.lst [PV.ref p1, .ref p2, .ref p3])
  simp (config := { implicitDefEqProofs := false }) only [Vm.evF, Vm.evSs, Vm.evS, Vm.evX, Vm.evE, Vm.evEs, Vm.evIt, Vm.evPt, Vm.Res.bind_assoc, Vm.Res.bind_ok, Vm.Res.Ok_ok, Vm.bindT, Vm.setAll, Vm.boolOf, Vm.isNon, Vm.b_add, Vm.b_sub, Vm.a_add, Vm.c_eq, Vm.c_ne, Vm.c_lt, Vm.c_le, Vm.c_gt, Vm.c_ge, Vm.Bf_len, Vm.Bf_sum, Vm.Bf_min2, Vm.wipeE, Vm.Tg.slots, Vm.lcTurn, Vm.forTurn, List.map_cons, List.map_nil, List.length_cons, List.length_nil, List.length_map, List.cons_append, List.nil_append, List.getElem?_cons_zero, List.getElem?_cons_succ, List.set_cons_zero, List.set_cons_succ, List.reduceReplicate, Nat.reduceSub, Nat.reduceAdd, Nat.zero_add, Int.toNat_natCast, Bool.not_true, Bool.not_false, decide_true, decide_false, if_true, if_false, n4]
  have X := ((x1.trans x2).trans x3).trans x4
  have a5 := t8.lt
  have na4 : h8.length ≠ a := by have := ((x1.trans x2).trans x3).len; omega
  have n1a : p1 ≠ a := by omega
  have n2a : p2 ≠ a := by have := x1.len; omega
  have n3a : p3 ≠ a := by have := (x1.trans x2).len; omega
  generalize hp4 : h8.length = p4 at f4 n4 na4
  generalize h8 ++ [HV.lst [PV.ref p1, .ref p2, .ref p3]] = h9 at n4 x4 f4 X
  have F1 := (x2.trans (x3.trans x4)).get f1
  have F2 := (x3.trans x4).get f2
  have F3 := x4.get f3
  have EC := X.get ec5
  have t9 := t8.app X
  refine Res.ok_bind ((s_take (N := N) (h := h9) (k := 3) (by omega) t9 (by omega) (by omega) (by omega)).mono fun r h10 q => ?_)
  obtain ⟨e, rfl, e0, e1, t10, b10⟩ := q
  have fin : ∃ (q : Nat) (E : List Lit), ixF (.ref p4) (.int e) h10 = .ok (.ref q) h10 ∧ h10[q]? = some (.lst (E.map Lit.pv)) ∧ E.length ≤ 1 ∧ ∀ l ∈ E, Good l := by
    have f4' := b10.get na4 f4
    rcases (show e = 0 ∨ e = 1 ∨ e = 2 by omega) with rfl | rfl | rfl
    · exact ⟨p1, [], ixF_rd (rd_ref f4') (by decide) rfl, b10.get n1a F1, by simp, by simp⟩
    · exact ⟨p2, [.tw true [sg jn]], ixF_rd (rd_ref f4') (by decide) rfl, b10.get n2a F2, by simp, fun l hl => by
        have : l = .tw true [sg jn] := by simpa using hl
        subst this
        exact so.1⟩
    · exact ⟨p3, [.tw true [sg jn, sg2 jn]], ixF_rd (rd_ref f4') (by decide) rfl, b10.get n3a F3, by simp, fun l hl => by
        have : l = .tw true [sg jn, sg2 jn] := by simpa using hl
        subst this
        exact so.2.1⟩
  obtain ⟨q, E, ix, eE, lE, gE⟩ := fin
  have EC10 := b10.get (by omega) EC
  have ad := add_refs EC10 eE (by rw [List.length_map, List.length_map]; omega)
  rw [← List.map_append] at ad
  have bt := Bf_tuple (at_end h10 (.lst ((M ++ E).map Lit.pv)))
  simp (config := { implicitDefEqProofs := false }) only [Vm.evF, Vm.evSs, Vm.evS, Vm.evX, Vm.evE, Vm.evEs, Vm.evIt, Vm.evPt, Vm.Res.bind_assoc, Vm.Res.bind_ok, Vm.Res.Ok_ok, Vm.bindT, Vm.setAll, Vm.boolOf, Vm.isNon, Vm.b_add, Vm.b_sub, Vm.a_add, Vm.c_eq, Vm.c_ne, Vm.c_lt, Vm.c_le, Vm.c_gt, Vm.c_ge, Vm.Bf_len, Vm.Bf_sum, Vm.Bf_min2, Vm.wipeE, Vm.Tg.slots, Vm.lcTurn, Vm.forTurn, List.map_cons, List.map_nil, List.length_cons, List.length_nil, List.length_map, List.cons_append, List.nil_append, List.getElem?_cons_zero, List.getElem?_cons_succ, List.set_cons_zero, List.set_cons_succ, List.reduceReplicate, Nat.reduceSub, Nat.reduceAdd, Nat.zero_add, Int.toNat_natCast, Bool.not_true, Bool.not_false, decide_true, decide_false, if_true, if_false, ix, ad, bt]
  exact ⟨M ++ E, rfl, fun l hl => by
    rcases List.mem_append.mp hl with z | z
    · exact gM l z
    · exact gE l z, by rw [List.length_append]; omega, (t10.app (Ext.app _ _)).mono (by omega), But.app' (((b7.trans b8).trans (But.of X)).trans b10)⟩
def lpB : Ss := .cons (.x (.set (.one 4) (.ix (.lst (.cons (.call 11 (.cons (.var 1) (.cons (.int 4) .nil))) (.cons (.call 11 (.cons (.var 1) (.cons (.int 19) .nil))) .nil))) (.call 11 (.cons (.var 1) (.cons (.int 2) .nil)))))) (.cons (.ifs (.not (.call 21 (.cons (.bi 2 (.cons (.lc (.call 15 (.cons (.var 1) (.cons (.var 2) .nil))) (.one 5) (.rng (.var 4)) (.bl true)) .nil)) .nil))) (.cons (.x (.ret (.bl false))) .nil) (.nil)) .nil)
theorem law_eq : b_law = .cons (.x (.set (.one 1) (.call 10 (.cons (.var 0) .nil)))) (.cons (.x (.set (.one 2) (.call 12 (.cons (.var 1) .nil)))) (.cons (.ifs (.not (.call 21 (.cons (.call 22 (.cons (.var 1) (.cons (.var 2) .nil))) .nil))) (.cons (.x (.ret (.bl false))) .nil) (.nil)) (.cons (.for (.one 3) (.rng (.int 6)) lpB) (.cons (.x (.ret (.bl true))) .nil)))) := rfl
theorem s_lp {v0 v3 : PV} {o4 o5 : Option PV} (hN : 9 ≤ N) (t : Tap h a p cs n) (hn : n ≤ 50000) (T : Tn h b ts) (nb : b ≠ a) :
    (evSs (sem Bf ds N) Bf lpB [some v0, some (.ref a), some (.ref b), some v3, o4, o5] h).Ok fun o h1 => (∃ u v, o = .nx [some v0, some (.ref a), some (.ref b), some v3, u, v]) ∧ Tap h1 a p cs (n + 400) ∧ But a h h1 := by
  unfold lpB
  simp (config := { implicitDefEqProofs := false }) only [Vm.evF, Vm.evSs, Vm.evS, Vm.evX, Vm.evE, Vm.evEs, Vm.evIt, Vm.evPt, Vm.Res.bind_assoc, Vm.Res.bind_ok, Vm.Res.Ok_ok, Vm.bindT, Vm.setAll, Vm.boolOf, Vm.isNon, Vm.b_add, Vm.b_sub, Vm.a_add, Vm.c_eq, Vm.c_ne, Vm.c_lt, Vm.c_le, Vm.c_gt, Vm.c_ge, Vm.Bf_len, Vm.Bf_sum, Vm.Bf_min2, Vm.wipeE, Vm.Tg.slots, Vm.lcTurn, Vm.forTurn, List.map_cons, List.map_nil, List.length_cons, List.length_nil, List.length_map, List.cons_append, List.nil_append, List.getElem?_cons_zero, List.getElem?_cons_succ, List.set_cons_zero, List.set_cons_succ, List.reduceReplicate, Nat.reduceSub, Nat.reduceAdd, Nat.zero_add, Int.toNat_natCast, Bool.not_true, Bool.not_false, decide_true, decide_false, if_true, if_false]
  refine Res.ok_bind ((s_take (N := N) (h := h) (k := 4) (by omega) t (by omega) (by omega) (by omega)).mono fun r h1 q => ?_)
  obtain ⟨i, rfl, i0, i1, t1, b1⟩ := q
  try simp (config := { implicitDefEqProofs := false }) only [Vm.evF, Vm.evSs, Vm.evS, Vm.evX, Vm.evE, Vm.evEs, Vm.evIt, Vm.evPt, Vm.Res.bind_assoc, Vm.Res.bind_ok, Vm.Res.Ok_ok, Vm.bindT, Vm.setAll, Vm.boolOf, Vm.isNon, Vm.b_add, Vm.b_sub, Vm.a_add, Vm.c_eq, Vm.c_ne, Vm.c_lt, Vm.c_le, Vm.c_gt, Vm.c_ge, Vm.Bf_len, Vm.Bf_sum, Vm.Bf_min2, Vm.wipeE, Vm.Tg.slots, Vm.lcTurn, Vm.forTurn, List.map_cons, List.map_nil, List.length_cons, List.length_nil, List.length_map, List.cons_append, List.nil_append, List.getElem?_cons_zero, List.getElem?_cons_succ, List.set_cons_zero, List.set_cons_succ, List.reduceReplicate, Nat.reduceSub, Nat.reduceAdd, Nat.zero_add, Int.toNat_natCast, Bool.not_true, Bool.not_false, decide_true, decide_false, if_true, if_false]
  refine Res.ok_bind ((s_take (N := N) (h := h1) (k := 19) (by omega) t1 (by omega) (by omega) (by omega)).mono fun r h2 q => ?_)
  obtain ⟨j, rfl, j0, j1, t2, b2⟩ := q
  have nl := new_ok (h := h2) (xs := [.int i, .int j]) (by simp)
  have e1 := at_end h2 (.lst (([i, j] : List Int).map PV.int))
  rw [show HV.lst (([i, j] : List Int).map PV.int) = HV.lst [.int i, .int j] from rfl] at e1
  have t3 := t2.app (Ext.app h2 [HV.lst [.int i, .int j]])
  have b3 : But a h (h2 ++ [HV.lst [.int i, .int j]]) := But.app' (b1.trans b2)
  have na : h2.length ≠ a := by have := t2.lt; omega
  simp (config := { implicitDefEqProofs := false }) only [Vm.evF, Vm.evSs, Vm.evS, Vm.evX, Vm.evE, Vm.evEs, Vm.evIt, Vm.evPt, Vm.Res.bind_assoc, Vm.Res.bind_ok, Vm.Res.Ok_ok, Vm.bindT, Vm.setAll, Vm.boolOf, Vm.isNon, Vm.b_add, Vm.b_sub, Vm.a_add, Vm.c_eq, Vm.c_ne, Vm.c_lt, Vm.c_le, Vm.c_gt, Vm.c_ge, Vm.Bf_len, Vm.Bf_sum, Vm.Bf_min2, Vm.wipeE, Vm.Tg.slots, Vm.lcTurn, Vm.forTurn, List.map_cons, List.map_nil, List.length_cons, List.length_nil, List.length_map, List.cons_append, List.nil_append, List.getElem?_cons_zero, List.getElem?_cons_succ, List.set_cons_zero, List.set_cons_succ, List.reduceReplicate, Nat.reduceSub, Nat.reduceAdd, Nat.zero_add, Int.toNat_natCast, Bool.not_true, Bool.not_false, decide_true, decide_false, if_true, if_false, nl]
  generalize h2.length = c at e1 nl na
  generalize h2 ++ [HV.lst [PV.int i, .int j]] = g at nl e1 t3 b3
  refine Res.ok_bind ((s_take (N := N) (h := g) (k := 2) (by omega) t3 (by omega) (by omega) (by omega)).mono fun r h3 q => ?_)
  obtain ⟨e, rfl, e0, e1', t4, b4⟩ := q
  have fin : ∃ z : Int, ixF (.ref c) (.int e) h3 = .ok (.int z) h3 ∧ 0 ≤ z ∧ z ≤ 18 := by
    have f := b4.get na e1
    rcases (show e = 0 ∨ e = 1 by omega) with rfl | rfl
    · exact ⟨i, ixF_rd (rd_ref f) (by decide) rfl, i0, by omega⟩
    · exact ⟨j, ixF_rd (rd_ref f) (by decide) rfl, j0, by omega⟩
  obtain ⟨z, ix, z0, z1⟩ := fin
  have b34 := b3.trans b4
  simp (config := { implicitDefEqProofs := false }) only [Vm.evF, Vm.evSs, Vm.evS, Vm.evX, Vm.evE, Vm.evEs, Vm.evIt, Vm.evPt, Vm.Res.bind_assoc, Vm.Res.bind_ok, Vm.Res.Ok_ok, Vm.bindT, Vm.setAll, Vm.boolOf, Vm.isNon, Vm.b_add, Vm.b_sub, Vm.a_add, Vm.c_eq, Vm.c_ne, Vm.c_lt, Vm.c_le, Vm.c_gt, Vm.c_ge, Vm.Bf_len, Vm.Bf_sum, Vm.Bf_min2, Vm.wipeE, Vm.Tg.slots, Vm.lcTurn, Vm.forTurn, List.map_cons, List.map_nil, List.length_cons, List.length_nil, List.length_map, List.cons_append, List.nil_append, List.getElem?_cons_zero, List.getElem?_cons_succ, List.set_cons_zero, List.set_cons_succ, List.reduceReplicate, Nat.reduceSub, Nat.reduceAdd, Nat.zero_add, Int.toNat_natCast, Bool.not_true, Bool.not_false, decide_true, decide_false, if_true, if_false, ix]
  rw [rng_if (by omega) (by omega)]
  try simp (config := { implicitDefEqProofs := false }) only [Vm.evF, Vm.evSs, Vm.evS, Vm.evX, Vm.evE, Vm.evEs, Vm.evIt, Vm.evPt, Vm.Res.bind_assoc, Vm.Res.bind_ok, Vm.Res.Ok_ok, Vm.bindT, Vm.setAll, Vm.boolOf, Vm.isNon, Vm.b_add, Vm.b_sub, Vm.a_add, Vm.c_eq, Vm.c_ne, Vm.c_lt, Vm.c_le, Vm.c_gt, Vm.c_ge, Vm.Bf_len, Vm.Bf_sum, Vm.Bf_min2, Vm.wipeE, Vm.Tg.slots, Vm.lcTurn, Vm.forTurn, List.map_cons, List.map_nil, List.length_cons, List.length_nil, List.length_map, List.cons_append, List.nil_append, List.getElem?_cons_zero, List.getElem?_cons_succ, List.set_cons_zero, List.set_cons_succ, List.reduceReplicate, Nat.reduceSub, Nat.reduceAdd, Nat.zero_add, Int.toNat_natCast, Bool.not_true, Bool.not_false, decide_true, decide_false, if_true, if_false]
  refine Res.ok_bind ((s_lits (N := N) (h := h3) (k0 := z.toNat) (by omega) t4 (by omega) (T.but b34 nb) nb rfl (by simp [Src.fuel, rngs_len]) (by omega) (fun k h => by
    unfold lcTurn
    simp (config := { implicitDefEqProofs := false }) only [Vm.evF, Vm.evSs, Vm.evS, Vm.evX, Vm.evE, Vm.evEs, Vm.evIt, Vm.evPt, Vm.Res.bind_assoc, Vm.Res.bind_ok, Vm.Res.Ok_ok, Vm.bindT, Vm.setAll, Vm.boolOf, Vm.isNon, Vm.b_add, Vm.b_sub, Vm.a_add, Vm.c_eq, Vm.c_ne, Vm.c_lt, Vm.c_le, Vm.c_gt, Vm.c_ge, Vm.Bf_len, Vm.Bf_sum, Vm.Bf_min2, Vm.wipeE, Vm.Tg.slots, Vm.lcTurn, Vm.forTurn, List.map_cons, List.map_nil, List.length_cons, List.length_nil, List.length_map, List.cons_append, List.nil_append, List.getElem?_cons_zero, List.getElem?_cons_succ, List.set_cons_zero, List.set_cons_succ, List.reduceReplicate, Nat.reduceSub, Nat.reduceAdd, Nat.zero_add, Int.toNat_natCast, Bool.not_true, Bool.not_false, decide_true, decide_false, if_true, if_false])).mono fun acc h4 q => ?_)
  obtain ⟨L, rfl, lL, gL, t5, b5⟩ := q
  have bt := Bf_tuple (at_end h4 (.lst (L.map Lit.pv)))
  have t6 := t5.app (Ext.app h4 [HV.lst (L.map Lit.pv)])
  have b6 : But a h (h4 ++ [HV.lst (L.map Lit.pv)]) := But.app' (b34.trans b5)
  simp (config := { implicitDefEqProofs := false }) only [Vm.evF, Vm.evSs, Vm.evS, Vm.evX, Vm.evE, Vm.evEs, Vm.evIt, Vm.evPt, Vm.Res.bind_assoc, Vm.Res.bind_ok, Vm.Res.Ok_ok, Vm.bindT, Vm.setAll, Vm.boolOf, Vm.isNon, Vm.b_add, Vm.b_sub, Vm.a_add, Vm.c_eq, Vm.c_ne, Vm.c_lt, Vm.c_le, Vm.c_gt, Vm.c_ge, Vm.Bf_len, Vm.Bf_sum, Vm.Bf_min2, Vm.wipeE, Vm.Tg.slots, Vm.lcTurn, Vm.forTurn, List.map_cons, List.map_nil, List.length_cons, List.length_nil, List.length_map, List.cons_append, List.nil_append, List.getElem?_cons_zero, List.getElem?_cons_succ, List.set_cons_zero, List.set_cons_succ, List.reduceReplicate, Nat.reduceSub, Nat.reduceAdd, Nat.zero_add, Int.toNat_natCast, Bool.not_true, Bool.not_false, decide_true, decide_false, if_true, if_false, bt]
  generalize h4 ++ [HV.lst (L.map Lit.pv)] = g6 at t6 b6
  rw [show PV.tup (L.map Lit.pv) = lts L from rfl]
  refine Res.ok_bind ((s_right (N := N) (h := g6) (L := L) (by omega) gL (by omega)).mono fun r h7 q => ?_)
  obtain ⟨rfl, x7⟩ := q
  simp (config := { implicitDefEqProofs := false }) only [Vm.evF, Vm.evSs, Vm.evS, Vm.evX, Vm.evE, Vm.evEs, Vm.evIt, Vm.evPt, Vm.Res.bind_assoc, Vm.Res.bind_ok, Vm.Res.Ok_ok, Vm.bindT, Vm.setAll, Vm.boolOf, Vm.isNon, Vm.b_add, Vm.b_sub, Vm.a_add, Vm.c_eq, Vm.c_ne, Vm.c_lt, Vm.c_le, Vm.c_gt, Vm.c_ge, Vm.Bf_len, Vm.Bf_sum, Vm.Bf_min2, Vm.wipeE, Vm.Tg.slots, Vm.lcTurn, Vm.forTurn, List.map_cons, List.map_nil, List.length_cons, List.length_nil, List.length_map, List.cons_append, List.nil_append, List.getElem?_cons_zero, List.getElem?_cons_succ, List.set_cons_zero, List.set_cons_succ, List.reduceReplicate, Nat.reduceSub, Nat.reduceAdd, Nat.zero_add, Int.toNat_natCast, Bool.not_true, Bool.not_false, decide_true, decide_false, if_true, if_false]
  exact ⟨⟨_, _, rfl⟩, (t6.app x7).mono (by omega), b6.trans (But.of x7)⟩
theorem main (ns : List Int) (hl : ns.length ≤ 63) : ∃ h', sem Bf ds 12 0 [.fl (ns.map PV.int)] [] = .ok (.bl true) h' := by
  have key : (sem Bf ds 12 0 [.fl (ns.map PV.int)] []).Ok fun r h1 => r = .bl true := by
    rw [sem_at (n := 11) (d := d_law) (L := 6) (b := b_law) rfl rfl rfl, law_eq]
    generalize hO : lpB = O
    simp (config := { implicitDefEqProofs := false }) only [Vm.evF, Vm.evSs, Vm.evS, Vm.evX, Vm.evE, Vm.evEs, Vm.evIt, Vm.evPt, Vm.Res.bind_assoc, Vm.Res.bind_ok, Vm.Res.Ok_ok, Vm.bindT, Vm.setAll, Vm.boolOf, Vm.isNon, Vm.b_add, Vm.b_sub, Vm.a_add, Vm.c_eq, Vm.c_ne, Vm.c_lt, Vm.c_le, Vm.c_gt, Vm.c_ge, Vm.Bf_len, Vm.Bf_sum, Vm.Bf_min2, Vm.wipeE, Vm.Tg.slots, Vm.lcTurn, Vm.forTurn, List.map_cons, List.map_nil, List.length_cons, List.length_nil, List.length_map, List.cons_append, List.nil_append, List.getElem?_cons_zero, List.getElem?_cons_succ, List.set_cons_zero, List.set_cons_succ, List.reduceReplicate, Nat.reduceSub, Nat.reduceAdd, Nat.zero_add, Int.toNat_natCast, Bool.not_true, Bool.not_false, decide_true, decide_false, if_true, if_false]
    refine Res.ok_bind ((s_tap (N := 11) (ns := ns) (by omega)).mono fun r h1 q => ?_)
    obtain ⟨a, p, cs, rfl, t1⟩ := q
    try simp (config := { implicitDefEqProofs := false }) only [Vm.evF, Vm.evSs, Vm.evS, Vm.evX, Vm.evE, Vm.evEs, Vm.evIt, Vm.evPt, Vm.Res.bind_assoc, Vm.Res.bind_ok, Vm.Res.Ok_ok, Vm.bindT, Vm.setAll, Vm.boolOf, Vm.isNon, Vm.b_add, Vm.b_sub, Vm.a_add, Vm.c_eq, Vm.c_ne, Vm.c_lt, Vm.c_le, Vm.c_gt, Vm.c_ge, Vm.Bf_len, Vm.Bf_sum, Vm.Bf_min2, Vm.wipeE, Vm.Tg.slots, Vm.lcTurn, Vm.forTurn, List.map_cons, List.map_nil, List.length_cons, List.length_nil, List.length_map, List.cons_append, List.nil_append, List.getElem?_cons_zero, List.getElem?_cons_succ, List.set_cons_zero, List.set_cons_succ, List.reduceReplicate, Nat.reduceSub, Nat.reduceAdd, Nat.zero_add, Int.toNat_natCast, Bool.not_true, Bool.not_false, decide_true, decide_false, if_true, if_false]
    refine Res.ok_bind ((s_towns (N := 11) (h := h1) (by omega) t1 (by omega)).mono fun r h2 q => ?_)
    obtain ⟨b, ts, rfl, e2, k1, k2, k3, t2, nb, np⟩ := q
    have T2 : Tn h2 b ts := ⟨e2, k1, k2, k3⟩
    try simp (config := { implicitDefEqProofs := false }) only [Vm.evF, Vm.evSs, Vm.evS, Vm.evX, Vm.evE, Vm.evEs, Vm.evIt, Vm.evPt, Vm.Res.bind_assoc, Vm.Res.bind_ok, Vm.Res.Ok_ok, Vm.bindT, Vm.setAll, Vm.boolOf, Vm.isNon, Vm.b_add, Vm.b_sub, Vm.a_add, Vm.c_eq, Vm.c_ne, Vm.c_lt, Vm.c_le, Vm.c_gt, Vm.c_ge, Vm.Bf_len, Vm.Bf_sum, Vm.Bf_min2, Vm.wipeE, Vm.Tg.slots, Vm.lcTurn, Vm.forTurn, List.map_cons, List.map_nil, List.length_cons, List.length_nil, List.length_map, List.cons_append, List.nil_append, List.getElem?_cons_zero, List.getElem?_cons_succ, List.set_cons_zero, List.set_cons_succ, List.reduceReplicate, Nat.reduceSub, Nat.reduceAdd, Nat.zero_add, Int.toNat_natCast, Bool.not_true, Bool.not_false, decide_true, decide_false, if_true, if_false]
    refine Res.ok_bind ((s_barred (N := 11) (h := h2) (by omega) t2 (by omega) T2 nb).mono fun r h3 q => ?_)
    obtain ⟨L, rfl, gL, lL, t3, b3⟩ := q
    try simp (config := { implicitDefEqProofs := false }) only [Vm.evF, Vm.evSs, Vm.evS, Vm.evX, Vm.evE, Vm.evEs, Vm.evIt, Vm.evPt, Vm.Res.bind_assoc, Vm.Res.bind_ok, Vm.Res.Ok_ok, Vm.bindT, Vm.setAll, Vm.boolOf, Vm.isNon, Vm.b_add, Vm.b_sub, Vm.a_add, Vm.c_eq, Vm.c_ne, Vm.c_lt, Vm.c_le, Vm.c_gt, Vm.c_ge, Vm.Bf_len, Vm.Bf_sum, Vm.Bf_min2, Vm.wipeE, Vm.Tg.slots, Vm.lcTurn, Vm.forTurn, List.map_cons, List.map_nil, List.length_cons, List.length_nil, List.length_map, List.cons_append, List.nil_append, List.getElem?_cons_zero, List.getElem?_cons_succ, List.set_cons_zero, List.set_cons_succ, List.reduceReplicate, Nat.reduceSub, Nat.reduceAdd, Nat.zero_add, Int.toNat_natCast, Bool.not_true, Bool.not_false, decide_true, decide_false, if_true, if_false]
    refine Res.ok_bind ((s_right (N := 11) (h := h3) (L := L) (by omega) gL lL).mono fun r h4 q => ?_)
    obtain ⟨rfl, x4⟩ := q
    have t4 := t3.app x4
    have T4 : Tn h4 b ts := T2.but (b3.trans (But.of x4)) nb
    simp (config := { implicitDefEqProofs := false }) only [Vm.evF, Vm.evSs, Vm.evS, Vm.evX, Vm.evE, Vm.evEs, Vm.evIt, Vm.evPt, Vm.Res.bind_assoc, Vm.Res.bind_ok, Vm.Res.Ok_ok, Vm.bindT, Vm.setAll, Vm.boolOf, Vm.isNon, Vm.b_add, Vm.b_sub, Vm.a_add, Vm.c_eq, Vm.c_ne, Vm.c_lt, Vm.c_le, Vm.c_gt, Vm.c_ge, Vm.Bf_len, Vm.Bf_sum, Vm.Bf_min2, Vm.wipeE, Vm.Tg.slots, Vm.lcTurn, Vm.forTurn, List.map_cons, List.map_nil, List.length_cons, List.length_nil, List.length_map, List.cons_append, List.nil_append, List.getElem?_cons_zero, List.getElem?_cons_succ, List.set_cons_zero, List.set_cons_succ, List.reduceReplicate, Nat.reduceSub, Nat.reduceAdd, Nat.zero_add, Int.toNat_natCast, Bool.not_true, Bool.not_false, decide_true, decide_false, if_true, if_false]
    rw [rng_if (by decide) (by decide)]
    try simp (config := { implicitDefEqProofs := false }) only [Vm.evF, Vm.evSs, Vm.evS, Vm.evX, Vm.evE, Vm.evEs, Vm.evIt, Vm.evPt, Vm.Res.bind_assoc, Vm.Res.bind_ok, Vm.Res.Ok_ok, Vm.bindT, Vm.setAll, Vm.boolOf, Vm.isNon, Vm.b_add, Vm.b_sub, Vm.a_add, Vm.c_eq, Vm.c_ne, Vm.c_lt, Vm.c_le, Vm.c_gt, Vm.c_ge, Vm.Bf_len, Vm.Bf_sum, Vm.Bf_min2, Vm.wipeE, Vm.Tg.slots, Vm.lcTurn, Vm.forTurn, List.map_cons, List.map_nil, List.length_cons, List.length_nil, List.length_map, List.cons_append, List.nil_append, List.getElem?_cons_zero, List.getElem?_cons_succ, List.set_cons_zero, List.set_cons_succ, List.reduceReplicate, Nat.reduceSub, Nat.reduceAdd, Nat.zero_add, Int.toNat_natCast, Bool.not_true, Bool.not_false, decide_true, decide_false, if_true, if_false]
    refine Res.ok_bind ((for_inv (xs := rngs 0 (6 : Int).toNat) (src := .items (rngs 0 (6 : Int).toNat)) (Q := fun o h1 => ∃ ev', o = .nx ev')
      (fun k ev1 h1 => (∃ u v w, ev1 = [some (.fl (ns.map PV.int)), some (.ref a), some (.ref b), u, v, w]) ∧ Tap h1 a p cs (0 + 8 + 200 + 400 * k) ∧ But a h4 h1) (fun k ev1 h1 j => rfl) (fun k x ev1 h1 e j => ?_) (fun ev1 h1 j => ⟨_, rfl⟩) _ 0 _ h4 rfl (Nat.zero_le _) ⟨⟨_, _, _, rfl⟩, t4, But.refl _ _⟩).mono fun o h9 q => ?_)
    · obtain ⟨hk, rfl⟩ := rngs0_at e
      have hk6 : k < 6 := hk
      obtain ⟨⟨u, v, w, rfl⟩, t5, b5⟩ := j
      simp (config := { implicitDefEqProofs := false }) only [Vm.evF, Vm.evSs, Vm.evS, Vm.evX, Vm.evE, Vm.evEs, Vm.evIt, Vm.evPt, Vm.Res.bind_assoc, Vm.Res.bind_ok, Vm.Res.Ok_ok, Vm.bindT, Vm.setAll, Vm.boolOf, Vm.isNon, Vm.b_add, Vm.b_sub, Vm.a_add, Vm.c_eq, Vm.c_ne, Vm.c_lt, Vm.c_le, Vm.c_gt, Vm.c_ge, Vm.Bf_len, Vm.Bf_sum, Vm.Bf_min2, Vm.wipeE, Vm.Tg.slots, Vm.lcTurn, Vm.forTurn, List.map_cons, List.map_nil, List.length_cons, List.length_nil, List.length_map, List.cons_append, List.nil_append, List.getElem?_cons_zero, List.getElem?_cons_succ, List.set_cons_zero, List.set_cons_succ, List.reduceReplicate, Nat.reduceSub, Nat.reduceAdd, Nat.zero_add, Int.toNat_natCast, Bool.not_true, Bool.not_false, decide_true, decide_false, if_true, if_false]
      rw [← hO]
      refine (s_lp (N := 11) (h := h1) (by omega) t5 (by omega) (T4.but b5 nb) nb).mono fun o h6 q => ?_
      obtain ⟨⟨u, v, rfl⟩, t6, b6⟩ := q
      exact ⟨⟨_, _, _, rfl⟩, t6.mono (by omega), b5.trans b6⟩
    · obtain ⟨ev', rfl⟩ := q
      simp (config := { implicitDefEqProofs := false }) only [Vm.evF, Vm.evSs, Vm.evS, Vm.evX, Vm.evE, Vm.evEs, Vm.evIt, Vm.evPt, Vm.Res.bind_assoc, Vm.Res.bind_ok, Vm.Res.Ok_ok, Vm.bindT, Vm.setAll, Vm.boolOf, Vm.isNon, Vm.b_add, Vm.b_sub, Vm.a_add, Vm.c_eq, Vm.c_ne, Vm.c_lt, Vm.c_le, Vm.c_gt, Vm.c_ge, Vm.Bf_len, Vm.Bf_sum, Vm.Bf_min2, Vm.wipeE, Vm.Tg.slots, Vm.lcTurn, Vm.forTurn, List.map_cons, List.map_nil, List.length_cons, List.length_nil, List.length_map, List.cons_append, List.nil_append, List.getElem?_cons_zero, List.getElem?_cons_succ, List.set_cons_zero, List.set_cons_succ, List.reduceReplicate, Nat.reduceSub, Nat.reduceAdd, Nat.zero_add, Int.toNat_natCast, Bool.not_true, Bool.not_false, decide_true, decide_false, if_true, if_false]
  cases e : sem Bf ds 12 0 [.fl (ns.map PV.int)] [] with
  | ok r h1 =>
    rw [e] at key
    cases key
    exact ⟨h1, rfl⟩
  | exc => rw [e] at key; exact key.elim
  | stuck => rw [e] at key; exact key.elim
end
end K05

set_option Elab.async false
set_option linter.all false
set_option maxRecDepth 100000
set_option maxHeartbeats 0
namespace K05
open PySem PySem.Spec PyProof.Rows L2 Vm
/-! ### the head -/
abbrev hk : PySem.W.Hook := Vm.hookG 4 ds CS
def ob (s : PySem.W.SharedT) : He.AlX := Vm.obG 4 ds CS s
theorem ob_eq (s : PySem.W.SharedT) : ob s = hk.obs s.abs := Vm.obG_eq s
abbrev Rw : PySem.W.OpenRow := PySem.W.OpenLaw.row PySem.Challenge.rw_almsrow_k05_literals_together
abbrev loose : List Str := ["SORTS", "LETTERS", "together", "together_by", "type_by", "_town_by", "_first_allowed", "_allows", "_word_at", "_ages", "_ties", "_law_tap", "_law_take", "_law_towns", "_law_some", "_law_number", "_law_literal", "_law_holds", "_law_is_number", "_law_is_word", "_law_few", "_law_sorts", "_law_is_right", "_law_barred"]
theorem run (w : World) : HandSHeadRun.RunEq Rw (PySem.W.view Rw.prog [26]) hk ob 8000 loose w := by
  intro os
  kernel_rfl
end K05
open PySem PySem.W PySem.Calls PyProof.Rows
theorem PySem.Challenge.cw_almsrow_k05_literals_together_holds : PySem.Challenge.rw_almsrow_k05_literals_together.Holds := by
  w_on; o_law
  refine HandSHeadRun.head_any (r := OpenLaw.row PySem.Challenge.rw_almsrow_k05_literals_together) (q := view (OpenLaw.row PySem.Challenge.rw_almsrow_k05_literals_together).prog [26]) (H := K05.hk) (ob := K05.ob) (M := 8000) (loose := K05.loose) (d := HandSHeadRun.topDef (OpenLaw.row PySem.Challenge.rw_almsrow_k05_literals_together).prog 26) (kwd := []) K05.ob_eq
    (by kernel_rfl) (fun s => by kernel_rfl) K05.run (by kernel_rfl) (by kernel_rfl) (by kernel_rfl) (by rfl) (by first | assumption | decide +kernel) (by decide +kernel) ⟨rfl, rfl, rfl, rfl, rfl, by decide +kernel⟩ ?hw ?hc
  case hw => w_witness2
  case hc =>
    refine Vm.walkGT (l := PySem.Challenge.rw_almsrow_k05_literals_together) (n := 63) (k := 24) (x := "_law_script") rfl (by decide) (by kernel_rfl) ⟨rfl, by decide, by decide⟩ ?F
    intro w mg fa h Y G hmg0
    have hmg : mg ("law" : PySem.Str) = some (.ref fa) := by
      have e : (HandSHeadRun.topDef (OpenLaw.row PySem.Challenge.rw_almsrow_k05_literals_together).prog 26).name = ("law" : PySem.Str) := by kernel_rfl
      rw [← e]
      exact hmg0
    exact Vm.law_byG (l := PySem.Challenge.rw_almsrow_k05_literals_together) (N := 12) (d0 := K05.d_law) Y G hmg rfl rfl (fun K f fd F s u => L2.FunD.bindsA (ps := ["_law_script"]) F (fun _ _ _ _ _ _ us hl => match us, hl with | [_], _ => rfl) s [u] rfl) (fun K => K05.bds) K05.chk K05.main

