import PyProof.Rows.All
import Wide.All
import OpenK.AllK
import Wide.FinOn
import PySem.Challenge.RW_almsrow_k19_weights_and_windows
import HandS.ForMost
import HandS.IsInst
import HandS.Conv
import HandS.Strs
import HandS.TupAny
import HandS.TupMul
import HandS.DeepEq
import HandS.Deep
import HandS.Text
import HandS.Replace
import HandS.Small
import HandS.Flow
import HandS.Wide
import HandS.AnyAll
import HandS.Comp
import PyProof.GenCompD
import PyProof.GenRules
import PyProof.GenQ
import PyProof.ConsumeS
import HandS.GenOver
import HandS.Codes
import HandS.Iter
import HandS.Zip
import KE.GoesMore
import HandS.SetFor
import PyProof.Rows.SortShellAny
import PyProof.EqAt
import HandS.TryOnly
import KE.KRevSl
import HandS.Defaults
import HandS.CallSlots
import HandS.ExcCtx
import PyProof.Rows.SetFrom
import KE.SortData
import HandS.NoneIn
import HandS.TupLe
import HandS.More
import HandS.Style
import HandS.ExcIs
import HandS.ExcField
import KE.KExcIs
import KE.KIsAll
import HandS.HotCalls
import HandS.ExcInit
import HandS.TryMany
import HandS.Head0
import HandS.Head1
import HandS.Head2
import HandS.HeadEnd
import HandS.HeadHook1
import HandS.HeadHook2
import PyProof.ReprRoads
import HandS.RaiseMore
import HandS.HeadHook3
import HandS.HeadHook4
import PyProof.ReprLen
import PyProof.FitsInt
import HandS.EndTab
import HandS.HeadWalk
set_option Elab.async false
set_option linter.all false
set_option maxRecDepth 100000
/-! VmA: a small evaluator over values, its results. -/
namespace Vm
open PySem PySem.Spec PyProof.Rows L2

/-- a value: what is never written as a tree (a tuple; fl: a list that nobody writes), the others by their numbers in the heap of the evaluator -/
inductive PV where
  | non | bl (b : Bool) | int (i : Int) | str (s : Str) | tup (xs : List PV) | fl (xs : List PV) | ref (a : Nat)
  deriving Inhabited

/-- what stands at a number: a list, a dict with text keys -/
inductive HV where
  | lst (xs : List PV) | dct (kvs : List (Str × PV))
  deriving Inhabited

abbrev IH := List HV
abbrev Ev := List (Option PV)

inductive Res (α : Type) where
  | ok (a : α) (h : IH) | exc (c : Str) (fs : List PV) (h : IH) | stuck

def Res.bind {α β : Type} (r : Res α) (f : α → IH → Res β) : Res β := match r with
  | .ok a h => f a h
  | .exc c fs h => .exc c fs h
  | .stuck => .stuck

@[simp] theorem Res.bind_ok {α β : Type} (a : α) (h : IH) (f : α → IH → Res β) : (Res.ok a h).bind f = f a h := rfl
@[simp] theorem Res.bind_exc {α β : Type} (c : Str) (fs : List PV) (h : IH) (f : α → IH → Res β) : (Res.exc c fs h : Res α).bind f = .exc c fs h := rfl
@[simp] theorem Res.bind_stuck {α β : Type} (f : α → IH → Res β) : (Res.stuck : Res α).bind f = .stuck := rfl

/-- it ends, and Q holds of the end -/
def Res.Ok {α : Type} (r : Res α) (Q : α → IH → Prop) : Prop := match r with
  | .ok a h => Q a h
  | _ => False
@[simp] theorem Res.Ok_ok {α : Type} (a : α) (h : IH) (Q : α → IH → Prop) : (Res.ok a h).Ok Q = Q a h := rfl
theorem Res.ok_bind {α β : Type} {r : Res α} {f : α → IH → Res β} {Q : β → IH → Prop} (h : r.Ok fun a h1 => (f a h1).Ok Q) : (r.bind f).Ok Q := by
  cases r with
  | ok a h1 => exact h
  | exc => exact h.elim
  | stuck => exact h.elim
theorem Res.Ok.mono {α : Type} {r : Res α} {Q Q' : α → IH → Prop} (h : r.Ok Q) (k : ∀ a h1, Q a h1 → Q' a h1) : r.Ok Q' := by
  cases r with
  | ok a h1 => exact k a h1 h
  | exc => exact h.elim
  | stuck => exact h.elim
theorem Res.Ok.get {α : Type} {r : Res α} {Q : α → IH → Prop} (h : r.Ok Q) : ∃ a h1, r = .ok a h1 ∧ Q a h1 := by
  cases r with
  | ok a h1 => exact ⟨a, h1, rfl, h⟩
  | exc => exact h.elim
  | stuck => exact h.elim
/-- what raises is not followed -/
def Res.calm {α : Type} (r : Res α) : Res α := match r with
  | .ok a h => .ok a h
  | _ => .stuck
@[simp] theorem Res.calm_ok {α : Type} (a : α) (h : IH) : (Res.ok a h).calm = .ok a h := rfl

/-! ### the text as the evaluator has it -/
inductive BOp where | add | sub | mul | fdiv | mod | pow
  deriving DecidableEq
inductive COp where | eq | ne | lt | le | gt | ge
  deriving DecidableEq

/-- what is stored to: a name's slot, or slots by an unpacking -/
inductive Tg where
  | one (i : Nat) | many (is : List Nat)
def Tg.slots : Tg → List Nat
  | .one i => [i]
  | .many is => is

/-- the built-in classes that are asked for -/
inductive Ty where | int | bool | str | tuple | list
  deriving DecidableEq
def Ty.word : Ty → String
  | .int => "int" | .bool => "bool" | .str => "str" | .tuple => "tuple" | .list => "list"
/-- what a module's name stands for -/
inductive Cst where
  | int (i : Int) | str (s : Str) | strs (l : List Str) | rows (l : List (List Str))
  deriving DecidableEq
def Cst.pv : Cst → PV
  | .int i => .int i
  | .str s => .str s
  | .strs l => .tup (l.map PV.str)
  | .rows l => .tup (l.map fun r => .tup (r.map PV.str))
mutual
inductive E where
  | var (i : Nat) | int (i : Int) | str (s : Str) | bl (b : Bool) | non
  | bin (op : BOp) (a b : E) | neg (a : E)
  | cmp (op : COp) (a b : E) | chain (o1 o2 : COp) (a b c : E)
  | isn (a : E) | notn (a : E)
  | band (a b : E) | bor (a b : E) | not (a : E) | ite (c a b : E)
  | tup (es : Es) | lst (es : Es)
  | ix (a i : E)
  | call (f : Nat) (es : Es)
  | bi (b : Nat) (es : Es)
  | lc (elt : E) (tg : Tg) (it : It) (cond : E)
  | slc (a : E) (lo hi : Pt)
  | lrng (a : E) | sset (a : E) | scnt (a u e : E)
  | isin (t : Ty) (a : E)
  | isan (ts : List Ty) (a : E)
  | cont (neg : Bool) (a b : E) | pop (a i : E) | sidx (a b : E) | join (a b : E)
  | dlit (k : Str) (a : E) (ks : List (Str × Int)) | dix (a : E) (k : Str) | tset (a : E) | tsrt (a : E) | nemp (a : E)
  | gcon (x : Str) (k : Cst) | dget (a k : E) | din (neg : Bool) (k d : E) | cnt (a b : E)
  | psrt (a : E)
  | rev (a : E)
  | dgt (a k : E)
  | stp (a s : E)
  | isb (neg : Bool) (a b : E)
  | trng (a : E)
  | ddis (ks : List Str) (es : Es)
  | anyg (al : Bool) (elt : E) (tg : Tg) (it : It)
inductive Es where
  | nil | cons (e : E) (es : Es)
inductive It where
  | rng (e : E) | rng2 (a b : E) | rng3 (a b c : E) | seq (e : E) | enum (e : E) | zip (a b : E) | sgn (e : E)
inductive Pt where
  | no | yes (e : E)
end

inductive Sx where
  | set (tg : Tg) (e : E)
  | par (i j : Nat) (a b : E)
  | par3 (i j l : Nat) (a b c : E)
  | put (a i v : E)
  | augv (i : Nat) (op : BOp) (e : E)
  | augp (a i : E) (op : BOp) (e : E)
  | ret (e : E)
  | drop (e : E)
  | app (a e : E)
  | ext (a e : E)
  | dput (a : E) (k : Str) (v : E)
  | dputk (a k v : E)
  | ins (a i v : E)
  | rais (c : Str) (es : Es)
  | tri (i : Nat) (e : E) (cs : List Str) (k : E)
  | tria (i : Nat) (e : E) (cs : List Str) (yes : List (Str × List Str)) (j : Nat) (g : Str)
  | never
mutual
inductive S where
  | x (s : Sx)
  | ifs (c : E) (a b : Ss)
  | for (tg : Tg) (it : It) (b : Ss)
  | whl (c : E) (b : Ss)
inductive Ss where
  | nil | cons (s : S) (ss : Ss)
end

/-! ### what it does -/
/-- what is walked: things, or the list at a number as it stands at each turn -/
inductive Src where
  | items (xs : List PV) | heap (a : Nat) | enum (a : Nat) | zip (a b : Nat)
/-- the thing at turn k: none where the walk can't go on, some none at its end -/
def Src.get (s : Src) (h : IH) (k : Nat) : Option (Option PV) := match s with
  | .items xs => some xs[k]?
  | .heap a => (match h[a]? with
    | some (.lst xs) => some xs[k]?
    | _ => none)
  | .enum a => (match h[a]? with
    | some (.lst xs) => some (xs[k]?.map fun x => .tup [.int k, x])
    | _ => none)
  | .zip a b => (match h[a]?, h[b]? with
    | some (.lst xs), some (.lst ys) => some (match xs[k]?, ys[k]? with
      | some x, some y => some (.tup [x, y])
      | _, _ => none)
    | _, _ => none)
/-- turns enough -/
def Src.fuel (s : Src) (h : IH) : Nat := match s with
  | .items xs => xs.length + 1
  | .heap a => (match h[a]? with
    | some (.lst xs) => xs.length + 1
    | _ => 0)
  | .enum a => (match h[a]? with
    | some (.lst xs) => xs.length + 1
    | _ => 0)
  | .zip a _ => (match h[a]? with
    | some (.lst xs) => xs.length + 1
    | _ => 0)

def lcLoop (src : Src) (f : PV → IH → Res (Option PV)) : Nat → Nat → List PV → IH → Res (List PV)
  | 0, _, _, _ => .stuck
  | n + 1, k, acc, h => match src.get h k with
    | none => .stuck
    | some none => .ok acc h
    | some (some x) => (f x h).bind fun o h1 => match o with
      | some y => if acc.length < sizeLine then lcLoop src f n (k + 1) (acc ++ [y]) h1 else .stuck
      | none => lcLoop src f n (k + 1) acc h1

def rd (h : IH) : PV → Option (List PV)
  | .tup xs => some xs
  | .fl xs => some xs
  | .ref a => match h[a]? with
    | some (.lst xs) => some xs
    | _ => none
  | _ => none

def new (h : IH) (xs : List PV) : Res PV := if xs.length ≤ sizeLine then .ok (.ref h.length) (h ++ [.lst xs]) else .stuck
def newT (h : IH) (xs : List PV) : Res PV := if xs.length ≤ sizeLine then .ok (.tup xs) h else .stuck

def big (i : Int) : Bool := decide (-(2 ^ 64) < i ∧ i < 2 ^ 64)

/-- a text so many times -/
def repS (x : Str) (n : Int) : Str := if n < 1 then Str.empty else if (n == 1 || x.length == 0) = true then x else ⟨(List.replicate n.toNat x.cps).foldl (· ++ ·) #[]⟩
def binF (op : BOp) (x y : PV) (h : IH) : Res PV := match op, x, y with
  | .add, .int i, .int j => .ok (.int (i + j)) h
  | .add, .str i, .str j => if i.length + j.length ≤ sizeLine then .ok (.str (i ++ j)) h else .stuck
  | .add, .tup xs, .tup ys => newT h (xs ++ ys)
  | .add, .ref a, .ref b => (match h[a]?, h[b]? with
    | some (.lst xs), some (.lst ys) => new h (xs ++ ys)
    | _, _ => .stuck)
  | .sub, .int i, .int j => .ok (.int (i - j)) h
  | .mul, .ref a, .int k => (match h[a]? with
    | some (.lst xs) => if -(2 ^ 63) ≤ k ∧ k < 2 ^ 63 then new h (List.replicate k.toNat xs).flatten else .stuck
    | _ => .stuck)
  | .mul, .int i, .int j => if big i || big j then .ok (.int (i * j)) h else .stuck
  | .mul, .tup xs, .int k => if 1 ≤ k ∧ k ≤ 1000 ∧ xs.isEmpty = false ∧ xs.length ≤ 1000 then .ok (.tup (List.replicate k.toNat xs).flatten) h else .stuck
  | .mul, .str x, .int k => if 0 ≤ k ∧ k ≤ 1000 ∧ x.length ≤ 1000 then .ok (.str (repS x k)) h else .stuck
  | .fdiv, .int i, .int j => if 0 < j ∧ (j < 1073741824 ∨ j.natAbs.log2 < 9000) then .ok (.int (i / j)) h else .stuck
  | .mod, .int i, .int j => if 0 < j then .ok (.int (i % j)) h else .stuck
  | .pow, .int i, .int j => if 0 ≤ j ∧ j ≤ 1000000 ∧ i.natAbs < 2 ^ 64 then .ok (.int (i ^ j.toNat)) h else .stuck
  | _, _, _ => .stuck

/-- op= -/
def augF (op : BOp) (x y : PV) (h : IH) : Res PV := match op, x, y with
  | .add, .int i, .int j => .ok (.int (i + j)) h
  | .add, .str i, .str j => if i.length + j.length ≤ sizeLine then .ok (.str (i ++ j)) h else .stuck
  | .sub, .int i, .int j => .ok (.int (i - j)) h
  | .mul, .int i, .int j => if big i || big j then .ok (.int (i * j)) h else .stuck
  | .fdiv, .int i, .int j => if 0 < j ∧ j < 1073741824 then .ok (.int (i / j)) h else .stuck
  | .mod, .int i, .int j => if 0 < j then .ok (.int (i % j)) h else .stuck
  | _, _, _ => .stuck

def seqO {α : Type} : List (Option α) → Option (List α)
  | [] => some []
  | some x :: r => (seqO r).map (x :: ·)
  | none :: _ => none
/-- what is compared as a whole -/
def dataOf (h : IH) : Nat → PV → Option PyData
  | 0, _ => none
  | n + 1, x => match x with
    | .non => some .none
    | .bl b => some (.bool b)
    | .int i => some (.int i)
    | .str s => some (.str s)
    | .tup xs => (seqO (xs.map (dataOf h n))).map .tuple
    | .fl xs => (seqO (xs.map (dataOf h n))).map .list
    | .ref a => match h[a]? with
      | some (.lst xs) => (seqO (xs.map (dataOf h n))).map .list
      | _ => none
def eqD (neg : Bool) (x y : PV) (h : IH) : Res PV := match dataOf h 40 x, dataOf h 40 y with
  | some d, some e => if SeqAt.shaped d = true ∧ SeqAt.shaped e = true then .ok (.bl (if neg then !PyData.eqv d e else PyData.eqv d e)) h else .stuck
  | _, _ => .stuck
def cmpF (op : COp) (x y : PV) (h : IH) : Res PV := match op, x, y with
  | .eq, .int i, .int j => .ok (.bl (decide (i = j))) h
  | .ne, .int i, .int j => .ok (.bl (!decide (i = j))) h
  | .eq, .str i, .str j => .ok (.bl (decide (i = j))) h
  | .ne, .str i, .str j => .ok (.bl (!decide (i = j))) h
  | .lt, .int i, .int j => .ok (.bl (decide (i < j))) h
  | .le, .int i, .int j => .ok (.bl (decide (i ≤ j))) h
  | .gt, .int i, .int j => .ok (.bl (decide (j < i))) h
  | .ge, .int i, .int j => .ok (.bl (decide (j ≤ i))) h
  | .lt, .str i, .str j => .ok (.bl (decide (i.cps.toList < j.cps.toList))) h
  | .le, .str i, .str j => .ok (.bl (!decide (j.cps.toList < i.cps.toList))) h
  | .ge, .str i, .str j => .ok (.bl (!decide (i.cps.toList < j.cps.toList))) h
  | .eq, x, y => eqD false x y h
  | .ne, x, y => eqD true x y h
  | _, _, _ => .stuck

def isNon : PV → Bool
  | .non => true
  | _ => false

def boolOf (x : PV) (h : IH) : Res Bool := match x with
  | .bl b => .ok b h
  | _ => .stuck

def ixF (x i : PV) (h : IH) : Res PV := match x, i with
  | .str z, .int j => if z.length ≤ sizeLine then (match atI z.cps.toList j with
    | some c => .ok (.str ⟨#[c]⟩) h
    | none => .stuck) else .stuck
  | _, .int j => match rd h x with
    | some xs => match atI xs j with
      | some v => .ok v h
      | none => .stuck
    | none => .stuck
  | _, _ => .stuck

/-- the things of a slice -/
def cutP (xs : List PV) (lo hi : Option Int) : List PV := (xs.drop (HT.sIx xs.length 0 lo)).take (HT.sIx xs.length xs.length hi - HT.sIx xs.length 0 lo)
def slcF (x : PV) (lo hi : Option Int) (h : IH) : Res PV := match x with
  | .tup xs => .ok (.tup (cutP xs lo hi)) h
  | .fl xs => new h (cutP xs lo hi)
  | .ref a => (match h[a]? with
    | some (.lst xs) => new h (cutP xs lo hi)
    | _ => .stuck)
  | .str z => if z.length ≤ sizeLine then .ok (.str (Txt.slice z lo hi)) h else .stuck
  | _ => .stuck

/-- what a statement comes to -/
inductive Fl where
  | nx (ev : Ev) | rt (x : PV)

/-- i, i + 1, .. (n of them) -/
def rngs (i : Int) (n : Nat) : List PV := (List.range n).map fun (k : Nat) => PV.int (i + (k : Int))
def intsOf : List PV → Option (List Int)
  | [] => some []
  | .int i :: xs => (intsOf xs).map (i :: ·)
  | _ => none
theorem intsOf_eq : ∀ {xs : List PV} {ns : List Int}, intsOf xs = some ns → xs = ns.map PV.int
  | [], ns, h => by cases h; rfl
  | x :: xs, ns, h => by
    cases x <;> try (cases h; done)
    unfold intsOf at h
    cases e : intsOf xs with
    | none => rw [e] at h; cases h
    | some ms =>
      rw [e] at h
      cases h
      rw [intsOf_eq e]
      rfl
@[simp] theorem intsOf_map : ∀ ns : List Int, intsOf (ns.map PV.int) = some ns
  | [] => rfl
  | n :: ns => by
    show (intsOf (ns.map PV.int)).map (n :: ·) = _
    rw [intsOf_map ns]
    rfl
def lrngF (x : PV) (h : IH) : Res PV := match x with
  | .int n => if -(2 ^ 62) ≤ n ∧ n < 2 ^ 62 ∧ n.toNat ≤ 2 ^ 24 then new h (rngs 0 n.toNat) else .stuck
  | _ => .stuck
def scntF (x u y : PV) (h : IH) : Res PV := match x, u, y with
  | .tup xs, .int n, .int k => match intsOf xs with
    | some ns => if HT.sIx xs.length xs.length (some n) ≠ xs.length then .ok (.int ((ns.take (HT.sIx xs.length xs.length (some n))).count k : Nat)) h else .stuck
    | none => .stuck
  | _, _, _ => .stuck
def scntG (fe : Ev → IH → Res PV) (ev : Ev) (x u : PV) (h : IH) : Res PV := match x, u with
  | .tup xs, .int n => if HT.sIx xs.length xs.length (some n) ≠ xs.length then (fe ev h).bind fun y h3 => scntF (.tup xs) (.int n) y h3 else .stuck
  | _, _ => .stuck
/-- k put in where it belongs, once -/
def insS (k : Int) : List Int → List Int
  | [] => [k]
  | x :: xs => if k < x then k :: x :: xs else if k = x then x :: xs else x :: insS k xs
/-- each once, from the least on -/
def ssetL (ns : List Int) : List Int := ns.foldr insS []
def ssetF (x : PV) (h : IH) : Res PV := match (rd h x).bind intsOf with
  | some ns => if ns.length < 1000 then new h ((ssetL ns).map PV.int) else .stuck
  | none => .stuck
def setAll : List Nat → List PV → Ev → Option Ev
  | [], [], ev => some ev
  | i :: is, x :: xs, ev => setAll is xs (ev.set i (some x))
  | _, _, _ => none

def bindT (tg : Tg) (x : PV) (h : IH) (ev : Ev) : Option Ev := match tg with
  | .one i => some (ev.set i (some x))
  | .many is => match rd h x with
    | some xs => setAll is xs ev
    | none => none
def wipeE (ev : Ev) : List Nat → Ev
  | [] => ev
  | v :: vs => (wipeE ev vs).set v none
/-- a turn of a comprehension -/
def lcTurn (tg : Tg) (ev : Ev) (fc fe : Ev → IH → Res PV) (y : PV) (h : IH) : Res (Option PV) := (match bindT tg y h ev with
  | none => .stuck
  | some ev1 => (fc ev1 h).bind fun c h3 => match c with
    | .bl true => (fe ev1 h3).bind fun z h4 => .ok (some z) h4
    | .bl false => .ok none h3
    | _ => .stuck : Res (Option PV)).calm
/-- a turn of any, all: its truth -/
def agTurn (tg : Tg) (ev : Ev) (fe : Ev → IH → Res PV) (y : PV) (h : IH) : Res Bool := (match bindT tg y h ev with
  | none => .stuck
  | some ev1 => (fe ev1 h).bind fun z h2 => match z with
    | .bl b => .ok b h2
    | _ => .stuck : Res Bool).calm
/-- any (al: false), all (al: true) -/
def agLoop (al : Bool) (src : Src) (f : PV → IH → Res Bool) : Nat → Nat → IH → Res PV
  | 0, _, _ => .stuck
  | n + 1, k, h => match src.get h k with
    | none => .stuck
    | some none => .ok (.bl al) h
    | some (some x) => (f x h).bind fun b h1 => if b = al then agLoop al src f n (k + 1) h1 else .ok (.bl (!al)) h1
/-- a turn of a for -/
def forTurn (tg : Tg) (fb : Ev → IH → Res Fl) (y : PV) (ev : Ev) (h : IH) : Res Fl := match bindT tg y h ev with
  | some ev2 => fb ev2 h
  | none => .stuck
/-- a tuple's things with their numbers, two tuples' things together -/
def numT (xs : List PV) : List PV := xs.mapIdx fun i x => PV.tup [.int i, x]
def zipT (xs ys : List PV) : List PV := List.zipWith (fun x y => PV.tup [x, y]) xs ys
def enumF (x : PV) (h : IH) : Res Src := match x with
  | .tup xs => .ok (.items (numT xs)) h
  | .ref b => (match h[b]? with
    | some (.lst _) => .ok (.enum b) h
    | _ => .stuck)
  | _ => .stuck
def zipF (x y : PV) (h : IH) : Res Src := match x, y with
  | .tup xs, .tup ys => .ok (.items (zipT xs ys)) h
  | .ref a, .ref b => (match h[a]?, h[b]? with
    | some (.lst _), some (.lst _) => .ok (.zip a b) h
    | _, _ => .stuck)
  | _, _ => .stuck
def tyOf (h : IH) : PV → Option String
  | .non => some "NoneType"
  | .bl _ => some "bool"
  | .int _ => some "int"
  | .str _ => some "str"
  | .tup _ => some "tuple"
  | .fl _ => some "list"
  | .ref a => match h[a]? with
    | some (.lst _) => some "list"
    | some (.dct _) => some "dict"
    | none => none
def isF (t : Ty) (x : PV) (h : IH) : Res PV := match tyOf h x with
  | some a => .ok (.bl (decide (a = t.word) || (decide (a = "bool") && decide (t = .int)))) h
  | none => .stuck
def isA (ts : List Ty) (a : String) : Bool := ts.any fun t => decide (a = t.word) || (decide (a = "bool") && decide (t = .int))
def isanF (ts : List Ty) (x : PV) (h : IH) : Res PV := match tyOf h x with
  | some a => .ok (.bl (isA ts a)) h
  | none => .stuck
/-! ### texts, dicts with text keys, x in xs -/
def flatP : PV → Option V
  | .non => some .non
  | .bl b => some (.bl b)
  | .int i => some (.int i)
  | .str s => some (.str s)
  | _ => none
def flatsP : List PV → Option (List V)
  | [] => some []
  | x :: xs => match flatP x, flatsP xs with
    | some v, some vs => some (v :: vs)
    | _, _ => none
/-- .. where things are of any depth -/
def contD (neg : Bool) (x y : PV) (h : IH) : Res PV := match dataOf h 40 x, dataOf h 40 y with
  | some d, some (.tuple es) => if SeqAt.shaped d = true ∧ SeqAt.shaped (.tuple es) = true then .ok (.bl (if neg then !es.any fun z => PyData.eqv z d else es.any fun z => PyData.eqv z d)) h else .stuck
  | some d, some (.list es) => if SeqAt.shaped d = true ∧ SeqAt.shaped (.list es) = true then .ok (.bl (if neg then !es.any fun z => PyData.eqv z d else es.any fun z => PyData.eqv z d)) h else .stuck
  | _, _ => .stuck
def contV (neg : Bool) (x y : PV) (h : IH) : Res PV := match flatP x, (rd h y).bind flatsP with
  | some v, some vs => .ok (.bl (if neg then !inV v vs else inV v vs)) h
  | _, _ => contD neg x y h
/-- x is True, of truth values -/
def isbF (neg : Bool) (x y : PV) (h : IH) : Res PV := match x, y with
  | .bl a, .bl b => .ok (.bl (if neg then !decide (a = b) else decide (a = b))) h
  | .non, .bl _ => .ok (.bl neg) h
  | .int _, .bl _ => .ok (.bl neg) h
  | .str _, .bl _ => .ok (.bl neg) h
  | _, _ => .stuck
/-- tuple(range(n)) -/
def trngF (x : PV) (h : IH) : Res PV := match x with
  | .int n => if -(2 ^ 62) ≤ n ∧ n < 2 ^ 62 ∧ n.toNat ≤ 2 ^ 24 then .ok (.tup (rngs 0 n.toNat)) h else .stuck
  | _ => .stuck
def contF (neg : Bool) (x y : PV) (h : IH) : Res PV := match x, y with
  | .str u, .str z => (match u.cps.toList with
    | [c] => .ok (.bl (if neg then !decide (c ∈ z.cps.toList) else decide (c ∈ z.cps.toList))) h
    | _ => .stuck)
  | x, y => contV neg x y h
/-- xs.pop(i), i from 0 on -/
def popF (x i : PV) (h : IH) : Res PV := match x, i with
  | .ref r, .int j => (match h[r]? with
    | some (.lst xs) => if 0 ≤ j ∧ j < xs.length ∧ xs.length ≤ sizeLine then (match xs[j.toNat]? with
      | some y => .ok y (h.set r (.lst (xs.eraseIdx j.toNat)))
      | none => .stuck) else .stuck
    | _ => .stuck)
  | _, _ => .stuck
def strsOf : List PV → Option (List Str)
  | [] => some []
  | .str i :: xs => (strsOf xs).map (i :: ·)
  | _ => none
theorem strsOf_eq : ∀ {xs : List PV} {zs : List Str}, strsOf xs = some zs → xs = zs.map PV.str
  | [], zs, h => by cases h; rfl
  | x :: xs, zs, h => by
    cases x <;> try (cases h; done)
    unfold strsOf at h
    cases e : strsOf xs with
    | none => rw [e] at h; cases h
    | some ms =>
      rw [e] at h
      cases h
      rw [strsOf_eq e]
      rfl
@[simp] theorem strsOf_map : ∀ zs : List Str, strsOf (zs.map PV.str) = some zs
  | [] => rfl
  | z :: zs => by
    show (strsOf (zs.map PV.str)).map (z :: ·) = _
    rw [strsOf_map zs]
    rfl
def sidxF (x y : PV) (h : IH) : Res PV := match x, y with
  | .str a, .str b => (match Builtin.Str.occurrences a b 0 a.length 1 with
    | i :: _ => .ok (.int (i : Nat)) h
    | [] => .stuck)
  | _, _ => .stuck
def joinF (x y : PV) (h : IH) : Res PV := match x with
  | .str a => (match (rd h y).bind strsOf with
    | some zs => if (zs.map (·.length)).sum + zs.length * a.length ≤ 16777216 then .ok (.str (Txt.join a zs)) h else .stuck
    | none => .stuck)
  | _ => .stuck
/-- z put in where it belongs: ahead of the first that is not below it -/
def insT (z : Str) : List Str → List Str
  | [] => [z]
  | x :: xs => if x.cps.toList < z.cps.toList then x :: insT z xs else z :: x :: xs
def srtT (zs : List Str) : List Str := zs.foldr insT []
/-- .. once -/
def insU (z : Str) : List Str → List Str
  | [] => [z]
  | x :: xs => if x.cps.toList < z.cps.toList then x :: insU z xs else if x = z then x :: xs else z :: x :: xs
def srtU (zs : List Str) : List Str := zs.foldr insU []
def tsrtF (x : PV) (h : IH) : Res PV := match x with
  | .ref r => (match h[r]? with
    | some (.lst xs) => (match strsOf xs with
      | some zs => if zs.length < 64 then new h ((srtT zs).map PV.str) else .stuck
      | none => .stuck)
    | _ => .stuck)
  | _ => .stuck
/-- rows of ints -/
def rowP (r : List Int) : PV := .tup (r.map PV.int)
def rowZ : PV → Option (List Int)
  | .tup xs => intsOf xs
  | _ => none
def rowsZ : List PV → Option (List (List Int))
  | [] => some []
  | x :: xs => match rowZ x, rowsZ xs with
    | some r, some rs => some (r :: rs)
    | _, _ => none
theorem rowZ_eq {x : PV} {r : List Int} (h : rowZ x = some r) : x = rowP r := by
  cases x <;> try (cases h; done)
  unfold rowZ at h
  rw [intsOf_eq h]
  rfl
theorem rowsZ_eq : ∀ {xs : List PV} {rs : List (List Int)}, rowsZ xs = some rs → xs = rs.map rowP
  | [], rs, h => by cases h; rfl
  | x :: xs, rs, h => by
    unfold rowsZ at h
    split at h
    · rename_i r ss e1 e2
      cases h
      rw [List.map_cons, ← rowZ_eq e1, ← rowsZ_eq e2]
    · cases h
@[simp] theorem rowsZ_map : ∀ rs : List (List Int), rowsZ (rs.map rowP) = some rs
  | [] => rfl
  | r :: rs => by
    have e : rowZ (rowP r) = some r := intsOf_map r
    rw [List.map_cons]
    unfold rowsZ
    rw [e, rowsZ_map rs]
def rowLe (x y : List Int) : Bool := decide (x ≤ y)
def srtR (rs : List (List Int)) : List (List Int) := rs.mergeSort rowLe
/-- a display with text keys -/
def ddisF (ks : List Str) (xs : List PV) (h : IH) : Res PV := if ks.Nodup ∧ xs.length = ks.length ∧ ks.length ≤ 15 then .ok (.ref h.length) (h ++ [.dct (ks.zip xs)]) else .stuck
def rng3L (i k : Int) (n : Nat) : List PV := (List.range n).map fun (m : Nat) => PV.int (i + (m : Int) * k)
def rng3F (x y z : PV) (h : IH) : Res Src := match x, y, z with
  | .int i, .int j, .int k => if 0 ≤ i ∧ i ≤ 1000000 ∧ 0 ≤ j ∧ j ≤ 1000000 ∧ 0 < k ∧ k ≤ 1000000 then .ok (.items (rng3L i k (if i < j then ((j - i - 1) / k + 1).toNat else 0))) h else .stuck
  | _, _, _ => .stuck
/-- xs[::-1] -/
def revF (x : PV) (h : IH) : Res PV := match x with
  | .tup xs => .ok (.tup xs.reverse) h
  | .fl xs => new h xs.reverse
  | .ref a => (match h[a]? with
    | some (.lst xs) => new h xs.reverse
    | _ => .stuck)
  | _ => .stuck
def psrtF (x : PV) (h : IH) : Res PV := match x with
  | .ref r => (match h[r]? with
    | some (.lst xs) => (match rowsZ xs with
      | some rs => if (rs.all fun r => !r.isEmpty) = true then new h ((srtR rs).map rowP) else .stuck
      | none => .stuck)
    | _ => .stuck)
  | _ => .stuck
def tsetF (x : PV) (h : IH) : Res PV := match x with
  | .ref r => (match h[r]? with
    | some (.lst xs) => (match strsOf xs with
      | some zs => if zs.length < 1000 then new h ((srtU zs).map PV.str) else .stuck
      | none => .stuck)
    | _ => .stuck)
  | _ => .stuck
def nempF (x : PV) (h : IH) : Res PV := match rd h x with
  | some xs => .ok (.bl xs.isEmpty) h
  | none => .stuck
def dixF (x : PV) (k : Str) (h : IH) : Res PV := match x with
  | .ref r => (match h[r]? with
    | some (.dct kvs) => (match kvs.lookup k with
      | some v => .ok v h
      | none => .stuck)
    | _ => .stuck)
  | _ => .stuck
/-- the value of a key that is there -/
def dsetK (kvs : List (Str × PV)) (k : Str) (v : PV) : List (Str × PV) := kvs.map fun p => if p.1 = k then (p.1, v) else p
def dputF (x : PV) (k : Str) (v : PV) (h : IH) : Res Unit := match x with
  | .ref r => (match h[r]? with
    | some (.dct kvs) => if (kvs.any fun p => decide (p.1 = k)) = true ∧ kvs.length < sizeLine then .ok () (h.set r (.dct (dsetK kvs k v))) else .stuck
    | _ => .stuck)
  | _ => .stuck
def dlitF (k : Str) (x : PV) (ks : List (Str × Int)) (h : IH) : Res PV := if (k :: ks.map (·.1)).Nodup ∧ ks.length < 15 then .ok (.ref h.length) (h ++ [.dct ((k, x) :: ks.map fun p => (p.1, PV.int p.2))]) else .stuck
def dgetF (x y : PV) (h : IH) : Res PV := match x, y with
  | .ref r, .str k => (match h[r]? with
    | some (.dct kvs) => (match kvs.lookup k with
      | some v => .ok v h
      | none => .stuck)
    | _ => .stuck)
  | _, _ => .stuck
def dinF (neg : Bool) (y x : PV) (h : IH) : Res PV := match x, y with
  | .ref r, .str k => (match h[r]? with
    | some (.dct kvs) => .ok (.bl (if neg then !(kvs.lookup k).isSome else (kvs.lookup k).isSome)) h
    | _ => .stuck)
  | _, _ => .stuck
/-- in its place, or at the end -/
def dputL (kvs : List (Str × PV)) (k : Str) (v : PV) : List (Str × PV) := if (kvs.any fun p => decide (p.1 = k)) = true then dsetK kvs k v else kvs ++ [(k, v)]
def dputkF (x y z : PV) (h : IH) : Res Unit := match x, y with
  | .ref r, .str k => (match h[r]? with
    | some (.dct kvs) => if kvs.length < sizeLine then .ok () (h.set r (.dct (dputL kvs k z))) else .stuck
    | _ => .stuck)
  | _, _ => .stuck
def cntF (x y : PV) (h : IH) : Res PV := match x, y with
  | .ref r, .int k => (match h[r]? with
    | some (.lst xs) => (match intsOf xs with
      | some ns => .ok (.int (ns.count k : Nat)) h
      | none => .stuck)
    | _ => .stuck)
  | _, _ => .stuck
/-- xs[::1], xs[::-1], xs a tuple -/
def stpF (x y : PV) (h : IH) : Res PV := match x, y with
  | .tup xs, .int i => if i = 1 then .ok (.tup xs) h else if i = -1 then .ok (.tup xs.reverse) h else .stuck
  | _, _ => .stuck
/-- what a list is lengthened by -/
def rdX (h : IH) : PV → Option (List PV)
  | .tup xs => some xs
  | .ref a => match h[a]? with
    | some (.lst xs) => some xs
    | _ => none
  | _ => none
def extF (x y : PV) (h : IH) : Res Unit := match x with
  | .ref r => (match h[r]?, rdX h y with
    | some (.lst xs), some ys => if xs.length + ys.length ≤ sizeLine then .ok () (h.set r (.lst (xs ++ ys))) else .stuck
    | _, _ => .stuck)
  | _ => .stuck
def lstC (x : PV) (h : IH) : Bool := match x with
  | .ref r => (match h[r]? with
    | some (.lst _) => true
    | _ => false)
  | _ => false
def dctC (x : PV) (h : IH) : Bool := match x with
  | .ref r => (match h[r]? with
    | some (.dct _) => true
    | _ => false)
  | _ => false
def strC : PV → Bool
  | .str _ => true
  | _ => false
def signs (z : Str) : List PV := z.cps.toList.map fun c => PV.str ⟨#[c]⟩
abbrev Fns := Nat → List PV → IH → Res PV
mutual
def evE (G B : Fns) : E → Ev → IH → Res PV
  | .var i, ev, h => match ev[i]? with
    | some (some x) => .ok x h
    | _ => .stuck
  | .int i, _, h => .ok (.int i) h
  | .str s, _, h => .ok (.str s) h
  | .bl b, _, h => .ok (.bl b) h
  | .non, _, h => .ok .non h
  | .bin op a b, ev, h => (evE G B a ev h).bind fun x h1 => (evE G B b ev h1).bind fun y h2 => binF op x y h2
  | .neg a, ev, h => (evE G B a ev h).bind fun x h1 => match x with
    | .int i => .ok (.int (-i)) h1
    | _ => .stuck
  | .cmp op a b, ev, h => (evE G B a ev h).bind fun x h1 => (evE G B b ev h1).bind fun y h2 => cmpF op x y h2
  | .chain o1 o2 a b c, ev, h => (evE G B a ev h).bind fun x h1 => (evE G B b ev h1).bind fun y h2 => (cmpF o1 x y h2).bind fun z h3 => match z with
    | .bl true => (evE G B c ev h3).bind fun w h4 => cmpF o2 y w h4
    | .bl false => .ok (.bl false) h3
    | _ => .stuck
  | .isn a, ev, h => (evE G B a ev h).bind fun x h1 => .ok (.bl (isNon x)) h1
  | .notn a, ev, h => (evE G B a ev h).bind fun x h1 => .ok (.bl (!isNon x)) h1
  | .band a b, ev, h => (evE G B a ev h).bind fun x h1 => match x with
    | .bl true => evE G B b ev h1
    | .bl false => .ok (.bl false) h1
    | _ => .stuck
  | .bor a b, ev, h => (evE G B a ev h).bind fun x h1 => match x with
    | .bl false => evE G B b ev h1
    | .bl true => .ok (.bl true) h1
    | _ => .stuck
  | .not a, ev, h => (evE G B a ev h).bind fun x h1 => match x with
    | .bl b => .ok (.bl (!b)) h1
    | _ => .stuck
  | .ite c a b, ev, h => (evE G B c ev h).bind fun x h1 => match x with
    | .bl true => evE G B a ev h1
    | .bl false => evE G B b ev h1
    | _ => .stuck
  | .tup es, ev, h => (evEs G B es ev h).bind fun xs h1 => newT h1 xs
  | .lst es, ev, h => (evEs G B es ev h).bind fun xs h1 => new h1 xs
  | .ix a i, ev, h => (evE G B a ev h).bind fun x h1 => (evE G B i ev h1).bind fun y h2 => ixF x y h2
  | .call f es, ev, h => (evEs G B es ev h).bind fun xs h1 => G f xs h1
  | .bi b es, ev, h => (evEs G B es ev h).bind fun xs h1 => B b xs h1
  | .lc elt tg it cond, ev, h => (evIt G B it ev h).bind fun src h1 =>
      (lcLoop src (lcTurn tg (wipeE ev tg.slots) (evE G B cond) (evE G B elt)) (src.fuel h1) 0 [] h1).bind fun acc h2 => .ok (.ref h2.length) (h2 ++ [.lst acc])
  | .anyg al elt tg it, ev, h => (evIt G B it ev h).bind fun src h1 => agLoop al src (agTurn tg (wipeE ev tg.slots) (evE G B elt)) (src.fuel h1) 0 h1
  | .slc a lo hi, ev, h => (evE G B a ev h).bind fun x h1 => (evPt G B lo ev h1).bind fun l h2 => (evPt G B hi ev h2).bind fun u h3 => slcF x l u h3
  | .isin t a, ev, h => (evE G B a ev h).bind fun x h1 => isF t x h1
  | .isan ts a, ev, h => (evE G B a ev h).bind fun x h1 => isanF ts x h1
  | .cont neg a b, ev, h => (evE G B a ev h).bind fun x h1 => (evE G B b ev h1).bind fun y h2 => contF neg x y h2
  | .pop a i, ev, h => (evE G B a ev h).bind fun x h1 => if lstC x h1 = true then (evE G B i ev h1).bind fun y h2 => popF x y h2 else .stuck
  | .sidx a b, ev, h => (evE G B a ev h).bind fun x h1 => if strC x = true then (evE G B b ev h1).bind fun y h2 => sidxF x y h2 else .stuck
  | .join a b, ev, h => (evE G B a ev h).bind fun x h1 => if strC x = true then (evE G B b ev h1).bind fun y h2 => joinF x y h2 else .stuck
  | .dlit k a ks, ev, h => (evE G B a ev h).bind fun x h1 => dlitF k x ks h1
  | .dix a k, ev, h => (evE G B a ev h).bind fun x h1 => dixF x k h1
  | .tset a, ev, h => (evE G B a ev h).bind fun x h1 => tsetF x h1
  | .tsrt a, ev, h => (evE G B a ev h).bind fun x h1 => tsrtF x h1
  | .psrt a, ev, h => (evE G B a ev h).bind fun x h1 => psrtF x h1
  | .ddis ks es, ev, h => (evEs G B es ev h).bind fun xs h1 => ddisF ks xs h1
  | .rev a, ev, h => (evE G B a ev h).bind fun x h1 => revF x h1
  | .dgt a k, ev, h => (evE G B a ev h).bind fun x h1 => if dctC x h1 = true then (evE G B k ev h1).bind fun y h2 => dgetF x y h2 else .stuck
  | .stp a s, ev, h => (evE G B a ev h).bind fun x h1 => (evE G B s ev h1).bind fun y h2 => stpF x y h2
  | .isb neg a b, ev, h => (evE G B a ev h).bind fun x h1 => (evE G B b ev h1).bind fun y h2 => isbF neg x y h2
  | .trng a, ev, h => (evE G B a ev h).bind fun x h1 => trngF x h1
  | .nemp a, ev, h => (evE G B a ev h).bind fun x h1 => nempF x h1
  | .gcon _ k, _, h => .ok k.pv h
  | .dget a k, ev, h => (evE G B a ev h).bind fun x h1 => (evE G B k ev h1).bind fun y h2 => dgetF x y h2
  | .din neg k d, ev, h => (evE G B k ev h).bind fun y h1 => (evE G B d ev h1).bind fun x h2 => dinF neg y x h2
  | .cnt a b, ev, h => (evE G B a ev h).bind fun x h1 => if lstC x h1 = true then (evE G B b ev h1).bind fun y h2 => cntF x y h2 else .stuck
  | .lrng a, ev, h => (evE G B a ev h).bind fun x h1 => lrngF x h1
  | .sset a, ev, h => (evE G B a ev h).bind fun x h1 => ssetF x h1
  | .scnt a u e, ev, h => (evE G B a ev h).bind fun x h1 => (evE G B u ev h1).bind fun y h2 => scntG (evE G B e) ev x y h2
def evPt (G B : Fns) : Pt → Ev → IH → Res (Option Int)
  | .no, _, h => .ok none h
  | .yes a, ev, h => (evE G B a ev h).bind fun x h1 => match x with
    | .int i => .ok (some i) h1
    | _ => .stuck
def evEs (G B : Fns) : Es → Ev → IH → Res (List PV)
  | .nil, _, h => .ok [] h
  | .cons e es, ev, h => (evE G B e ev h).bind fun x h1 => (evEs G B es ev h1).bind fun xs h2 => .ok (x :: xs) h2
def evIt (G B : Fns) : It → Ev → IH → Res Src
  | .rng a, ev, h => (evE G B a ev h).bind fun x h1 => match x with
    | .int j => if -(2 ^ 62) ≤ j ∧ j < 2 ^ 62 then .ok (.items (rngs 0 j.toNat)) h1 else .stuck
    | _ => .stuck
  | .rng2 a b, ev, h => (evE G B a ev h).bind fun x h1 => (evE G B b ev h1).bind fun y h2 => match x, y with
    | .int i, .int j => if -(2 ^ 62) ≤ i ∧ i < 2 ^ 62 ∧ -(2 ^ 62) ≤ j ∧ j < 2 ^ 62 then .ok (.items (rngs i (j - i).toNat)) h2 else .stuck
    | _, _ => .stuck
  | .rng3 a b c, ev, h => (evE G B a ev h).bind fun x h1 => (evE G B b ev h1).bind fun y h2 => (evE G B c ev h2).bind fun z h3 => rng3F x y z h3
  | .seq a, ev, h => (evE G B a ev h).bind fun x h1 => match x with
    | .tup xs => .ok (.items xs) h1
    | .fl xs => .ok (.items xs) h1
    | .ref b => match h1[b]? with
      | some (.lst _) => .ok (.heap b) h1
      | _ => .stuck
    | _ => .stuck
  | .enum a, ev, h => (evE G B a ev h).bind fun x h1 => enumF x h1
  | .zip a b, ev, h => (evE G B a ev h).bind fun x h1 => (evE G B b ev h1).bind fun y h2 => zipF x y h2
  | .sgn a, ev, h => (evE G B a ev h).bind fun x h1 => match x with
    | .str z => .ok (.items (signs z)) h1
    | _ => .stuck
end

/-- xs[i] = v -/
def putF (a i v : PV) (h : IH) : Res Unit := match a, i with
  | .ref r, .int j => match h[r]? with
    | some (.lst xs) => match ixN xs.length j with
      | some k => .ok () (h.set r (.lst (xs.set k v)))
      | none => .stuck
    | _ => .stuck
  | _, _ => .stuck

def appF (a v : PV) (h : IH) : Res Unit := match a with
  | .ref r => match h[r]? with
    | some (.lst xs) => if xs.length < sizeLine then .ok () (h.set r (.lst (xs ++ [v]))) else .stuck
    | _ => .stuck
  | _ => .stuck

/-- xs.insert(i, v), i from 0 on -/
def insF (x i z : PV) (h : IH) : Res Unit := match x, i with
  | .ref r, .int j => (match h[r]? with
    | some (.lst xs) => if xs.length < sizeLine ∧ 0 ≤ j ∧ j < 2 ^ 63 then .ok () (h.set r (.lst (xs.take j.toNat ++ [z] ++ xs.drop j.toNat))) else .stuck
    | _ => .stuck)
  | _, _ => .stuck
/-- try: i = e, except cs: i = k -/
def triF (r : Res PV) (cs : List Str) (k : IH → Res PV) (f : PV → IH → Res Fl) : Res Fl := match r with
  | .ok x h => f x h
  | .exc c fs h => if cs.contains c then (k h).bind f else .exc c fs h
  | .stuck => .stuck
/-- what a def tells of an error: its fields, or that it is another -/
def noV (yes : List (Str × List Str)) (c : Str) (fs : List PV) : PV := match yes.lookup c with
  | some ws => .tup (ws.map PV.str ++ fs)
  | none => .tup [.str "other"]
/-- try: x = .., except .. as e: x = g(e) -/
def triaF (r : Res PV) (cs : List Str) (yes : List (Str × List Str)) (i j : Nat) (ev : Ev) : Res Fl := match r with
  | .ok x h => .ok (.nx (ev.set i (some x))) h
  | .exc c fs h => if cs.contains c then (if j < ev.length then .ok (.nx ((ev.set i (some (noV yes c fs))).set j none)) h else .stuck) else .exc c fs h
  | .stuck => .stuck
def evX (G B : Fns) : Sx → Ev → IH → Res Fl
  | .set tg e, ev, h => (evE G B e ev h).bind fun x h1 => match bindT tg x h1 ev with
    | some ev' => .ok (.nx ev') h1
    | none => .stuck
  | .par i j a b, ev, h => (evE G B a ev h).bind fun x h1 => (evE G B b ev h1).bind fun y h2 => .ok (.nx ((ev.set i (some x)).set j (some y))) h2
  | .par3 i j l a b c, ev, h => (evE G B a ev h).bind fun x h1 => (evE G B b ev h1).bind fun y h2 => (evE G B c ev h2).bind fun z h3 => .ok (.nx (((ev.set i (some x)).set j (some y)).set l (some z))) h3
  | .put a i v, ev, h => (evE G B v ev h).bind fun z h1 => (evE G B a ev h1).bind fun x h2 => (evE G B i ev h2).bind fun y h3 => (putF x y z h3).bind fun _ h4 => .ok (.nx ev) h4
  | .augv i op e, ev, h => match ev[i]? with
    | some (some x) => (evE G B e ev h).bind fun y h1 => (augF op x y h1).bind fun z h2 => .ok (.nx (ev.set i (some z))) h2
    | _ => .stuck
  | .augp a i op e, ev, h => (evE G B a ev h).bind fun x h1 => match x with
    | .ref r => (evE G B i ev h1).bind fun y h2 => (ixF (.ref r) y h2).bind fun old h3 => (evE G B e ev h3).bind fun v h4 => (augF op old v h4).bind fun z h5 => (putF (.ref r) y z h5).bind fun _ h6 => .ok (.nx ev) h6
    | _ => .stuck
  | .ret e, ev, h => (evE G B e ev h).bind fun x h1 => .ok (.rt x) h1
  | .drop e, ev, h => (evE G B e ev h).bind fun _ h1 => .ok (.nx ev) h1
  | .app a e, ev, h => (evE G B a ev h).bind fun x h1 => match x with
    | .ref r => (match h1[r]? with
      | some (.lst _) => (evE G B e ev h1).bind fun y h2 => (appF (.ref r) y h2).bind fun _ h3 => .ok (.nx ev) h3
      | _ => .stuck)
    | _ => .stuck
  | .ext a e, ev, h => (evE G B a ev h).bind fun x h1 => if lstC x h1 = true then (evE G B e ev h1).bind fun y h2 => (extF x y h2).bind fun _ h3 => .ok (.nx ev) h3 else .stuck
  | .dput a k v, ev, h => (evE G B v ev h).bind fun z h1 => (evE G B a ev h1).bind fun x h2 => (dputF x k z h2).bind fun _ h3 => .ok (.nx ev) h3
  | .dputk a k v, ev, h => (evE G B v ev h).bind fun z h1 => (evE G B a ev h1).bind fun x h2 => (evE G B k ev h2).bind fun y h3 => (dputkF x y z h3).bind fun _ h4 => .ok (.nx ev) h4
  | .ins a i e, ev, h => (evE G B a ev h).bind fun x h1 => if lstC x h1 = true then (evE G B i ev h1).bind fun y h2 => (evE G B e ev h2).bind fun z h3 => (insF x y z h3).bind fun _ h4 => .ok (.nx ev) h4 else .stuck
  | .rais c es, ev, h => (evEs G B es ev h).bind fun xs h1 => .exc c xs h1
  | .tri i e cs k, ev, h => triF (evE G B e ev h) cs (fun h1 => evE G B k ev h1) fun x h1 => .ok (.nx (ev.set i (some x))) h1
  | .tria i e cs yes j _, ev, h => triaF (evE G B e ev h) cs yes i j ev
  | .never, _, _ => .stuck

def forLoop (src : Src) (f : PV → Ev → IH → Res Fl) : Nat → Nat → Ev → IH → Res Fl
  | 0, _, _, _ => .stuck
  | n + 1, k, ev, h => match src.get h k with
    | none => .stuck
    | some none => .ok (.nx ev) h
    | some (some x) => (f x ev h).bind fun o h1 => match o with
      | .nx ev' => forLoop src f n (k + 1) ev' h1
      | .rt y => .ok (.rt y) h1

def whlLoop (c : Ev → IH → Res PV) (f : Ev → IH → Res Fl) : Nat → Ev → IH → Res Fl
  | 0, _, _ => .stuck
  | n + 1, ev, h => (c ev h).bind fun b h1 => match b with
    | .bl true => (f ev h1).bind fun o h2 => match o with
      | .nx ev' => whlLoop c f n ev' h2
      | .rt y => .ok (.rt y) h2
    | .bl false => .ok (.nx ev) h1
    | _ => .stuck

mutual
def evS (G B : Fns) : S → Ev → IH → Res Fl
  | .x s, ev, h => evX G B s ev h
  | .ifs c a b, ev, h => (evE G B c ev h).bind fun x h1 => match x with
    | .bl true => evSs G B a ev h1
    | .bl false => evSs G B b ev h1
    | _ => .stuck
  | .for tg it b, ev, h => (evIt G B it ev h).bind fun src h1 => forLoop src (forTurn tg (evSs G B b)) (src.fuel h1) 0 ev h1
  | .whl c b, ev, h => whlLoop (evE G B c) (evSs G B b) 100000 ev h
def evSs (G B : Fns) : Ss → Ev → IH → Res Fl
  | .nil, ev, h => .ok (.nx ev) h
  | .cons s ss, ev, h => (evS G B s ev h).bind fun o h1 => match o with
    | .nx ev' => evSs G B ss ev' h1
    | .rt y => .ok (.rt y) h1
end

/-- a def's call: n names in all -/
def evF (G B : Fns) (n : Nat) (b : Ss) (xs : List PV) (h : IH) : Res PV :=
  (evSs G B b (xs.map some ++ List.replicate (n - xs.length) none) h).bind fun o h1 => match o with
    | .nx _ => .ok .non h1
    | .rt y => .ok y h1
end Vm

set_option Elab.async false
set_option linter.all false
set_option maxRecDepth 100000
/-! VmB: how the evaluator's values and heap stand for the machine's. -/
namespace Vm
open PySem PySem.Spec PyProof.Rows L2

/-- a list that nobody writes -/
def SqF (K : PySem.W.Frag) (H : Hp) (a : Addr) (xs : List V) : Prop :=
  (∃ o, H a = some (.frz o (.lst xs))) ∨
    ∃ (o : Obj) (its : Array Value) (n : Nat), K.lookup a = some o ∧ o.cls = .type "list" ∧ o.dict = none ∧ o.data = .seq its n ∧ its.size ≤ sizeLine ∧ Vals xs its.toList
theorem SqF.sq {K : PySem.W.Frag} {H : Hp} {a : Addr} {xs : List V} (h : SqF K H a xs) : SqL K H a xs := by
  rcases h with ⟨o, h⟩ | h
  · exact .inl (.inr ⟨o, h⟩)
  · exact .inr h

mutual
inductive Rep (K : PySem.W.Frag) (m : List Addr) (H : Hp) : V → PV → Prop
  | non : Rep K m H .non .non
  | bl {b : Bool} : Rep K m H (.bl b) (.bl b)
  | int {i : Int} : Rep K m H (.int i) (.int i)
  | str {s : Str} : Rep K m H (.str s) (.str s)
  | tup {p : Addr} {vs : List V} {xs : List PV} : SqT K H p vs → Reps K m H vs xs → Rep K m H (.ref p) (.tup xs)
  | fl {p : Addr} {vs : List V} {xs : List PV} : SqF K H p vs → Reps K m H vs xs → Rep K m H (.ref p) (.fl xs)
  | ref {p : Addr} {a : Nat} : m[a]? = some p → Rep K m H (.ref p) (.ref a)
inductive Reps (K : PySem.W.Frag) (m : List Addr) (H : Hp) : List V → List PV → Prop
  | nil : Reps K m H [] []
  | cons {v : V} {x : PV} {vs : List V} {xs : List PV} : Rep K m H v x → Reps K m H vs xs → Reps K m H (v :: vs) (x :: xs)
end

/-- the tables of code objects that may grow -/
class Tbs where
  at' : List Addr
  cls : List (Str × List Str)
/-- what never changes is kept -/
structure Keep (H H' : Hp) : Prop where
  tup : ∀ b xs, H b = some (.tup xs) → H' b = some (.tup xs)
  frz : ∀ b o u, H b = some (.frz o u) → H' b = some (.frz o u)
theorem Keep.refl (H : Hp) : Keep H H := ⟨fun _ _ h => h, fun _ _ _ h => h⟩
theorem Keep.trans {H H1 H2 : Hp} (a : Keep H H1) (b : Keep H1 H2) : Keep H H2 := ⟨fun c xs h => b.tup c xs (a.tup c xs h), fun c o u h => b.frz c o u (a.frz c o u h)⟩
theorem Keep.laid {H : Hp} {p : Addr} {o : HO} (h : H p = none) : Keep H (upd H p o) :=
  ⟨fun b xs e => by rw [upd_ne (ne_of_none e h)]; exact e, fun b o u e => by rw [upd_ne (ne_of_none e h)]; exact e⟩
theorem Keep.wrote {H : Hp} {p : Addr} {o : HO} {vs : List V} (h : H p = some (.lst vs)) : Keep H (upd H p o) :=
  ⟨fun b xs e => by rw [upd_ne (ne_of e h (fun z => nomatch z))]; exact e, fun b o u e => by rw [upd_ne (ne_of e h (fun z => nomatch z))]; exact e⟩
theorem Keep.wroteD {H : Hp} {p : Addr} {o : HO} {vs : List (Key × V)} (h : H p = some (.dK vs)) : Keep H (upd H p o) :=
  ⟨fun b xs e => by rw [upd_ne (ne_of e h (fun z => nomatch z))]; exact e, fun b o u e => by rw [upd_ne (ne_of e h (fun z => nomatch z))]; exact e⟩

structure Grow (m : List Addr) (H : Hp) (m' : List Addr) (H' : Hp) : Prop where
  ap : ∃ z, m' = m ++ z
  kp : Keep H H'
  fr : ∀ b o, H b = some o → (∀ ps, o ≠ .tbl ps) → b ∉ m → H' b = some o ∧ b ∉ m'
theorem Grow.refl (m : List Addr) (H : Hp) : Grow m H m H := ⟨⟨[], by simp⟩, Keep.refl H, fun _ _ h _ n => ⟨h, n⟩⟩
/-- something untracked by the evaluator is laid -/
theorem Grow.junk {m : List Addr} {H : Hp} {p : Addr} {o : HO} (e : H p = none) : Grow m H m (upd H p o) :=
  ⟨⟨[], by simp⟩, Keep.laid e, fun b u h _ n => ⟨by rw [upd_ne (ne_of_none h e)]; exact h, n⟩⟩
theorem Grow.trans {m m1 m2 : List Addr} {H H1 H2 : Hp} (a : Grow m H m1 H1) (b : Grow m1 H1 m2 H2) : Grow m H m2 H2 := by
  obtain ⟨z, rfl⟩ := a.ap
  obtain ⟨y, rfl⟩ := b.ap
  exact ⟨⟨z ++ y, by simp⟩, a.kp.trans b.kp, fun c o h nt n => (b.fr c o (a.fr c o h nt n).1 nt (a.fr c o h nt n).2)⟩
theorem Grow.at {m m' : List Addr} {H H' : Hp} (g : Grow m H m' H') {i : Nat} {p : Addr} (h : m[i]? = some p) : m'[i]? = some p := by
  obtain ⟨z, rfl⟩ := g.ap
  rw [List.getElem?_append_left (List.getElem?_eq_some_iff.mp h).1]
  exact h

section
variable {K : PySem.W.Frag} {m m' : List Addr} {H H' : Hp}
theorem SqT.keep {a : Addr} {xs : List V} (k : Keep H H') (h : SqT K H a xs) : SqT K H' a xs := by
  rcases h with (h | ⟨o, h⟩) | h
  · exact .inl (.inl (k.tup _ _ h))
  · exact .inl (.inr ⟨o, k.frz _ _ _ h⟩)
  · exact .inr h
theorem SqF.keep {a : Addr} {xs : List V} (k : Keep H H') (h : SqF K H a xs) : SqF K H' a xs := by
  rcases h with ⟨o, h⟩ | h
  · exact .inl ⟨o, k.frz _ _ _ h⟩
  · exact .inr h
mutual
theorem Rep.grow0 (hm : ∃ z, m' = m ++ z) (k : Keep H H') : ∀ {v : V} {x : PV}, Rep K m H v x → Rep K m' H' v x
  | _, _, .non => .non
  | _, _, .bl => .bl
  | _, _, .int => .int
  | _, _, .str => .str
  | _, _, .tup h r => .tup (Vm.SqT.keep k h) (Reps.grow0 hm k r)
  | _, _, .fl h r => .fl (h.keep k) (Reps.grow0 hm k r)
  | _, _, .ref h => .ref (by
      obtain ⟨z, rfl⟩ := hm
      rw [List.getElem?_append_left (List.getElem?_eq_some_iff.mp h).1]
      exact h)
theorem Reps.grow0 (hm : ∃ z, m' = m ++ z) (k : Keep H H') : ∀ {vs : List V} {xs : List PV}, Reps K m H vs xs → Reps K m' H' vs xs
  | _, _, .nil => .nil
  | _, _, .cons r t => .cons (Rep.grow0 hm k r) (Reps.grow0 hm k t)
end
theorem Rep.grow (g : Grow m H m' H') {v : V} {x : PV} (r : Rep K m H v x) : Rep K m' H' v x := r.grow0 g.ap g.kp
theorem Reps.grow (g : Grow m H m' H') {vs : List V} {xs : List PV} (r : Reps K m H vs xs) : Reps K m' H' vs xs := r.grow0 g.ap g.kp
theorem Reps.length : ∀ {vs : List V} {xs : List PV}, Reps K m H vs xs → vs.length = xs.length
  | _, _, .nil => rfl
  | _, _, .cons _ t => by rw [List.length_cons, List.length_cons, Reps.length t]
theorem Reps.get : ∀ {vs : List V} {xs : List PV} {i : Nat} {x : PV}, Reps K m H vs xs → xs[i]? = some x → ∃ v, vs[i]? = some v ∧ Rep K m H v x
  | _, _, _, _, .nil, e => by simp at e
  | _, _, 0, _, .cons r _, e => by simp at e; subst e; exact ⟨_, rfl, r⟩
  | _, _, i + 1, x, .cons _ t, e => by
    obtain ⟨u, h1, h2⟩ := Reps.get (i := i) (x := x) t (by simpa using e)
    exact ⟨u, by simpa using h1, h2⟩
theorem Reps.append : ∀ {vs ws : List V} {xs ys : List PV}, Reps K m H vs xs → Reps K m H ws ys → Reps K m H (vs ++ ws) (xs ++ ys)
  | _, _, _, _, .nil, s => s
  | _, _, _, _, .cons r t, s => .cons r (Reps.append t s)
theorem Reps.set {v : V} {x : PV} (r : Rep K m H v x) : ∀ {vs : List V} {xs : List PV} (i : Nat), Reps K m H vs xs → Reps K m H (vs.set i v) (xs.set i x)
  | _, _, _, .nil => .nil
  | _, _, 0, .cons _ t => .cons r t
  | _, _, i + 1, .cons q t => .cons q (Reps.set r i t)
theorem Reps.take : ∀ {vs : List V} {xs : List PV} (n : Nat), Reps K m H vs xs → Reps K m H (vs.take n) (xs.take n)
  | _, _, 0, _ => .nil
  | _, _, _ + 1, .nil => .nil
  | _, _, n + 1, .cons r t => .cons r (Reps.take n t)
theorem Reps.drop : ∀ {vs : List V} {xs : List PV} (n : Nat), Reps K m H vs xs → Reps K m H (vs.drop n) (xs.drop n)
  | _, _, 0, r => r
  | _, _, _ + 1, .nil => .nil
  | _, _, n + 1, .cons _ t => Reps.drop n t
theorem Reps.ints : ∀ {vs : List V} {ns : List Int}, Reps K m H vs (ns.map PV.int) → vs = ns.map V.int
  | _, [], .nil => rfl
  | _, n :: ns, .cons r t => by cases r; rw [Reps.ints t]; rfl
theorem Reps.ofInts : ∀ (ns : List Int), Reps K m H (ns.map V.int) (ns.map PV.int)
  | [] => .nil
  | n :: ns => .cons .int (Reps.ofInts ns)
theorem Reps.strs : ∀ {vs : List V} {ns : List Str}, Reps K m H vs (ns.map PV.str) → vs = ns.map V.str
  | _, [], .nil => rfl
  | _, n :: ns, .cons r t => by cases r; rw [Reps.strs t]; rfl
theorem Reps.ofStrs : ∀ (ns : List Str), Reps K m H (ns.map V.str) (ns.map PV.str)
  | [] => .nil
  | n :: ns => .cons .str (Reps.ofStrs ns)

/-- at p stands o -/
def HRep (K : PySem.W.Frag) (m : List Addr) (H : Hp) (p : Addr) : HV → Prop
  | .lst xs => ∃ vs, H p = some (.lst vs) ∧ Reps K m H vs xs
  | .dct kvs => ∃ ws, H p = some (.dK ws) ∧ Paired (fun (a : Key × V) (b : Str × PV) => a.1 = .inr b.1 ∧ Rep K m H a.2 b.2) ws kvs
theorem tab_ne {H : Hp} {P p : Addr} (t : GxR.TabG H P) (h : ∀ ps, H p ≠ some (.tbl ps)) : P ≠ p := fun z => by
  obtain ⟨ps, e, _⟩ := t
  rw [z] at e
  exact h ps e
theorem tab_upd {H : Hp} {P p : Addr} {o : HO} (t : GxR.TabG H P) (h : ∀ ps, H p ≠ some (.tbl ps)) : GxR.TabG (upd H p o) P := by
  have n := tab_ne t h
  obtain ⟨ps, e, r⟩ := t
  exact ⟨ps, by rw [upd_ne n]; exact e, r⟩
variable [T : Tbs]
structure RelH (K : PySem.W.Frag) (m : List Addr) (H : Hp) (h : IH) : Prop where
  len : m.length = h.length
  nd : m.Nodup
  tb : ∀ P ∈ T.at', GxR.TabG H P
  at' : ∀ (i : Nat) o p, h[i]? = some o → m[i]? = some p → HRep K m H p o
theorem HRep.some {p : Addr} {o : HV} (h : HRep K m H p o) : ∃ u, H p = some u := by
  cases o with
  | lst xs => obtain ⟨vs, e, _⟩ := h; exact ⟨_, e⟩
  | dct xs => obtain ⟨vs, e, _⟩ := h; exact ⟨_, e⟩
theorem HRep.grow {p : Addr} {o : HV} (g : Grow m H m' H') (e : H' p = H p) (h : HRep K m H p o) : HRep K m' H' p o := by
  cases o with
  | lst xs => obtain ⟨vs, e1, r⟩ := h; exact ⟨vs, by rw [e]; exact e1, r.grow g⟩
  | dct xs => obtain ⟨vs, e1, r⟩ := h; exact ⟨vs, by rw [e]; exact e1, Paired.mapP r fun a b z => ⟨z.1, z.2.grow g⟩⟩
variable {h : IH}
/-- a table has grown -/
theorem RelH.tabbed (R : RelH K m H h) {P : Addr} (hP : P ∈ T.at') (tb : GxR.Tabbed P H H') : RelH K m H' h ∧ Grow m H m H' := by
  obtain ⟨ps, e, _⟩ := R.tb P hP
  have ne : ∀ b o, H b = some o → (∀ ps, o ≠ .tbl ps) → b ≠ P := fun b o q nt z => by
    rw [z, e] at q
    exact nt ps (Option.some.inj q).symm
  have g : Grow m H m H' := ⟨⟨[], by simp⟩, ⟨fun b xs q => by rw [tb.2 b (ne b _ q fun _ z => nomatch z)]; exact q, fun b o u q => by rw [tb.2 b (ne b _ q fun _ z => nomatch z)]; exact q⟩, fun b o q nt n => ⟨by rw [tb.2 b (ne b o q nt)]; exact q, n⟩⟩
  refine ⟨⟨R.len, R.nd, fun P2 hP2 => ?_, fun i u q h1 h2 => ?_⟩, g⟩
  · by_cases z : P2 = P
    · rw [z]
      exact tb.1
    · obtain ⟨qs, e2, r⟩ := R.tb P2 hP2
      exact ⟨qs, by rw [tb.2 P2 z]; exact e2, r⟩
  · have r := R.at' i u q h1 h2
    have nq : q ≠ P := by
      cases u with
      | lst xs => obtain ⟨vs, e1, _⟩ := r; exact ne q _ e1 fun _ z => nomatch z
      | dct xs => obtain ⟨vs, e1, _⟩ := r; exact ne q _ e1 fun _ z => nomatch z
    exact r.grow g (tb.2 q nq)
theorem RelH.addr (R : RelH K m H h) {i : Nat} {o : HV} (e : h[i]? = some o) : ∃ p, m[i]? = some p ∧ HRep K m H p o := by
  have hi : i < m.length := by rw [R.len]; exact (List.getElem?_eq_some_iff.mp e).1
  exact ⟨m[i], by simp [hi], R.at' i o _ e (by simp [hi])⟩
theorem RelH.back (R : RelH K m H h) {i : Nat} {p : Addr} (e : m[i]? = some p) : ∃ o, h[i]? = some o ∧ HRep K m H p o := by
  have hi : i < h.length := by rw [← R.len]; exact (List.getElem?_eq_some_iff.mp e).1
  exact ⟨h[i], by simp [hi], R.at' i _ _ (by simp [hi]) e⟩
theorem RelH.mem (R : RelH K m H h) {p : Addr} (e : p ∈ m) : ∃ u, H p = some u := by
  obtain ⟨i, hi⟩ := List.mem_iff_getElem?.mp e
  obtain ⟨o, _, q⟩ := R.back hi
  exact q.some
/-- something untracked by the evaluator is laid -/
theorem RelH.junk (R : RelH K m H h) {p : Addr} {o : HO} (e : H p = none) : RelH K m (upd H p o) h :=
  ⟨R.len, R.nd, fun P hP => tab_upd (R.tb P hP) (fun ps z => by rw [e] at z; cases z), fun i u q h1 h2 => by
    have r := R.at' i u q h1 h2
    obtain ⟨z, hz⟩ := r.some
    exact r.grow (Grow.junk e) (upd_ne (ne_of_none hz e))⟩
theorem HRep.grow0 {p : Addr} {o : HV} (hm : ∃ z, m' = m ++ z) (k : Keep H H') (e : H' p = H p) (h : HRep K m H p o) : HRep K m' H' p o := by
  cases o with
  | lst xs => obtain ⟨vs, e1, r⟩ := h; exact ⟨vs, by rw [e]; exact e1, r.grow0 hm k⟩
  | dct xs => obtain ⟨vs, e1, r⟩ := h; exact ⟨vs, by rw [e]; exact e1, Paired.mapP r fun a b z => ⟨z.1, z.2.grow0 hm k⟩⟩
/-- a list that is not the evaluator's is rewritten -/
theorem RelH.own (R : RelH K m H h) {p : Addr} {o : HO} {vs : List V} (e : H p = some (.lst vs)) (hp : p ∉ m) : RelH K m (upd H p o) h :=
  ⟨R.len, R.nd, fun P hP => tab_upd (R.tb P hP) (fun ps z => by rw [e] at z; cases z), fun i u q h1 h2 => (R.at' i u q h1 h2).grow0 ⟨[], by simp⟩ (Keep.wrote e) (upd_ne fun z => hp (by rw [← z]; exact List.mem_of_getElem? h2))⟩
/-- .. one that was not there -/
theorem Grow.own (g : Grow m H m' H') {p : Addr} {o : HO} (e : H p = none) : Grow m H m' (upd H' p o) :=
  ⟨g.ap, ⟨fun b xs q => by rw [upd_ne (ne_of_none q e)]; exact g.kp.tup b xs q, fun b u v q => by rw [upd_ne (ne_of_none q e)]; exact g.kp.frz b u v q⟩,
    fun b u q nt n => ⟨by rw [upd_ne (ne_of_none q e)]; exact (g.fr b u q nt n).1, (g.fr b u q nt n).2⟩⟩
/-- it becomes one of the evaluator's -/
theorem RelH.take (R : RelH K m H h) {p : Addr} {vs : List V} {xs : List PV} (e : H p = some (.lst vs)) (hp : p ∉ m) (r : Reps K m H vs xs) : RelH K (m ++ [p]) H (h ++ [.lst xs]) := by
  refine ⟨by simp [R.len], ?_, R.tb, fun i u q h1 h2 => ?_⟩
  · rw [List.nodup_append]
    exact ⟨R.nd, by simp, fun a ha b hb => by
      have : b = p := by simpa using hb
      subst this
      intro z
      subst z
      exact hp ha⟩
  · by_cases hi : i < h.length
    · rw [List.getElem?_append_left hi] at h1
      rw [List.getElem?_append_left (by rw [R.len]; exact hi)] at h2
      exact (R.at' i u q h1 h2).grow0 ⟨[p], rfl⟩ (Keep.refl H) rfl
    · have hi2 : i = h.length := by
        have := (List.getElem?_eq_some_iff.mp h1).1
        simp at this
        omega
      subst hi2
      rw [← R.len] at h2
      simp at h1 h2
      subst h1
      subst h2
      exact ⟨vs, e, r.grow0 ⟨[p], rfl⟩ (Keep.refl H)⟩
theorem Grow.take (g : Grow m H m' H') {p : Addr} (e : H p = none) : Grow m H (m' ++ [p]) H' := by
  obtain ⟨z, rfl⟩ := g.ap
  refine ⟨⟨z ++ [p], by simp⟩, g.kp, fun b u q nt n => ⟨(g.fr b u q nt n).1, fun w => ?_⟩⟩
  rcases List.mem_append.mp w with w | w
  · exact (g.fr b u q nt n).2 w
  · have : b = p := by simpa using w
    exact ne_of_none q e this
/-- a new object is laid -/
theorem RelH.laid (R : RelH K m H h) {p : Addr} {vs : List V} {xs : List PV} (e : H p = none) (r : Reps K m H vs xs) : RelH K (m ++ [p]) (upd H p (.lst vs)) (h ++ [.lst xs]) ∧ Grow m H (m ++ [p]) (upd H p (.lst vs)) := by
  have g : Grow m H (m ++ [p]) (upd H p (.lst vs)) := ⟨⟨[p], rfl⟩, Keep.laid e, fun b u h _ n => ⟨by rw [upd_ne (ne_of_none h e)]; exact h, fun z => by
    rcases List.mem_append.mp z with z | z
    · exact n z
    · have : b = p := by simpa using z
      exact ne_of_none h e this⟩⟩
  have hp : p ∉ m := fun z => by
    obtain ⟨u, hu⟩ := R.mem z
    rw [e] at hu; cases hu
  refine ⟨⟨by simp [R.len], ?_, fun P hP => tab_upd (R.tb P hP) (fun ps z => by rw [e] at z; cases z), fun i u q h1 h2 => ?_⟩, g⟩
  · rw [List.nodup_append]
    exact ⟨R.nd, by simp, fun a ha b hb => by
      have : b = p := by simpa using hb
      subst this
      intro z
      subst z
      exact hp ha⟩
  · by_cases hi : i < h.length
    · rw [List.getElem?_append_left hi] at h1
      rw [List.getElem?_append_left (by rw [R.len]; exact hi)] at h2
      have r := R.at' i u q h1 h2
      obtain ⟨z, hz⟩ := r.some
      exact r.grow g (upd_ne (ne_of_none hz e))
    · have hi2 : i = h.length := by
        have := (List.getElem?_eq_some_iff.mp h1).1
        simp at this
        omega
      subst hi2
      rw [← R.len] at h2
      simp at h1 h2
      subst h1
      subst h2
      exact ⟨vs, upd_same, r.grow g⟩
/-- a list is rewritten -/
theorem RelH.wrote (R : RelH K m H h) {i : Nat} {p : Addr} {xs ys : List PV} {ws : List V} (ei : h[i]? = some (.lst xs)) (ep : m[i]? = some p) (r : Reps K m H ws ys) :
    RelH K m (upd H p (.lst ws)) (h.set i (.lst ys)) ∧ Grow m H m (upd H p (.lst ws)) := by
  obtain ⟨vs, e, _⟩ := R.at' i _ p ei ep
  have g : Grow m H m (upd H p (.lst ws)) := ⟨⟨[], by simp⟩, Keep.wrote e, fun b u h _ n => ⟨by
    rw [upd_ne (show b ≠ p from fun z => n (by rw [z]; exact List.mem_of_getElem? ep))]
    exact h, n⟩⟩
  have hi : i < h.length := (List.getElem?_eq_some_iff.mp ei).1
  refine ⟨⟨by simp [R.len], R.nd, fun P hP => tab_upd (R.tb P hP) (fun ps z => by rw [e] at z; cases z), fun j u q h1 h2 => ?_⟩, g⟩
  by_cases hj : i = j
  · subst hj
    rw [ep] at h2
    cases h2
    rw [List.getElem?_set_self hi] at h1
    cases h1
    exact ⟨ws, upd_same, r.grow g⟩
  · rw [List.getElem?_set_ne hj] at h1
    have rr := R.at' j u q h1 h2
    refine rr.grow g (upd_ne fun z => ?_)
    subst z
    have a1 := (List.getElem?_eq_some_iff.mp ep)
    have a2 := (List.getElem?_eq_some_iff.mp h2)
    exact hj ((List.getElem_inj R.nd).mp (a1.2.trans a2.2.symm))
end

/-! ### the environment -/
variable [T : Tbs]
/-- the slots bear what the evaluator's names bear -/
structure REnv (K : PySem.W.Frag) (m : List Addr) (H : Hp) (st : L2.St) (ev : Ev) : Prop where
  len : st.length = ev.length
  at' : ∀ (i : Nat) x, ev[i]? = some (some x) → ∃ v, st[i]? = some (some v) ∧ Rep K m H v x
theorem REnv.grow {K : PySem.W.Frag} {m m' : List Addr} {H H' : Hp} {st : L2.St} {ev : Ev} (g : Grow m H m' H') (r : REnv K m H st ev) : REnv K m' H' st ev :=
  ⟨r.len, fun i x e => let ⟨v, h1, h2⟩ := r.at' i x e; ⟨v, h1, h2.grow g⟩⟩
theorem REnv.set {K : PySem.W.Frag} {m : List Addr} {H : Hp} {st : L2.St} {ev : Ev} {v : V} {x : PV} (i : Nat) (r : REnv K m H st ev) (rx : Rep K m H v x) : REnv K m H (st.set i (some v)) (ev.set i (some x)) :=
  ⟨by simp [r.len], fun j y e => by
    by_cases hj : i = j
    · subst hj
      have hi : i < ev.length := by
        have := (List.getElem?_eq_some_iff.mp e).1
        simpa using this
      rw [List.getElem?_set_self hi] at e
      cases e
      exact ⟨v, List.getElem?_set_self (by rw [r.len]; exact hi), rx⟩
    · rw [List.getElem?_set_ne hj] at e
      obtain ⟨u, h1, h2⟩ := r.at' j y e
      exact ⟨u, by rw [List.getElem?_set_ne hj]; exact h1, h2⟩⟩

/-- what is wanted of an error -/
abbrev XJ := Str → List PV → List Addr → Hp → Prop
/-- .. where the slots are so -/
abbrev XI := L2.St → XJ
/-- an error stands so: its class, its dict with the fields -/
def ExcRel (K : PySem.W.Frag) (c : Str) (fs : List PV) (m : List Addr) (H : Hp) (cls : Value) (d : Option Addr) : Prop :=
  ∃ C dd ns vs, PySem.W.nsIn K mainGlobals c = some (some (.ref C)) ∧ (c, ns) ∈ T.cls ∧ cls = .ref C ∧ d = some dd ∧ ns.length = vs.length ∧ H dd = some (.xd (ns.zip vs).reverse) ∧ dd ∉ m ∧ Reps K m H vs fs
/-- what is wanted of an error by a wish over the machine's -/
def xW (K : PySem.W.Frag) (W : WX) : XI := fun st c fs m H => ∀ cls d, ExcRel K c fs m H cls d → W cls d st H
/-- the machine's end stands for the evaluator's -/
def Post {a : Type} (K : PySem.W.Frag) (xi : XJ) (m : List Addr) (H : Hp) (r : Res a) (R : a → List Addr → Hp → Prop) : Prop := match r with
  | .ok x h' => ∀ m' H', Grow m H m' H' → RelH K m' H' h' → R x m' H'
  | .exc c fs h' => ∀ m' H', Grow m H m' H' → RelH K m' H' h' → xi c fs m' H'
  | .stuck => False
theorem Post.grow {a : Type} {K : PySem.W.Frag} {xi : XJ} {m m1 : List Addr} {H H1 : Hp} {r : Res a} {R : a → List Addr → Hp → Prop} (g : Grow m H m1 H1) (p : Post K xi m H r R) : Post K xi m1 H1 r R := by
  cases r with
  | ok x h' => exact fun m' H' g' => p m' H' (g.trans g')
  | exc c fs h' => exact fun m' H' g' => p m' H' (g.trans g')
  | stuck => exact p
theorem Post.mono {a : Type} {K : PySem.W.Frag} {xi : XJ} {m : List Addr} {H : Hp} {r : Res a} {R R' : a → List Addr → Hp → Prop} (p : Post K xi m H r R) (k : ∀ x m' H', Grow m H m' H' → R x m' H' → R' x m' H') : Post K xi m H r R' := by
  cases r with
  | ok x h' => exact fun m' H' g' q => k x m' H' g' (p m' H' g' q)
  | exc c fs h' => exact p
  | stuck => exact p
/-- the first part's end, then the rest -/
theorem Post.bind {a b : Type} {K : PySem.W.Frag} {xi : XJ} {m : List Addr} {H : Hp} {r : Res a} {f : a → IH → Res b} {R : b → List Addr → Hp → Prop} {R1 : a → List Addr → Hp → Prop} (p : Post K xi m H (r.bind f) R)
    (k : ∀ x h1 m1 H1, Grow m H m1 H1 → RelH K m1 H1 h1 → Post K xi m1 H1 (f x h1) R → R1 x m1 H1) : Post K xi m H r R1 := by
  cases r with
  | ok x h1 => exact fun m1 H1 g q => k x h1 m1 H1 g q (Post.grow g p)
  | exc c fs h' => exact p
  | stuck => exact p

/-- an expression's reading by the evaluator -/
def tE (K : PySem.W.Frag) (xi : XI) (f : Ev → IH → Res PV) : TE := fun st H Q => ∃ ev m h, REnv K m H st ev ∧ RelH K m H h ∧ Post K (xi st) m H (f ev h) fun x m' H' => ∀ v, Rep K m' H' v x → Q v H'
def tT (K : PySem.W.Frag) (xi : XI) (f : Ev → IH → Res Bool) : TT := fun st H Q => ∃ ev m h, REnv K m H st ev ∧ RelH K m H h ∧ Post K (xi st) m H (f ev h) fun x _ H' => Q x H'
def tA (K : PySem.W.Frag) (xi : XI) (f : Ev → IH → Res (List PV)) : TA := fun st H Q => ∃ ev m h, REnv K m H st ev ∧ RelH K m H h ∧ Post K (xi st) m H (f ev h) fun xs m' H' => ∀ vs, Reps K m' H' vs xs → Q vs H'

theorem PEm {X : Cx} {e : Expr} {t t' : TE} (h : PE X e t) (k : ∀ st H Q, t' st H Q → t st H Q) : PE X e t' := ⟨fun pins s st H Q I q => h.run pins s st H Q I (k st H Q q)⟩
theorem PTm {X : Cx} {e : Expr} {t t' : TT} (h : PT X e t) (k : ∀ st H Q, t' st H Q → t st H Q) : PT X e t' := ⟨fun pins s st H Q I q => h.run pins s st H Q I (k st H Q q)⟩
theorem PWm {X : Cx} {e : Expr} {t t' : TT} (h : PW X e t) (k : ∀ st H Q, t' st H Q → t st H Q) : PW X e t' := ⟨fun wh pins s st H Q I q => h.run wh pins s st H Q I (k st H Q q)⟩
theorem PAm {X : Cx} {e : List Expr} {t t' : TA} (h : PA X e t) (k : ∀ st H Q, t' st H Q → t st H Q) : PA X e t' := ⟨fun pos pins s st H Q I q => h.run pos pins s st H Q I (k st H Q q)⟩
theorem PSm {X : Cx} {e : Stmt} {t t' : TS} (h : PS X e t) (k : ∀ D st H, t' D st H → t D st H) : PS X e t' := ⟨fun pins s st H D I q => h.run pins s st H D I (k D st H q)⟩
theorem PSsm {X : Cx} {e : List Stmt} {t t' : TS} (h : PSs X e t) (k : ∀ D st H, t' D st H → t D st H) : PSs X e t' := ⟨fun pins s st H D I q => h.run pins s st H D I (k D st H q)⟩
end Vm

set_option Elab.async false
set_option linter.all false
set_option maxRecDepth 100000
set_option maxHeartbeats 4000000
/-! VnA: a generator expression's frame. -/
namespace Vm
open PySem PySem.Spec PyProof.Rows L2
/-- the names of a generator expression's block: its own (with their places in N), or captured -/
structure BlkG (N : List Str) (sc scope : Scope) (own : List (Str × Nat)) : Prop where
  kind : scope.kind = .function
  co : scope.isCoroutine = false
  nocell : ∀ y ∈ scope.names, y.2 ≠ .cell
  dot : scope.names.lookup (".0" : Str) = some NameKind.local
  ix : ∀ p ∈ own, N[p.2]? = some p.1
  free : ∀ y ∈ scope.names, y.2 = .free → sc.names.lookup y.1 = some .cell ∨ sc.names.lookup y.1 = some .free
  own : ∀ y ∈ scope.names, y.2 = .local → y.1 ∈ own.map (·.1) ∨ y.1 ∉ N
abbrev genLoop (elt tg iter : Expr) (scope : Scope) (gpos : Pos) (it : Addr) (cenv : Env) : Code := .compLoop (.GeneratorExp elt [⟨tg, iter, [], 0⟩] scope gpos) 0 (.ref it) .none cenv
abbrev genBegin (elt tg iter : Expr) (scope : Scope) (gpos : Pos) (it : Addr) (cenv : Env) : Code := .compStart (.GeneratorExp elt [⟨tg, iter, [], 0⟩] scope gpos) 0 (.ref it) .none cenv
/-- the around of its frame -/
abbrev genA (X : Cx) (elt tg iter : Expr) (scope : Scope) (gpos : Pos) (it : Addr) (cenv : Env) : Around := X.A.in1.in1.over (genLoop elt tg iter scope gpos it cenv) []
abbrev gen (X : Cx) (s : Shared) (H : Hp) (cenv : Env) (A' : Around) (fp : List Addr) (pn : List (Addr × Obj)) : Cx := { X with s_0 := s, H_0 := H, env := cenv, A := A', outer := X.stack, stack := cenv :: X.stack, ex := fp, fn := fun _ => false, pn := pn, xe := fun _ _ => False }
section
variable {X : Cx} {elt tg iter : Expr} {scope : Scope} {gpos : Pos} {it : Addr} {cenv : Env}
theorem genA_handled : (genA X elt tg iter scope gpos it cenv).handled = X.A.handled := rfl
theorem genA_frames {l : List Env} (h : X.A.frames = some l) : (genA X elt tg iter scope gpos it cenv).frames = some (cenv :: l) := by
  show pushEnvs [cenv] (pushEnvs [] X.A.frames) = _
  rw [h]
  rfl
theorem genA_guards (h : X.A.guards = some []) : (genA X elt tg iter scope gpos it cenv).guards = some [] := by
  show pushGuards [] (pushGuards [] X.A.guards) = _
  rw [h]
  rfl
theorem genA_depth : (genA X elt tg iter scope gpos it cenv).depth = X.A.depth + 1 := rfl
theorem genA_units : (genA X elt tg iter scope gpos it cenv).units ≤ X.A.units + 5 := Nat.le_of_eq rfl
theorem genA_room {k : Nat} (r : Room (k + 1) X.A) : Room k (genA X elt tg iter scope gpos it cenv) :=
  ⟨r.hd, by have := r.dp; rw [genA_depth]; omega, by have := r.un; have := genA_units (X := X) (elt := elt) (tg := tg) (iter := iter) (scope := scope) (gpos := gpos) (it := it) (cenv := cenv); omega⟩
end
section
variable {X : Cx} {pins : List (Addr × Obj)} {σ : L2.St} {H : Hp} {s : Shared}
theorem gen_start {scope : Scope} {own : List (Str × Nat)} {fp : List Addr} {cenv : Env} {code : Value} {A' : Around} {h2 : Heap} {m0 : Str → Option Value} {pn : List (Addr × Obj)} {g' : Array GenState} {tk : Nat}
    (I : Inv X pins σ H s) (ok : BlkG X.N X.env.scope scope own) (hN : X.N.Nodup) (hc : X.calm = true) (hfp : ∀ b ∈ fp, FpOk X pins H b ∧ b < s.heap.objs.size)
    (hce : cenv = genEnv scope (cloFrom X.env.cells scope.names []) s.heap.objs.size code builtinsNs X.env) (hA1 : A'.handled = none) (hA2 : A'.frames = some (cenv :: X.stack))
    (hn : h2.Ns cenv.locals m0) (kp : ∀ b o, s.heap.get? b = some o → h2.get? b = some o) (hpn : ∀ p ∈ pn, h2.get? p.1 = some p.2 ∧ s.heap.objs.size < p.1 ∧ ∀ v, p.2.data ≠ .cell v) (hg : AllBare g') :
    Inv (gen X s H cenv A' fp pn) [] (wipe σ (own.map (·.2))) H { s with gens := g', toks := tk, heap := h2 } := by
  have hfree : ∀ y ∈ scope.names, y.2 = .free → ∃ c, X.env.cells.lookup y.1 = some c := fun y hy e => by
    rcases ok.free y hy e with k | k
    · exact I.ok.has _ (.inl k)
    · exact I.ok.has _ (.inr k)
  have hL : cenv.locals = s.heap.objs.size := by rw [hce]; rfl
  have hcl : cenv.cells = cloFrom X.env.cells scope.names [] := by rw [hce]; rfl
  have hsc : cenv.scope = scope := by rw [hce]; rfl
  have cm : ∀ {y c}, cenv.cells.lookup y = some c → X.env.cells.lookup y = some c ∧ c < s.heap.objs.size := fun {y c} e => by
    rw [hcl] at e
    rcases cloFrom_mem (PySem.mem_of_lookup e) with hm | ⟨h1, rfl⟩
    · cases hm
    · obtain ⟨c, hc⟩ := hfree _ h1 rfl
      rw [hc]
      obtain ⟨w, z⟩ := I.cell _ _ hc
      exact ⟨rfl, z.lt⟩
  have look : ∀ {y}, scope.names.lookup y = some .free → ∃ c, cenv.cells.lookup y = some c ∧ X.env.cells.lookup y = some c := fun {y} hl => by
    have hy : (y, NameKind.free) ∈ scope.names := PySem.mem_of_lookup hl
    obtain ⟨c', e'⟩ := mem_lookup (cloFrom_has (cells := X.env.cells) (acc := []) hy)
    rw [← hcl] at e'
    exact ⟨c', e', (cm e').1⟩
  have okB : (gen X s H cenv A' fp pn).Ok := by
    refine ⟨I.ok.mod, by show cenv.scope.kind = _; rw [hsc]; exact ok.kind, by show cenv.globals = _; rw [hce]; exact I.ok.glob, by show cenv.builtins = _; rw [hce]; rfl, by show s.heap.objs.size ≤ cenv.locals; rw [hL]; exact Nat.le_refl _,
      fun y z c e1 e2 => I.ok.inj y z c (cm e1).1 (cm e2).1, fun y hy => ?_, fun y c z e => (by cases z), fun _ => hA1, hA2, .inr ⟨rfl, by show cenv.frame = some cenv.locals; rw [hce]; rfl⟩, fun b hb => ⟨?_, fun y c e z => ?_⟩, I.bs, Nat.le_trans I.ok.bsz I.sz, fun b o e hb => ?_, fun b hb z => ?_, I.stack, I.stkFree⟩
    · show ∃ c, cenv.cells.lookup y = some c
      have hy : cenv.scope.names.lookup y = some .cell ∨ cenv.scope.names.lookup y = some .free := hy
      rw [hsc] at hy
      rcases hy with hy | hy
      · exact absurd rfl (ok.nocell _ (PySem.mem_of_lookup hy))
      · obtain ⟨c, h1, _⟩ := look hy
        exact ⟨c, h1⟩
    · show b ≠ cenv.locals
      rw [hL]; exact Nat.ne_of_lt (hfp b hb).2
    · exact (hfp b hb).1.2.2.2.2.1 y c (cm e).1 z
    · rcases (hfp b hb).1.2.2.2.1 with z | z
      · exact I.ok.noex b o e z
      · exact absurd (Nat.lt_of_lt_of_le (Heap.lt_size e) (Nat.le_trans I.ok.bsz z)) (Nat.lt_irrefl _)
    · rcases List.mem_cons.mp (I.stkSub b z) with z | z
      · exact (hfp b hb).1.2.1 z
      · exact (hfp b hb).1.2.2.1 z
  refine ⟨okB, rfl, hg, Un.kept kp, ⟨m0, hn, fun i y av e1 e2 e3 => ?_⟩, fun y c e => ?_, ?_, fun y c e => I.freeC y c (cm e).1, fun p hp => ?_, I.hok.kept kp, by rw [wipe_length]; exact I.len⟩
  · obtain ⟨e2, hne⟩ := wipe_some e2
    have e3 : scope.names.lookup y = some .local ∨ scope.names.lookup y = some .cell ∨ scope.names.lookup y = some .free := by
      have e3 : Vis cenv.scope y := e3
      rw [hsc] at e3
      exact e3
    have hfr : scope.names.lookup y = some .free := by
      rcases e3 with k | k | k
      · rcases ok.own _ (PySem.mem_of_lookup k) rfl with e' | e'
        · obtain ⟨p, hp, hpy⟩ := List.mem_map.mp e'
          have e4 := ok.ix p hp
          have : p.1 = y := hpy
          rw [this] at e4
          exact absurd (List.mem_map.mpr ⟨p, hp, nodup_ix hN e4 e1⟩) hne
        · exact absurd (List.mem_of_getElem? e1) e'
      · exact absurd rfl (ok.nocell _ (PySem.mem_of_lookup k))
      · exact k
    obtain ⟨m, hm, hl⟩ := I.loc
    have hvis : Vis X.env.scope y := (ok.free _ (PySem.mem_of_lookup hfr) rfl).elim (fun k => .inr (.inl k)) (fun k => .inr (.inr k))
    obtain ⟨w, r, q⟩ := hl i y av e1 e2 hvis
    refine ⟨w, r, .inr ⟨.inr (by show cenv.scope.names.lookup y = _; rw [hsc]; exact hfr), ?_⟩⟩
    obtain ⟨c, h1, h2⟩ := look hfr
    rcases q with ⟨k, _⟩ | ⟨_, c', e', z⟩
    · have k : X.env.scope.names.lookup y = some .local := k
      rcases ok.free _ (PySem.mem_of_lookup hfr) rfl with k' | k' <;> rw [show X.env.scope.names.lookup y = _ from k'] at k <;> cases k
    · rw [h2] at e'; cases e'
      exact ⟨c, h1, z.keeps kp⟩
  · obtain ⟨w, z⟩ := I.cell y c (cm e).1
    exact ⟨w, z.keeps kp⟩
  · show H cenv.locals = none
    rw [hL]; exact I.hok.fresh (Nat.le_refl _)
  · have hp : p ∈ pn := by simpa using hp
    obtain ⟨p1, p2, p3⟩ := hpn p hp
    refine ⟨p1, I.hok.fresh (Nat.le_of_lt p2), ?_, fun z => ?_, p3⟩
    · show p.1 ≠ cenv.locals
      rw [hL]; exact Nat.ne_of_gt p2
    · obtain ⟨_, o, e, _⟩ := I.stack.mem z
      exact absurd (Nat.lt_trans (Heap.lt_size e) p2) (Nat.lt_irrefl _)
end
end Vm

set_option Elab.async false
set_option linter.all false
set_option maxRecDepth 100000
set_option maxHeartbeats 4000000
/-! VnB: any, all over a generator: the side that asks. -/
namespace Vm
open PySem PySem.Spec PyProof.Rows L2
theorem setGen_bare {s : Shared} {g : Nat} {x : GenState} (h : AllBare s.gens) (hx : x.bare = true) : AllBare (s.setGen g x).gens := fun y hy => by
  obtain ⟨i, hi, rfl⟩ := Array.mem_iff_getElem.mp hy
  have e : (s.setGen g x).gens[i]? = some ((s.setGen g x).gens[i]) := Array.getElem?_eq_getElem hi
  generalize (s.setGen g x).gens[i] = z at e ⊢
  unfold Shared.setGen at e
  simp only [Array.getElem?_setIfInBounds] at e
  by_cases c : g = i
  · rw [if_pos c] at e
    split at e
    · cases e; exact hx
    · cases e
  · rw [if_neg c] at e
    exact h z (Array.mem_of_getElem? e)
theorem setGen_at {s : Shared} {g : Nat} {x : GenState} (h : g < s.gens.size) : (s.setGen g x).gens[g]? = some x := by
  unfold Shared.setGen
  simp [Array.getElem?_setIfInBounds, h]
/-- while it slept nothing of it was touched -/
structure Woke (s s' : Shared) : Prop where
  keep : ∀ b o, s.heap.get? b = some o → s'.heap.get? b = some o
  os : s'.os = s.os
  bare : AllBare s'.gens
/-- the generator at a, number g, may be asked in s -/
structure Live (a : Addr) (g : Nat) (s : Shared) : Prop where
  isg : s.heap.IsGen a g
  lim : s.heap.NoLimit
  bare : AllBare s.gens
def endG (En : Shared → Prop) : GenEnd := fun _ _ r s1 => r = .ok .next ∧ En s1
/-- it hands out truths; a truth like stop ends the walk -/
def handG (a : Addr) (g : Nat) (stop : Bool) (Out : Shared → Prop) : Protocol := fun _ _ v s1 kap => ∃ b, v = .bool b ∧ Live a g s1 ∧ (b ≠ stop → ∀ s2, Woke s1 s2 → kap (.send .none) s2) ∧ (b = stop → Out s1)
section
variable {P : Program} {w : World} {A : Around} {R : Result → Shared → Prop} {a : Addr} {g : Nat} {En Out : Shared → Prop}
/-- one asking -/
theorem ask_gen {stop : Bool} {n : Nat} {gs : GenState} {s : Shared} {E : Value → Shared → Prop} {Q : Option Value → Shared → Prop} (hh : A.handled = none) (hr : A.depth < recursionLimit) (hs : s.gens[g]? = some gs) (L : Live a g s)
    (go : ∀ s2, Woke s s2 → gs.Goes (model P w) A.in1 (endG En) (handG a g stop Out) n (.send .none) s2)
    (hy : ∀ b s1 gs', Live a g s1 → gs'.bare = true → s1.gens[g]? = some gs' → (b ≠ stop → ∃ m, n = m + 1 ∧ ∀ s2, Woke s1 s2 → gs'.Goes (model P w) A.in1 (endG En) (handG a g stop Out) m (.send .none) s2) → (b = stop → ∃ s0, Out s0 ∧ s1 = s0.setGen g gs') → Q (some (.bool b)) s1)
    (he : ∀ s0 h', En s0 → (∀ b o, s0.heap.get? b = some o → h'.get? b = some o) → Q none { s0.setGen g .finished with heap := h' }) :
    wpAny (model P w) A (pyNext (.ref a)) Q E s := by
  have hlt : g + 1 ≤ s.gens.size := (Array.getElem?_eq_some_iff.mp hs).1
  refine GenW.wpAny_gsz (n := g + 1) hlt (wpAny_pyNext_genexpQ (P := fun _ _ s1 => En s1) hh L.lim hr L.isg hs (go _ ⟨fun b o e => e, rfl, setGen_bare L.bare rfl⟩) (fun v s1 gs' hb hv hsz => ?_) fun s1 hp h' hk _ => he s1 h' hp hk)
  obtain ⟨b, rfl, L1, h1, h2⟩ := hv
  have hsz' : g < s1.gens.size := by
    have q : g + 1 ≤ (s1.setGen g gs').gens.size := hsz
    rw [GenW.setGen_size] at q
    exact q
  refine hy b _ gs' ⟨L1.isg, L1.lim, setGen_bare L1.bare hb⟩ hb (setGen_at hsz') (fun nb => ?_) fun eb => ⟨s1, h2 eb, rfl⟩
  cases n with
  | zero => exact (h1 nb s1 ⟨fun _ _ e => e, rfl, L1.bare⟩).elim
  | succ m => exact ⟨m, rfl, fun s2 wk => h1 nb s2 ⟨wk.keep, wk.os, wk.bare⟩⟩
theorem any_loop (hh : A.handled = none) (hr : A.depth < recursionLimit) (hend : ∀ s0 h', En s0 → (∀ b o, s0.heap.get? b = some o → h'.get? b = some o) → R (.ok (.ret (.bool false))) { s0.setGen g .finished with heap := h' })
    (hout : ∀ s0 gs', Out s0 → gs'.bare = true → R (.ok (.ret (.bool true))) (s0.setGen g gs')) : ∀ (n : Nat) (gs : GenState) (s : Shared), s.gens[g]? = some gs → Live a g s →
      (∀ s2, Woke s s2 → gs.Goes (model P w) A.in1.in1 (endG En) (handG a g true Out) n (.send .none) s2) → codeAny (model P w) A (.builtin "any.loop" ⟨[.ref a], []⟩) R s := by
  intro n
  induction n with
  | zero =>
    intro gs s hs L go
    refine codeAny_builtin F.entry_any_loop ?_
    rw [Around.under_plainId F.plain_any_loop _]
    show wpAny _ A.in1 (pyNext (.ref a) >>= _) _ _ s
    refine wpAny_bind (ask_gen (A := A.in1) hh hr hs L go (fun b s1 gs' L1 hb h1 h2 h3 => ?_) fun s0 h' e k => wpAny_bind (wpAny_rule (wpAny_pure (hend s0 h' e k))))
    refine wpAny_bind (wpAny_holding (wpAny_truthy_bool ?_))
    refine wpAny_bind (wpAny_letGo ?_)
    cases b with
    | false =>
      obtain ⟨m, z, _⟩ := h2 (by decide)
      cases z
    | true =>
      simp only [if_true]
      obtain ⟨s0, o, e⟩ := h3 rfl
      subst e
      exact wpAny_bind (wpAny_rule (wpAny_pure (hout s0 gs' o hb)))
  | succ n ih =>
    intro gs s hs L go
    refine codeAny_builtin F.entry_any_loop ?_
    rw [Around.under_plainId F.plain_any_loop _]
    show wpAny _ A.in1 (pyNext (.ref a) >>= _) _ _ s
    refine wpAny_bind (ask_gen (A := A.in1) hh hr hs L go (fun b s1 gs' L1 hb h1 h2 h3 => ?_) fun s0 h' e k => wpAny_bind (wpAny_rule (wpAny_pure (hend s0 h' e k))))
    refine wpAny_bind (wpAny_holding (wpAny_truthy_bool ?_))
    refine wpAny_bind (wpAny_letGo ?_)
    cases b with
    | false =>
      simp only [Bool.false_eq_true, if_false]
      obtain ⟨m, z, k⟩ := h2 (by decide)
      cases z
      exact wpAny_pure ⟨plainId_quiet F.plain_any_loop _, ih gs' _ h1 L1 k⟩
    | true =>
      simp only [if_true]
      obtain ⟨s0, o, e⟩ := h3 rfl
      subst e
      exact wpAny_bind (wpAny_rule (wpAny_pure (hout s0 gs' o hb)))
theorem all_loop (hh : A.handled = none) (hr : A.depth < recursionLimit) (hend : ∀ s0 h', En s0 → (∀ b o, s0.heap.get? b = some o → h'.get? b = some o) → R (.ok (.ret (.bool true))) { s0.setGen g .finished with heap := h' })
    (hout : ∀ s0 gs', Out s0 → gs'.bare = true → R (.ok (.ret (.bool false))) (s0.setGen g gs')) : ∀ (n : Nat) (gs : GenState) (s : Shared), s.gens[g]? = some gs → Live a g s →
      (∀ s2, Woke s s2 → gs.Goes (model P w) A.in1.in1 (endG En) (handG a g false Out) n (.send .none) s2) → codeAny (model P w) A (.builtin "all.loop" ⟨[.ref a], []⟩) R s := by
  intro n
  induction n with
  | zero =>
    intro gs s hs L go
    refine codeAny_builtin F.entry_all_loop ?_
    rw [Around.under_plainId F.plain_all_loop _]
    show wpAny _ A.in1 (pyNext (.ref a) >>= _) _ _ s
    refine wpAny_bind (ask_gen (A := A.in1) hh hr hs L go (fun b s1 gs' L1 hb h1 h2 h3 => ?_) fun s0 h' e k => wpAny_bind (wpAny_rule (wpAny_pure (hend s0 h' e k))))
    refine wpAny_bind (wpAny_holding (wpAny_truthy_bool ?_))
    refine wpAny_bind (wpAny_letGo ?_)
    cases b with
    | true =>
      obtain ⟨m, z, _⟩ := h2 (by decide)
      cases z
    | false =>
      simp only [Bool.false_eq_true, if_false]
      obtain ⟨s0, o, e⟩ := h3 rfl
      subst e
      exact wpAny_bind (wpAny_rule (wpAny_pure (hout s0 gs' o hb)))
  | succ n ih =>
    intro gs s hs L go
    refine codeAny_builtin F.entry_all_loop ?_
    rw [Around.under_plainId F.plain_all_loop _]
    show wpAny _ A.in1 (pyNext (.ref a) >>= _) _ _ s
    refine wpAny_bind (ask_gen (A := A.in1) hh hr hs L go (fun b s1 gs' L1 hb h1 h2 h3 => ?_) fun s0 h' e k => wpAny_bind (wpAny_rule (wpAny_pure (hend s0 h' e k))))
    refine wpAny_bind (wpAny_holding (wpAny_truthy_bool ?_))
    refine wpAny_bind (wpAny_letGo ?_)
    cases b with
    | true =>
      simp only [if_true]
      obtain ⟨m, z, k⟩ := h2 (by decide)
      cases z
      exact wpAny_pure ⟨plainId_quiet F.plain_all_loop _, ih gs' _ h1 L1 k⟩
    | false =>
      simp only [Bool.false_eq_true, if_false]
      obtain ⟨s0, o, e⟩ := h3 rfl
      subst e
      exact wpAny_bind (wpAny_rule (wpAny_pure (hout s0 gs' o hb)))
/-- any(g), all(g) -/
theorem call_any_gen {s : Shared} {E : Value → Shared → Prop} {Q : Value → Shared → Prop} {n : Nat} {gs : GenState} (hh : A.handled = none) (hr : A.depth < recursionLimit) (hs : s.gens[g]? = some gs) (L : Live a g s)
    (go : ∀ s2, Woke s s2 → gs.Goes (model P w) A.in1.in1 (endG En) (handG a g true Out) n (.send .none) s2)
    (hend : ∀ s0 h', En s0 → (∀ b o, s0.heap.get? b = some o → h'.get? b = some o) → Q (.bool false) { s0.setGen g .finished with heap := h' })
    (hout : ∀ s0 gs', Out s0 → gs'.bare = true → Q (.bool true) (s0.setGen g gs')) : wpAny (model P w) A (call (.builtin "any") [.ref a]) Q E s := by
  refine call_function_tree F.kind_any F.plain_any F.entry_any (F.args_any1 _) ?_
  unfold Builtin.«any»
  refine wpAny_bind (m := oneArg "any" _) (wpAny_pure ?_)
  refine wpAny_bind (wpAny_pyIter_gen L.isg ?_)
  exact wpAny_pure ⟨plainId_quiet F.plain_any_loop _, any_loop hh hr (fun s0 h' e k => hend s0 h' e k) (fun s0 gs' o b => hout s0 gs' o b) n gs s hs L go⟩
theorem call_all_gen {s : Shared} {E : Value → Shared → Prop} {Q : Value → Shared → Prop} {n : Nat} {gs : GenState} (hh : A.handled = none) (hr : A.depth < recursionLimit) (hs : s.gens[g]? = some gs) (L : Live a g s)
    (go : ∀ s2, Woke s s2 → gs.Goes (model P w) A.in1.in1 (endG En) (handG a g false Out) n (.send .none) s2)
    (hend : ∀ s0 h', En s0 → (∀ b o, s0.heap.get? b = some o → h'.get? b = some o) → Q (.bool true) { s0.setGen g .finished with heap := h' })
    (hout : ∀ s0 gs', Out s0 → gs'.bare = true → Q (.bool false) (s0.setGen g gs')) : wpAny (model P w) A (call (.builtin "all") [.ref a]) Q E s := by
  refine call_function_tree F.kind_all F.plain_all F.entry_all (F.args_all1 _) ?_
  unfold Builtin.«all»
  refine wpAny_bind (m := oneArg "all" _) (wpAny_pure ?_)
  refine wpAny_bind (wpAny_pyIter_gen L.isg ?_)
  exact wpAny_pure ⟨plainId_quiet F.plain_all_loop _, all_loop hh hr (fun s0 h' e k => hend s0 h' e k) (fun s0 gs' o b => hout s0 gs' o b) n gs s hs L go⟩
end
end Vm

set_option Elab.async false
set_option linter.all false
set_option maxRecDepth 100000
set_option maxHeartbeats 4000000
/-! VnC: the side that hands out: a generator expression's turns. -/
namespace Vm
open PySem PySem.Spec PyProof.Rows L2
/-- the turns: W by the turn and a measure; Qe: wanted where no thing is left; Qo: where a truth like stop was handed out -/
def Turns (J : L2.It) (tgG : TG) (te : TE) (σ : L2.St) (vs : List Nat) (stop : Bool) (W : Nat → Nat → Hp → Prop) (Qe Qo : Hp → Prop) : Prop :=
  ∀ i m H, W i m H → (J.stop i H ∧ Qe H) ∨ (J.go i H ∧ ∀ x H', J.yld i H x H' → tgG x (wipe σ vs) H' fun σ2 H2 => wipe σ2 vs = wipe σ vs ∧ te σ2 H2 fun y H3 => ∃ b, y = .bl b ∧ (b ≠ stop → ∃ m', m' < m ∧ W (i + 1) m' H3) ∧ (b = stop → Qo H3))
section
variable {X : Cx} {s4 : Shared} {H4 : Hp} {cenv : Env} {fp : List Addr} {go : Obj} {elt tg iter : Expr} {scope : Scope} {gpos : Pos} {it a : Addr} {g : Nat} {tn : Nat → Heap → Prop} {J : L2.It} {σ : L2.St} {vs : List Nat} {stop : Bool} {tgG : TG} {te : TE} {W : Nat → Nat → Hp → Prop} {Qe Qo : Hp → Prop}
abbrev gX (X : Cx) (s4 : Shared) (H4 : Hp) (elt tg iter : Expr) (scope : Scope) (gpos : Pos) (it : Addr) (cenv : Env) (fp : List Addr) (a : Addr) (go : Obj) : Cx := gen X s4 H4 cenv (genA X elt tg iter scope gpos it cenv) fp [(a, go)]
theorem seg_gen (hc : X.calm = true) (T : Turn X.prog X.w X.K tg J fp it tn) (pg : PG (gX X s4 H4 elt tg iter scope gpos it cenv fp a go) tg tgG) (pe : PE (gX X s4 H4 elt tg iter scope gpos it cenv fp a go) elt te) (hco : cenv.scope.isCoroutine = false)
    (hgo : ∀ h : Heap, h.get? a = some go → h.IsGen a g) (hfa : a ∉ fp) (tr : Turns J tgG te σ vs stop W Qe Qo) :
    ∀ m n i H s s₀, m < n → Inv (gX X s4 H4 elt tg iter scope gpos it cenv fp a go) [] (wipe σ vs) H s → tn i s.heap → (∀ b ∈ fp, H b = none) → W i m H →
      Seg (model X.prog X.w) X.A.in1.in1 (endG fun s1 => ∃ H, Inv (gX X s4 H4 elt tg iter scope gpos it cenv fp a go) [] (wipe σ vs) H s1 ∧ Qe H)
        (handG a g stop fun s1 => ∃ σ1 pins H, Inv (gX X s4 H4 elt tg iter scope gpos it cenv fp a go) pins σ1 H s1 ∧ Qo H) n s₀ (genLoop elt tg iter scope gpos it cenv)
        ((model X.prog X.w).den (genLoop elt tg iter scope gpos it cenv)) [] s := by
  have stat : ∀ {σ' : L2.St} {H' : Hp} {s' : Shared}, Inv (gX X s4 H4 elt tg iter scope gpos it cenv fp a go) [] σ' H' s' → (∀ b ∈ fp, H' b = none) → ∀ b ∈ fp, FpOk (gX X s4 H4 elt tg iter scope gpos it cenv fp a go) [] H' b := fun {σ' H' s'} I' hn b hb =>
    ⟨hn b hb, (I'.ok.exf b hb).1, I'.ok.exfs b hb, .inl hb, fun x c e => (I'.ok.exf b hb).2 x c e, fun p hp => by
      have hp : p ∈ [(a, go)] := by simpa using hp
      rw [List.mem_singleton.mp hp]
      exact fun z => hfa (by rw [show a = b from z]; exact hb)⟩
  have hy : ∀ v, yieldOut cenv v = yieldValue v := fun v => by simp only [yieldOut, hco, Bool.false_eq_true, if_false]
  intro m
  induction m using Nat.strongRecOn with
  | _ m ih =>
    intro n i H s s₀ hmn I5 st5 n5 w5
    show Seg _ _ _ _ n s₀ _ ((compTurn (.GeneratorExp elt [⟨tg, iter, [], 0⟩] scope gpos) 0 (.ref it) .none cenv).onRaise (leaving cenv)) [] s
    rw [compTurn_gen, Sem.onRaise_eq_wrap]
    refine seg_bind_wrap (wpAny_standAt ?_)
    rcases tr i m H w5 with ⟨sp, qe⟩ | ⟨gg, step⟩
    · refine seg_bind_wrap (wpAny_mono (T.done (gX X s4 H4 elt tg iter scope gpos it cenv fp a go) rfl rfl rfl hc i [] s _ H (fun _ _ => False) I5 (stat I5 n5) st5 sp) (fun r s6 ⟨hr, I6⟩ => ?_) fun _ _ z => z.elim)
      subst hr
      exact seg_end (.ok .next) ⟨rfl, H, I6, qe⟩
    · refine seg_bind_wrap (wpAny_mono (T.item (gX X s4 H4 elt tg iter scope gpos it cenv fp a go) rfl rfl rfl hc i [] s _ H (fun _ _ => False) I5 (stat I5 n5) st5 gg) (fun r s6 ⟨u, hr, h6⟩ => ?_) fun _ _ z => z.elim)
      subst hr
      refine seg_bind_wrap (wpAny_mono h6 (fun _ s7 ⟨x, H7, I7, r7, y7, st7, n7⟩ => ?_) fun _ _ z => z.elim)
      have I7' := I7.pinned (stat I7 n7) (T.obj _ _ st7)
      refine seg_bind_wrap (wpAny_mono (pg.run _ s7 _ H7 x u _ I7' r7 (step x H7 y7)) (fun _ s8 ⟨σ8, H8, I8, hw8, q8⟩ => ?_) fun _ _ z => z.elim)
      refine seg_bind_wrap ?_
      simp only [List.forIn_nil]
      refine wpAny_pure ?_
      simp only [if_true, hy]
      rw [Sem.bind_eq_wrap', Sem.bind_eq_wrap', Sem.wrap_wrap, Sem.wrap_wrap]
      refine seg_wrap (wpAny_mono (pe.run _ s8 σ8 H8 _ I8 q8) (fun v s9 ⟨y, H9, I9, r9, b, ey, hb1, hb2⟩ => ?_) fun _ _ z => z.elim)
      subst ey
      obtain rfl : v = Value.bool b := r9
      obtain ⟨k, rfl⟩ : ∃ k, n = k + 1 := ⟨n - 1, by omega⟩
      have ia : s9.heap.IsGen a g := hgo _ (I9.pin (a, go) (List.mem_append_left _ (List.mem_singleton.mpr rfl))).1
      refine seg_at (seg_yield rfl rfl rfl ⟨b, rfl, ⟨ia, I9.nolimit, I9.bare⟩, fun nb s2 wk => ?_, fun eb => ⟨_, _, _, I9, hb2 eb⟩⟩)
      obtain ⟨m', hm, w'⟩ := hb1 nb
      have I2 : Inv (gX X s4 H4 elt tg iter scope gpos it cenv fp a go) ([] ++ pinsAt fp s7.heap) σ8 H9 s2 := I9.call' (ch := []) wk.os (Un.kept wk.keep) (I9.hok.kept wk.keep) wk.bare fun b z => by simp at z
      have pin' : ∀ b ∈ fp, ∀ o, s7.heap.get? b = some o → s2.heap.get? b = some o ∧ H9 b = none := fun b hb o e =>
        let z := I2.pin (b, o) (List.mem_append_right _ (List.mem_append_right _ (mem_pinsAt hb e)))
        ⟨z.1, z.2.1⟩
      have hl : (wipe σ vs).length = σ8.length := by rw [← hw8, wipe_length]
      refine seg_again rfl (ih m' hm k (i + 1) H9 s2 s2 (by omega) ((I2.unpinned (pins := [])).weak hl fun j v e => ?_) (T.keep _ _ _ st7 fun b hb o e => (pin' b hb o e).1) (fun b hb => ?_) w')
      · rw [← hw8] at e
        exact (wipe_some e).1
      · obtain ⟨o, e, _⟩ := T.obj _ _ st7 b hb
        exact (pin' b hb o e).2
/-- from its beginning -/
theorem seg_begin {En : Shared → Prop} {Y : Protocol} {n : Nat} {s s₀ : Shared} (T : Turn X.prog X.w X.K tg J fp it tn) (st : tn 0 s.heap)
    (loop : Seg (model X.prog X.w) X.A.in1.in1 (endG En) Y n s₀ (genLoop elt tg iter scope gpos it cenv) ((model X.prog X.w).den (genLoop elt tg iter scope gpos it cenv)) [] s) :
    Seg (model X.prog X.w) X.A.in1.in1 (endG En) Y n s₀ (genBegin elt tg iter scope gpos it cenv) ((model X.prog X.w).den (genBegin elt tg iter scope gpos it cenv)) [] s := by
  show Seg _ _ _ _ n s₀ _ ((compStart (.GeneratorExp elt [⟨tg, iter, [], 0⟩] scope gpos) 0 (.ref it) .none cenv).onRaise (leaving cenv)) [] s
  unfold compStart
  rw [Sem.onRaise_eq_wrap]
  show Seg _ _ _ _ n s₀ _ ((ask >>= _).wrap _ _ _ _) [] s
  refine seg_bind_wrap (wpAny_askSetting ?_)
  split
  · exact seg_again rfl loop
  · first
      | exact seg_bind_wrap (wpAny_rule (seg_bind_wrap (wpAny_standAt (seg_bind_wrap (T.self _ 0 s _ _ st (seg_again rfl loop))))))
      | (refine seg_bind_wrap (wpAny_rule ?_); show Seg _ _ _ _ n s₀ _ ((standAt iter.pos >>= _).wrap _ _ _ _) [] s; exact seg_bind_wrap (wpAny_standAt (seg_bind_wrap (T.self _ 0 s _ _ st (seg_again rfl loop)))))
end
end Vm

set_option Elab.async false
set_option linter.all false
set_option maxRecDepth 100000
set_option maxHeartbeats 4000000
/-! VmC: the expressions, rule by rule. -/
namespace Vm
open PySem PySem.Spec PyProof.Rows L2
variable [Tbs]

section
variable {X : Cx} {K : PySem.W.Frag} {xj : XJ} {xi : XI} {a b c e : Expr} {fa fb fc : Ev → IH → Res PV} {pos : Pos}

/-- the first part of a reading -/
theorem tE_bind {β : Type} {f : Ev → IH → Res PV} {g : PV → IH → Res β} {R : β → List Addr → Hp → Prop} {st : L2.St} {H : Hp} {Q : VK} {ev : Ev} {m : List Addr} {h : IH} (re : REnv K m H st ev) (rh : RelH K m H h)
    (p : Post K (xi st) m H ((f ev h).bind g) R)
    (k : ∀ v x m1 H1 h1, Grow m H m1 H1 → REnv K m1 H1 st ev → RelH K m1 H1 h1 → Rep K m1 H1 v x → Post K (xi st) m1 H1 (g x h1) R → Q v H1) : tE K xi f st H Q :=
  ⟨ev, m, h, re, rh, p.bind fun x h1 m1 H1 g1 q1 p1 v rv => k v x m1 H1 h1 g1 (re.grow g1) q1 rv p1⟩
theorem tA_bind {β : Type} {f : Ev → IH → Res (List PV)} {g : List PV → IH → Res β} {R : β → List Addr → Hp → Prop} {st : L2.St} {H : Hp} {Q : List V → Hp → Prop} {ev : Ev} {m : List Addr} {h : IH} (re : REnv K m H st ev) (rh : RelH K m H h)
    (p : Post K (xi st) m H ((f ev h).bind g) R)
    (k : ∀ vs xs m1 H1 h1, Grow m H m1 H1 → REnv K m1 H1 st ev → RelH K m1 H1 h1 → Reps K m1 H1 vs xs → Post K (xi st) m1 H1 (g xs h1) R → Q vs H1) : tA K xi f st H Q :=
  ⟨ev, m, h, re, rh, p.bind fun x h1 m1 H1 g1 q1 p1 v rv => k v x m1 H1 h1 g1 (re.grow g1) q1 rv p1⟩
theorem tT_bind {β : Type} {f : Ev → IH → Res Bool} {g : Bool → IH → Res β} {R : β → List Addr → Hp → Prop} {st : L2.St} {H : Hp} {Q : Bool → Hp → Prop} {ev : Ev} {m : List Addr} {h : IH} (re : REnv K m H st ev) (rh : RelH K m H h)
    (p : Post K (xi st) m H ((f ev h).bind g) R)
    (k : ∀ x m1 H1 h1, Grow m H m1 H1 → REnv K m1 H1 st ev → RelH K m1 H1 h1 → Post K (xi st) m1 H1 (g x h1) R → Q x H1) : tT K xi f st H Q :=
  ⟨ev, m, h, re, rh, p.bind fun x h1 m1 H1 g1 q1 p1 => k x m1 H1 h1 g1 (re.grow g1) q1 p1⟩
/-- an end that is there at once -/
theorem Post.now {α : Type} {m : List Addr} {H : Hp} {h : IH} {x : α} {R : α → List Addr → Hp → Prop} (p : Post K xj m H (.ok x h) R) (rh : RelH K m H h) : R x m H := p m H (Grow.refl m H) rh
theorem Post.ite {α : Type} {m : List Addr} {H : Hp} {c : Prop} [i : Decidable c] {r : Res α} {R : α → List Addr → Hp → Prop} (p : Post K xj m H (@_root_.ite _ c i r .stuck) R) : c ∧ Post K xj m H r R := by
  by_cases hc : c
  · rw [if_pos hc] at p
    exact ⟨hc, p⟩
  · rw [if_neg hc] at p
    exact p.elim
theorem Post.refl' {m : List Addr} {H : Hp} : Grow m H m H := Grow.refl m H

theorem se_var {i : Nat} {x : Str} (hN : X.N[i]? = some x) (hv : Vis X.env.scope x) (hd : (x == ("__debug__" : Str)) = false) (hcd : (x == ("__classdict__" : Str)) = false) :
    PE X (.Name x pos) (tE K xi fun ev h => match ev[i]? with | some (some x) => .ok x h | _ => .stuck) := by
  refine PEm (pe_var hN hv hd hcd) fun st H Q ⟨ev, m, h, re, rh, p⟩ => ?_
  dsimp only at p
  split at p
  · rename_i x' ex
    obtain ⟨v, h1, h2⟩ := re.at' i x' ex
    exact ⟨v, h1, p.now rh v h2⟩
  · exact p.elim
theorem se_con {v : V} {x : PV} (hp : PE X e (tC v)) (r : ∀ m H, Rep K m H v x) : PE X e (tE K xi fun _ h => .ok x h) :=
  PEm hp fun st H Q ⟨ev, m, h, re, rh, p⟩ => p.now rh v (r m H)

/-- an operator by values -/
def OpOk (K : PySem.W.Frag) (xj : XJ) (f : PV → PV → IH → Res PV) (r : R2) : Prop :=
  ∀ (m : List Addr) (H : Hp) (h : IH) (x y : PV) (vx vy : V) (Q : VK), RelH K m H h → Rep K m H vx x → Rep K m H vy y → (Post K xj m H (f x y h) fun z m' H' => ∀ v, Rep K m' H' v z → Q v H') → r vx vy H Q
theorem tOp_of {f : PV → PV → IH → Res PV} {r : R2} (ok : ∀ xj, OpOk K xj f r) {st : L2.St} {H : Hp} {Q : VK}
    (t : tE K xi (fun ev h => (fa ev h).bind fun x h1 => (fb ev h1).bind fun y h2 => f x y h2) st H Q) : tOp r (tE K xi fa) (tE K xi fb) st H Q := by
  obtain ⟨ev, m, h, re, rh, p⟩ := t
  refine tE_bind re rh p fun v x m1 H1 h1 g1 re1 rh1 rx p1 => ?_
  refine tE_bind re1 rh1 p1 fun w y m2 H2 h2 g2 re2 rh2 ry p2 => ?_
  exact ok _ m2 H2 h2 x y v w Q rh2 (rx.grow g2) ry p2
theorem se_bin {op : Operator} {f : PV → PV → IH → Res PV} {r : R2} (ho : OpR X (binaryOp op) r) (ok : ∀ xj, OpOk K xj f r) (ha : PE X a (tE K xi fa)) (hb : PE X b (tE K xi fb)) :
    PE X (.BinOp a op b pos) (tE K xi fun ev h => (fa ev h).bind fun x h1 => (fb ev h1).bind fun y h2 => f x y h2) :=
  PEm (pe_op ho ha hb) fun st H Q t => tOp_of ok t
theorem se_cmp {op : CmpOp} {f : PV → PV → IH → Res PV} {r : R2} (ho : OpR X (compareOp op) r) (ok : ∀ xj, OpOk K xj f r) (hm : behindInMarks op b = false) (ha : PE X a (tE K xi fa)) (hb : PE X b (tE K xi fb)) :
    PE X (.Compare a [op] [b] pos) (tE K xi fun ev h => (fa ev h).bind fun x h1 => (fb ev h1).bind fun y h2 => f x y h2) :=
  PEm (pe_cmpR ho ha hb hm) fun st H Q t => tOp_of ok t

/-! ### the operators -/
theorem big_iff {i : Int} : big i = true ↔ (-(2 ^ 64) < i ∧ i < 2 ^ 64) := by simp [big]
theorem lst_at {m : List Addr} {H : Hp} {h : IH} {v : V} {a : Nat} {xs : List PV} (rh : RelH K m H h) (r : Rep K m H v (.ref a)) (e : h[a]? = some (.lst xs)) : ∃ p vs, v = .ref p ∧ m[a]? = some p ∧ H p = some (.lst vs) ∧ Reps K m H vs xs := by
  cases r with
  | ref hp =>
    obtain ⟨vs, h1, h2⟩ := rh.at' a _ _ e hp
    exact ⟨_, vs, rfl, hp, h1, h2⟩
/-- a new list -/
theorem new_at {m : List Addr} {H : Hp} {h : IH} {vs : List V} {xs : List PV} {Q : VK} (rh : RelH K m H h) (r : Reps K m H vs xs) (p : Post K xj m H (new h xs) fun z m' H' => ∀ v, Rep K m' H' v z → Q v H') :
    xs.length ≤ sizeLine ∧ ∀ q, H q = none → Q (.ref q) (upd H q (.lst vs)) := by
  obtain ⟨hl, p⟩ := Post.ite p
  refine ⟨hl, fun q nq => ?_⟩
  obtain ⟨rl, gl⟩ := rh.laid nq r
  exact p _ _ gl rl _ (.ref (by rw [← rh.len]; simp))
theorem tup_at {m : List Addr} {H : Hp} {v : V} {xs : List PV} (r : Rep K m H v (.tup xs)) : ∃ p vs, v = .ref p ∧ SqT K H p vs ∧ Reps K m H vs xs := by
  cases r with
  | tup h1 h2 => exact ⟨_, _, rfl, h1, h2⟩
/-- a new tuple -/
theorem newT_at {m : List Addr} {H : Hp} {h : IH} {vs : List V} {xs : List PV} {Q : VK} (rh : RelH K m H h) (r : Reps K m H vs xs) (p : Post K xj m H (.ok (.tup xs) h) fun z m' H' => ∀ v, Rep K m' H' v z → Q v H') :
    ∀ q, H q = none → Q (.ref q) (upd H q (.tup vs)) := fun q nq =>
  p m _ (Grow.junk nq) (rh.junk nq) _ (.tup (.inl (.inl upd_same)) (r.grow (Grow.junk nq)))
theorem ok_add : OpOk K xj (binF .add) (fun x y H Q => (rI0 (fun i j => .int (i + j)) x y H Q ∨ (∃ i j, x = .str i ∧ y = .str j ∧ i.length + j.length ≤ sizeLine ∧ Q (.str (i ++ j)) H)) ∨ (rCatA K x y H Q ∨ rCat x y H Q)) := by
  intro m H h x y vx vy Q rh rx ry p
  cases x <;> cases y <;> try exact p.elim
  · rename_i i j
    cases rx; cases ry
    exact .inl (.inl ⟨i, j, rfl, rfl, p.now rh _ .int⟩)
  · rename_i i j
    cases rx; cases ry
    obtain ⟨hl, p⟩ := Post.ite p
    exact .inl (.inr ⟨i, j, rfl, rfl, hl, p.now rh _ .str⟩)
  · rename_i xs ys
    obtain ⟨a, vs, rfl, h1, r1⟩ := tup_at rx
    obtain ⟨b, ws, rfl, h2, r2⟩ := tup_at ry
    obtain ⟨hl, p⟩ := Post.ite (c := (xs ++ ys).length ≤ sizeLine) p
    refine .inr (.inl ⟨a, b, vs, ws, rfl, rfl, h1, h2, by rw [r1.length, r2.length, ← List.length_append]; exact hl, fun e => ?_, fun _ e => ?_, fun _ _ => newT_at rh (r1.append r2) p⟩)
    · subst e
      cases r1
      exact p.now rh _ ry
    · subst e
      cases r2
      rw [List.append_nil] at p
      exact p.now rh _ rx
  · rename_i a b
    have p' : Post K xj m H (match h[a]?, h[b]? with
      | some (.lst xs), some (.lst ys) => new h (xs ++ ys)
      | _, _ => .stuck) (fun z m' H' => ∀ v, Rep K m' H' v z → Q v H') := p
    clear p
    cases ea : h[a]? with
    | none => rw [ea] at p'; exact p'.elim
    | some oa =>
      cases eb : h[b]? with
      | none => rw [ea, eb] at p'; cases oa <;> exact p'.elim
      | some ob =>
        rw [ea, eb] at p'
        cases oa <;> cases ob <;> try exact p'.elim
        rename_i xs ys
        obtain ⟨pa, vs, rfl, _, h1, r1⟩ := lst_at rh rx ea
        obtain ⟨pb, ws, rfl, _, h2, r2⟩ := lst_at rh ry eb
        obtain ⟨hl, k⟩ := new_at rh (r1.append r2) p'
        exact .inr (.inr ⟨pa, pb, vs, ws, rfl, rfl, h1, h2, by rw [r1.length, r2.length, ← List.length_append]; exact hl, k⟩)
theorem ok_sub : OpOk K xj (binF .sub) (rI0 fun i j => .int (i - j)) := by
  intro m H h x y vx vy Q rh rx ry p
  cases x <;> cases y <;> try exact p.elim
  rename_i i j
  cases rx; cases ry
  exact ⟨i, j, rfl, rfl, p.now rh _ .int⟩
theorem Reps.rep {m : List Addr} {H : Hp} {vs : List V} {xs : List PV} (r : Reps K m H vs xs) : ∀ n : Nat, Reps K m H (List.replicate n vs).flatten (List.replicate n xs).flatten
  | 0 => .nil
  | n + 1 => by
    rw [List.replicate_succ, List.replicate_succ, List.flatten_cons, List.flatten_cons]
    exact r.append (Reps.rep r n)
theorem len_rep {α : Type} (xs : List α) (n : Nat) : (List.replicate n xs).flatten.length = xs.length * n := by
  induction n with
  | zero => rfl
  | succ n ih => rw [List.replicate_succ, List.flatten_cons, List.length_append, ih, Nat.mul_succ, Nat.add_comm]
def rRepS : R2 := fun x y H Q => ∃ (a : Str) (k : Int), x = .str a ∧ y = .int k ∧ 0 ≤ k ∧ k ≤ 1000 ∧ a.length ≤ 1000 ∧ Q (.str (repS a k)) H
theorem fold_len (b : Array Nat) : ∀ (n : Nat) (acc : Array Nat), ((List.replicate n b).foldl (· ++ ·) acc).size = acc.size + n * b.size
  | 0, acc => by simp
  | n + 1, acc => by
    rw [List.replicate_succ, List.foldl_cons, fold_len b n, Array.size_append, Nat.add_mul, Nat.one_mul]
    omega
theorem op_repS : OpR X (binaryOp .Mult) rRepS := by
  intro pins s σ H x y v u Q I rx ry h
  obtain ⟨a, k, rfl, rfl, k0, k1, hl, q⟩ := h
  obtain ⟨t, rfl⟩ := rx
  obtain ⟨t', rfl⟩ := ry
  have hk : k.toNat ≤ 1000 := by omega
  have hm : a.length * k.toNat ≤ 1000 * 1000 := Nat.mul_le_mul hl hk
  refine P.mul_str (by rw [decide_eq_false (by omega), decide_eq_false (by omega)]; rfl) (fun h1 _ => ?_) (fun _ _ => ?_) ?_
  · have e : (1000 : Int) ≤ (2 ^ 63 - 1) / k := (Int.le_ediv_iff_mul_le (by omega)).mpr (by omega)
    omega
  · exact decide_eq_false (by rw [sizeLine_eq]; omega)
  · unfold repS at q
    by_cases c : k < 1
    · rw [if_pos c] at q ⊢
      exact ⟨Nat.zero_le _, .str _, H, I.tok _, ⟨_, rfl⟩, q⟩
    · rw [if_neg c] at q ⊢
      by_cases c2 : (k == 1 || a.length == 0) = true
      · rw [if_pos c2] at q ⊢
        exact ⟨.str _, H, I, ⟨_, rfl⟩, q⟩
      · rw [if_neg c2] at q ⊢
        refine ⟨?_, .str _, H, I.tok _, ⟨_, rfl⟩, q⟩
        show ((List.replicate k.toNat a.cps).foldl (· ++ ·) #[]).size ≤ sizeLine
        rw [fold_len, sizeLine_eq]
        have : k.toNat * a.cps.size = a.length * k.toNat := Nat.mul_comm _ _
        simp only [List.size_toArray, List.length_nil]
        omega
theorem tuple_mul1 (l : Addr) (items : Array Value) (n : Nat) (dd : Option Addr) (sl : Array (Option Value)) (u : Tok) :
    Meets (Builtin.«tuple.__mul__» ⟨[.ref l, .int 1 u], []⟩) (fun _ R s => s.heap.get? l = some { cls := .type "tuple", dict := dd, data := .seq items n, slots := sl } ∧ R (.ok (.ret (Value.ref l))) s) :=
  .of_wp fun prog w A R s h => by
    obtain ⟨hp, g, d, tk, os⟩ := s
    obtain ⟨hl, h⟩ := h
    have f1 := AutoSeq1.idx_int
    have c0 : (decide ((1 : Int) < -(2 ^ 63)) || decide ((1 : Int) ≥ 2 ^ 63)) = false := by decide
    have c1 : (items.isEmpty || (1 : Int) == 1) = true := by simp
    wp_walk using wpAny_loadPart' hl
    repeat (first
      | (refine wpAny_ite_false (decide_eq_false (by rw [c0]; exact Bool.false_ne_true)) ?_; wp_walk using wpAny_loadPart' hl)
      | (refine wpAny_ite_true (decide_eq_true c1) ?_; wp_walk using wpAny_loadPart' hl))
    exact ⟨_, rfl, h⟩
def rRepT1 (K : PySem.W.Frag) : R2 := fun x y H Q => ∃ l xs, x = .ref l ∧ y = .int 1 ∧ SqT K H l xs ∧ Q (.ref l) H
theorem op_repT1 : OpR X (binaryOp .Mult) (rRepT1 X.K) := by
  intro pins s σ H x y v u Q I rx ry h
  obtain ⟨l, xs, rfl, rfl, hT, q⟩ := h
  cases rx
  obtain ⟨t, rfl⟩ := ry
  obtain ⟨its, r, ⟨⟨cls, dd, data, sl⟩, ho, hc, n, hd⟩, hs⟩ := I.tuple hT
  simp only at hc hd
  subst hc hd
  exact wpAny_binaryOp_repeat_ref (T := "tuple") (U := "int") (by decide) ⟨_, ho, rfl⟩ (fun s' => typeIs_int s' 1 t) noFill_tuple_mul F.fills_int_mul F.slot_int_rmul repeat_tuple F.slot_int_index.lookup
    (call_meets F.slot_int_rmul (typeIs_int s 1 t) F.entry_int_rmul (F.args_int_rmul_2 _ _) (int_rmul_tuple 1 t l its.toArray n dd sl)
      ⟨ho, rfl, ⟨_, ho, rfl⟩, call_meets F.slot_tuple_mul ⟨_, ho, rfl⟩ F.entry_tuple_mul (F.args_tuple_mul_2 _ _) (tuple_mul1 l its.toArray n dd sl t) ⟨ho, ⟨.ref l, H, I, rfl, q⟩⟩⟩)
theorem ok_mul : OpOk K xj (binF .mul) (fun x y H Q => rI CMul (fun i j => .int (i * j)) x y H Q ∨ (rRep x y H Q ∨ (rRepS x y H Q ∨ (rRepT K x y H Q ∨ rRepT1 K x y H Q)))) := by
  intro m H h x y vx vy Q rh rx ry p
  cases x <;> cases y <;> try exact p.elim
  · rename_i i j
    cases rx; cases ry
    obtain ⟨hb, p⟩ := Post.ite p
    rw [Bool.or_eq_true, big_iff, big_iff] at hb
    exact .inl ⟨i, j, rfl, rfl, hb, p.now rh _ .int⟩
  · rename_i i k
    cases rx; cases ry
    obtain ⟨hb, p⟩ := Post.ite p
    exact .inr (.inr (.inl ⟨i, k, rfl, rfl, hb.1, hb.2.1, hb.2.2, p.now rh _ .str⟩))
  · rename_i xs k
    cases ry
    obtain ⟨hb, p⟩ := Post.ite p
    obtain ⟨l, vs, rfl, hs, rv⟩ := tup_at rx
    have hl := rv.length
    by_cases c : k = 1
    · subst c
      refine .inr (.inr (.inr (.inr ⟨l, vs, rfl, rfl, hs, ?_⟩)))
      have e : (List.replicate (1 : Int).toNat xs).flatten = xs := by simp
      rw [e] at p
      exact p.now rh _ rx
    · refine .inr (.inr (.inr (.inl ⟨l, k, vs, rfl, rfl, hs, fun z => ?_, by omega, hb.2.1, by omega, fun q nq => ?_⟩)))
      · subst z
        cases rv
        exact absurd hb.2.2.1 (by decide)
      · exact newT_at rh (rv.rep k.toNat) p q nq
  · rename_i a k
    cases ry
    have p' : Post K xj m H (match h[a]? with
      | some (.lst xs) => if -(2 ^ 63) ≤ k ∧ k < 2 ^ 63 then new h (List.replicate k.toNat xs).flatten else .stuck
      | _ => .stuck) (fun z m' H' => ∀ v, Rep K m' H' v z → Q v H') := p
    clear p
    cases ea : h[a]? with
    | none => rw [ea] at p'; exact p'.elim
    | some oa =>
      rw [ea] at p'
      cases oa <;> try exact p'.elim
      rename_i xs
      obtain ⟨pa, vs, rfl, _, h1, r1⟩ := lst_at rh rx ea
      obtain ⟨hk, p'⟩ := Post.ite p'
      obtain ⟨hl, kk⟩ := new_at rh (r1.rep k.toNat) p'
      exact .inr (.inl ⟨pa, k, vs, rfl, rfl, h1, hk.1, hk.2, by rw [r1.length, ← len_rep]; exact hl, kk⟩)
theorem ok_fdiv : OpOk K xj (binF .fdiv) (fun x y H Q => rI CDiv (fun i j => .int (i / j)) x y H Q ∨ rI CDivW (fun i j => .int (i / j)) x y H Q) := by
  intro m H h x y vx vy Q rh rx ry p
  cases x <;> cases y <;> try exact p.elim
  rename_i i j
  cases rx; cases ry
  obtain ⟨hb, p⟩ := Post.ite p
  rcases hb.2 with c | c
  · exact .inl ⟨i, j, rfl, rfl, ⟨hb.1, c⟩, p.now rh _ .int⟩
  · exact .inr ⟨i, j, rfl, rfl, ⟨hb.1, c⟩, p.now rh _ .int⟩
theorem ok_mod : OpOk K xj (binF .mod) (rI (fun _ j => 0 < j) fun i j => .int (i % j)) := by
  intro m H h x y vx vy Q rh rx ry p
  cases x <;> cases y <;> try exact p.elim
  rename_i i j
  cases rx; cases ry
  obtain ⟨hb, p⟩ := Post.ite p
  exact ⟨i, j, rfl, rfl, hb, p.now rh _ .int⟩
theorem ok_pow : OpOk K xj (binF .pow) (rI CPow fun i j => .int (i ^ j.toNat)) := by
  intro m H h x y vx vy Q rh rx ry p
  cases x <;> cases y <;> try exact p.elim
  rename_i i j
  cases rx; cases ry
  obtain ⟨hb, p⟩ := Post.ite p
  exact ⟨i, j, rfl, rfl, hb, p.now rh _ .int⟩
theorem dec_vi {i j : Int} : decide (V.int i = V.int j) = decide (i = j) := by
  by_cases h : i = j
  · subst h; simp
  · rw [decide_eq_false h, decide_eq_false fun z => h (V.int.inj z)]
theorem dec_vs {i j : Str} : decide (V.str i = V.str j) = decide (i = j) := by
  by_cases h : i = j
  · subst h; simp
  · rw [decide_eq_false h, decide_eq_false fun z => h (V.str.inj z)]
theorem seqO_cons {α : Type} {x : Option α} {r : List (Option α)} {ys : List α} (e : seqO (x :: r) = some ys) : ∃ y zs, x = some y ∧ seqO r = some zs ∧ ys = y :: zs := by
  cases x with
  | none => cases e
  | some y =>
    unfold seqO at e
    cases q : seqO r with
    | none => rw [q] at e; cases e
    | some zs => rw [q] at e; cases e; exact ⟨y, zs, rfl, rfl, rfl⟩
theorem data_all {m : List Addr} {H : Hp} {f : PV → Option PyData} (hf : ∀ (x : PV) (v : V) d, Rep K m H v x → f x = some d → Dp K H v d) : ∀ {xs : List PV} {vs : List V} {ds : List PyData}, Reps K m H vs xs → seqO (xs.map f) = some ds → DpAll K H vs ds
  | [], vs, ds, r, e => by
    cases r
    cases e
    exact .nil
  | x :: xs, vs, ds, r, e => by
    cases r with
    | cons r t =>
      obtain ⟨y, zs, e1, e2, rfl⟩ := seqO_cons e
      exact .cons (hf _ _ _ r e1) (data_all hf t e2)
theorem data_ok {m : List Addr} {H : Hp} {h : IH} (rh : RelH K m H h) : ∀ (n : Nat) (x : PV) (v : V) (d : PyData), Rep K m H v x → dataOf h n x = some d → Dp K H v d
  | 0, _, _, _, _, e => by cases e
  | n + 1, x, v, d, r, e => by
    have ih := data_ok rh n
    cases x with
    | non => cases r; cases e; exact .non
    | bl b => cases r; cases e; exact .bl _
    | int i => cases r; cases e; exact .int _
    | str s => cases r; cases e; exact .str _
    | tup xs =>
      cases r with
      | tup h1 h2 =>
        unfold dataOf at e
        dsimp only at e
        cases q : seqO (xs.map (dataOf h n)) with
        | none => rw [q] at e; cases e
        | some ds => rw [q] at e; cases e; exact .tup h1 (data_all ih h2 q)
    | fl xs =>
      cases r with
      | fl h1 h2 =>
        unfold dataOf at e
        dsimp only at e
        cases q : seqO (xs.map (dataOf h n)) with
        | none => rw [q] at e; cases e
        | some ds => rw [q] at e; cases e; exact .lst h1.sq (data_all ih h2 q)
    | ref a =>
      cases r with
      | ref hp =>
        unfold dataOf at e
        dsimp only at e
        cases hy : h[a]? with
        | none => rw [hy] at e; cases e
        | some u =>
          rw [hy] at e
          cases u with
          | dct _ => cases e
          | lst xs =>
            dsimp only at e
            obtain ⟨vs, h1, h2⟩ := rh.at' a _ _ hy hp
            cases q : seqO (xs.map (dataOf h n)) with
            | none => rw [q] at e; cases e
            | some ds => rw [q] at e; cases e; exact .lst (.inl (.inl h1)) (data_all ih h2 q)
theorem eqD_ok {neg : Bool} {m : List Addr} {H : Hp} {h : IH} {x y : PV} {vx vy : V} {Q : VK} (rh : RelH K m H h) (rx : Rep K m H vx x) (ry : Rep K m H vy y) (p : Post K xj m H (eqD neg x y h) fun z m' H' => ∀ v, Rep K m' H' v z → Q v H') :
    ∃ d e, Dp K H vx d ∧ Dp K H vy e ∧ SeqAt.shaped d = true ∧ SeqAt.shaped e = true ∧ Q (.bl (if neg then !PyData.eqv d e else PyData.eqv d e)) H := by
  unfold eqD at p
  cases e1 : dataOf h 40 x with
  | none => rw [e1] at p; exact p.elim
  | some d =>
    cases e2 : dataOf h 40 y with
    | none => rw [e1, e2] at p; exact p.elim
    | some e =>
      rw [e1, e2] at p
      obtain ⟨hs, p⟩ := Post.ite p
      exact ⟨d, e, data_ok rh 40 x vx d rx e1, data_ok rh 40 y vy e ry e2, hs.1, hs.2, p.now rh _ .bl⟩
theorem ok_eq : OpOk K xj (cmpF .eq) (fun x y H Q => rEq x y H Q ∨ rEqD K x y H Q) := by
  intro m H h x y vx vy Q rh rx ry p
  cases x <;> cases y <;> first
    | (cases rx; cases ry; exact .inl ⟨rfl, by rw [dec_vi]; exact p.now rh _ .bl⟩)
    | (cases rx; cases ry; exact .inl ⟨rfl, by rw [dec_vs]; exact p.now rh _ .bl⟩)
    | exact .inr (eqD_ok rh rx ry p)
theorem ok_ne : OpOk K xj (cmpF .ne) (fun x y H Q => rNe x y H Q ∨ rNeD K x y H Q) := by
  intro m H h x y vx vy Q rh rx ry p
  cases x <;> cases y <;> first
    | (cases rx; cases ry; exact .inl ⟨rfl, by rw [dec_vi]; exact p.now rh _ .bl⟩)
    | (cases rx; cases ry; exact .inl ⟨rfl, by rw [dec_vs]; exact p.now rh _ .bl⟩)
    | exact .inr (eqD_ok rh rx ry p)
theorem ok_ltc : OpOk K xj (cmpF .lt) (fun x y H Q => rI0 (fun i j => .bl (decide (i < j))) x y H Q ∨ ∃ i j, x = .str i ∧ y = .str j ∧ Q (.bl (decide (i.cps.toList < j.cps.toList))) H) := by
  intro m H h x y vx vy Q rh rx ry p
  cases x <;> cases y <;> try exact p.elim
  · cases rx; cases ry
    exact .inl ⟨_, _, rfl, rfl, p.now rh _ .bl⟩
  · cases rx; cases ry
    exact .inr ⟨_, _, rfl, rfl, p.now rh _ .bl⟩
theorem ok_lec : OpOk K xj (cmpF .le) (fun x y H Q => rI0 (fun i j => .bl (decide (i ≤ j))) x y H Q ∨ ∃ i j, x = .str i ∧ y = .str j ∧ Q (.bl (!decide (j.cps.toList < i.cps.toList))) H) := by
  intro m H h x y vx vy Q rh rx ry p
  cases x <;> cases y <;> try exact p.elim
  · cases rx; cases ry
    exact .inl ⟨_, _, rfl, rfl, p.now rh _ .bl⟩
  · cases rx; cases ry
    exact .inr ⟨_, _, rfl, rfl, p.now rh _ .bl⟩
theorem ok_gtc : OpOk K xj (cmpF .gt) (rI0 fun i j => .bl (decide (j < i))) := by
  intro m H h x y vx vy Q rh rx ry p
  cases x <;> cases y <;> try exact p.elim
  cases rx; cases ry
  exact ⟨_, _, rfl, rfl, p.now rh _ .bl⟩
theorem ok_gec : OpOk K xj (cmpF .ge) (fun x y H Q => rI0 (fun i j => .bl (decide (j ≤ i))) x y H Q ∨ ∃ i j, x = .str i ∧ y = .str j ∧ Q (.bl (!decide (i.cps.toList < j.cps.toList))) H) := by
  intro m H h x y vx vy Q rh rx ry p
  cases x <;> cases y <;> try exact p.elim
  · cases rx; cases ry
    exact .inl ⟨_, _, rfl, rfl, p.now rh _ .bl⟩
  · cases rx; cases ry
    exact .inr ⟨_, _, rfl, rfl, p.now rh _ .bl⟩

def bopS : BOp → Operator
  | .add => .Add | .sub => .Sub | .mul => .Mult | .fdiv => .FloorDiv | .mod => .Mod | .pow => .Pow
def copS : COp → CmpOp
  | .eq => .Eq | .ne => .NotEq | .lt => .Lt | .le => .LtE | .gt => .Gt | .ge => .GtE
/-- what a context must bear for all this -/
structure Fit (X : Cx) : Prop where
  calm : X.calm = true
  hu : X.A.units + 100 < cLine
  hush : X.A.guards = some []
theorem bop_all (ft : Fit X) (op : BOp) : ∃ r : R2, OpR X (binaryOp (bopS op)) r ∧ ∀ xj, OpOk X.K xj (binF op) r := by
  cases op
  · exact ⟨_, (op_add.or op_add_str).or (op_catA.or op_cat), fun _ => ok_add⟩
  · exact ⟨_, op_sub, fun _ => ok_sub⟩
  · exact ⟨_, op_mul.or (op_rep.or (op_repS.or (op_repT.or op_repT1))), fun _ => ok_mul⟩
  · exact ⟨_, op_fdiv.or op_fdivW, fun _ => ok_fdiv⟩
  · exact ⟨_, op_mod, fun _ => ok_mod⟩
  · exact ⟨_, op_pow, fun _ => ok_pow⟩
theorem cop_all (ft : Fit X) (op : COp) : ∃ r : R2, OpR X (compareOp (copS op)) r ∧ ∀ xj, OpOk X.K xj (cmpF op) r := by
  cases op
  · exact ⟨_, op_eq.or (op_eqD (by have := ft.hu; omega)), fun _ => ok_eq⟩
  · exact ⟨_, op_ne.or (op_neD (by have := ft.hu; omega)), fun _ => ok_ne⟩
  · exact ⟨_, op_lt.or op_lt_str, fun _ => ok_ltc⟩
  · exact ⟨_, op_le.or op_le_str, fun _ => ok_lec⟩
  · exact ⟨_, op_gt, fun _ => ok_gtc⟩
  · exact ⟨_, op_ge.or op_ge_str, fun _ => ok_gec⟩
theorem cop_mark (op : COp) (b : Expr) : behindInMarks (copS op) b = false := nomark b (by cases op <;> decide) (by cases op <;> decide)
end
end Vm

set_option Elab.async false
set_option linter.all false
set_option maxRecDepth 100000
set_option maxHeartbeats 4000000
/-! VnD: any(elt for x in xs), all(..): the element may call. -/
namespace Vm
open PySem PySem.Spec PyProof.Rows L2
open GxR (TabG Tabbed TabB)
/-- any (stop: true), all (stop: false) of a generator expression; the running def's table may have grown -/
def tGen (P : Addr) (stop : Bool) (wi : TI) (g : TG) (te : TE) (vs : List Nat) : TE := fun σ H Q => wi σ H fun J H1 => TabG H1 P ∧ ∀ H2, Tabbed P H1 H2 → ∃ W : Nat → Nat → Hp → Prop, (∃ m, W 0 m H2) ∧ Turns J g te σ vs stop W (fun H => Q (.bl (!stop)) H) (fun H => Q (.bl stop) H)
section
variable {X : Cx} {pins : List (Addr × Obj)} {σ : L2.St} {H : Hp} {s : Shared}
theorem gen_core {c P : Addr} {elt tg iter : Expr} {scope : Scope} {gpos : Pos} {own : List (Str × Nat)} {stop : Bool} {wi : TI} {g : TG} {te : TE} {Q : VK} {Q' : Value → Shared → Prop}
    (hc : X.calm = true) (hN : X.N.Nodup) (hr : Room 1 X.A) (TB : TabB X.base X.mg c P) (hcode : X.env.code = .ref c) (ok : BlkG X.N X.env.scope scope own) (hi : PI X tg iter wi)
    (hg : ∀ (s4 : Shared) (H4 : Hp) (it : Addr) (code : Value) (fp : List Addr) (a : Addr) (go : Obj), PG (gX X s4 H4 elt tg iter scope gpos it (genEnv scope (cloFrom X.env.cells scope.names []) s4.heap.objs.size code builtinsNs X.env) fp a go) tg g)
    (he : ∀ (s4 : Shared) (H4 : Hp) (it : Addr) (code : Value) (fp : List Addr) (a : Addr) (go : Obj), PE (gX X s4 H4 elt tg iter scope gpos it (genEnv scope (cloFrom X.env.cells scope.names []) s4.heap.objs.size code builtinsNs X.env) fp a go) elt te)
    (hs : ∀ v, genFold iter X.env v = pure v) (I : Inv X pins σ H s) (h : tGen P stop wi g te (own.map (·.2)) σ H Q)
    (hQ : ∀ (a : Addr) (g : Nat) (gs : GenState) (n : Nat) (s5 : Shared) (En Out : Shared → Prop), s5.gens[g]? = some gs → Live a g s5 → (∀ s2, Woke s5 s2 → gs.Goes (model X.prog X.w) X.A.in1.in1 (endG En) (handG a g stop Out) n (.send .none) s2) →
      (∀ s0 h', En s0 → (∀ b o, s0.heap.get? b = some o → h'.get? b = some o) → EP X pins σ Q (.bool (!stop)) { s0.setGen g .finished with heap := h' }) → (∀ s0 gs', Out s0 → gs'.bare = true → EP X pins σ Q (.bool stop) (s0.setGen g gs')) → Q' (.ref a) s5) :
    wpAny (model X.prog X.w) X.A (eval (.GeneratorExp elt [⟨tg, iter, [], 0⟩] scope gpos) X.env) Q' X.xe s := by
  have hfree : ∀ y ∈ scope.names, y.2 = .free → ∃ c, X.env.cells.lookup y.1 = some c := fun y hy e => by
    rcases ok.free y hy e with k | k
    · exact I.ok.has _ (.inl k)
    · exact I.ok.has _ (.inr k)
  refine wpAny_GeneratorExp_make ok.co (closure_ok hfree) ok.nocell ok.dot ok.kind (by have := hr.dp; omega) ?_ hs
  refine thn (hi.run pins s σ H _ I h) fun xv s1 hx => thn hx fun itv s2 h2 => ?_
  obtain ⟨it, fp, tn, J, H2, e, I2, T, st2, f2, ⟨ps, hP, ht⟩, q⟩ := h2
  subst e
  refine ⟨I2.nolimit, ?_⟩
  have hPs : s2.heap.get? P = some { cls := .none, data := .fields ps } := I2.hok P _ hP
  have cd : PySem.W.CodeHd s2.heap c P := TB.code.keeps I2.bk
  have sz : ∀ b ∈ fp, b < s2.heap.objs.size := fun b hb => by
    obtain ⟨o, e, _⟩ := T.obj _ _ st2 b hb
    exact Heap.lt_size e
  have fP : ∀ b ∈ fp, b ≠ P := fun b hb z => by
    have := (f2 b hb).1
    rw [z, hP] at this
    cases this
  have cont : ∀ (code : Value) (h3 : Heap) (tk : Nat) (ps' : Array Value), Heap.ExtBut P s2.heap h3 → s2.heap.objs.size ≤ h3.objs.size → h3.get? P = some { cls := .none, data := .fields ps' } → (∃ more, ps' = ps ++ more) → TriplesOk ps'.toList →
      wpAny (model X.prog X.w) X.A (builtinsFor X.env.globals X.env.builtins) (fun bi s₄ =>
        ∀ h', h'.Ns s₄.heap.objs.size (fun y => if y = ".0" then some (.ref it) else none) → Heap.SameBut s₄.heap.objs.size (s₄.heap.push { cls := .type "frame", data := .dict #[] }) h' →
          Q' (.ref h'.objs.size) { s₄ with
            gens := s₄.gens.push (.fresh (.compStart (.GeneratorExp elt [⟨tg, iter, [], 0⟩] scope gpos) 0 (.ref it) .none (genEnv scope (cloFrom X.env.cells scope.names []) s₄.heap.objs.size code bi X.env))),
            toks := s₄.toks + 1 + 1 + 1,
            heap := h'.push { cls := .type "generator", data := .fields #[.int s₄.gens.size 0, .str "<genexpr>" (s₄.toks + 1), .str (X.env.qual ++ "<genexpr>") (s₄.toks + 1 + 1)] } }) X.xe { s2 with heap := h3, toks := tk } := by
    intro code h3 tk ps' hx hsz hP3 hmore ht3
    obtain ⟨more, em⟩ := hmore
    obtain ⟨bm, ob, e1, e2, e3, e4, e5, e6, e7, e8⟩ := TB.bm
    refine wpAny_builtinsFor (m := X.mg) (by rw [I2.ok.glob]; exact (I2.mod.glob.keeps I2.bk).extBut hx TB.gP) e1 e2 (hx _ _ e4 (I2.bk _ _ e5)) e6 e7 e8 ?_
    intro h' hn' hs'
    have I4 := GxR.inv_tab (more := more) (h' := h3) (g' := s2.gens) (d' := s2.drawn) (t' := tk) I2 hP (fun b u hb e => hx b u hb e) (by rw [← em]; exact hP3) I2.bare
    have tb2 : Tabbed P H2 (upd H2 P (.tbl (ps ++ more))) := ⟨⟨ps ++ more, upd_same, by rw [← em]; exact ht3⟩, fun b hb => upd_ne hb⟩
    obtain ⟨W, ⟨m0, w0⟩, tr⟩ := q _ tb2
    generalize upd H2 P (.tbl (ps ++ more)) = H4 at I4 tb2 w0
    generalize hs4 : ({ s2 with heap := h3, toks := tk } : Shared) = s4 at hn' hs' ⊢
    have hs4' : ({ s2 with heap := h3, gens := s2.gens, drawn := s2.drawn, toks := tk } : Shared) = s4 := hs4
    rw [hs4'] at I4
    have hh4 : s4.heap = h3 := by rw [← hs4]
    have f4 : ∀ b ∈ fp, FpOk X pins H4 b ∧ b < s4.heap.objs.size := fun b hb => ⟨⟨by rw [tb2.2 b (fP b hb)]; exact (f2 b hb).1, (f2 b hb).2⟩, Nat.lt_of_lt_of_le (sz b hb) (by rw [hh4]; exact hsz)⟩
    have sz' : h'.objs.size = s4.heap.objs.size + 1 := by rw [hs'.1, Heap.size_push]
    have keep' : ∀ b o, s4.heap.get? b = some o → h'.get? b = some o := fun b o e => hs'.extBut b o (Nat.ne_of_lt (Heap.lt_size e)) (Heap.get?_push_of_some _ e)
    generalize hgo : ({ cls := .type "generator", data := .fields #[.int s4.gens.size 0, .str "<genexpr>" (s4.toks + 1), .str (X.env.qual ++ "<genexpr>") (s4.toks + 1 + 1)] } : Obj) = go
    have kp : ∀ b o, s4.heap.get? b = some o → (h'.push go).get? b = some o := fun b o e => Heap.get?_push_of_some _ (keep' b o e)
    have gat : (h'.push go).get? h'.objs.size = some go := Heap.get?_push_size _ (by rw [← hgo]; rfl)
    have isg : ∀ hh : Heap, hh.get? h'.objs.size = some go → hh.IsGen h'.objs.size s4.gens.size := fun hh e => ⟨go, _, _, e, by rw [← hgo], by rw [← hgo], by rw [← hgo]⟩
    have st5 : tn 0 (h'.push go) := T.keep _ _ _ st2 fun b hb o e => kp b o (by rw [hh4]; exact hx b o (fP b hb) e)
    have nfa : h'.objs.size ∉ fp := fun z => by
      have q1 : h'.objs.size < s4.heap.objs.size := (f4 _ z).2
      rw [sz'] at q1
      exact absurd (Nat.lt_of_succ_lt q1) (Nat.lt_irrefl _)
    have bar5 : AllBare (s4.gens.push (.fresh (genBegin elt tg iter scope gpos it (genEnv scope (cloFrom X.env.cells scope.names []) s4.heap.objs.size code builtinsNs X.env)))) := AllBare.push I4.bare rfl
    have I5 := gen_start (A' := genA X elt tg iter scope gpos it (genEnv scope (cloFrom X.env.cells scope.names []) s4.heap.objs.size code builtinsNs X.env)) (pn := [(h'.objs.size, go)]) (g' := s4.gens.push (.fresh (genBegin elt tg iter scope gpos it (genEnv scope (cloFrom X.env.cells scope.names []) s4.heap.objs.size code builtinsNs X.env)))) (tk := s4.toks + 1 + 1 + 1)
      I4 ok hN hc f4 rfl (I4.ok.hd hc) (genA_frames I4.ok.frames) (hn'.push go) kp (fun p hp => by
        rw [List.mem_singleton.mp hp]
        exact ⟨gat, by show _ < h'.objs.size; omega, fun v z => by rw [← hgo] at z; cases z⟩) bar5
    have back : ∀ {σ1 : L2.St} {pins1 : List (Addr × Obj)} {H9 : Hp} {s0 s' : Shared}, Inv (gX X s4 H4 elt tg iter scope gpos it (genEnv scope (cloFrom X.env.cells scope.names []) s4.heap.objs.size code builtinsNs X.env) fp h'.objs.size go) pins1 σ1 H9 s0 → s'.os = s0.os → (∀ b o, s0.heap.get? b = some o → s'.heap.get? b = some o) → AllBare s'.gens → Inv X pins σ H9 s' := fun {σ1 pins1 H9 s0 s'} J ho k hb => by
      have J' := J.call' (ch := []) ho (Un.kept k) (J.hok.kept k) hb fun b z => by simp at z
      exact I4.call' (ch := fp) J'.os J'.base J'.hok J'.bare fun b hb => ⟨(f4 b hb).1.2.2.2.1, (f4 b hb).1.2.1, (f4 b hb).1.2.2.2.2.1, (f4 b hb).1.2.2.2.2.2⟩
    refine hQ h'.objs.size s4.gens.size _ (m0 + 1) _ _ _ (Array.getElem?_push_size ..) ⟨isg _ gat, I5.nolimit, bar5⟩ (fun s6 wk => ⟨rfl, seg_begin T (T.keep _ _ _ st5 fun b _ o e => wk.keep b o e) (seg_gen hc T (hg s4 H4 it code fp h'.objs.size go) (he s4 H4 it code fp h'.objs.size go) ok.co isg nfa tr m0 (m0 + 1) 0 H4 s6 _ (Nat.lt_succ_self _)
      (I5.call' (ch := []) wk.os (Un.kept wk.keep) (I5.hok.kept wk.keep) wk.bare fun b z => by simp at z) (T.keep _ _ _ st5 fun b _ o e => wk.keep b o e) (fun b hb => (f4 b hb).1.1) w0)⟩) (fun s0 h9 en k => ?_) fun s0 gs' ou hb => ?_
    · obtain ⟨H9, J, qe⟩ := en
      exact ⟨.bl (!stop), H9, back J rfl k (setGen_bare J.bare rfl), rfl, qe⟩
    · obtain ⟨σ1, pins1, H9, J, qo⟩ := ou
      exact ⟨.bl stop, H9, back J rfl (fun _ _ e => e) (setGen_bare J.bare hb), rfl, qo⟩
  cases hf : codeAmong gpos ps.toList with
  | none =>
    refine wpAny_genexprCodeX hcode (cd.code hPs ht) (cd.tab hPs) hf fun c' h' tk hx hge hlt hco' _ htab' _ => ?_
    obtain ⟨o1, vs, f1, tf, fl, tg', inF, tx, tt, op, _, _, _, _, _, _, _, _, _, htr, _⟩ := hco'
    exact cont _ h' tk _ hx (Nat.le_trans hge (Nat.le_of_lt hlt)) htab'.2 ⟨_, rfl⟩ htr
  | some cv =>
    refine wpAny_genexprCode_hit hcode (cd.code hPs ht) hf ?_
    exact cont cv s2.heap s2.toks ps (Heap.ExtBut.refl _ _) (Nat.le_refl _) hPs ⟨#[], by simp⟩ ht
end
section
variable {X : Cx}
theorem pe_anyG {c P : Addr} {elt tg iter : Expr} {scope : Scope} {gpos p pos : Pos} {own : List (Str × Nat)} {wi : TI} {g : TG} {te : TE}
    (hc : X.calm = true) (hN : X.N.Nodup) (hr : Room 1 X.A) (hgl : Gl X "any") (hm : X.mg "any" = none) (TB : TabB X.base X.mg c P) (hcode : X.env.code = .ref c) (ok : BlkG X.N X.env.scope scope own) (hi : PI X tg iter wi)
    (hg : ∀ (s4 : Shared) (H4 : Hp) (it : Addr) (code : Value) (fp : List Addr) (a : Addr) (go : Obj), PG (gX X s4 H4 elt tg iter scope gpos it (genEnv scope (cloFrom X.env.cells scope.names []) s4.heap.objs.size code builtinsNs X.env) fp a go) tg g)
    (he : ∀ (s4 : Shared) (H4 : Hp) (it : Addr) (code : Value) (fp : List Addr) (a : Addr) (go : Obj), PE (gX X s4 H4 elt tg iter scope gpos it (genEnv scope (cloFrom X.env.cells scope.names []) s4.heap.objs.size code builtinsNs X.env) fp a go) elt te)
    (hs : ∀ v, genFold iter X.env v = pure v) : PE X (.Call (.Name "any" p) [.GeneratorExp elt [⟨tg, iter, [], 0⟩] scope gpos] [] pos) (tGen P true wi g te (own.map (·.2))) := by
  have hse : starEach [.GeneratorExp elt [⟨tg, iter, [], 0⟩] scope gpos] X.env = (false, eval (.GeneratorExp elt [⟨tg, iter, [], 0⟩] scope gpos) X.env) :: starEach [] X.env := rfl
  refine ⟨fun pins s σ H Q I h => ?_⟩
  refine wpAny_Call_Name_kw (ld_blt I hgl hm boot_any ?_)
  refine PyProof.Rows.callWith_builtin1 ?_ hse (by rfl)
  rw [hse]
  show wpAny _ _ (spliced ((false, eval (.GeneratorExp elt [⟨tg, iter, [], 0⟩] scope gpos) X.env) :: backTo pos (starEach [] X.env))) _ _ s
  refine Calls.spliced_cons (gen_core hc hN hr TB hcode ok hi hg he hs I h fun a g gs n s5 En Out e L go h1 h2 => ?_)
  refine Calls.spliced_nil ?_
  exact call_any_gen (I.ok.hd hc) (by have := hr.dp; omega) e L go h1 h2
theorem pe_allG {c P : Addr} {elt tg iter : Expr} {scope : Scope} {gpos p pos : Pos} {own : List (Str × Nat)} {wi : TI} {g : TG} {te : TE}
    (hc : X.calm = true) (hN : X.N.Nodup) (hr : Room 1 X.A) (hgl : Gl X "all") (hm : X.mg "all" = none) (TB : TabB X.base X.mg c P) (hcode : X.env.code = .ref c) (ok : BlkG X.N X.env.scope scope own) (hi : PI X tg iter wi)
    (hg : ∀ (s4 : Shared) (H4 : Hp) (it : Addr) (code : Value) (fp : List Addr) (a : Addr) (go : Obj), PG (gX X s4 H4 elt tg iter scope gpos it (genEnv scope (cloFrom X.env.cells scope.names []) s4.heap.objs.size code builtinsNs X.env) fp a go) tg g)
    (he : ∀ (s4 : Shared) (H4 : Hp) (it : Addr) (code : Value) (fp : List Addr) (a : Addr) (go : Obj), PE (gX X s4 H4 elt tg iter scope gpos it (genEnv scope (cloFrom X.env.cells scope.names []) s4.heap.objs.size code builtinsNs X.env) fp a go) elt te)
    (hs : ∀ v, genFold iter X.env v = pure v) : PE X (.Call (.Name "all" p) [.GeneratorExp elt [⟨tg, iter, [], 0⟩] scope gpos] [] pos) (tGen P false wi g te (own.map (·.2))) := by
  have hse : starEach [.GeneratorExp elt [⟨tg, iter, [], 0⟩] scope gpos] X.env = (false, eval (.GeneratorExp elt [⟨tg, iter, [], 0⟩] scope gpos) X.env) :: starEach [] X.env := rfl
  refine ⟨fun pins s σ H Q I h => ?_⟩
  refine wpAny_Call_Name_kw (ld_blt I hgl hm boot_all ?_)
  refine PyProof.Rows.callWith_builtin1 ?_ hse (by rfl)
  rw [hse]
  show wpAny _ _ (spliced ((false, eval (.GeneratorExp elt [⟨tg, iter, [], 0⟩] scope gpos) X.env) :: backTo pos (starEach [] X.env))) _ _ s
  refine Calls.spliced_cons (gen_core hc hN hr TB hcode ok hi hg he hs I h fun a g gs n s5 En Out e L go h1 h2 => ?_)
  refine Calls.spliced_nil ?_
  exact call_all_gen (I.ok.hd hc) (by have := hr.dp; omega) e L go h1 h2
end
end Vm

set_option Elab.async false
set_option linter.all false
set_option maxRecDepth 100000
set_option maxHeartbeats 4000000
/-! VmD: further expressions. -/
namespace Vm
open PySem PySem.Spec PyProof.Rows L2
variable [Tbs]

section
variable {X : Cx} {xj : XJ} {xi : XI} {a b c e : Expr} {fa fb fc : Ev → IH → Res PV} {pos : Pos}

theorem se_neg {K : PySem.W.Frag} (ha : PE X a (tE K xi fa)) : PE X (.UnaryOp .USub a pos) (tE K xi fun ev h => (fa ev h).bind fun x h1 => match x with
    | .int i => .ok (.int (-i)) h1
    | _ => .stuck) := by
  refine PEm (pe_un un_neg ha) fun st H Q ⟨ev, m, h, re, rh, p⟩ => ?_
  refine tE_bind re rh p fun v x m1 H1 h1 g1 re1 rh1 rx p1 => ?_
  cases x <;> try exact p1.elim
  cases rx
  exact ⟨_, rfl, p1.now rh1 _ .int⟩
theorem isNon_of {K : PySem.W.Frag} {m : List Addr} {H : Hp} {v : V} {x : PV} (r : Rep K m H v x) : decide (v = .non) = isNon x := by
  cases r <;> rfl
theorem se_isn {K : PySem.W.Frag} {j : Nat} {pos' : Pos} (ha : PE X a (tE K xi fa)) : PE X (.Compare a [.Is] [.Constant .none j pos'] pos) (tE K xi fun ev h => (fa ev h).bind fun x h1 => .ok (.bl (isNon x)) h1) := by
  refine PEm (pe_cmp (pc_isN ha) rfl) fun st H Q ⟨ev, m, h, re, rh, p⟩ => ?_
  refine tE_bind re rh p fun v x m1 H1 h1 g1 re1 rh1 rx p1 => ?_
  rw [isNon_of rx]
  exact p1.now rh1 _ .bl
theorem se_notn {K : PySem.W.Frag} {j : Nat} {pos' : Pos} (ha : PE X a (tE K xi fa)) : PE X (.Compare a [.IsNot] [.Constant .none j pos'] pos) (tE K xi fun ev h => (fa ev h).bind fun x h1 => .ok (.bl (!isNon x)) h1) := by
  refine PEm (pe_cmp (pc_notN ha) rfl) fun st H Q ⟨ev, m, h, re, rh, p⟩ => ?_
  refine tE_bind re rh p fun v x m1 H1 h1 g1 re1 rh1 rx p1 => ?_
  rw [isNon_of rx]
  exact p1.now rh1 _ .bl

/-! ### and, or, not, if as values -/
def bandF (fa fb : Ev → IH → Res PV) : Ev → IH → Res PV := fun ev h => (fa ev h).bind fun x h1 => match x with
  | .bl true => fb ev h1
  | .bl false => .ok (.bl false) h1
  | _ => .stuck
def borF (fa fb : Ev → IH → Res PV) : Ev → IH → Res PV := fun ev h => (fa ev h).bind fun x h1 => match x with
  | .bl false => fb ev h1
  | .bl true => .ok (.bl true) h1
  | _ => .stuck
def notF (fa : Ev → IH → Res PV) : Ev → IH → Res PV := fun ev h => (fa ev h).bind fun x h1 => match x with
  | .bl b => .ok (.bl (!b)) h1
  | _ => .stuck
def iteF (fc fa fb : Ev → IH → Res PV) : Ev → IH → Res PV := fun ev h => (fc ev h).bind fun x h1 => match x with
  | .bl true => fa ev h1
  | .bl false => fb ev h1
  | _ => .stuck
variable {K : PySem.W.Frag} {rest : List Expr}
theorem se_band (ha : PE X a (tE K xi fa)) (hb : PE X (.BoolOp .And (b :: rest) pos) (tE K xi fb)) : PE X (.BoolOp .And (a :: b :: rest) pos) (tE K xi (bandF fa fb)) := by
  refine PEm (pe_and ha hb) fun st H Q ⟨ev, m, h, re, rh, p⟩ => ?_
  refine tE_bind re rh p fun v x m1 H1 h1 g1 re1 rh1 rx p1 => ?_
  cases x <;> try exact p1.elim
  rename_i t
  cases rx
  refine ⟨t, rfl, ?_⟩
  cases t with
  | true => exact ⟨ev, m1, h1, re1, rh1, p1⟩
  | false => exact p1.now rh1 _ .bl
theorem se_bor (ha : PE X a (tE K xi fa)) (hb : PE X (.BoolOp .Or (b :: rest) pos) (tE K xi fb)) : PE X (.BoolOp .Or (a :: b :: rest) pos) (tE K xi (borF fa fb)) := by
  refine PEm (pe_or ha hb) fun st H Q ⟨ev, m, h, re, rh, p⟩ => ?_
  refine tE_bind re rh p fun v x m1 H1 h1 g1 re1 rh1 rx p1 => ?_
  cases x <;> try exact p1.elim
  rename_i t
  cases rx
  refine ⟨t, rfl, ?_⟩
  cases t with
  | true => exact p1.now rh1 _ .bl
  | false => exact ⟨ev, m1, h1, re1, rh1, p1⟩
theorem se_not (ha : PE X a (tE K xi fa)) : PE X (.UnaryOp .Not a pos) (tE K xi (notF fa)) := by
  refine PEm (pe_not ha) fun st H Q ⟨ev, m, h, re, rh, p⟩ => ?_
  refine tE_bind re rh p fun v x m1 H1 h1 g1 re1 rh1 rx p1 => ?_
  cases x <;> try exact p1.elim
  cases rx
  exact ⟨_, rfl, p1.now rh1 _ .bl⟩

/-! ### tests -/
/-- the test of a value -/
def bF (f : Ev → IH → Res PV) : Ev → IH → Res Bool := fun ev h => (f ev h).bind fun x h1 => boolOf x h1
theorem boolOf_at {m : List Addr} {H : Hp} {x : PV} {h : IH} {R : Bool → List Addr → Hp → Prop} (p : Post K xj m H (boolOf x h) R) (rh : RelH K m H h) : ∃ b, x = .bl b ∧ R b m H := by
  cases x <;> try exact p.elim
  exact ⟨_, rfl, p.now rh⟩
/-- a value that is a bool, where the test is the value's -/
theorem st_val (ha : PE X a (tE K xi fa)) (he : ∀ whole, isTrue a X.env whole = (do let v ← whole; standAt a.pos; holding [v] (truthy v))) : PT X a (tT K xi (bF fa)) := by
  refine PTm (pt_val ha he) fun st H Q ⟨ev, m, h, re, rh, p⟩ => ?_
  refine tE_bind re rh p fun v x m1 H1 h1 g1 re1 rh1 rx p1 => ?_
  obtain ⟨t, rfl, q⟩ := boolOf_at p1 rh1
  cases rx
  exact ⟨t, rfl, q⟩
theorem tTest_of {f : Ev → IH → Res PV} {t : TE} (k : ∀ st H Q, tE K xi f st H Q → t st H Q) {st : L2.St} {H : Hp} {Q : Bool → Hp → Prop} (q : tT K xi (bF f) st H Q) : tTest t st H Q := by
  obtain ⟨ev, m, h, re, rh, p⟩ := q
  refine k _ _ _ (tE_bind re rh p fun v x m1 H1 h1 g1 re1 rh1 rx p1 => ?_)
  obtain ⟨t, rfl, q⟩ := boolOf_at p1 rh1
  cases rx
  exact ⟨t, rfl, q⟩
theorem st_cmp {op : CmpOp} {f : PV → PV → IH → Res PV} {r : R2} (ho : OpR X (compareOp op) r) (ok : ∀ xj, OpOk K xj f r) (hm : behindInMarks op b = false) (ha : PE X a (tE K xi fa)) (hb : PE X b (tE K xi fb)) :
    PT X (.Compare a [op] [b] pos) (tT K xi (bF fun ev h => (fa ev h).bind fun x h1 => (fb ev h1).bind fun y h2 => f x y h2)) :=
  PTm (pt_cmpR ho ha hb hm) fun st H Q t => tTest_of (fun st H Q t => tOp_of ok t) t
theorem tChain_of {o1 o2 : COp} {r1 r2 : R2} (k1 : ∀ xj, OpOk K xj (cmpF o1) r1) (k2 : ∀ xj, OpOk K xj (cmpF o2) r2) {st : L2.St} {H : Hp} {Q : VK} (t : tE K xi (fun ev h => (fa ev h).bind fun x h1 => (fb ev h1).bind fun y h2 => (cmpF o1 x y h2).bind fun z h3 => match z with
      | .bl true => (fc ev h3).bind fun w h4 => cmpF o2 y w h4
      | .bl false => .ok (.bl false) h3
      | _ => .stuck) st H Q) : tChain r1 r2 (tE K xi fa) (tE K xi fb) (tE K xi fc) st H Q := by
  obtain ⟨ev, m, h, re, rh, p⟩ := t
  refine tE_bind re rh p fun v x m1 H1 h1 g1 re1 rh1 rx p1 => ?_
  refine tE_bind re1 rh1 p1 fun w y m2 H2 h2 g2 re2 rh2 ry p2 => ?_
  refine k1 _ m2 H2 h2 x y v w _ rh2 (rx.grow g2) ry (p2.bind fun z h3 m3 H3 g3 rh3 p3 u ru => ?_)
  cases z <;> try exact p3.elim
  rename_i t
  cases ru
  refine ⟨t, rfl, ?_⟩
  cases t with
  | false => exact p3.now rh3 _ .bl
  | true =>
    refine tE_bind ((re2.grow g3)) rh3 p3 fun w' z m4 H4 h4 g4 re4 rh4 rz p4 => ?_
    exact k2 _ m4 H4 h4 y z w w' _ rh4 ((ry.grow g3).grow g4) rz p4
theorem se_chain {o1 o2 : COp} (ft : Fit X) (hK : X.K = K) (ha : PE X a (tE K xi fa)) (hb : PE X b (tE K xi fb)) (hc : PE X c (tE K xi fc)) :
    PE X (.Compare a [copS o1, copS o2] [b, c] pos) (tE K xi fun ev h => (fa ev h).bind fun x h1 => (fb ev h1).bind fun y h2 => (cmpF o1 x y h2).bind fun z h3 => match z with
      | .bl true => (fc ev h3).bind fun w h4 => cmpF o2 y w h4
      | .bl false => .ok (.bl false) h3
      | _ => .stuck) := by
  subst hK
  obtain ⟨r1, q1, k1⟩ := cop_all ft o1
  obtain ⟨r2, q2, k2⟩ := cop_all ft o2
  exact PEm (pe_chain q1 q2 ha hb hc (by show behindInMarks (copS o2) c = false; exact cop_mark o2 c)) fun st H Q t => tChain_of k1 k2 t
theorem st_chain {o1 o2 : COp} (ft : Fit X) (hK : X.K = K) (ha : PE X a (tE K xi fa)) (hb : PE X b (tE K xi fb)) (hc : PE X c (tE K xi fc)) :
    PT X (.Compare a [copS o1, copS o2] [b, c] pos) (tT K xi (bF fun ev h => (fa ev h).bind fun x h1 => (fb ev h1).bind fun y h2 => (cmpF o1 x y h2).bind fun z h3 => match z with
      | .bl true => (fc ev h3).bind fun w h4 => cmpF o2 y w h4
      | .bl false => .ok (.bl false) h3
      | _ => .stuck)) := by
  subst hK
  obtain ⟨r1, q1, k1⟩ := cop_all ft o1
  obtain ⟨r2, q2, k2⟩ := cop_all ft o2
  exact PTm (pt_chain q1 q2 ha hb hc (by show behindInMarks (copS o2) c = false; exact cop_mark o2 c)) fun st H Q t => tTest_of (fun st H Q t => tChain_of k1 k2 t) t
theorem tB_of {f : Ev → IH → Res PV} {t : TE} (k : ∀ st H Q, tE K xi f st H Q → t st H Q) {st : L2.St} {H : Hp} {Q : Bool → Hp → Prop} (q : tT K xi (bF f) st H Q) : tB t st H Q := tTest_of k q
theorem st_isn {j : Nat} {pos' : Pos} (ha : PE X a (tE K xi fa)) : PT X (.Compare a [.Is] [.Constant .none j pos'] pos) (tT K xi (bF fun ev h => (fa ev h).bind fun x h1 => .ok (.bl (isNon x)) h1)) := by
  refine PTm (pt_cmp (pc_isN ha) rfl) fun st H Q t => tB_of (fun st H Q ⟨ev, m, h, re, rh, p⟩ => ?_) t
  refine tE_bind re rh p fun v x m1 H1 h1 g1 re1 rh1 rx p1 => ?_
  rw [isNon_of rx]
  exact p1.now rh1 _ .bl
theorem st_notn {j : Nat} {pos' : Pos} (ha : PE X a (tE K xi fa)) : PT X (.Compare a [.IsNot] [.Constant .none j pos'] pos) (tT K xi (bF fun ev h => (fa ev h).bind fun x h1 => .ok (.bl (!isNon x)) h1)) := by
  refine PTm (pt_cmp (pc_notN ha) rfl) fun st H Q t => tB_of (fun st H Q ⟨ev, m, h, re, rh, p⟩ => ?_) t
  refine tE_bind re rh p fun v x m1 H1 h1 g1 re1 rh1 rx p1 => ?_
  rw [isNon_of rx]
  exact p1.now rh1 _ .bl
/-- a test's first part, its value being x -/
theorem tT_of {β : Type} {f : Ev → IH → Res PV} {g : PV → IH → Res β} {R : β → List Addr → Hp → Prop} {st : L2.St} {H : Hp} {Q : Bool → Hp → Prop} {ev : Ev} {m : List Addr} {h : IH} (re : REnv K m H st ev) (rh : RelH K m H h)
    (p : Post K (xi st) m H ((f ev h).bind g) R) (n : ∀ x h1, (∀ b, x ≠ .bl b) → g x h1 = .stuck)
    (k : ∀ b m1 H1 h1, Grow m H m1 H1 → REnv K m1 H1 st ev → RelH K m1 H1 h1 → Post K (xi st) m1 H1 (g (.bl b) h1) R → Q b H1) : tT K xi (bF f) st H Q := by
  refine ⟨ev, m, h, re, rh, ?_⟩
  unfold bF
  cases e : f ev h with
  | ok x h1 =>
    rw [e] at p
    by_cases hx : ∃ b, x = .bl b
    · obtain ⟨b, rfl⟩ := hx
      exact fun m1 H1 g1 q1 => k b m1 H1 h1 g1 (re.grow g1) q1 (Post.grow g1 p)
    · rw [Res.bind_ok, n x h1 (fun b z => hx ⟨b, z⟩)] at p
      exact p.elim
  | exc c fs h1 =>
    rw [e] at p
    exact p
  | stuck =>
    rw [e] at p
    exact p
theorem bind_bind {α β γ : Type} (r : Res α) (f : α → IH → Res β) (g : β → IH → Res γ) : (r.bind f).bind g = r.bind fun x h => (f x h).bind g := by
  cases r <;> rfl
theorem sw_band (ha : PT X a (tT K xi (bF fa))) (hb : PW X (.BoolOp .And (b :: rest) pos) (tT K xi (bF fb))) : PW X (.BoolOp .And (a :: b :: rest) pos) (tT K xi (bF (bandF fa fb))) := by
  refine PWm (pw_and ha hb) fun st H Q ⟨ev, m, h, re, rh, p⟩ => ?_
  unfold bF bandF at p
  rw [bind_bind] at p
  refine tT_of re rh p (fun x h1 n => ?_) fun t m1 H1 h1 g1 re1 rh1 p1 => ?_
  · cases x <;> try rfl
    exact absurd rfl (n _)
  · cases t with
    | true => exact ⟨ev, m1, h1, re1, rh1, p1⟩
    | false => exact p1.now rh1
theorem sw_bor (ha : PT X a (tT K xi (bF fa))) (hb : PW X (.BoolOp .Or (b :: rest) pos) (tT K xi (bF fb))) : PW X (.BoolOp .Or (a :: b :: rest) pos) (tT K xi (bF (borF fa fb))) := by
  refine PWm (pw_or ha hb) fun st H Q ⟨ev, m, h, re, rh, p⟩ => ?_
  unfold bF borF at p
  rw [bind_bind] at p
  refine tT_of re rh p (fun x h1 n => ?_) fun t m1 H1 h1 g1 re1 rh1 p1 => ?_
  · cases x <;> try rfl
    exact absurd rfl (n _)
  · cases t with
    | true => exact p1.now rh1
    | false => exact ⟨ev, m1, h1, re1, rh1, p1⟩
theorem tT_andOne {f : Ev → IH → Res PV} {st : L2.St} {H : Hp} {Q : Bool → Hp → Prop} (t : tT K xi (bF f) st H Q) : (tT K xi (bF f)) st H Q := t
theorem st_not (ha : PT X a (tT K xi (bF fa))) : PT X (.UnaryOp .Not a pos) (tT K xi (bF (notF fa))) := by
  refine PTm (pt_not ha) fun st H Q ⟨ev, m, h, re, rh, p⟩ => ?_
  unfold bF notF at p
  rw [bind_bind] at p
  refine tT_of re rh p (fun x h1 n => ?_) fun t m1 H1 h1 g1 re1 rh1 p1 => ?_
  · cases x <;> try rfl
    exact absurd rfl (n _)
  · exact p1.now rh1
theorem se_ite (hc : PT X c (tT K xi (bF fc))) (ha : PE X a (tE K xi fa)) (hb : PE X b (tE K xi fb)) : PE X (.IfExp c a b pos) (tE K xi (iteF fc fa fb)) := by
  refine PEm (pe_ifExp hc ha hb) fun st H Q ⟨ev, m, h, re, rh, p⟩ => ?_
  refine tT_of re rh p (fun x h1 n => ?_) fun t m1 H1 h1 g1 re1 rh1 p1 => ?_
  · cases x <;> try rfl
    exact absurd rfl (n _)
  · cases t with
    | true => exact ⟨ev, m1, h1, re1, rh1, p1⟩
    | false => exact ⟨ev, m1, h1, re1, rh1, p1⟩

theorem st_ite (hc : PT X c (tT K xi (bF fc))) (ha : PT X a (tT K xi (bF fa))) (hb : PT X b (tT K xi (bF fb))) : PT X (.IfExp c a b pos) (tT K xi (bF (iteF fc fa fb))) := by
  refine ⟨fun pins s st H Q I ⟨ev, m, h, re, rh, p⟩ => ?_⟩
  unfold bF iteF at p
  rw [bind_bind] at p
  refine isTrue_IfExp (thn (hc.run pins s st H (fun t H1 => if t = true then tT K xi (bF fa) st H1 Q else tT K xi (bF fb) st H1 Q) I (tT_of re rh p (fun x h1 n => ?_) fun t m1 H1 h1 g1 re1 rh1 p1 => ?_)) fun t s1 ⟨H1, I1, q1⟩ => ?_)
  · cases x <;> try rfl
    exact absurd rfl (n _)
  · cases t with
    | true => exact ⟨ev, m1, h1, re1, rh1, p1⟩
    | false => exact ⟨ev, m1, h1, re1, rh1, p1⟩
  · cases t with
    | true => exact ha.run pins s1 st H1 Q I1 q1
    | false => exact hb.run pins s1 st H1 Q I1 q1

/-! ### arguments, displays -/
def notStar : Expr → Bool
  | .Starred .. => false
  | _ => true
theorem star_cons {e : Expr} {es : List Expr} {env : Env} (h : notStar e = true) : starEach (e :: es) env = (false, eval e env) :: starEach es env := by
  cases e <;> first | rfl | cases h
theorem sa_nil : PA X [] (tA K xi fun _ h => .ok [] h) := PAm pa_nil fun st H Q ⟨ev, m, h, re, rh, p⟩ => p.now rh _ .nil
theorem sa_cons {es : List Expr} {fs : Ev → IH → Res (List PV)} (hn : notStar e = true) (ha : PE X e (tE K xi fa)) (hr : PA X es (tA K xi fs)) :
    PA X (e :: es) (tA K xi fun ev h => (fa ev h).bind fun x h1 => (fs ev h1).bind fun xs h2 => .ok (x :: xs) h2) := by
  refine PAm (pa_cons ha hr (star_cons hn)) fun st H Q ⟨ev, m, h, re, rh, p⟩ => ?_
  refine tE_bind re rh p fun v x m1 H1 h1 g1 re1 rh1 rx p1 => ?_
  refine tA_bind re1 rh1 p1 fun vs xs m2 H2 h2 g2 re2 rh2 rxs p2 => ?_
  exact p2.now rh2 _ (.cons (rx.grow g2) rxs)
theorem plain_of {es : List Expr} {env : Env} {pos : Pos} (h : es.all notStar = true) : (backTo pos (starEach es env)).any (·.1) = false := by
  induction es with
  | nil => rfl
  | cons e es ih =>
    rw [List.all_cons, Bool.and_eq_true] at h
    rw [star_cons h.1]
    have := ih h.2
    simp [backTo] at this ⊢
    exact this
theorem se_tup {es : List Expr} {k : Nat} {fs : Ev → IH → Res (List PV)} (hs : PA X es (tA K xi fs)) : PE X (.Tuple es k pos) (tE K xi fun ev h => (fs ev h).bind fun xs h1 => newT h1 xs) := by
  refine PEm (pe_tup hs) fun st H Q ⟨ev, m, h, re, rh, p⟩ => ?_
  refine tA_bind re rh p fun vs xs m1 H1 h1 g1 re1 rh1 rxs p1 => ?_
  obtain ⟨hl, p1⟩ := Post.ite p1
  refine ⟨by rw [rxs.length]; exact hl, fun q nq => ?_⟩
  exact p1 m1 _ (Grow.junk nq) (rh1.junk nq) _ (.tup (.inl (.inl upd_same)) (rxs.grow (Grow.junk nq)))
theorem se_lst {es : List Expr} {fs : Ev → IH → Res (List PV)} (hs : PA X es (tA K xi fs)) : PE X (.List es pos) (tE K xi fun ev h => (fs ev h).bind fun xs h1 => new h1 xs) := by
  refine PEm (pe_lst hs) fun st H Q ⟨ev, m, h, re, rh, p⟩ => ?_
  refine tA_bind re rh p fun vs xs m1 H1 h1 g1 re1 rh1 rxs p1 => ?_
  obtain ⟨hl, p1⟩ := Post.ite p1
  refine ⟨by rw [rxs.length]; exact hl, fun q nq => ?_⟩
  obtain ⟨rl, gl⟩ := rh1.laid nq rxs
  exact p1 _ _ gl rl _ (.ref (by rw [← rh1.len]; simp))

/-! ### subscripts -/
/-- what is read as a list or a tuple -/
theorem rd_ok {m : List Addr} {H : Hp} {h : IH} {x : PV} {v : V} {xs : List PV} (rh : RelH K m H h) (r : Rep K m H v x) (e : rd h x = some xs) : ∃ p vs, v = .ref p ∧ (SqL K H p vs ∨ SqT K H p vs) ∧ Reps K m H vs xs := by
  cases x with
  | tup ys => cases r with | tup h1 h2 => cases e; exact ⟨_, _, rfl, .inr h1, h2⟩
  | fl ys => cases r with | fl h1 h2 => cases e; exact ⟨_, _, rfl, .inl h1.sq, h2⟩
  | ref a =>
    cases r with
    | ref hp =>
      cases hy : h[a]? with
      | none => simp [rd, hy] at e
      | some o =>
        cases o with
        | lst ys =>
          simp [rd, hy] at e
          subst e
          obtain ⟨vs, h1, h2⟩ := rh.at' a _ _ hy hp
          exact ⟨_, vs, rfl, .inl (.inl (.inl h1)), h2⟩
        | dct ys => simp [rd, hy] at e
  | _ => cases e
theorem atI_rep {m : List Addr} {H : Hp} {vs : List V} {xs : List PV} {j : Int} {x : PV} (r : Reps K m H vs xs) (e : atI xs j = some x) : ∃ v, atI vs j = some v ∧ Rep K m H v x := by
  unfold atI at e ⊢
  rw [r.length]
  cases hk : ixN xs.length j with
  | none => rw [hk] at e; cases e
  | some k =>
    rw [hk] at e
    exact r.get e
theorem ok_ix (hK : X.K = K) : OpOk K xj ixF (rIx X.K) := by
  subst hK
  intro m H h x y vx vy Q rh rx ry p
  have gen : ∀ j, y = .int j → (Post X.K xj m H (match rd h x with
    | some xs => match atI xs j with
      | some v => .ok v h
      | none => .stuck
    | none => .stuck) fun z m' H' => ∀ v, Rep X.K m' H' v z → Q v H') → rIx X.K vx vy H Q := fun j ej p' => by
    clear p
    subst ej
    cases ry
    cases e : rd h x with
    | none => rw [e] at p'; exact p'.elim
    | some xs =>
      rw [e] at p'
      obtain ⟨a, vs, rfl, hs, rv⟩ := rd_ok rh rx e
      dsimp only at p'
      cases e2 : atI xs j with
      | none => rw [e2] at p'; exact p'.elim
      | some z =>
        rw [e2] at p'
        have p := p'
        obtain ⟨v, h1, h2⟩ := atI_rep rv e2
        rcases hs with hs | hs
        · exact .inl ⟨a, vs, j, v, rfl, rfl, hs, h1, p.now rh _ h2⟩
        · exact .inr (.inl ⟨a, vs, j, v, rfl, rfl, hs, h1, p.now rh _ h2⟩)
  cases y <;> try (cases x <;> exact p.elim)
  rename_i j
  cases x <;> try exact gen j rfl p
  rename_i z
  cases rx; cases ry
  obtain ⟨hl, p⟩ := Post.ite p
  cases e2 : atI z.cps.toList j with
  | none => rw [e2] at p; exact p.elim
  | some c =>
    rw [e2] at p
    exact .inr (.inr ⟨z, j, c, rfl, rfl, hl, e2, p.now rh _ .str⟩)
def plainIx : Expr → Bool
  | .Slice .. => false
  | _ => true
theorem plainIx_of {e : Expr} (h : plainIx e = true) : PlainIx e := by
  intro o i
  cases e <;> first | rfl | cases h
theorem se_ix (hK : X.K = K) (hb' : plainIx b = true) (ha : PE X a (tE K xi fa)) (hb : PE X b (tE K xi fb)) :
    PE X (.Subscript a b pos) (tE K xi fun ev h => (fa ev h).bind fun x h1 => (fb ev h1).bind fun y h2 => ixF x y h2) :=
  PEm (pe_ix ix_seq ha hb (plainIx_of hb')) fun st H Q t => tOp_of (fun _ => ok_ix hK) t

/-! ### slices -/
theorem cutP_eq {m : List Addr} {H : Hp} {vs : List V} {xs : List PV} (r : Reps K m H vs xs) (lo hi : Option Int) : Reps K m H (cutV vs lo hi) (cutP xs lo hi) := by
  unfold cutV cutP
  rw [r.length]
  exact (r.drop _).take _
def tO (K : PySem.W.Frag) (xi : XI) (f : Ev → IH → Res (Option Int)) : TO := fun st H Q => ∃ ev m h, REnv K m H st ev ∧ RelH K m H h ∧ Post K (xi st) m H (f ev h) fun o _ H' => Q o H'
theorem POm {e : Option Expr} {t t' : TO} (h : PO X e t) (k : ∀ st H Q, t' st H Q → t st H Q) : PO X e t' := ⟨fun pins s st H Q I q => h.run pins s st H Q I (k st H Q q)⟩
theorem so_none : PO X none (tO K xi fun _ h => .ok none h) := POm po_none fun st H Q ⟨ev, m, h, re, rh, p⟩ => p.now rh
theorem so_some (ha : PE X a (tE K xi fa)) : PO X (some a) (tO K xi fun ev h => (fa ev h).bind fun x h1 => match x with
    | .int i => .ok (some i) h1
    | _ => .stuck) := POm (po_some ha) fun st H Q ⟨ev, m, h, re, rh, p⟩ => by
  refine tE_bind re rh p fun v x m1 H1 h1 g1 re1 rh1 rx p1 => ?_
  cases x <;> try exact p1.elim
  cases rx
  exact ⟨_, rfl, p1.now rh1⟩
theorem se_slc {fl fu : Ev → IH → Res (Option Int)} {lo hi : Option Expr} {p2 : Pos} (hK : X.K = K) (ha : PE X a (tE K xi fa)) (hl : PO X lo (tO K xi fl)) (hu : PO X hi (tO K xi fu)) :
    PE X (.Subscript a (.Slice lo hi none p2) pos) (tE K xi fun ev h => (fa ev h).bind fun x h1 => (fl ev h1).bind fun l h2 => (fu ev h2).bind fun u h3 => slcF x l u h3) := by
  subst hK
  refine PEm (pe_slice (sl_list.or (sl_tupA.or C8.sl_txt)) ha hl hu) fun st H Q ⟨ev, m, h, re, rh, p⟩ => ?_
  refine tE_bind re rh p fun v x m1 H1 h1 g1 re1 rh1 rx p1 => ?_
  refine ⟨ev, m1, h1, re1, rh1, p1.bind fun l h2 m2 H2 g2 rh2 p2 => ?_⟩
  refine ⟨ev, m2, h2, re1.grow g2, rh2, p2.bind fun u h3 m3 H3 g3 rh3 p3 => ?_⟩
  have rx3 := (rx.grow g2).grow g3
  cases x <;> try exact p3.elim
  · cases rx
    obtain ⟨hz, p3⟩ := Post.ite p3
    exact .inr (.inr ⟨_, rfl, hz, p3.now rh3 _ .str⟩)
  · rename_i xs
    obtain ⟨q, vs, rfl, h1', r1⟩ := tup_at rx3
    refine .inr (.inl ⟨q, vs, rfl, h1', fun hw => ?_, fun _ => newT_at rh3 (cutP_eq r1 l u) p3⟩)
    have e : cutP xs l u = xs := by
      unfold cutP
      rw [← r1.length, hw.1, hw.2, List.drop_zero, r1.length]
      exact List.take_of_length_le (by omega)
    have p4 : Post X.K (xi st) m3 H3 (.ok (.tup (cutP xs l u)) h3) fun z m' H' => ∀ v, Rep X.K m' H' v z → Q v H' := p3
    rw [e] at p4
    exact p4.now rh3 _ rx3
  · cases rx3 with
    | fl hs r1 =>
      obtain ⟨_, k⟩ := new_at rh3 (cutP_eq r1 l u) p3
      exact .inl ⟨_, _, rfl, hs.sq, k⟩
  · rename_i a
    have p4 : Post X.K (xi st) m3 H3 (match h3[a]? with
    | some (.lst xs) => new h3 (cutP xs l u)
    | _ => .stuck) fun z m' H' => ∀ v, Rep X.K m' H' v z → Q v H' := p3
    cases ea : h3[a]? with
    | none => rw [ea] at p4; exact p4.elim
    | some oa =>
      rw [ea] at p4
      cases oa <;> try exact p4.elim
      rename_i xs
      obtain ⟨pa, vs, rfl, _, h1, r1⟩ := lst_at rh3 rx3 ea
      obtain ⟨_, k⟩ := new_at rh3 (cutP_eq r1 l u) p4
      exact .inl ⟨_, _, rfl, .inl (.inl h1), k⟩
end
end Vm

set_option Elab.async false
set_option linter.all false
set_option maxRecDepth 100000
set_option maxHeartbeats 4000000
/-! VnW: enumerate of a tuple. -/
namespace Vm
open PySem PySem.Spec PyProof.Rows L2
open AutoSeq1 (wpAny_loadPart')
theorem meets_enumT (t : Addr) (vs : Array Value) (n : Nat) (dd : Option Addr) (sl : Array (Option Value)) :
    Meets (Builtin.«enumerate.__new__» ⟨[.type "enumerate", .ref t], []⟩) (fun _ R s => s.heap.get? t = some { cls := .type "tuple", dict := dd, data := .seq vs n, slots := sl } ∧
      R (.ok (.ret (.ref (s.heap.push { cls := .type "tuple_iterator", data := .fields #[.ref t, .int 0 0] }).objs.size)))
        { s with heap := (s.heap.push { cls := .type "tuple_iterator", data := .fields #[.ref t, .int 0 0] }).push { cls := .type "enumerate", data := .fields #[.none, .bool false, .ref s.heap.objs.size, rawInt 0, .none, .none] } }) :=
  .of_wp fun prog w A R s z => by
    obtain ⟨hp, gs, dr, tk, os⟩ := s
    obtain ⟨gt, z⟩ := z
    have sub := sub_enumerate
    have tp : Heap.IsTuple (Shared.heap ⟨hp, gs, dr, tk, os⟩) t vs := ⟨_, gt, rfl, n, rfl⟩
    wp_walk using wpAny_loadPart' gt
    refine wpAny_stack_any fun sk => wpAny_pure ?_
    split
    · rename_i cc _ _ _ _ _
      cases (cc == Value.type "enumerate")
      · wp_walk using wpAny_loadPart' gt, wpAny_pyIter_tuple tp
        exact ⟨_, rfl, z⟩
      · wp_walk using wpAny_loadPart' gt, wpAny_pyIter_tuple tp
        exact ⟨_, rfl, z⟩
    · wp_walk using wpAny_loadPart' gt, wpAny_pyIter_tuple tp
      exact ⟨_, rfl, z⟩
section
variable {prog : Program} {w : World} {A : Around} {E : Value → Shared → Prop} {s : Shared}
theorem call_enumT {t : Addr} {vs : Array Value} {Q : Value → Shared → Prop} (tp : s.heap.IsTuple t vs)
    (go : ∀ hz, IsEnum hz (s.heap.objs.size + 1) s.heap.objs.size 0 .none → hz.IsTupleIter s.heap.objs.size t 0 → (∀ b o, s.heap.get? b = some o → hz.get? b = some o) → Q (.ref (s.heap.objs.size + 1)) { s with heap := hz }) :
    wpAny (model prog w) A (call (.type "enumerate") [.ref t]) Q E s := by
  obtain ⟨⟨cl, dd, dt, sl⟩, gt, ec, n, ed⟩ := tp
  have ec : cl = .type "tuple" := ec
  have ed : dt = .seq vs n := ed
  subst ec ed
  refine callType_new F.called_enumerate (by decide) (F.typeCall_enumerate_1 _) (F.newCall_enumerate_1 _) (fun me => F.args_object_init_2 me _) F.entry_enumerate_new (meets_enumT t vs n dd sl) ⟨gt, ?_⟩
  have sz : (s.heap.push { cls := .type "tuple_iterator", data := .fields #[.ref t, .int 0 0] }).objs.size = s.heap.objs.size + 1 := Heap.size_push ..
  show _ ∧ _
  rw [sz]
  have en : IsEnum ((s.heap.push { cls := .type "tuple_iterator", data := .fields #[.ref t, .int 0 0] }).push { cls := .type "enumerate", data := .fields #[.none, .bool false, .ref s.heap.objs.size, rawInt 0, .none, .none] }) (s.heap.objs.size + 1) s.heap.objs.size 0 .none := by
    have z := Heap.get?_push_size (s.heap.push { cls := .type "tuple_iterator", data := .fields #[.ref t, .int 0 0] }) (o := { cls := .type "enumerate", data := .fields #[.none, .bool false, .ref s.heap.objs.size, rawInt 0, .none, .none] }) rfl
    rw [sz] at z
    exact z
  exact ⟨⟨_, en, rfl⟩, go _ en ⟨_, Heap.get?_push_of_some _ (Heap.get?_push_size _ rfl), rfl, rfl⟩ fun b o z => Heap.get?_push_of_some _ (Heap.get?_push_of_some _ z)⟩
theorem enum_endT {e it t : Addr} {vs : Array Value} {k : Nat} {i : Int} {old : Value} {Q : Option Value → Shared → Prop} (hh : A.handled = none) (en : IsEnum s.heap e it i old) (ti : s.heap.IsTupleIter it t k) (tp : s.heap.IsTuple t vs) (over : vs[k]? = none)
    (go : ∀ hz, Heap.ExtBut it s.heap hz → Q none { s with heap := hz }) : wpAny (model prog w) A (pyNext (.ref e)) Q E s := by
  have ty : s.TypeIs (.ref e) "enumerate" := ⟨_, en, rfl⟩
  unfold pyNext
  refine wpAny_bind (wpAny_attempt (wpAny_callSpecial?_slot (name := Str.ofString "__next__") ty F.slot_enumerate_next (wpAny_call_entry F.slot_enumerate_next ty F.entry_enumerate_next ?_ (F.args_enumerate_next_1 _))))
  show wpAny _ _ (field (.ref e) 2 >>= _) _ _ _
  refine wpAny_bind (wpAny_field en rfl (x := .ref it) rfl (wpAny_bind (wpAny_nextOf_tuple_end hh ti tp over fun hz ex eb st => ?_)))
  obtain ⟨o, go', co⟩ := st
  exact wpAny_bind (wpAny_isInstance (T := "StopIteration") (b := true) ⟨o, go', co⟩ isSubtype_stop (wpAny_pure (go _ eb)))
end
/-- the tuple at a, each thing in a new pair -/
def IteT (K : PySem.W.Frag) (a : Addr) : L2.It :=
  ⟨fun i H => ∃ (xs : List V) (x : V), SqT K H a xs ∧ xs[i]? = some x, fun i H v H' => ∃ T x, v = .ref T ∧ H T = none ∧ H' = upd H T (.tup [.int (i : Nat), x]) ∧ ∀ xs, SqT K H a xs → xs[i]? = some x, fun i H => ∃ xs : List V, SqT K H a xs ∧ xs.length ≤ i⟩
theorem turn_enumT {P : Program} {w : World} {K : PySem.W.Frag} {elts : List Expr} {kk : Nat} {tpos : Pos} (a e it : Addr) :
    Turn P w K (.Tuple elts kk tpos) (IteT K a) [e, it] e (fun i h => (∃ old, IsEnum h e it ((i : Nat) : Int) old) ∧ h.IsTupleIter it a i ∧ e ≠ it ∧ e ≠ a ∧ a ≠ it) where
  mem := by simp
  obj := fun i h st b hb => by
    obtain ⟨⟨old, en⟩, ⟨o, go, _, dd⟩, _⟩ := st
    have hb' : b = e ∨ b = it := by simpa using hb
    rcases hb' with rfl | rfl
    · exact ⟨_, en, fun v q => nomatch q⟩
    · exact ⟨o, go, fun v q => by rw [dd] at q; cases q⟩
  keep := fun i h h' st k => by
    obtain ⟨⟨old, en⟩, ti, rest⟩ := st
    exact ⟨⟨old, k e (by simp) _ en⟩, ti.at fun o q => k it (by simp) o q, rest⟩
  item := by
    intro X e1 e2 e3 cm i pins s σ H E I hf st go
    subst e1 e2 e3
    obtain ⟨⟨old, en⟩, ti, n1, n2, n3⟩ := st
    obtain ⟨xs, x, hq, hx⟩ := go
    obtain ⟨its, rv, tp, _⟩ := I.tuple hq
    obtain ⟨u, hu, ru⟩ := rv.get hx
    have le : e < s.heap.objs.size := Heap.lt_size en
    have li : it < s.heap.objs.size := by
      obtain ⟨_, q, _⟩ := ti
      exact Heap.lt_size q
    have tp : s.heap.IsTuple a its.toArray := tp
    have lt : i < its.toArray.size := by
      have := (List.getElem?_eq_some_iff.mp hu).1
      simpa using this
    refine wpAny_pyNext_enum_itemD (Draws.tuple (A := X.A.in1) (I.ok.hd cm) it a n3 its.toArray) en ⟨ti, tp⟩ lt n1 (by simp [n1, n2]) fun x' h' tk px ho st' hT hsz hk => ?_
    have : x' = u := by
      have px : its.toArray[i]? = some x' := px
      rw [List.getElem?_toArray, hu] at px
      exact (Option.some.inj px).symm
    subst this
    refine ⟨_, rfl, wpAny_letOwnedTupleGo_enum (s := { s with heap := h', toks := tk + 1 }) ho fun h'' en' sb => ?_⟩
    have gT : h''.get? s.heap.objs.size = some { cls := .type "tuple", data := .seq #[.int i tk, x'] } := (sb.2 _ (Nat.ne_of_gt le)).trans hT
    have new : ObjOk X.prog X.w (upd H s.heap.objs.size (.tup [.int (i : Nat), x])) h'' s.heap.objs.size (.tup [.int (i : Nat), x]) := ⟨by show 2 ≤ sizeLine; decide, [.int i tk, x'], .cons ⟨_, rfl⟩ (.cons ru .nil), ⟨_, gT, rfl, _, rfl⟩⟩
    have I1 : Inv X pins σ (upd H s.heap.objs.size (.tup [.int (i : Nat), x])) { s with heap := h'', toks := tk + 1 } :=
      I.turnedNew (ch := [e, it]) (fun b o nb q => (sb.2 b (fun z => nb (by simp [z]))).trans (hk b o (fun z => nb (by simp [z])) (fun z => nb (by simp [z])) q)) hf (Nat.le_refl _) new
    refine ⟨.ref s.heap.objs.size, _, I1, rfl, ⟨_, x, rfl, I.hok.fresh (Nat.le_refl _), rfl, fun ys hy => by rw [I.tuple_inj hy hq]; exact hx⟩, ⟨⟨x', ?_⟩, st'.1.at fun o q => (sb.2 it (Ne.symm n1)).trans q, n1, n2, n3⟩, fun b hb => ?_⟩
    · rw [show ((i + 1 : Nat) : Int) = (i : Int) + 1 by omega]
      exact en'
    · have lb : b < s.heap.objs.size := by
        have hb' : b = e ∨ b = it := by simpa using hb
        rcases hb' with rfl | rfl
        · exact le
        · exact li
      rw [upd_ne (Nat.ne_of_lt lb)]
      exact (hf b hb).1
  done := by
    intro X e1 e2 e3 cm i pins s σ H E I hf st stop
    subst e1 e2 e3
    obtain ⟨⟨old, en⟩, ti, n1, n2, n3⟩ := st
    obtain ⟨xs, hq, hx⟩ := stop
    obtain ⟨its, rv, tp, _⟩ := I.tuple hq
    obtain ⟨f0, f1, f2, f3, f4, f5⟩ := hf it (by simp)
    have len := rv.length
    exact enum_endT (I.ok.hd cm) en ti (show s.heap.IsTuple a its.toArray from tp) (by simp; omega) fun h' eb => ⟨rfl, I.turned (t' := s.toks) (fun b o nb q => eb b o nb q) f0 f1 f3 f4 f5⟩
  self := fun A i s Q E st z => by
    obtain ⟨⟨_, en⟩, _⟩ := st
    exact wpAny_pyIter_enum en z
def iEnumT (K : PySem.W.Frag) (ta : TA) : TI := fun σ H R => ta σ H fun vs H1 => ∃ a xs, vs = [.ref a] ∧ SqT K H1 a xs ∧ R (IteT K a) H1
theorem pi_enumT {X : Cx} {e : Expr} {ta : TA} {p pos tpos : Pos} {elts : List Expr} {kk : Nat} (hg : Gl X "enumerate") (hm : X.mg "enumerate" = none) (ha : PA X [e] ta) (st : starEach [e] X.env = [(false, eval e X.env)]) : PI X (.Tuple elts kk tpos) (.Call (.Name "enumerate" p) [e] [] pos) (iEnumT X.K ta) := by
  refine ⟨fun pins s σ H R I z => ?_⟩
  refine Call_ (ld_blt I hg hm boot_enumerate (PyProof.Rows.callWith_type1 (thn (ha.run pos pins s σ H _ I z) fun us s1 ⟨vs, H1, I1, r1, q1⟩ => ?_) st rfl))
  obtain ⟨a, xs, rfl, hq, q⟩ := q1
  obtain ⟨u, rfl, ru⟩ := vals1 r1
  cases ru
  obtain ⟨its, rv, tp, _⟩ := I1.tuple hq
  have tp : s1.heap.IsTuple a its.toArray := tp
  have la : a < s1.heap.objs.size := by
    obtain ⟨o, go, _⟩ := id tp
    exact Heap.lt_size go
  refine call_enumT tp fun h' en ti k => wpAny_pyIter_enum en ?_
  refine ⟨s1.heap.objs.size + 1, [s1.heap.objs.size + 1, s1.heap.objs.size], _, _, H1, rfl, I1.kept (t' := s1.toks) k, turn_enumT a (s1.heap.objs.size + 1) s1.heap.objs.size, ⟨⟨.none, en⟩, ti, Nat.succ_ne_self _, Nat.ne_of_gt (Nat.lt_succ_of_lt la), Nat.ne_of_lt la⟩, fun b hb => ?_, q⟩
  have hle : s1.heap.objs.size ≤ b := by
    have hb' : b = s1.heap.objs.size + 1 ∨ b = s1.heap.objs.size := by simpa using hb
    rcases hb' with rfl | rfl
    · exact Nat.le_add_right _ _
    · exact Nat.le_refl _
  exact I1.fpOk hle (I1.hok.fresh hle)
end Vm

set_option Elab.async false
set_option linter.all false
set_option maxRecDepth 100000
set_option maxHeartbeats 8000000
/-! VnL: a set of ints sorted, of any length. -/
namespace Vm
open PySem PySem.Spec PyProof.Rows L2
section
variable {P : Program} {w : World} {A : Around} {E : Value → Shared → Prop} {s : Shared} {a : Addr}
theorem sorted_setN {M : Int → Bool} {c : Nat} {Q : Value → Shared → Prop} (R : SetR w s.heap a M c) (hh : A.handled = none) (hz : c ≤ sizeLine)
    (hQ : ∀ s1 p (ot : Array Value) (e : Nat) (ks : List Int), (∀ b u, s.heap.get? b = some u → s1.heap.get? b = some u) → s1.gens = s.gens → s1.os = s.os → s.heap.objs.size ≤ p →
      s1.heap.get? p = some (seqObj "list" ot e) → IntsAre ot.toList ks → ks.Pairwise (· < ·) → (∀ z, z ∈ ks ↔ M z = true) → ks.length = c → Q (.ref p) s1) :
    wpAny (model P w) A (call (.builtin "sorted") [.ref a]) Q E s := by
  obtain ⟨ob, tb, ep, t, e1, e2, e3, gd, nd, mm, sm, ft, ec, ri, ld⟩ := R
  refine Calls.call_function_entry kind_sorted plain_sorted entry_sorted (args_sorted1 _) ?_
  unfold Builtin.«sorted»
  refine wpAny_bind (m := checkCount "sorted" 1 1 _) (wpAny_pure ?_)
  refine wpAny_bind (collect_set (A := A.in1) hh ⟨ob, e1, e2.1, e3⟩ ft sm ri ld fun s1 us k1 z1 g1 o1 pm => ?_)
  have ul : us.length = c := by rw [pm.length_eq, List.length_map, Array.length_toList]; exact ec
  have uI : IntsAre us (us.map Builtin.Re.reRawOf) := ints_of us fun v hv => by
    obtain ⟨x, hx, q⟩ := List.mem_map.mp (pm.mem_iff.mp hv)
    obtain ⟨k, tk, y1, _⟩ := gd x hx
    exact ⟨k, tk, by rw [← q]; exact y1⟩
  have pp : (us.map Builtin.Re.reRawOf).Perm (tb.toList.map keyOf) := by
    have q := pm.map Builtin.Re.reRawOf
    rw [List.map_map] at q
    exact q
  have uz : us.length ≤ sizeLine := by rw [ul]; exact hz
  refine wpAny_bind (wpAny_newList ?_ uz)
  have oL : (s1.heap.push (seqObj "list" us.toArray 0)).get? s1.heap.objs.size = some (seqObj "list" us.toArray 0) := Heap.get?_push_size _ rfl
  refine wpAny_bind (wpAny_holding (wpAny_call_entry slot_list_sort ⟨_, oL, rfl⟩ entry_list_sort (list_sort_treeAny oL uI uz fun ot ks b1 b2 b3 => ⟨_, rfl, ?_⟩) (args_list_sort _)))
  obtain ⟨e, he⟩ := sortedHeap_at (vs := us) (out := ot) oL
  have pn : ks.Perm (tb.toList.map keyOf) := b2.trans pp
  refine wpAny_pure ⟨_, rfl, hQ _ s1.heap.objs.size ot e ks (fun b u q => ?_) g1 o1 z1 he b1 (lt_of_le_nodup ks b3 (pn.nodup_iff.mpr nd)) (fun z => by rw [pn.mem_iff, ← mm z]) ?_⟩
  · have q1 := k1 b u q
    have lt := Heap.lt_size q1
    show (sortedHeap (s1.heap.push (seqObj "list" us.toArray 0)) s1.heap.objs.size us ot).get? b = some u
    rw [sortedHeap_old (Nat.ne_of_lt lt) (by rw [size_push']; exact Nat.lt_succ_of_lt lt)]
    exact Heap.get?_push_of_some _ q1
  · rw [pn.length_eq, List.length_map, Array.length_toList]
    exact ec
end
section
variable {X : Cx}
def rSortedN (w : World) : List V → Hp → VK → Prop := fun vs H Q => ∃ (l : Addr) (M : Int → Bool) (c : Nat), vs = [V.ref l] ∧ H l = some (SetO w l M c) ∧ c ≤ 1000 ∧
  ∀ (ks : List Int) (q : Addr), ks.Pairwise (· < ·) → (∀ z : Int, z ∈ ks ↔ M z = true) → ks.length = c → H q = none → Q (.ref q) (upd H q (.lst (ks.map V.int)))
theorem cr_sortedN (hc : X.calm = true) : CallR X (.builtin "sorted") (rSortedN X.w) := by
  intro pins s st H vs us Q I r h
  obtain ⟨l, M, c, rfl, ha, hz, q⟩ := h
  have R := setO_get I ha
  rw [Vals.ref1 r]
  refine sorted_setN R (I.ok.hd hc) (by rw [sizeLine_eq]; omega) fun s1 q1 ot e ks k g o hp hg hi hs hm hl => ?_
  have kz : (ks.map V.int).length ≤ sizeLine := by rw [List.length_map, hl, sizeLine_eq]; omega
  have hf : H q1 = none := I.hok.fresh hp
  have J : Inv X pins st (upd H q1 (.lst (ks.map V.int))) { s with heap := s1.heap, gens := s1.gens, drawn := s1.drawn, toks := s1.toks } :=
    I.call (ch := []) (Un.laid k hp hf) (I.hok.laid k hp ⟨kz, ot.toList, e, vals_of_ints hi, hg⟩) (by rw [g]; exact I.bare) (fun _ z => nomatch z)
  have es : s1 = { s with heap := s1.heap, gens := s1.gens, drawn := s1.drawn, toks := s1.toks } := by
    cases s1
    cases s
    cases o
    rfl
  rw [es]
  exact ⟨.ref q1, _, J, rfl, q ks q1 hs hm hl hf⟩
end
end Vm

set_option Elab.async false
set_option linter.all false
set_option maxRecDepth 100000
set_option maxHeartbeats 4000000
/-! VmE: targets, walks, comprehensions. -/
namespace Vm
open PySem PySem.Spec PyProof.Rows L2
variable [Tbs]

/-! ### targets -/
/-- but for the slots at is the same -/
def Off (is : List Nat) (st st' : L2.St) : Prop := st'.length = st.length ∧ ∀ j : Nat, j ∉ is → st'[j]? = st[j]?
theorem Off.refl (is : List Nat) (st : L2.St) : Off is st st := ⟨rfl, fun _ _ => rfl⟩
theorem Off.set {is : List Nat} {st : L2.St} {i : Nat} {v : Option V} (h : i ∈ is) : Off is st (st.set i v) :=
  ⟨by simp, fun j hj => List.getElem?_set_ne fun e => hj (by rw [← e]; exact h)⟩
theorem Off.trans {is : List Nat} {a b c : L2.St} (h : Off is a b) (k : Off is b c) : Off is a c := ⟨k.1.trans h.1, fun j hj => (k.2 j hj).trans (h.2 j hj)⟩
theorem Off.mono {is js : List Nat} {a b : L2.St} (h : Off is a b) (k : ∀ i ∈ is, i ∈ js) : Off js a b := ⟨h.1, fun j hj => h.2 j fun z => hj (k j z)⟩
theorem wipe_get (st : L2.St) : ∀ (vs : List Nat) (j : Nat), (wipe st vs)[j]? = if j ∈ vs then st[j]?.map (fun _ => none) else st[j]?
  | [], j => by simp [wipe]
  | v :: vs, j => by
    have ih := wipe_get st vs j
    unfold wipe
    by_cases hj : v = j
    · subst hj
      have hl := wipe_length st vs
      by_cases hv : v < st.length
      · rw [List.getElem?_set_self (by rw [hl]; exact hv), if_pos List.mem_cons_self, List.getElem?_eq_getElem hv]
        rfl
      · rw [List.getElem?_eq_none (by simp; omega), if_pos List.mem_cons_self, List.getElem?_eq_none (by omega)]
        rfl
    · rw [List.getElem?_set_ne hj, ih]
      by_cases hm : j ∈ vs
      · rw [if_pos hm, if_pos (List.mem_cons_of_mem _ hm)]
      · rw [if_neg hm, if_neg (fun z => by
          rcases List.mem_cons.mp z with z | z
          · exact hj z.symm
          · exact hm z)]
theorem wipe_off {is : List Nat} {a b : L2.St} (h : Off is a b) : wipe b is = wipe a is := by
  apply List.ext_getElem?
  intro j
  rw [wipe_get, wipe_get]
  by_cases hj : j ∈ is
  · rw [if_pos hj, if_pos hj]
    by_cases hl : j < a.length
    · rw [List.getElem?_eq_getElem hl, List.getElem?_eq_getElem (by rw [h.1]; exact hl)]
      rfl
    · have h1 := h.1
      rw [List.getElem?_eq_none (show a.length ≤ j by omega), List.getElem?_eq_none (show b.length ≤ j by omega)]
  · rw [if_neg hj, if_neg hj, h.2 j hj]
theorem wipe_Off (is : List Nat) (a : L2.St) : Off is a (wipe a is) := ⟨wipe_length a is, fun j hj => by rw [wipe_get, if_neg hj]⟩
theorem REnv.wipe {K : PySem.W.Frag} {m : List Addr} {H : Hp} {st : L2.St} {ev : Ev} (r : REnv K m H st ev) : ∀ (is : List Nat), REnv K m H (wipe st is) (wipeE ev is)
  | [] => r
  | v :: vs => by
    have q := REnv.wipe r vs
    refine ⟨by unfold L2.wipe wipeE; rw [List.length_set, List.length_set]; exact q.len, fun i x e => ?_⟩
    unfold wipeE at e
    by_cases hv : v = i
    · subst hv
      by_cases hl : v < (wipeE ev vs).length
      · rw [List.getElem?_set_self hl] at e; cases e
      · rw [List.getElem?_eq_none (by simpa using hl)] at e; cases e
    · rw [List.getElem?_set_ne hv] at e
      obtain ⟨u, h1, h2⟩ := q.at' i x e
      exact ⟨u, by unfold L2.wipe; rw [List.getElem?_set_ne hv]; exact h1, h2⟩

def tG (K : PySem.W.Frag) (t : Tg) : TG := fun v st H Q => ∃ ev m h x ev', REnv K m H st ev ∧ RelH K m H h ∧ Rep K m H v x ∧ bindT t x h ev = some ev' ∧ ∀ st', REnv K m H st' ev' → Off t.slots st st' → Q st' H
def tGs (K : PySem.W.Frag) (is : List Nat) : TGs := fun vs st H Q => ∃ ev m xs ev', REnv K m H st ev ∧ Reps K m H vs xs ∧ setAll is xs ev = some ev' ∧ ∀ st', REnv K m H st' ev' → Off is st st' → Q st' H
theorem PGm {X : Cx} {e : Expr} {t t' : TG} (h : PG X e t) (k : ∀ v st H Q, t' v st H Q → t v st H Q) : PG X e t' := ⟨fun pins s st H v u Q I r q => h.run pins s st H v u Q I r (k v st H Q q)⟩
theorem PGsm {X : Cx} {e : List Expr} {t t' : TGs} (h : PGs X e t) (k : ∀ v st H Q, t' v st H Q → t v st H Q) : PGs X e t' := ⟨fun pins s st H v u Q I r q => h.run pins s st H v u Q I r (k v st H Q q)⟩
theorem PGor {X : Cx} {e : Expr} {t t' : TG} (h : PG X e t) (h' : PG X e t') : PG X e (fun v st H Q => t v st H Q ∨ t' v st H Q) :=
  ⟨fun pins s st H v u Q I r q => q.elim (fun q => h.run pins s st H v u Q I r q) fun q => h'.run pins s st H v u Q I r q⟩
section
variable {X : Cx} {K : PySem.W.Frag} {pos : Pos}
theorem sg_one {i : Nat} {x : Str} (hN : X.N.Nodup) (hi : X.N[i]? = some x) (hx : Loc X.env.scope x) (hf : X.fn x = true ∨ X.env.scope.names.lookup x = some .local) : PG X (.Name x pos) (tG K (.one i)) :=
  PGm (pg_name hN hi hx hf) fun v st H Q ⟨ev, m, h, y, ev', re, rh, rx, e, k⟩ => by
    cases e
    exact k _ (re.set i rx) (Off.set (by simp [Tg.slots]))
theorem sgs_nil : PGs X [] (tGs K []) := PGsm pgs_nil fun vs st H Q ⟨ev, m, xs, ev', re, rx, e, k⟩ => by
  cases rx with
  | nil => cases e; exact ⟨rfl, k _ re (Off.refl _ _)⟩
  | cons _ _ => cases e
theorem sgs_cons {i : Nat} {is : List Nat} {x : Str} {es : List Expr} (hN : X.N.Nodup) (hi : X.N[i]? = some x) (hx : Loc X.env.scope x) (hf : X.fn x = true ∨ X.env.scope.names.lookup x = some .local) (h : PGs X es (tGs K is)) :
    PGs X (.Name x pos :: es) (tGs K (i :: is)) := by
  refine PGsm (pgs_cons (pg_name hN hi hx hf) h (by rfl)) fun vs st H Q ⟨ev, m, xs, ev', re, rx, e, k⟩ => ?_
  cases rx with
  | nil => cases e
  | cons r t =>
    refine ⟨_, _, rfl, ev.set i (some _), m, _, ev', re.set i r, t, e, fun st' re' o => k st' re' ?_⟩
    exact (Off.set List.mem_cons_self).trans (o.mono fun _ z => List.mem_cons_of_mem _ z)
theorem setAll_len : ∀ {is : List Nat} {xs : List PV} {ev ev' : Ev}, setAll is xs ev = some ev' → xs.length = is.length
  | [], [], _, _, _ => rfl
  | [], _ :: _, _, _, h => by cases h
  | _ :: _, [], _, _, h => by cases h
  | i :: is, x :: xs, ev, ev', h => by
    rw [List.length_cons, List.length_cons, setAll_len (is := is) (xs := xs) (ev := ev.set i (some x)) h]
def namesOnly : List Expr → Bool
  | [] => true
  | .Name _ _ :: es => namesOnly es
  | _ => false
theorem each_name {x : Str} {p : Pos} {es : List Expr} {env : Env} : ∃ f, assignEach (.Name x p :: es) env = (false, f) :: assignEach es env := ⟨_, rfl⟩
theorem names_each {env : Env} : ∀ {es : List Expr}, namesOnly es = true → (assignEach es env).length = es.length ∧ (assignEach es env).findIdx? (·.1) = none := by
  intro es
  induction es with
  | nil => intro _; exact ⟨rfl, rfl⟩
  | cons e es ih =>
    intro h
    cases e <;> try (cases h)
    obtain ⟨h1, h2⟩ := ih h
    obtain ⟨f, ef⟩ := each_name (x := _) (p := _) (es := es) (env := env)
    rw [ef]
    refine ⟨by rw [List.length_cons, List.length_cons, h1], ?_⟩
    rw [List.findIdx?_cons, h2]
    rfl
theorem sg_many {is : List Nat} {es : List Expr} {k : Nat} (hc : X.calm = true) (hK : X.K = K) (hn : namesOnly es = true) (hl : es.length = is.length) (h : PGs X es (tGs K is)) : PG X (.Tuple es k pos) (tG K (.many is)) := by
  subst hK
  obtain ⟨n1, n2⟩ := names_each (env := X.env) hn
  refine PGm (PGor (pg_lst hc h (by rw [n1, hl]) n2) (pg_tup hc h (by rw [n1, hl]) n2)) fun v st H Q ⟨ev, m, h, y, ev', re, rh, rx, e, k⟩ => ?_
  unfold bindT at e
  dsimp only at e
  cases e2 : rd h y with
  | none => rw [e2] at e; cases e
  | some xs =>
    rw [e2] at e
    obtain ⟨a, vs, rfl, hs, rv⟩ := rd_ok rh rx e2
    have hlen : vs.length = is.length := rv.length.trans (setAll_len e)
    rcases hs with hs | hs
    · exact .inl ⟨a, vs, rfl, hs, hlen, ev, m, xs, ev', re, rv, e, k⟩
    · exact .inr ⟨a, vs, rfl, hs, hlen, ev, m, xs, ev', re, rv, e, k⟩
end

/-! ### walks -/
/-- the machine's walk J is the walk of src -/
def ItOk (K : PySem.W.Frag) (m0 : List Addr) (H0 : Hp) (J : L2.It) (src : Src) : Prop :=
  ∀ (m : List Addr) (H : Hp) (h : IH) (k : Nat), Grow m0 H0 m H → RelH K m H h →
    (src.get h k = some none → J.stop k H) ∧ ∀ x, src.get h k = some (some x) → J.go k H ∧ ∀ v H', J.yld k H v H' → Grow m H m H' ∧ RelH K m H' h ∧ Rep K m H' v x
def tI (K : PySem.W.Frag) (xi : XI) (f : Ev → IH → Res Src) : TI := fun st H R => ∃ ev m h, REnv K m H st ev ∧ RelH K m H h ∧ Post K (xi st) m H (f ev h) fun src m' H' => ∀ J, ItOk K m' H' J src → R J H'
theorem PIm {X : Cx} {tg e : Expr} {t t' : TI} (h : PI X tg e t) (k : ∀ st H R, t' st H R → t st H R) : PI X tg e t' := ⟨fun pins s st H R I q => h.run pins s st H R I (k st H R q)⟩
theorem PIor {X : Cx} {tg e : Expr} {t t' : TI} (h : PI X tg e t) (h' : PI X tg e t') : PI X tg e (fun st H R => t st H R ∨ t' st H R) :=
  ⟨fun pins s st H R I q => q.elim (fun q => h.run pins s st H R I q) fun q => h'.run pins s st H R I q⟩
section
variable {X : Cx} {K : PySem.W.Frag} {xj : XJ} {xi : XI} {tg a b : Expr} {pos p : Pos} {fa fb : Ev → IH → Res PV}
theorem it_rng {m0 : List Addr} {H0 : Hp} {lo : Int} {n : Nat} : ItOk K m0 H0 (Itr lo n) (.items (rngs lo n)) := by
  intro m H h k g rh
  refine ⟨fun e => ?_, fun x e => ?_⟩
  · have e' : (rngs lo n)[k]? = none := Option.some.inj e
    rw [List.getElem?_eq_none_iff] at e'
    simp [rngs] at e'
    exact e'
  · have e' : (rngs lo n)[k]? = some x := Option.some.inj e
    obtain ⟨hk, hx⟩ := List.getElem?_eq_some_iff.mp e'
    simp [rngs] at hk hx
    subst hx
    refine ⟨hk, fun v H' y => ?_⟩
    obtain ⟨rfl, rfl⟩ := y
    exact ⟨Grow.refl _ _, rh, .int⟩
theorem si_rng (hg : Gl X "range") (hm : X.mg "range" = none) (hn : notStar a = true) (ha : PE X a (tE K xi fa)) : PI X tg (.Call (.Name "range" p) [a] [] pos) (tI K xi fun ev h => (fa ev h).bind fun x h1 => match x with
    | .int j => if -(2 ^ 62) ≤ j ∧ j < 2 ^ 62 then .ok (.items (rngs 0 j.toNat)) h1 else .stuck
    | _ => .stuck) := by
  refine PIm (pi_range1 hg hm (pa_cons ha pa_nil (star_cons hn)) (star_cons hn)) fun st H R ⟨ev, m, h, re, rh, q⟩ => ?_
  refine tE_bind re rh q fun v x m1 H1 h1 g1 re1 rh1 rx p1 => ?_
  cases x <;> try exact p1.elim
  rename_i j
  cases rx
  obtain ⟨hb, p1⟩ := Post.ite p1
  exact ⟨j, rfl, hb.1, hb.2, p1.now rh1 _ it_rng⟩
theorem si_rng2 (hg : Gl X "range") (hm : X.mg "range" = none) (hn : notStar a = true) (hn2 : notStar b = true) (ha : PE X a (tE K xi fa)) (hb : PE X b (tE K xi fb)) : PI X tg (.Call (.Name "range" p) [a, b] [] pos)
    (tI K xi fun ev h => (fa ev h).bind fun x h1 => (fb ev h1).bind fun y h2 => match x, y with
    | .int i, .int j => if -(2 ^ 62) ≤ i ∧ i < 2 ^ 62 ∧ -(2 ^ 62) ≤ j ∧ j < 2 ^ 62 then .ok (.items (rngs i (j - i).toNat)) h2 else .stuck
    | _, _ => .stuck) := by
  refine PIm (pi_range2 hg hm (pa_cons ha (pa_cons hb pa_nil (star_cons hn2)) (star_cons hn)) (by rw [star_cons hn, star_cons hn2]; rfl) (star_cons hn2)) fun st H R ⟨ev, m, h, re, rh, q⟩ => ?_
  refine tE_bind re rh q fun v x m1 H1 h1 g1 re1 rh1 rx p1 => ?_
  refine tE_bind re1 rh1 p1 fun w y m2 H2 h2 g2 re2 rh2 ry p2 => ?_
  cases x <;> cases y <;> try exact p2.elim
  rename_i i j
  cases rx
  cases ry
  obtain ⟨hb, p2⟩ := Post.ite p2
  exact ⟨i, j, rfl, hb, p2.now rh2 _ it_rng⟩
theorem it_list {m0 : List Addr} {H0 : Hp} {q : Addr} {vs : List V} {xs : List PV} (hs : SqF K H0 q vs) (r : Reps K m0 H0 vs xs) : ItOk K m0 H0 (Itl K q) (.items xs) := by
  intro m H h k g rh
  have hs' := (hs.keep g.kp).sq
  have r' := r.grow g
  refine ⟨fun e => ?_, fun x e => ?_⟩
  · have e' : xs[k]? = none := Option.some.inj e
    exact ⟨vs, hs', by rw [r.length]; exact List.getElem?_eq_none_iff.mp e'⟩
  · have e' : xs[k]? = some x := Option.some.inj e
    obtain ⟨v, h1, h2⟩ := r'.get e'
    refine ⟨⟨vs, v, hs', h1⟩, fun u H' y => ?_⟩
    obtain ⟨rfl, y⟩ := y
    have := y vs hs'
    rw [h1] at this
    cases this
    exact ⟨Grow.refl _ _, rh, h2⟩
theorem it_tup {m0 : List Addr} {H0 : Hp} {q : Addr} {vs : List V} {xs : List PV} (hs : SqT K H0 q vs) (r : Reps K m0 H0 vs xs) : ItOk K m0 H0 (Itt K q) (.items xs) := by
  intro m H h k g rh
  have hs' := Vm.SqT.keep g.kp hs
  have r' := r.grow g
  refine ⟨fun e => ?_, fun x e => ?_⟩
  · have e' : xs[k]? = none := Option.some.inj e
    exact ⟨vs, hs', by rw [r.length]; exact List.getElem?_eq_none_iff.mp e'⟩
  · have e' : xs[k]? = some x := Option.some.inj e
    obtain ⟨v, h1, h2⟩ := r'.get e'
    refine ⟨⟨vs, v, hs', h1⟩, fun u H' y => ?_⟩
    obtain ⟨rfl, y⟩ := y
    have := y vs hs'
    rw [h1] at this
    cases this
    exact ⟨Grow.refl _ _, rh, h2⟩
theorem it_heap {m0 : List Addr} {H0 : Hp} {q : Addr} {i : Nat} (hq : m0[i]? = some q) : ItOk K m0 H0 (Itl K q) (.heap i) := by
  intro m H h k g rh
  have hq' := g.at hq
  have key : ∀ o, Src.get (.heap i) h k = some o → ∃ xs vs, h[i]? = some (.lst xs) ∧ xs[k]? = o ∧ H q = some (.lst vs) ∧ Reps K m H vs xs := fun o e => by
    cases hy : h[i]? with
    | none => simp [Src.get, hy] at e
    | some u =>
      cases u with
      | lst xs =>
        simp [Src.get, hy] at e
        obtain ⟨vs, h1, h2⟩ := rh.at' i _ _ hy hq'
        exact ⟨xs, vs, rfl, e, h1, h2⟩
      | dct _ => simp [Src.get, hy] at e
  refine ⟨fun e => ?_, fun x e => ?_⟩
  · obtain ⟨xs, vs, h0, e', h1, r⟩ := key _ e
    exact ⟨vs, .inl (.inl h1), by rw [r.length]; exact List.getElem?_eq_none_iff.mp e'⟩
  · obtain ⟨xs, vs, h0, e', h1, r⟩ := key _ e
    obtain ⟨v, h2, h3⟩ := r.get e'
    refine ⟨⟨vs, v, .inl (.inl h1), h2⟩, fun u H' y => ?_⟩
    obtain ⟨rfl, y⟩ := y
    have := y vs (.inl (.inl h1))
    rw [h2] at this
    cases this
    exact ⟨Grow.refl _ _, rh, h3⟩
theorem key_heap {K : PySem.W.Frag} {m0 m : List Addr} {H0 H : Hp} {h : IH} {q : Addr} {i : Nat} (hq : m0[i]? = some q) (g : Grow m0 H0 m H) (rh : RelH K m H h) {xs : List PV} (e : h[i]? = some (.lst xs)) : ∃ vs, H q = some (.lst vs) ∧ Reps K m H vs xs := rh.at' i _ _ e (g.at hq)
theorem it_enum {m0 : List Addr} {H0 : Hp} {q : Addr} {i : Nat} (hq : m0[i]? = some q) : ItOk K m0 H0 (Ite K q) (.enum i) := by
  intro m H h k g rh
  have key : ∀ o, Src.get (.enum i) h k = some o → ∃ xs vs, h[i]? = some (.lst xs) ∧ (xs[k]?.map fun x => PV.tup [.int k, x]) = o ∧ H q = some (.lst vs) ∧ Reps K m H vs xs := fun o e => by
    cases hy : h[i]? with
    | none => simp [Src.get, hy] at e
    | some u =>
      cases u with
      | lst xs =>
        simp [Src.get, hy] at e
        obtain ⟨vs, h1, h2⟩ := key_heap hq g rh hy
        exact ⟨xs, vs, rfl, e, h1, h2⟩
      | dct _ => simp [Src.get, hy] at e
  refine ⟨fun e => ?_, fun x e => ?_⟩
  · obtain ⟨xs, vs, h0, e', h1, r⟩ := key _ e
    have e' : xs[k]? = none := by simpa using e'
    exact ⟨vs, .inl (.inl h1), by rw [r.length]; exact List.getElem?_eq_none_iff.mp e'⟩
  · obtain ⟨xs, vs, h0, e', h1, r⟩ := key _ e
    cases ex : xs[k]? with
    | none => rw [ex] at e'; cases e'
    | some y =>
      rw [ex] at e'
      cases e'
      obtain ⟨v, h2, h3⟩ := r.get ex
      refine ⟨⟨vs, v, .inl (.inl h1), h2⟩, fun u H' yl => ?_⟩
      obtain ⟨T, w, rfl, nT, rfl, yl⟩ := yl
      have := yl vs (.inl (.inl h1))
      rw [h2] at this
      cases this
      exact ⟨Grow.junk nT, rh.junk nT, .tup (.inl (.inl upd_same)) (.cons .int (.cons (h3.grow (Grow.junk nT)) .nil))⟩
theorem it_zip {m0 : List Addr} {H0 : Hp} {q q2 : Addr} {i j : Nat} (hq : m0[i]? = some q) (hq2 : m0[j]? = some q2) : ItOk K m0 H0 (Itz K q q2) (.zip i j) := by
  intro m H h k g rh
  have key : ∀ o, Src.get (.zip i j) h k = some o → ∃ xs ys vs ws, (match xs[k]?, ys[k]? with
      | some x, some y => some (PV.tup [x, y])
      | _, _ => none) = o ∧ H q = some (.lst vs) ∧ Reps K m H vs xs ∧ H q2 = some (.lst ws) ∧ Reps K m H ws ys := fun o e => by
    cases hy : h[i]? with
    | none => simp [Src.get, hy] at e
    | some u =>
      cases u with
      | dct _ => simp [Src.get, hy] at e
      | lst xs =>
        cases hy2 : h[j]? with
        | none => simp [Src.get, hy, hy2] at e
        | some u =>
          cases u with
          | dct _ => simp [Src.get, hy, hy2] at e
          | lst ys =>
            simp only [Src.get, hy, hy2] at e
            obtain ⟨vs, h1, h2⟩ := key_heap hq g rh hy
            obtain ⟨ws, h3, h4⟩ := key_heap hq2 g rh hy2
            exact ⟨xs, ys, vs, ws, Option.some.inj e, h1, h2, h3, h4⟩
  refine ⟨fun e => ?_, fun x e => ?_⟩
  · obtain ⟨xs, ys, vs, ws, e', h1, r1, h2, r2⟩ := key _ e
    refine ⟨vs, ws, .inl (.inl h1), .inl (.inl h2), ?_⟩
    rw [r1.length, r2.length]
    cases ex : xs[k]? with
    | none => exact .inl (List.getElem?_eq_none_iff.mp ex)
    | some x =>
      cases ey : ys[k]? with
      | none => exact .inr (List.getElem?_eq_none_iff.mp ey)
      | some y => rw [ex, ey] at e'; cases e'
  · obtain ⟨xs, ys, vs, ws, e', h1, r1, h2, r2⟩ := key _ e
    cases ex : xs[k]? with
    | none => rw [ex] at e'; cases e'
    | some x0 =>
      cases ey : ys[k]? with
      | none => rw [ex, ey] at e'; cases e'
      | some y0 =>
        rw [ex, ey] at e'
        cases e'
        obtain ⟨v, a1, a2⟩ := r1.get ex
        obtain ⟨w, b1, b2⟩ := r2.get ey
        refine ⟨⟨vs, ws, v, w, .inl (.inl h1), .inl (.inl h2), a1, b1⟩, fun u H' yl => ?_⟩
        obtain ⟨T, v', w', rfl, nT, rfl, y1, y2⟩ := yl
        have z1 := y1 vs (.inl (.inl h1))
        have z2 := y2 ws (.inl (.inl h2))
        rw [a1] at z1
        rw [b1] at z2
        cases z1
        cases z2
        exact ⟨Grow.junk nT, rh.junk nT, .tup (.inl (.inl upd_same)) (.cons (a2.grow (Grow.junk nT)) (.cons (b2.grow (Grow.junk nT)) .nil))⟩
theorem rep_tupT {K : PySem.W.Frag} {m : List Addr} {H : Hp} {v : V} {xs : List PV} (r : Rep K m H v (.tup xs)) : ∃ q vs, v = .ref q ∧ SqT K H q vs ∧ Reps K m H vs xs := by
  cases r with
  | tup h1 h2 => exact ⟨_, _, rfl, h1, h2⟩
theorem it_numT {m0 : List Addr} {H0 : Hp} {q : Addr} {xs : List PV} (r0 : Rep K m0 H0 (.ref q) (.tup xs)) : ItOk K m0 H0 (IteT K q) (.items (numT xs)) := by
  intro m H h k g rh
  obtain ⟨q', vs, e0, hq, rs⟩ := rep_tupT (r0.grow g)
  cases e0
  refine ⟨fun e => ?_, fun x e => ?_⟩
  · have e' : (numT xs)[k]? = none := Option.some.inj e
    unfold numT at e'
    rw [List.getElem?_mapIdx, Option.map_eq_none_iff, List.getElem?_eq_none_iff] at e'
    exact ⟨vs, hq, by rw [rs.length]; exact e'⟩
  · have e' : (numT xs)[k]? = some x := Option.some.inj e
    unfold numT at e'
    rw [List.getElem?_mapIdx, Option.map_eq_some_iff] at e'
    obtain ⟨y, ey, rfl⟩ := e'
    obtain ⟨v, h2, h3⟩ := rs.get ey
    refine ⟨⟨vs, v, hq, h2⟩, fun u H' yl => ?_⟩
    obtain ⟨T, w, rfl, nT, rfl, yl⟩ := yl
    have := yl vs hq
    rw [h2] at this
    cases this
    exact ⟨Grow.junk nT, rh.junk nT, .tup (.inl (.inl upd_same)) (.cons .int (.cons (h3.grow (Grow.junk nT)) .nil))⟩
theorem it_zipT {m0 : List Addr} {H0 : Hp} {q q2 : Addr} {xs ys : List PV} (r0 : Rep K m0 H0 (.ref q) (.tup xs)) (r1 : Rep K m0 H0 (.ref q2) (.tup ys)) : ItOk K m0 H0 (RZ.ItzT K q q2) (.items (zipT xs ys)) := by
  intro m H h k g rh
  obtain ⟨q', vs, e0, hq, rs⟩ := rep_tupT (r0.grow g)
  cases e0
  obtain ⟨q', ws, e0, hq2, rs2⟩ := rep_tupT (r1.grow g)
  cases e0
  refine ⟨fun e => ?_, fun x e => ?_⟩
  · have e' : (zipT xs ys)[k]? = none := Option.some.inj e
    unfold zipT at e'
    rw [List.getElem?_eq_none_iff, List.length_zipWith] at e'
    refine ⟨vs, ws, hq, hq2, ?_⟩
    rw [rs.length, rs2.length]
    omega
  · have e' : (zipT xs ys)[k]? = some x := Option.some.inj e
    unfold zipT at e'
    rw [List.getElem?_zipWith] at e'
    cases ex : xs[k]? with
    | none => rw [ex] at e'; cases e'
    | some x0 =>
      cases ey : ys[k]? with
      | none => rw [ex, ey] at e'; cases e'
      | some y0 =>
        rw [ex, ey] at e'
        cases e'
        obtain ⟨v, a1, a2⟩ := rs.get ex
        obtain ⟨w, b1, b2⟩ := rs2.get ey
        refine ⟨⟨vs, ws, v, w, hq, hq2, a1, b1⟩, fun u H' yl => ?_⟩
        obtain ⟨T, v', w', rfl, nT, rfl, y1, y2⟩ := yl
        have z1 := y1 vs hq
        have z2 := y2 ws hq2
        rw [a1] at z1
        rw [b1] at z2
        cases z1
        cases z2
        exact ⟨Grow.junk nT, rh.junk nT, .tup (.inl (.inl upd_same)) (.cons (a2.grow (Grow.junk nT)) (.cons (b2.grow (Grow.junk nT)) .nil))⟩
theorem si_enum {elts : List Expr} {kk : Nat} {tpos : Pos} (hK : X.K = K) (hg : Gl X "enumerate") (hm : X.mg "enumerate" = none) (hn : notStar a = true) (ha : PE X a (tE K xi fa)) : PI X (.Tuple elts kk tpos) (.Call (.Name "enumerate" p) [a] [] pos) (tI K xi fun ev h => (fa ev h).bind fun x h1 => enumF x h1) := by
  subst hK
  refine PIm (PIor (pi_enum hg hm (pa_cons ha pa_nil (star_cons hn)) (star_cons hn)) (pi_enumT hg hm (pa_cons ha pa_nil (star_cons hn)) (star_cons hn))) fun st H R ⟨ev, m, h, re, rh, q⟩ => ?_
  dsimp only at q
  cases e : fa ev h with
  | stuck => rw [e] at q; exact q.elim
  | exc c fs h1 =>
    refine .inl ⟨ev, m, h, re, rh, ?_⟩
    rw [e] at q ⊢
    exact q
  | ok x h1 =>
    rw [e, Res.bind_ok] at q
    cases x <;> try exact q.elim
    · rename_i xs
      refine .inr ⟨ev, m, h, re, rh, ?_⟩
      rw [e]
      intro m1 H1 g1 rh1 v rx
      obtain ⟨p, vs, rfl, hq, rs⟩ := rep_tupT rx
      exact ⟨p, vs, rfl, hq, (Post.grow g1 q).now rh1 _ (it_numT rx)⟩
    · rename_i i
      refine .inl ⟨ev, m, h, re, rh, ?_⟩
      rw [e]
      intro m1 H1 g1 rh1 v rx
      have q := Post.grow g1 q
      cases rx with
      | ref hq =>
        cases hy : h1[i]? with
        | none => simp only [enumF, hy] at q; exact q.elim
        | some u =>
          cases u with
          | dct _ => simp only [enumF, hy] at q; exact q.elim
          | lst xs =>
            simp only [enumF, hy] at q
            obtain ⟨vs, e1, r1⟩ := rh1.at' i _ _ hy hq
            exact ⟨_, vs, rfl, .inl (.inl e1), q.now rh1 _ (it_enum hq)⟩
theorem si_zip {elts : List Expr} {kk : Nat} {tpos : Pos} (hK : X.K = K) (hg : Gl X "zip") (hm : X.mg "zip" = none) (hn : notStar a = true) (hn2 : notStar b = true) (ha : PE X a (tE K xi fa)) (hb : PE X b (tE K xi fb)) : PI X (.Tuple elts kk tpos) (.Call (.Name "zip" p) [a, b] [] pos)
    (tI K xi fun ev h => (fa ev h).bind fun x h1 => (fb ev h1).bind fun y h2 => zipF x y h2) := by
  subst hK
  refine PIm (RZ.pi_zipA hg hm (pa_cons ha (pa_cons hb pa_nil (star_cons hn2)) (star_cons hn)) (by rw [star_cons hn, star_cons hn2]) (by rw [star_cons hn2]; rfl)) fun st H R ⟨ev, m, h, re, rh, q⟩ => ?_
  refine tE_bind re rh q fun v x m1 H1 h1 g1 re1 rh1 rx p1 => ?_
  refine tE_bind re1 rh1 p1 fun w y m2 H2 h2 g2 re2 rh2 ry p2 => ?_
  cases x <;> cases y <;> try exact p2.elim
  · rename_i xs ys
    have rx2 := rx.grow g2
    obtain ⟨p, vs, rfl, hq, rs⟩ := rep_tupT rx2
    obtain ⟨p', ws, rfl, hq2, rs2⟩ := rep_tupT ry
    exact ⟨p, p', vs, ws, rfl, .inr ⟨hq, hq2, p2.now rh2 _ (it_zipT rx2 ry)⟩⟩
  rename_i i j
  have rx2 := rx.grow g2
  cases rx2 with
  | ref hq =>
    cases ry with
    | ref hq2 =>
      cases hy : h2[i]? with
      | none => simp only [zipF, hy] at p2; exact p2.elim
      | some u =>
        cases u with
        | dct _ => simp only [zipF, hy] at p2; exact p2.elim
        | lst xs =>
          cases hy2 : h2[j]? with
          | none => simp only [zipF, hy, hy2] at p2; exact p2.elim
          | some u =>
            cases u with
            | dct _ => simp only [zipF, hy, hy2] at p2; exact p2.elim
            | lst ys =>
              simp only [zipF, hy, hy2] at p2
              obtain ⟨vs, e1, r1⟩ := rh2.at' i _ _ hy hq
              obtain ⟨ws, e2, r2⟩ := rh2.at' j _ _ hy2 hq2
              exact ⟨_, _, vs, ws, rfl, .inl ⟨.inl (.inl e1), .inl (.inl e2), p2.now rh2 _ (it_zip hq hq2)⟩⟩
theorem si_seq (hK : X.K = K) (ha : PE X a (tE K xi fa)) : PI X tg a (tI K xi fun ev h => (fa ev h).bind fun x h1 => match x with
    | .tup xs => .ok (.items xs) h1
    | .fl xs => .ok (.items xs) h1
    | .ref b => match h1[b]? with
      | some (.lst _) => .ok (.heap b) h1
      | _ => .stuck
    | _ => .stuck) := by
  subst hK
  refine PIm (PIor (pi_list ha) (pi_tup ha)) fun st H R ⟨ev, m, h, re, rh, q⟩ => ?_
  dsimp only at q
  cases e : fa ev h with
  | stuck => rw [e] at q; exact q.elim
  | exc c fs h1 =>
    refine .inl ⟨ev, m, h, re, rh, ?_⟩
    rw [e] at q ⊢
    exact q
  | ok x h1 =>
    rw [e] at q
    rw [Res.bind_ok] at q
    cases x <;> dsimp only at q <;> try exact q.elim
    · rename_i xs
      refine .inr ⟨ev, m, h, re, rh, ?_⟩
      rw [e]
      intro m1 H1 g1 rh1 v rv
      cases rv with
      | tup h1 h2 => exact ⟨_, rfl, ⟨_, h1⟩, q m1 H1 g1 rh1 _ (it_tup h1 h2)⟩
    · rename_i xs
      refine .inl ⟨ev, m, h, re, rh, ?_⟩
      rw [e]
      intro m1 H1 g1 rh1 v rv
      cases rv with
      | fl h1 h2 => exact ⟨_, rfl, ⟨_, h1.sq⟩, q m1 H1 g1 rh1 _ (it_list h1 h2)⟩
    · rename_i i
      refine .inl ⟨ev, m, h, re, rh, ?_⟩
      rw [e]
      intro m1 H1 g1 rh1 v rv
      cases rv with
      | ref hp =>
        cases hy : h1[i]? with
        | none => rw [hy] at q; exact q.elim
        | some o =>
          cases o with
          | dct _ => rw [hy] at q; exact q.elim
          | lst xs =>
            rw [hy] at q
            obtain ⟨vs, hv, _⟩ := rh1.at' i _ _ hy hp
            exact ⟨_, rfl, ⟨vs, .inl (.inl hv)⟩, q m1 H1 g1 rh1 _ (it_heap hp)⟩
end
end Vm

set_option Elab.async false
set_option linter.all false
set_option maxRecDepth 100000
set_option maxHeartbeats 4000000
/-! VmF: comprehensions. -/
namespace Vm
open PySem PySem.Spec PyProof.Rows L2
variable [Tbs]

def xi0 : XI := fun _ _ _ _ _ => False

def lcF (t : Tg) (fi : Ev → IH → Res Src) (fc fe : Ev → IH → Res PV) : Ev → IH → Res PV := fun ev h => (fi ev h).bind fun src h1 =>
  (lcLoop src (lcTurn t (wipeE ev t.slots) fc fe) (src.fuel h1) 0 [] h1).bind fun acc h2 => .ok (.ref h2.length) (h2 ++ [.lst acc])

theorem lcTurn_ok {t : Tg} {ev : Ev} {fc fe : Ev → IH → Res PV} {y : PV} {h h' : IH} {o : Option PV} (e : lcTurn t ev fc fe y h = .ok o h') :
    ∃ ev1 b h3, bindT t y h ev = some ev1 ∧ fc ev1 h = .ok (.bl b) h3 ∧ ((b = true ∧ ∃ z, fe ev1 h3 = .ok z h' ∧ o = some z) ∨ (b = false ∧ h' = h3 ∧ o = none)) := by
  unfold lcTurn at e
  cases e1 : bindT t y h ev with
  | none => rw [e1] at e; cases e
  | some ev1 =>
    rw [e1] at e
    cases e2 : fc ev1 h with
    | exc c fs h3 => simp [e2, Res.calm] at e
    | stuck => simp [e2, Res.calm] at e
    | ok c h3 =>
      cases c <;> try (simp [e2, Res.calm] at e; done)
      rename_i b
      cases b with
      | false =>
        simp [e2, Res.calm] at e
        obtain ⟨rfl, rfl⟩ := e
        exact ⟨ev1, false, _, rfl, e2, .inr ⟨rfl, rfl, rfl⟩⟩
      | true =>
        cases e3 : fe ev1 h3 with
        | exc c fs h4 => simp [e2, e3, Res.calm] at e
        | stuck => simp [e2, e3, Res.calm] at e
        | ok z h4 =>
          simp [e2, e3, Res.calm] at e
          obtain ⟨rfl, rfl⟩ := e
          exact ⟨ev1, true, h3, rfl, e2, .inl ⟨rfl, z, e3, rfl⟩⟩
theorem calm_no {α : Type} (r : Res α) : (∃ o h, r.calm = .ok o h) ∨ r.calm = .stuck := by
  cases r with
  | ok o h' => exact .inl ⟨o, h', rfl⟩
  | exc _ _ _ => exact .inr rfl
  | stuck => exact .inr rfl
theorem lcTurn_no {t : Tg} {ev : Ev} {fc fe : Ev → IH → Res PV} {y : PV} {h : IH} : (∃ o h', lcTurn t ev fc fe y h = .ok o h') ∨ lcTurn t ev fc fe y h = .stuck := calm_no _

section
variable {X : Cx} {K : PySem.W.Frag} {xj : XJ} {xi : XI} {t : Tg} {fi : Ev → IH → Res Src} {fc fe : Ev → IH → Res PV} {tt : TT}
theorem tLc_of (htt : ∀ st H Q, tT K xi0 (bF fc) st H Q → tt st H Q) {st : L2.St} {H : Hp} {Q : VK} (q : tE K xi (lcF t fi fc fe) st H Q) : tLc (tI K xi fi) (tG K t) tt (tE K xi0 fe) t.slots st H Q := by
  obtain ⟨ev, m, h, re, rh, p⟩ := q
  unfold lcF at p
  refine ⟨ev, m, h, re, rh, p.bind fun src h1 m1 H1 g1 rh1 p1 J itok D nD => ?_⟩
  have reA := re.grow g1
  let W : Nat → Nat → Hp → Prop := fun i n H2 => ∃ mu h2 acc vacc, Grow m1 H1 mu H2 ∧ RelH K mu H2 h2 ∧ H2 D = some (.lst vacc) ∧ D ∉ mu ∧ Reps K mu H2 vacc acc ∧
    Post K (xi st) m1 H1 ((lcLoop src (lcTurn t (wipeE ev t.slots) fc fe) n i acc h2).bind fun acc h2 => .ok (.ref h2.length) (h2 ++ [.lst acc])) fun x m' H' => ∀ v, Rep K m' H' v x → Q v H'
  refine ⟨W, ⟨src.fuel h1, m1, h1, [], [], Grow.junk nD, rh1.junk nD, upd_same, fun z => ?_, .nil, p1⟩, fun i n H2 w => ?_⟩
  · obtain ⟨u, hu⟩ := rh1.mem z
    rw [nD] at hu; cases hu
  obtain ⟨mu, h2, acc, vacc, g2, rh2, eD, hD, ra, p2⟩ := w
  cases n with
  | zero => exact p2.elim
  | succ n =>
    obtain ⟨stp, gon⟩ := itok mu H2 h2 i g2 rh2
    unfold lcLoop at p2
    cases eg : src.get h2 i with
    | none => rw [eg] at p2; exact p2.elim
    | some o =>
      rw [eg] at p2
      cases o with
      | none =>
        refine .inl ⟨stp eg, ?_⟩
        dsimp only [Res.bind_ok] at p2
        exact p2 _ _ (g2.take nD) (rh2.take eD hD ra) _ (.ref (by rw [← rh2.len]; simp))
      | some x =>
        obtain ⟨go, yl⟩ := gon x eg
        dsimp only at p2
        rw [bind_bind] at p2
        rcases lcTurn_no (t := t) (ev := wipeE ev t.slots) (fc := fc) (fe := fe) (y := x) (h := h2) with ⟨o, h3, et⟩ | et
        · rw [et, Res.bind_ok] at p2
          obtain ⟨ev1, b, h4, eb, ec, alt⟩ := lcTurn_ok et
          refine .inr ⟨go, W (i + 1) n, fun H' w => ⟨n, Nat.lt_succ_self n, w⟩, fun v H3 y => ?_⟩
          obtain ⟨g3, rh3, rx⟩ := yl v H3 y
          have reW := ((reA.grow g2).grow g3).wipe t.slots
          refine ⟨wipeE ev t.slots, mu, h2, x, ev1, reW, rh3, rx, eb, fun st' re' off => ⟨?_, htt _ _ _ ?_⟩⟩
          · rw [wipe_off off, wipe_off (wipe_Off t.slots st)]
          · refine ⟨ev1, mu, h2, re', rh3, ?_⟩
            unfold bF
            rw [ec, Res.bind_ok]
            intro m4 H4 g4 rh4
            obtain ⟨eD4, hD4⟩ := g4.fr D _ (g3.fr D _ eD (fun _ z => nomatch z) hD).1 (fun _ z => nomatch z) (g3.fr D _ eD (fun _ z => nomatch z) hD).2
            have g24 := (g2.trans g3).trans g4
            rcases alt with ⟨rfl, z, ez, rfl⟩ | ⟨rfl, rfl, rfl⟩
            · rw [if_pos rfl]
              refine ⟨ev1, m4, h4, re'.grow g4, rh4, ?_⟩
              rw [ez]
              intro m5 H5 g5 rh5 w rw'
              obtain ⟨eD5, hD5⟩ := g5.fr D _ eD4 (fun _ z => nomatch z) hD4
              dsimp only at p2
              by_cases hl : acc.length < sizeLine
              · rw [if_pos hl] at p2
                refine ⟨vacc, eD5, by rw [ra.length]; exact hl, m5, h3, acc ++ [z], vacc ++ [w], (g24.trans g5).own nD, rh5.own eD5 hD5, upd_same, hD5, ?_, p2⟩
                exact ((((ra.grow g3).grow g4).grow g5).append (.cons rw' .nil)).grow0 ⟨[], by simp⟩ (Keep.wrote eD5)
              · rw [if_neg hl] at p2
                exact p2.elim
            · rw [if_neg Bool.false_ne_true]
              dsimp only at p2
              exact ⟨m4, h3, acc, vacc, g24, rh4, eD4, hD4, (ra.grow g3).grow g4, p2⟩
        · rw [et] at p2
          exact p2.elim
end
end Vm

set_option Elab.async false
set_option linter.all false
set_option maxRecDepth 100000
set_option maxHeartbeats 4000000
/-! VnE: any, all of a generator expression, by the evaluator. -/
namespace Vm
open PySem PySem.Spec PyProof.Rows L2
variable [T : Tbs]
def agF (al : Bool) (t : Tg) (fi : Ev → IH → Res Src) (fe : Ev → IH → Res PV) : Ev → IH → Res PV := fun ev h => (fi ev h).bind fun src h1 => agLoop al src (agTurn t (wipeE ev t.slots) fe) (src.fuel h1) 0 h1
theorem agTurn_ok {t : Tg} {ev : Ev} {fe : Ev → IH → Res PV} {y : PV} {h h' : IH} {b : Bool} (e : agTurn t ev fe y h = .ok b h') : ∃ ev1, bindT t y h ev = some ev1 ∧ fe ev1 h = .ok (.bl b) h' := by
  unfold agTurn at e
  cases e1 : bindT t y h ev with
  | none => rw [e1] at e; cases e
  | some ev1 =>
    rw [e1] at e
    cases e2 : fe ev1 h with
    | exc c fs h3 => simp [e2, Res.calm] at e
    | stuck => simp [e2, Res.calm] at e
    | ok c h3 =>
      cases c <;> try (simp [e2, Res.calm] at e; done)
      simp [e2, Res.calm] at e
      obtain ⟨rfl, rfl⟩ := e
      exact ⟨ev1, rfl, e2⟩
section
variable {K : PySem.W.Frag} {xj : XJ} {xi : XI} {t : Tg} {fi : Ev → IH → Res Src} {fe : Ev → IH → Res PV} {al : Bool} {P : Addr}
theorem tGen_of (hP : P ∈ T.at') {st : L2.St} {H : Hp} {Q : VK} (q : tE K xi (agF al t fi fe) st H Q) : tGen P (!al) (tI K xi fi) (tG K t) (tE K xi0 fe) t.slots st H Q := by
  obtain ⟨ev, m, h, re, rh, p⟩ := q
  unfold agF at p
  refine ⟨ev, m, h, re, rh, p.bind fun src h1 m1 H1 g1 rh1 p1 J itok => ⟨rh1.tb P hP, fun H2 tb => ?_⟩⟩
  have reA := re.grow g1
  obtain ⟨rt, gt⟩ := rh1.tabbed hP tb
  let W : Nat → Nat → Hp → Prop := fun i n H2 => ∃ mu h2, Grow m1 H1 mu H2 ∧ RelH K mu H2 h2 ∧ Post K (xi st) m1 H1 (agLoop al src (agTurn t (wipeE ev t.slots) fe) n i h2) fun x m' H' => ∀ v, Rep K m' H' v x → Q v H'
  refine ⟨W, ⟨src.fuel h1, m1, h1, gt, rt, p1⟩, fun i n Hx w => ?_⟩
  obtain ⟨mu, h2, g2, rh2, p2⟩ := w
  cases n with
  | zero => exact p2.elim
  | succ n =>
    obtain ⟨stp, gon⟩ := itok mu Hx h2 i g2 rh2
    unfold agLoop at p2
    cases eg : src.get h2 i with
    | none => rw [eg] at p2; exact p2.elim
    | some o =>
      rw [eg] at p2
      cases o with
      | none =>
        refine .inl ⟨stp eg, ?_⟩
        have z : Q (.bl al) Hx := p2 _ _ g2 rh2 _ .bl
        rw [Bool.not_not]
        exact z
      | some x =>
        obtain ⟨go, yl⟩ := gon x eg
        dsimp only at p2
        rcases calm_no (match bindT t x h2 (wipeE ev t.slots) with
          | none => .stuck
          | some ev1 => (fe ev1 h2).bind fun z h3 => match z with
            | .bl b => .ok b h3
            | _ => .stuck : Res Bool) with ⟨b, h3, et⟩ | et
        · have et' : agTurn t (wipeE ev t.slots) fe x h2 = .ok b h3 := et
          rw [et', Res.bind_ok] at p2
          obtain ⟨ev1, eb, ee⟩ := agTurn_ok et'
          refine .inr ⟨go, fun v H3 y => ?_⟩
          obtain ⟨g3, rh3, rx⟩ := yl v H3 y
          have reW := ((reA.grow g2).grow g3).wipe t.slots
          refine ⟨wipeE ev t.slots, mu, h2, x, ev1, reW, rh3, rx, eb, fun st' re' off => ⟨?_, ?_⟩⟩
          · rw [wipe_off off, wipe_off (wipe_Off t.slots st)]
          · refine ⟨ev1, mu, h2, re', rh3, ?_⟩
            rw [ee]
            intro m5 H5 g5 rh5 w rw'
            cases rw'
            refine ⟨b, rfl, fun nb => ?_, fun e2 => ?_⟩
            · have ea : b = al := by cases b <;> cases al <;> first | rfl | exact absurd rfl nb
              rw [if_pos ea] at p2
              exact ⟨n, Nat.lt_succ_self n, m5, h3, (g2.trans g3).trans g5, rh5, p2⟩
            · have na : ¬ b = al := by rw [e2]; cases al <;> decide
              rw [if_neg na] at p2
              exact p2 m5 H5 ((g2.trans g3).trans g5) rh5 _ .bl
        · have et' : agTurn t (wipeE ev t.slots) fe x h2 = .stuck := et
          rw [et'] at p2
          exact p2.elim
end
/-- a generator expression's names, asked -/
def blkGB (N : List Str) (sc scope : Scope) (own : List (Str × Nat)) : Bool :=
  (match scope.kind with | .function => true | _ => false) && !scope.isCoroutine && (scope.names.all fun y => decide (y.2 ≠ .cell)) && decide (scope.names.lookup (".0" : Str) = some NameKind.local) && (own.all fun p => decide (N[p.2]? = some p.1)) &&
    (scope.names.all fun y => decide (y.2 ≠ .free) || (decide (sc.names.lookup y.1 = some .cell) || decide (sc.names.lookup y.1 = some .free))) && (scope.names.all fun y => decide (y.2 ≠ .local) || (decide (y.1 ∈ own.map (·.1)) || decide (y.1 ∉ N)))
theorem blkG_by {N : List Str} {sc scope : Scope} {own : List (Str × Nat)} (h : blkGB N sc scope own = true) : BlkG N sc scope own := by
  unfold blkGB at h
  simp only [Bool.and_eq_true, Bool.or_eq_true, decide_eq_true_eq, List.all_eq_true, Bool.not_eq_true'] at h
  obtain ⟨⟨⟨⟨⟨⟨h1, h2⟩, h3⟩, h4⟩, h5⟩, h6⟩, h7⟩ := h
  refine ⟨?_, h2, fun y hy => h3 y hy, h4, fun p hp => h5 p hp, fun y hy e => ?_, fun y hy e => ?_⟩
  · split at h1
    · rename_i e; exact e
    · cases h1
  · rcases h6 y hy with z | z
    · exact absurd e z
    · exact z
  · rcases h7 y hy with z | z
    · exact absurd e z
    · exact z
/-- nothing is folded ahead of the walk -/
def plainIt : Expr → Bool
  | .Set .. => false
  | .List .. => false
  | _ => true
theorem genFold_of {e : Expr} {env : Env} (h : plainIt e = true) (x : Value) : genFold e env x = pure x := by
  cases e <;> first | rfl | cases h
end Vm

set_option Elab.async false
set_option linter.all false
set_option maxRecDepth 100000
set_option maxHeartbeats 4000000
/-! VnG: a list turned about. -/
namespace Vm
open PySem PySem.Spec PyProof.Rows L2
variable [Tbs]
theorem Reps.reverse {K : PySem.W.Frag} {m : List Addr} {H : Hp} : ∀ {vs : List V} {xs : List PV}, Reps K m H vs xs → Reps K m H vs.reverse xs.reverse
  | _, _, .nil => .nil
  | v :: vs, x :: xs, .cons r t => by
    rw [List.reverse_cons, List.reverse_cons]
    exact (Reps.reverse t).append (.cons r .nil)
theorem adj_back (n : Nat) : Builtin.Slice.sliceAdjust none none (-1) (n : Int) = ((n : Int) - 1, -1) := by
  unfold Builtin.Slice.sliceAdjust
  simp
theorem plc_back (n : Nat) : Builtin.Slice.slicePlaces ((n : Int) - 1) (-1) (-1) = n := by
  unfold Builtin.Slice.slicePlaces
  rw [if_neg (by decide)]
  split
  · simp
  · omega
theorem fm_same {α β : Type} {f g : α → Option β} : ∀ l : List α, (∀ k ∈ l, f k = g k) → l.filterMap f = l.filterMap g
  | [], _ => rfl
  | x :: l, h => by rw [List.filterMap_cons, List.filterMap_cons, h x List.mem_cons_self, fm_same l fun k hk => h k (List.mem_cons_of_mem _ hk)]
theorem pick_back (xs : Array Value) : ((List.range xs.size).filterMap fun (k : Nat) => xs[((xs.size : Int) - 1 + (k : Int) * (-1)).toNat]?) = xs.toList.reverse := by
  have h1 : ((List.range xs.size).filterMap fun (k : Nat) => xs[((xs.size : Int) - 1 + (k : Int) * (-1)).toNat]?) = (List.range xs.size).filterMap fun (k : Nat) => xs.toList.reverse[k]? := by
    refine fm_same _ fun k hk => ?_
    have lt := List.mem_range.mp hk
    rw [List.getElem?_reverse (by simpa using lt), Array.getElem?_toList, Array.length_toList]
    congr 1
    omega
  rw [h1]
  have h2 : ∀ l : List Value, (List.range l.length).filterMap (fun (k : Nat) => l[k]?) = l := fun l => by
    induction l with
    | nil => rfl
    | cons x l ih =>
      rw [List.length_cons, List.range_succ_eq_map, List.filterMap_cons, List.filterMap_map]
      simp only [List.getElem?_cons_zero, Function.comp_def, List.getElem?_cons_succ, ih]
  have := h2 xs.toList.reverse
  rw [List.length_reverse, Array.length_toList] at this
  exact this
theorem sliced_back {prog : Program} {w : World} {A : Around} {E : Value → Shared → Prop} {s : Shared} {sl : Addr} {vl vu vs : Value} {n : Nat} {Q : Int × Int × Nat → Shared → Prop} (hs : s.heap.IsSliceOf sl vl vu vs) (pl : IsPart vl none) (pu : IsPart vu none) (ps : IsPart vs (some (-1))) (h : Q ((n : Int) - 1, -1, n) s) :
    wpAny (model prog w) A (Builtin.Slice.sliceApplied (.ref sl) (pure (n : Int))) Q E s := by
  obtain ⟨os, hos, hcs, hds⟩ := id hs
  unfold Builtin.Slice.sliceApplied
  unfold Builtin.Slice.sliceFields
  refine wpAny_bind (wpAny_bind (wpAny_field hos hds rfl (wpAny_bind (wpAny_field hos hds rfl (wpAny_bind (wpAny_field hos hds rfl (wpAny_pure ?_)))))))
  refine wpAny_bind (HT.slicePart_ ps ?_)
  dsimp only
  rw [if_neg (by decide)]
  refine wpAny_bind (HT.slicePart_ pl (wpAny_bind (HT.slicePart_ pu (wpAny_bind (wpAny_pure ?_)))))
  dsimp only [Option.getD_some]
  rw [adj_back]
  dsimp only
  rw [plc_back]
  exact wpAny_pure h
theorem getItem_back {prog : Program} {w : World} {A : Around} {E : Value → Shared → Prop} {s : Shared} {t sl : Addr} {items : Array Value} {vl vu vs : Value} {Q : Value → Shared → Prop} (ht : IsTup s.heap t items) (hs : s.heap.IsSliceOf sl vl vu vs) (pl : IsPart vl none) (pu : IsPart vu none) (ps : IsPart vs (some (-1)))
    (h : Q (.ref s.heap.objs.size) { heap := s.heap.push { cls := Value.type "tuple", data := Data.seq items.toList.reverse.toArray }, gens := s.gens, drawn := s.drawn, toks := s.toks, os := s.os }) (hsz : items.size ≤ sizeLine) : wpAny (model prog w) A (getItem (.ref t) (.ref sl)) Q E s := by
  obtain ⟨os, hos, hcs, hds⟩ := id hs
  have hTs : s.TypeIs (.ref sl) "slice" := ⟨os, hos, hcs⟩
  unfold getItem
  refine wpAny_holding (wpAny_bind (wpAny_sequenceKey ht.typeIs (by decide) (wpAny_bind (wpAny_callSpecial?_slot ht.typeIs slot_tuple_getitem (wpAny_call_entry slot_tuple_getitem ht.typeIs entry_tuple_getitem ?_ (args_tuple_getitem _ _))))))
  unfold Builtin.«tuple.__getitem__»
  refine wpAny_bind ?_
  have e : slotArgs "__getitem__" 1 { pos := [Value.ref t, Value.ref sl] } = pure (.ref t, [.ref sl]) := rfl
  rw [e]
  refine wpAny_pure ?_
  dsimp only
  refine wpAny_bind (tupleItemsOf_ ht (wpAny_bind (wpAny_typeOf hTs ?_)))
  rw [if_pos (by decide)]
  refine wpAny_bind (sliced_back hs pl pu ps ?_)
  dsimp only
  rw [if_neg (by simp)]
  rw [pick_back]
  refine wpAny_bind (wpAny_newObj_type (wpAny_pure ⟨_, rfl, wpAny_pure h⟩) ?_)
  show items.toList.reverse.toArray.size ≤ sizeLine
  simpa using hsz
def rTurned (K : PySem.W.Frag) (x : V) (H : Hp) (Q : VK) : Prop := ∃ a xs, x = .ref a ∧ ((SqL K H a xs ∧ ∀ p : Addr, H p = none → Q (.ref p) (upd H p (.lst xs.reverse))) ∨ (SqT K H a xs ∧ ∀ p : Addr, H p = none → Q (.ref p) (upd H p (.tup xs.reverse))))
theorem turned_item {X : Cx} {pins : List (Addr × Obj)} {s : Shared} {σ : L2.St} {H : Hp} {x : V} {v vl vu vs : Value} {sl : Addr} {Q : VK} (I : L2.Inv X pins σ H s) (rx : L2.RelV x v) (hs : s.heap.IsSliceOf sl vl vu vs) (pl : IsPart vl none) (pu : IsPart vu none) (ps : IsPart vs (some (-1))) (h : rTurned X.K x H Q) :
    ∃ T id, typeLookup (Value.type T) (Str.ofString "__getitem__") = pure (some (Value.builtin id)) ∧ s.TypeIs v T ∧ wpAny (model X.prog X.w) X.A (getItem v (Value.ref sl)) (EP X pins σ Q) X.xe s := by
  obtain ⟨a, xs, rfl, ⟨hx, q⟩ | ⟨hx, q⟩⟩ := h
  · cases rx
    obtain ⟨its, r, ht, hz⟩ := I.list hx
    have hl := r.length
    refine ⟨"list", "list.__getitem__", slot_list_getitem.lookup, ht.isList.typeIs, wpAny_getItem_list_slice ht.isList hs pl pu ps (by decide) ?_ (by simp; omega)⟩
    rw [PySem.W.krv_pick]
    refine ⟨.ref s.heap.objs.size, upd H s.heap.objs.size (.lst xs.reverse), ?_, rfl, q _ (I.hok.fresh (Nat.le_refl _))⟩
    exact I.laid (fun b ob e => Heap.get?_push_of_some _ e) (Nat.le_refl _) ⟨by rw [List.length_reverse]; exact hz, its.reverse, 0, r.reverse, Heap.get?_push_size s.heap rfl⟩
  · cases rx
    obtain ⟨its, r, ht, hz⟩ := I.tuple hx
    have hl := r.length
    refine ⟨"tuple", "tuple.__getitem__", slot_tuple_getitem.lookup, ht.typeIs, getItem_back ht hs pl pu ps ?_ (by simp; omega)⟩
    refine ⟨.ref s.heap.objs.size, upd H s.heap.objs.size (.tup xs.reverse), ?_, rfl, q _ (I.hok.fresh (Nat.le_refl _))⟩
    exact I.laid (fun b ob e => Heap.get?_push_of_some _ e) (Nat.le_refl _) ⟨by rw [List.length_reverse]; exact hz, its.reverse, r.reverse, _, Heap.get?_push_size s.heap rfl, rfl, 0, rfl⟩
theorem pe_turned {X : Cx} {e st : Expr} {te : TE} {ts : TO} {pos p2 : Pos} (he : PE X e te) (hs : PO X (some st) ts) :
    PE X (.Subscript e (.Slice none none (some st) p2) pos) fun σ H Q => te σ H fun x H1 => ts σ H1 fun k H2 => k = some (-1) ∧ rTurned X.K x H2 Q := by
  refine ⟨fun pins s σ H Q I h => ?_⟩
  refine Subscript_ (thn (he.run pins s σ H _ I h) fun v s1 hx => ?_)
  obtain ⟨x, H1, I1, r1, q1⟩ := hx
  refine wpAny_Slice ?_
  rw [evalPart_none]
  refine wpAny_pure (wpAny_pure ?_)
  refine thn (hs.run pins s1 σ H1 _ I1 q1) fun vs s2 hk => ?_
  obtain ⟨k, H2, I2, pk, rfl, q2⟩ := hk
  have I3 := I2.kept (h' := s2.heap.push { cls := Value.type "slice", data := Data.fields #[.none, .none, vs] }) (t' := s2.toks) fun b ob q => Heap.get?_push_of_some _ q
  obtain ⟨T, id, hT, ht, hg⟩ := turned_item (sl := s2.heap.objs.size) I3 r1 (Heap.IsSliceOf.new s2.1 .none .none vs) IsPart.none IsPart.none pk q2
  exact tail_any ht hT hg rfl
section
variable {K : PySem.W.Frag} {X : Cx} {xj : XJ} {xi : XI} {a : Expr} {fa : Ev → IH → Res PV} {pos p2 p3 p4 : Pos} {j : Nat}
theorem se_rev (hK : X.K = K) (ha : PE X a (tE K xi fa)) : PE X (.Subscript a (.Slice none none (some (.UnaryOp .USub (.Constant (.int 1) j p3) p4)) p2) pos) (tE K xi fun ev h => (fa ev h).bind fun x h1 => revF x h1) := by
  subst hK
  refine PEm (pe_turned ha (po_some (pe_un un_neg pe_int))) fun st H Q ⟨ev, m, h, re, rh, p⟩ => ?_
  refine tE_bind re rh p fun v x m1 H1 h1 g1 re1 rh1 rx p1 => ?_
  refine ⟨1, rfl, -1, rfl, rfl, ?_⟩
  unfold revF at p1
  cases x <;> try exact p1.elim
  · rename_i xs
    obtain ⟨q, vs, rfl, h1', r1⟩ := tup_at rx
    have p2 : Post X.K (xi st) m1 H1 (.ok (.tup xs.reverse) h1) fun z m' H' => ∀ v, Rep X.K m' H' v z → Q v H' := p1
    exact ⟨q, vs, rfl, .inr ⟨h1', newT_at rh1 r1.reverse p2⟩⟩
  · cases rx with
    | fl hs r1 =>
      obtain ⟨_, k⟩ := new_at rh1 r1.reverse p1
      exact ⟨_, _, rfl, .inl ⟨hs.sq, k⟩⟩
  · rename_i a
    dsimp only at p1
    cases ea : h1[a]? with
    | none => rw [ea] at p1; exact p1.elim
    | some oa =>
      rw [ea] at p1
      cases oa <;> try exact p1.elim
      rename_i xs
      obtain ⟨pa, vs, rfl, _, h1', r1⟩ := lst_at rh1 rx ea
      obtain ⟨_, k⟩ := new_at rh1 r1.reverse p1
      exact ⟨_, _, rfl, .inl ⟨.inl (.inl h1'), k⟩⟩
end
end Vm

set_option Elab.async false
set_option linter.all false
set_option maxRecDepth 100000
set_option maxHeartbeats 4000000
/-! VmY: promises of defs where nothing is being shown. -/
namespace Vm
open PySem PySem.Spec PyProof.Rows L2
section
variable {P : Program} {w : World} {K : PySem.W.Frag} {mg : Str → Option Value} {base : Heap}
/-- nothing is being shown -/
abbrev Hush (A : Around) : Prop := A.guards = some []
/-- a def's promise there (it lets nothing out) -/
structure FnG (P : Program) (w : World) (K : PySem.W.Frag) (mg : Str → Option Value) (base : Heap) (k : Nat) (f : Addr) (fd : FuncData) (n : Nat) (ps : List Str) (sp : Sp) : Prop where
  many : ps.length = n
  len : ∀ vs H Q E, sp vs H Q E → vs.length = n
  go : ∀ {A : Around} {outer : List Env} {s : Shared} {H : Hp} {args : Args} {us : List Value} {vs : List V} {Q : VK} {E : XK}, Hush A → Room k A → Env0 P w K mg base A outer s H → BindsTo s fd args (ps.zip us) → Vals vs us → sp vs H Q E →
    codeAny (model P w) A (.call (.ref f) args) (CR (L2N.CX P w) outer P w H s Q E) s
/-- what a context's call of such a def comes to -/
theorem FnG.call {X : Cx} {pins : List (Addr × Obj)} {σ : L2.St} {H : Hp} {s : Shared} {Q : VK} {E : XK} {us : List Value} {vs : List V} {k n : Nat} {f : Addr} {fd : FuncData} {ps : List Str} {sp : Sp} (F : FnG X.prog X.w X.K X.mg X.base k f fd n ps sp)
    (hh : Hush X.A) (hr : Room k X.A) (hb : Binds X.K fd ps []) (hx : PassesAt (L2N.CX X.prog X.w) X σ E) (I : Inv X pins σ H s) (r : Vals vs us) (h : sp vs H Q E) : wpAny (model X.prog X.w) X.A (call (.ref f) us) (EP X pins σ Q) X.xe s := by
  have hl : us.length = ps.length := by rw [F.many, ← r.length, F.len _ _ _ _ h]
  have bt := hb s us I.kIn (by rw [List.append_nil]; exact hl)
  rw [List.append_nil] at bt
  have c := F.go (args := ⟨us, []⟩) hh hr I.env0 bt r h
  refine wpAny_call (codeAny_mono c fun res s' q => ?_)
  match res, q with
  | .ok (.ret u), q => exact I.after q
  | .error e, q => exact hx _ _ _ _ _ I q
theorem pe_callG {X : Cx} {k n : Nat} {f : Addr} {fd : FuncData} {ps : List Str} {sp : Sp} {E : L2.St → XK} {x : Str} {p pos : Pos} {e : Expr} {es : List Expr} {t : TA} (F : FnG X.prog X.w X.K X.mg X.base k f fd n ps sp) (hh : Hush X.A) (hr : Room k X.A) (hg : Gl X x) (hm : X.mg x = some (.ref f))
    (hk : PySem.W.keepIn X.K (.ref f) = true) (hb : Binds X.K fd ps []) (hx : ∀ σ, PassesAt (L2N.CX X.prog X.w) X σ (E σ)) (ha : PA X (e :: es) t) (hdb : (x == ("__debug__" : Str)) = false) (he : starEach (e :: es) X.env = (false, eval e X.env) :: starEach es X.env) (hpl : (backTo pos (starEach es X.env)).any (·.1) = false) :
    PE X (.Call (.Name x p) (e :: es) [] pos) (fun σ H Q => t σ H fun vs H1 => sp vs H1 Q (E σ)) where
  run pins s σ H Q I h := by
    have args := ha.run pos pins s σ H (fun vs H1 => sp vs H1 Q (E σ)) I h
    exact wpAny_Call_Name_kw (ld_glob I hg hm (PySem.W.callWith_K (h₀ := X.base) I.ok.mod.kin hk (thn args fun us s1 ⟨vs, H1, I1, r, q⟩ => ⟨I1.kIn, F.call hh hr hb (hx σ) I1 r q⟩) he hpl) hdb)
/-- a plain def's promise, by its body -/
theorem FnG.of {x qual : Str} {params : Arguments} {body : List Stmt} {scope : Scope} {f : Addr} {fd : FuncData} {N ps : List Str} {k : Nat} {sp : Sp} (D : FunD K x qual params body scope [] [] f fd) (S : FnScope N ps scope) (len : ∀ vs H Q E, sp vs H Q E → vs.length = ps.length)
    (hbody : ∀ (cd : Value) (A : Around) (outer : List Env) (s : Shared) (H : Hp) (vs : List V) (Q : VK) (E : XK), fd.code = cd → Hush A → Room k (A.deeper (envOfC qual scope s.heap.objs.size f cd)) → sp vs H Q E →
      ∃ t, PSs (cxOf (L2N.CX P w) P w K mg base N qual scope f cd A outer s H E) body t ∧ t { nx := fun _ H' => Q .non H', rt := Q } (L2.start N vs) H) : FnG P w K mg base (k + 1) f fd ps.length ps sp where
  many := rfl
  len := len
  go {A outer s H args us vs Q E} hh hr e0 hb r hsp := by
    obtain ⟨oc, od, dV, kV, doc, pm, an, cd, ct, osl, rfl, lk, hcd, _, _⟩ := D.ex
    have old : ∀ b o, base.get? b = some o → s.heap.get? b = some o := fun b o e => (e0.bs b o e).1
    have inH : K.In s.heap := e0.mod.kin.keeps old
    obtain ⟨t, pt, q⟩ := hbody cd A outer s H vs Q E rfl hh (hr.deeper _) hsp
    refine codeAny_call_function hr.depth (inH _ _ lk) rfl S.co S.gen rfl (PySem.W.codeRec_of inH hcd) (hb _ _ _ _ (wpAny_newFunctionEnv_cells S.kind ?_ ?_))
    · intro z hz
      have hp := S.par z.1 (List.of_mem_zip (show (z.1, z.2) ∈ ps.zip us from hz)).1
      exact hp.imp id fun c => ⟨c, PySem.W.cellsFrom_some _ _ _ (.inl c)⟩
    · rintro env rfl s1 x
      have I := inv_start (CX := L2N.CX P w) (mg := mg) (E := E) S hr.hd e0 (len _ _ _ _ hsp) r x
      refine ⟨(e0.mod.nolimit.keeps old).keeps x.toInCall.keep, codeAny_func (wpAny_mono (pt.run [] s1 _ H _ I q) (fun fl s' hs => ?_) fun _ _ z => z)⟩
      match fl, hs with
      | .next, ⟨σ', H', J, q'⟩ => exact ⟨V.non, H', J.os, J.bare, J.base, J.hok, rfl, q'⟩
      | .ret u, ⟨v, σ', H', J, rv, q'⟩ => exact ⟨v, H', J.os, J.bare, J.base, J.hok, rv, q'⟩
      | .brk, ⟨_, _, _, q'⟩ => exact q'.elim
      | .cont, ⟨_, _, _, q'⟩ => exact q'.elim
end
end Vm

set_option Elab.async false
set_option linter.all false
set_option maxRecDepth 100000
set_option maxHeartbeats 4000000
/-! VmG: calls, statements. -/
namespace Vm
open PySem PySem.Spec PyProof.Rows L2
variable [Tbs]

/-- a def's promise by the evaluator -/
def xE (K : PySem.W.Frag) (E : XK) : XJ := fun c fs m H => ∀ cls d, ExcRel K c fs m H cls d → E cls d H
/-- what is wanted of an error is so in the context -/
def XOk (X : Cx) (xi : XI) : Prop := ∃ W, L2N.Takes X W ∧ ∀ st c fs m H, xi st c fs m H → xE X.K (fun cls d => W cls d st) c fs m H
theorem XOk.none {X : Cx} : XOk X xi0 := ⟨fun _ _ _ _ => False, fun u s' z => by
  obtain ⟨_, _, _, _, _, _, _, _, _, _, _, _, _, _, _, _, z⟩ := z
  exact z.elim, fun _ _ _ _ _ z => z.elim⟩
theorem Post.monoX {a : Type} {K : PySem.W.Frag} {xj xj' : XJ} {m : List Addr} {H : Hp} {r : Res a} {R : a → List Addr → Hp → Prop} (p : Post K xj m H r R) (k : ∀ c fs m' H', xj c fs m' H' → xj' c fs m' H') : Post K xj' m H r R := by
  cases r with
  | ok x h' => exact p
  | exc c fs h' => exact fun m' H' g' q => k _ _ _ _ (p m' H' g' q)
  | stuck => exact p
/-- a def's promise by the evaluator -/
def spOf (K : PySem.W.Frag) (n : Nat) (F : List PV → IH → Res PV) : Sp := fun vs H Q E => vs.length = n ∧ ∃ m h xs, RelH K m H h ∧ Reps K m H vs xs ∧ Post K (xE K E) m H (F xs h) fun x m' H' => ∀ v, Rep K m' H' v x → Q v H'

def noComp : Expr → Bool
  | .ListComp .. => false
  | .SetComp .. => false
  | .DictComp .. => false
  | _ => true
theorem swaps_of {e : Expr} (h : noComp e = true) (t : Option Expr) (l : Nat) (env : Env) : swapsWith e t l env = pure false := by
  cases e <;> first | rfl | cases h
def noTup : Expr → Bool
  | .Tuple .. => false
  | _ => true
theorem swapped_of {t e : Expr} {env : Env} (h : noTup e = true) : swappedStores [t] e env = pure none := by
  cases e <;> first | (cases h; done) | (cases t <;> rfl)
theorem swapped_name {x : Str} {p : Pos} {e : Expr} {env : Env} : swappedStores [.Name x p] e env = pure none := by
  cases e <;> rfl
theorem swapped_sub {o i : Expr} {p : Pos} {e : Expr} {env : Env} : swappedStores [.Subscript o i p] e env = pure none := by
  cases e <;> rfl
def noSet : Expr → Bool
  | .Set .. => false
  | _ => true
theorem folded_of {e : Expr} {env : Env} (h : noSet e = true) (x : Value) : foldedSetIterable e env x = pure x := by
  cases e <;> first | rfl | cases h

section
variable {X : Cx} {K : PySem.W.Frag} {xj : XJ} {xi : XI} {a b c e : Expr} {fa fb fc : Ev → IH → Res PV} {pos p : Pos} {x : Str}
theorem se_call {f : Addr} {fd : FuncData} {ps : List Str} {k n : Nat} {F : List PV → IH → Res PV} {es : List Expr} {fs : Ev → IH → Res (List PV)}
    (G : FnG X.prog X.w X.K X.mg X.base k f fd n ps (spOf X.K n F)) (tk : XOk X xi) (hh : X.A.guards = some []) (hr : Room k X.A) (hg : Gl X x) (hm : X.mg x = some (.ref f)) (hk : PySem.W.keepIn X.K (.ref f) = true) (hb : Binds X.K fd ps [])
    (ha : PA X (e :: es) (tA X.K xi fs)) (hfs : ∀ ev h xs h1, fs ev h = .ok xs h1 → xs.length = n) (hst : (e :: es).all notStar = true) (hdb : (x == ("__debug__" : Str)) = false) :
    PE X (.Call (.Name x p) (e :: es) [] pos) (tE X.K xi fun ev h => (fs ev h).bind fun xs h1 => F xs h1) := by
  rw [List.all_cons, Bool.and_eq_true] at hst
  obtain ⟨W, tkW, hW⟩ := tk
  refine PEm (pe_callG (E := WE W) G hh hr hg hm hk hb (fun σ => L2N.passAt tkW σ) ha hdb (star_cons hst.1) (plain_of hst.2)) fun st H Q ⟨ev, m, h, re, rh, q⟩ => ?_
  dsimp only at q
  refine ⟨ev, m, h, re, rh, ?_⟩
  cases e : fs ev h with
  | stuck => rw [e] at q; exact q.elim
  | exc c fs h1 => rw [e] at q; exact q
  | ok xs h1 =>
    rw [e, Res.bind_ok] at q
    intro m1 H1 g1 rh1 vs rvs
    exact ⟨by rw [rvs.length, hfs _ _ _ _ e], m1, h1, xs, rh1, rvs, (Post.grow g1 q).monoX fun c fs m' H' z => hW _ _ _ _ _ z⟩

/-- a built-in's call by values -/
def BiOk (K : PySem.W.Frag) (F : List PV → IH → Res PV) (r : List V → Hp → VK → Prop) : Prop :=
  ∀ (xj : XJ) (m : List Addr) (H : Hp) (h : IH) (xs : List PV) (vs : List V) (Q : VK), RelH K m H h → Reps K m H vs xs → (Post K xj m H (F xs h) fun z m' H' => ∀ v, Rep K m' H' v z → Q v H') → r vs H Q
theorem tCB_of {F : List PV → IH → Res PV} {r : List V → Hp → VK → Prop} (ok : BiOk K F r) {fs : Ev → IH → Res (List PV)} {st : L2.St} {H : Hp} {Q : VK} (t : tE K xi (fun ev h => (fs ev h).bind fun xs h1 => F xs h1) st H Q) : tCB r (tA K xi fs) st H Q := by
  obtain ⟨ev, m, h, re, rh, q⟩ := t
  exact tA_bind re rh q fun vs xs m1 H1 h1 g1 re1 rh1 rx p1 => ok _ m1 H1 h1 xs vs Q rh1 rx p1
theorem se_biB {id : String} {F : List PV → IH → Res PV} {r : List V → Hp → VK → Prop} {es : List Expr} {fs : Ev → IH → Res (List PV)} (hc : CallR X (.builtin id) r) (ok : BiOk K F r) (hg : Gl X x) (hm : X.mg x = none) (hv : bootBuiltins x = some (.builtin id))
    (ha : PA X (e :: es) (tA K xi fs)) (hst : (e :: es).all notStar = true) (hn : x ≠ "__name__") (hdb : (x == ("__debug__" : Str)) = false) :
    PE X (.Call (.Name x p) (e :: es) [] pos) (tE K xi fun ev h => (fs ev h).bind fun xs h1 => F xs h1) := by
  rw [List.all_cons, Bool.and_eq_true] at hst
  exact PEm (pe_callB hc hg hm hv ha hn hdb (star_cons hst.1) (plain_of hst.2)) fun st H Q t => tCB_of ok t
theorem se_biT {T : String} {F : List PV → IH → Res PV} {r : List V → Hp → VK → Prop} {es : List Expr} {fs : Ev → IH → Res (List PV)} (hc : CallR X (.type T) r) (ok : BiOk K F r) (hg : Gl X x) (hm : X.mg x = none) (hv : bootBuiltins x = some (.type T))
    (ha : PA X (e :: es) (tA K xi fs)) (hst : (e :: es).all notStar = true) (hn : x ≠ "__name__") (hdb : (x == ("__debug__" : Str)) = false) :
    PE X (.Call (.Name x p) (e :: es) [] pos) (tE K xi fun ev h => (fs ev h).bind fun xs h1 => F xs h1) := by
  rw [List.all_cons, Bool.and_eq_true] at hst
  exact PEm (pe_callTy hc hg hm hv ha hn hdb (star_cons hst.1) (plain_of hst.2)) fun st H Q t => tCB_of ok t

/-! ### statements -/
def toD (K : PySem.W.Frag) (D : Ends) : Fl → List Addr → Hp → Prop := fun o m' H' => match o with
  | .nx ev' => ∀ st', REnv K m' H' st' ev' → D.nx st' H'
  | .rt x => ∀ v, Rep K m' H' v x → D.rt v H'
def tS (K : PySem.W.Frag) (xi : XI) (f : Ev → IH → Res Fl) : TS := fun D st H => ∃ ev m h, REnv K m H st ev ∧ RelH K m H h ∧ Post K (xi st) m H (f ev h) (toD K D)
variable {tgt : Tg} {tg : Expr}
def asgF (t : Tg) (fa : Ev → IH → Res PV) : Ev → IH → Res Fl := fun ev h => (fa ev h).bind fun x h1 => match bindT t x h1 ev with
  | some ev' => .ok (.nx ev') h1
  | none => .stuck
theorem tG_post {t : Tg} {m : List Addr} {H : Hp} {h : IH} {x : PV} {v : V} {ev : Ev} {st : L2.St} {D : Ends} (re : REnv K m H st ev) (rh : RelH K m H h) (rx : Rep K m H v x)
    (q : Post K xj m H (match bindT t x h ev with
      | some ev' => .ok (.nx ev') h
      | none => .stuck : Res Fl) (toD K D)) : tG K t v st H D.nx := by
  cases e : bindT t x h ev with
  | none => rw [e] at q; exact q.elim
  | some ev' =>
    rw [e] at q
    exact ⟨ev, m, h, x, ev', re, rh, rx, e, fun st' re' _ => q.now rh st' re'⟩
theorem ss_asg (hn : noComp e = true) (hw : swappedStores [tg] e X.env = pure none) (ht : notStar tg = true) (ha : PE X e (tE K xi fa)) (hg : PG X tg (tG K tgt)) : PS X (.Assign [tg] e pos) (tS K xi (asgF tgt fa)) := by
  refine PSm (ps_asg ha hg (swaps_of hn _ _ _) hw (by cases tg <;> first | rfl | cases ht)) fun D st H ⟨ev, m, h, re, rh, q⟩ => ?_
  exact tE_bind re rh q fun v x m1 H1 h1 g1 re1 rh1 rx p1 => tG_post re1 rh1 rx p1
/-- name = [..] -/
theorem ss_lcs {t : TE} {i : Nat} (hp : PS X (.Assign [tg] e pos) (tAsg t (gName i))) (k : ∀ st H Q, tE K xi fa st H Q → t st H Q) : PS X (.Assign [tg] e pos) (tS K xi (asgF (.one i) fa)) := by
  refine PSm hp fun D st H ⟨ev, m, h, re, rh, q⟩ => k _ _ _ ?_
  exact tE_bind re rh q fun v x m1 H1 h1 g1 re1 rh1 rx p1 => p1.now rh1 _ (re1.set i rx)
theorem ss_drop (hn : noComp e = true) (ha : PE X e (tE K xi fa)) : PS X (.Expr e pos) (tS K xi fun ev h => (fa ev h).bind fun _ h1 => .ok (.nx ev) h1) := by
  refine PSm (ps_expr ha (swaps_of hn _ _ _)) fun D st H ⟨ev, m, h, re, rh, q⟩ => ?_
  exact tE_bind re rh q fun v x m1 H1 h1 g1 re1 rh1 rx p1 => p1.now rh1 _ re1
theorem ss_ret (ha : PE X e (tE K xi fa)) : PS X (.Return (some e) pos) (tS K xi fun ev h => (fa ev h).bind fun x h1 => .ok (.rt x) h1) := by
  refine PSm (ps_ret ha) fun D st H ⟨ev, m, h, re, rh, q⟩ => ?_
  exact tE_bind re rh q fun v x m1 H1 h1 g1 re1 rh1 rx p1 => p1.now rh1 _ rx
theorem ss_retn : PS X (.Return none pos) (tS K xi fun ev h => (Res.ok PV.non h).bind fun x h1 => .ok (.rt x) h1) :=
  PSm ps_retN fun D st H ⟨ev, m, h, re, rh, q⟩ => q.now rh _ .non
theorem ss_pass : PS X (.Pass pos) (tS K xi fun ev h => (Res.ok PV.non h).bind fun _ h1 => .ok (.nx ev) h1) :=
  PSm ps_pass fun D st H ⟨ev, m, h, re, rh, q⟩ => q.now rh _ re
theorem ss_doc {s : Str} {j : Nat} {p1 p2 : Pos} : PS X (.Expr (.Constant (.str s) j p1) p2) (tS K xi fun ev h => (Res.ok PV.non h).bind fun _ h1 => .ok (.nx ev) h1) :=
  PSm ps_doc fun D st H ⟨ev, m, h, re, rh, q⟩ => q.now rh _ re
/-- a, b = x, y -/
theorem ss_par {i j : Nat} {x y : Str} {px py pt pt2 : Pos} {kt k2 : Nat} (hc : X.calm = true) (hN : X.N.Nodup) (hi : X.N[i]? = some x) (hj : X.N[j]? = some y) (hij : i ≠ j)
    (hx : X.env.scope.names.lookup x = some .local) (hy : X.env.scope.names.lookup y = some .local) (hna : notStar a = true) (hnb : notStar b = true) (ha : PE X a (tE K xi fa)) (hb : PE X b (tE K xi fb))
    (hw : swappedStores [.Tuple [.Name x px, .Name y py] kt pt] (.Tuple [a, b] k2 pt2) X.env = pure (some [x, y])) :
    PS X (.Assign [.Tuple [.Name x px, .Name y py] kt pt] (.Tuple [a, b] k2 pt2) pos) (tS K xi fun ev h => (fa ev h).bind fun x h1 => (fb ev h1).bind fun y h2 => .ok (.nx ((ev.set i (some x)).set j (some y))) h2) := by
  refine PSm (ps_par hc hN hi hj hij hx hy (pa_cons ha (pa_cons hb pa_nil (star_cons hnb)) (star_cons hna)) hw rfl) fun D st H ⟨ev, m, h, re, rh, q⟩ => ?_
  refine tE_bind re rh q fun v x m1 H1 h1 g1 re1 rh1 rx p1 => ?_
  refine tE_bind re1 rh1 p1 fun w y m2 H2 h2 g2 re2 rh2 ry p2 => ?_
  exact ⟨v, w, rfl, p2.now rh2 _ ((re2.set i (rx.grow g2)).set j ry)⟩
theorem putF_at {m : List Addr} {H : Hp} {h : IH} {x y z : PV} {vx vy vz : V} {R : Unit → List Addr → Hp → Prop} {Q : Hp → Prop} (rh : RelH K m H h) (rx : Rep K m H vx x) (ry : Rep K m H vy y) (rz : Rep K m H vz z) (q : Post K xj m H (putF x y z h) R)
    (k : ∀ m' H', Grow m H m' H' → RelH K m' H' ((match putF x y z h with | .ok _ h' => h' | _ => h)) → R () m' H' → Q H') : rSetL vx vy vz H Q := by
  cases x <;> cases y <;> try exact q.elim
  rename_i r j
  cases rx with
  | ref hp =>
    cases ry
    unfold putF at q k
    dsimp only at q k
    cases eh : h[r]? with
    | none => rw [eh] at q; exact q.elim
    | some o =>
      cases o with
      | dct _ => rw [eh] at q; exact q.elim
      | lst xs =>
        rw [eh] at q k
        dsimp only at q k
        obtain ⟨vs, hv, rv⟩ := rh.at' r _ _ eh hp
        cases ex : ixN xs.length j with
        | none => rw [ex] at q; exact q.elim
        | some n =>
          rw [ex] at q k
          obtain ⟨rl, gl⟩ := rh.wrote eh hp (rv.set rz n)
          refine ⟨_, vs, j, n, rfl, rfl, hv, by rw [rv.length]; exact ex, ?_⟩
          exact k m _ gl rl (q m _ gl rl)
theorem putF_ok {m : List Addr} {H : Hp} {h : IH} {x y z : PV} {vx vy vz : V} {R : Fl → List Addr → Hp → Prop} {ev : Ev} {st : L2.St} {Q : Hp → Prop} (re : REnv K m H st ev) (rh : RelH K m H h) (rx : Rep K m H vx x) (ry : Rep K m H vy y) (rz : Rep K m H vz z)
    (q : Post K xj m H ((putF x y z h).bind fun _ h4 => .ok (.nx ev) h4) R) (k : ∀ m' H', REnv K m' H' st ev → R (.nx ev) m' H' → Q H') : rSetL vx vy vz H Q := by
  refine putF_at (R := fun _ m' H' => R (.nx ev) m' H') rh rx ry rz (q.bind fun _ h1 m1 H1 g1 rh1 p1 => p1.now rh1) fun m' H' g _ r => k m' H' (re.grow g) r
/-- o[i] = v -/
theorem ss_put {o i : Expr} {fo fi fv : Ev → IH → Res PV} {tpos : Pos} (hn : noComp e = true) (hi : plainIx i = true) (hv : PE X e (tE K xi fv)) (ho : PE X o (tE K xi fo)) (hi' : PE X i (tE K xi fi)) :
    PS X (.Assign [.Subscript o i tpos] e pos) (tS K xi fun ev h => (fv ev h).bind fun z h1 => (fo ev h1).bind fun x h2 => (fi ev h2).bind fun y h3 => (putF x y z h3).bind fun _ h4 => .ok (.nx ev) h4) := by
  refine PSm (ps_asg hv (pg_sub ho hi' set_list (by intro v; cases i <;> first | rfl | cases hi)) (by show swapsWith e (some (.Subscript o i tpos)) pos.line X.env = pure false; exact swaps_of hn _ _ _) swapped_sub rfl) fun D st H ⟨ev, m, h, re, rh, q⟩ => ?_
  refine tE_bind re rh q fun vz z m1 H1 h1 g1 re1 rh1 rz p1 => ?_
  refine tE_bind re1 rh1 p1 fun vx x m2 H2 h2 g2 re2 rh2 rx p2 => ?_
  refine tE_bind re2 rh2 p2 fun vy y m3 H3 h3 g3 re3 rh3 ry p3 => ?_
  exact putF_ok re3 rh3 (rx.grow g3) ry ((rz.grow g2).grow g3) p3 fun m' H' re' r => r st re'

def ipR : BOp → TIp
  | .add => fun x y H Q => rI0 (fun i j => .int (i + j)) x y H Q ∨ (∃ i j, x = .str i ∧ y = .str j ∧ i.length + j.length ≤ sizeLine ∧ Q (.str (i ++ j)) H)
  | .sub => rI0 fun i j => .int (i - j)
  | .mul => rI CMul fun i j => .int (i * j)
  | .fdiv => rI CDiv fun i j => .int (i / j)
  | .mod => rI (fun _ j => 0 < j) fun i j => .int (i % j)
  | .pow => fun _ _ _ _ => False
theorem ip_all (op : BOp) : PIp X (bopS op) (ipR op) := by
  cases op
  · exact OpR.or iop_add iop_add_str
  · exact iop_sub
  · exact iop_mul
  · exact iop_fdiv
  · exact iop_mod
  · intro _ _ _ _ _ _ _ _ _ _ _ _ h; exact h.elim
theorem ok_ip (op : BOp) (hp : op ≠ .pow) : OpOk K xj (augF op) (ipR op) := by
  cases op
  · intro m H h x y vx vy Q rh rx ry p
    cases x <;> cases y <;> try exact p.elim
    · rename_i i j
      cases rx; cases ry
      exact .inl ⟨i, j, rfl, rfl, p.now rh _ .int⟩
    · rename_i i j
      cases rx; cases ry
      obtain ⟨hl, p⟩ := Post.ite p
      exact .inr ⟨i, j, rfl, rfl, hl, p.now rh _ .str⟩
  · intro m H h x y vx vy Q rh rx ry p
    cases x <;> cases y <;> try exact p.elim
    cases rx; cases ry
    exact ⟨_, _, rfl, rfl, p.now rh _ .int⟩
  · intro m H h x y vx vy Q rh rx ry p
    cases x <;> cases y <;> try exact p.elim
    cases rx; cases ry
    obtain ⟨hb, p⟩ := Post.ite p
    rw [Bool.or_eq_true, big_iff, big_iff] at hb
    exact ⟨_, _, rfl, rfl, hb, p.now rh _ .int⟩
  · intro m H h x y vx vy Q rh rx ry p
    cases x <;> cases y <;> try exact p.elim
    cases rx; cases ry
    obtain ⟨hb, p⟩ := Post.ite p
    exact ⟨_, _, rfl, rfl, hb, p.now rh _ .int⟩
  · intro m H h x y vx vy Q rh rx ry p
    cases x <;> cases y <;> try exact p.elim
    cases rx; cases ry
    obtain ⟨hb, p⟩ := Post.ite p
    exact ⟨_, _, rfl, rfl, hb, p.now rh _ .int⟩
  · exact absurd rfl hp
/-- name op= e -/
theorem ss_augv {i : Nat} {x : Str} {op : BOp} {pos' : Pos} (hp : op ≠ .pow) (hN : X.N.Nodup) (hi : X.N[i]? = some x) (hx : Loc X.env.scope x) (hf : X.fn x = true ∨ X.env.scope.names.lookup x = some .local) (ha : PE X e (tE K xi fa)) :
    PS X (.AugAssign (.Name x pos') (bopS op) e pos) (tS K xi fun ev h => match ev[i]? with
      | some (some x) => (fa ev h).bind fun y h1 => (augF op x y h1).bind fun z h2 => .ok (.nx (ev.set i (some z))) h2
      | _ => .stuck) := by
  refine PSm (ps_aug hN hi hx ha (ip_all op) hf) fun D st H ⟨ev, m, h, re, rh, q⟩ => ?_
  dsimp only at q
  split at q
  · rename_i x' ex
    obtain ⟨v, h1, h2⟩ := re.at' i x' ex
    refine ⟨v, h1, tE_bind re rh q fun vy y m1 H1 h1 g1 re1 rh1 ry p1 => ?_⟩
    refine ok_ip  op hp m1 H1 h1 x' y v vy _ rh1 (h2.grow g1) ry (p1.bind fun z h2 m2 H2 g2 rh2 p2 w rw' => ?_)
    exact p2.now rh2 _ ((re1.grow g2).set i rw')
  · exact q.elim
theorem get_list : PGet X (rIxL X.K) := by
  intro pins s st H o i ov iv Q I ro ri h
  obtain ⟨p, xs, i, z, rfl, rfl, hq, he, q⟩ := h
  cases ro
  obtain ⟨t, rfl⟩ := ri
  obtain ⟨its, r, pl, hz⟩ := I.list hq
  obtain ⟨j, h1, h2, h3, h4, h5⟩ := atI_get he
  obtain ⟨w, ew, rw'⟩ := r.get h2
  have hl := r.length
  have hn := line63
  have fin : EP X pins st Q w s := ⟨z, H, I, rw', q⟩
  by_cases h0 : 0 ≤ i
  · have hj : i.toNat = j := by
      rw [seqIndex_of h0 h5] at h1
      exact Option.some.inj h1
    exact wpAny_getItem_list pl.isList h0 (by omega) (by rw [hj]; simpa using ew) fin
  · have hj : (i + (its.toArray.size : Int)).toNat = j := by
      rw [seqIndex_neg (by omega) h4] at h1
      rw [List.size_toArray, ← hl]
      exact Option.some.inj h1
    exact wpAny_getItem_list_neg pl.isList (by omega) (by rw [List.size_toArray] <;> omega) (by omega) (by rw [hj]; simpa using ew) fin
/-- ixF of a list that is written to -/
theorem ixF_list {m : List Addr} {H : Hp} {h : IH} {x y : PV} {vx vy : V} {Q : VK} {R : PV → List Addr → Hp → Prop} (rh : RelH K m H h) (rx : Rep K m H vx x) (ry : Rep K m H vy y) (hr : ∃ r, x = .ref r) (q : Post K xj m H (ixF x y h) R)
    (k : ∀ v z, Rep K m H v z → R z m H → Q v H) : rIxL K vx vy H Q := by
  obtain ⟨r, rfl⟩ := hr
  cases y <;> try exact q.elim
  rename_i j
  unfold ixF at q
  dsimp only at q
  cases e : rd h (.ref r) with
  | none => rw [e] at q; exact q.elim
  | some xs =>
    rw [e] at q
    dsimp only at q
    cases rx with
    | ref hp =>
      cases ry
      cases hy : h[r]? with
      | none => simp [rd, hy] at e
      | some o =>
        cases o with
        | dct _ => simp [rd, hy] at e
        | lst ys =>
          simp [rd, hy] at e
          subst e
          obtain ⟨vs, hv, rv⟩ := rh.at' r _ _ hy hp
          cases e2 : atI ys j with
          | none => rw [e2] at q; exact q.elim
          | some z =>
            rw [e2] at q
            obtain ⟨v, h1, h2⟩ := atI_rep rv e2
            exact ⟨_, vs, j, v, rfl, rfl, .inl (.inl hv), h1, k v z h2 (q.now rh)⟩
theorem put_ref {x y z : PV} {h : IH} (n : ∀ r, x ≠ .ref r) : putF x y z h = .stuck := by
  cases x <;> try rfl
  exact absurd rfl (n _)
/-- o[i] op= e -/
theorem ss_augp {o i : Expr} {fo fi fv : Ev → IH → Res PV} {op : BOp} {tpos : Pos} (hK : X.K = K) (hp : op ≠ .pow) (hi : plainIx i = true) (ho : PE X o (tE K xi fo)) (hi' : PE X i (tE K xi fi)) (hv : PE X e (tE K xi fv)) :
    PS X (.AugAssign (.Subscript o i tpos) (bopS op) e pos) (tS K xi fun ev h => (fo ev h).bind fun x h1 => match x with
      | .ref r => (fi ev h1).bind fun y h2 => (ixF (.ref r) y h2).bind fun old h3 => (fv ev h3).bind fun v h4 => (augF op old v h4).bind fun z h5 => (putF (.ref r) y z h5).bind fun _ h6 => .ok (.nx ev) h6
      | _ => .stuck) := by
  subst hK
  refine PSm (ps_augS ho hi' get_list hv (ip_all op) set_list (by intros; cases i <;> first | rfl | cases hi)) fun D st H ⟨ev, m, h, re, rh, q⟩ => ?_
  refine tE_bind re rh q fun vx x m1 H1 h1 g1 re1 rh1 rx p1 => ?_
  cases x <;> try exact p1.elim
  rename_i r
  refine tE_bind re1 rh1 p1 fun vy y m2 H2 h2 g2 re2 rh2 ry p2 => ?_
  refine ixF_list (R := fun old m' H' => ∃ h3, RelH X.K m' H' h3 ∧ Grow m2 H2 m' H' ∧ Post X.K (xi st) m' H' ((fv ev h3).bind fun v h4 => (augF op old v h4).bind fun z h5 => (putF (.ref r) y z h5).bind fun _ h6 => .ok (.nx ev) h6) (toD X.K D)) rh2 (rx.grow g2) ry ⟨r, rfl⟩
    (p2.bind fun old h3 m3 H3 g3 rh3 p3 => ⟨h3, rh3, g3, p3⟩) fun vo old ro ⟨h3, rh3, _, p3⟩ => ?_
  refine tE_bind re2 rh3 p3 fun vv v m4 H4 h4 g4 re4 rh4 rv p4 => ?_
  refine ok_ip op hp m4 H4 h4 old v vo vv _ rh4 (ro.grow g4) rv (p4.bind fun z h5 m5 H5 g5 rh5 p5 w rw' => ?_)
  exact putF_ok (re4.grow g5) rh5 (((rx.grow g2).grow g4).grow g5) ((ry.grow g4).grow g5) rw' p5 fun m' H' re' r => r st re'
/-- o.append(e) -/
theorem ss_app {o : Expr} {fo : Ev → IH → Res PV} {apos cpos : Pos} (hn : notStar e = true) (hline : (apos.endLine == cpos.line) = true) (hbase : attributeBase o "append" X.env (eval o X.env) = eval o X.env) (ho : PE X o (tE K xi fo)) (ha : PE X e (tE K xi fa)) (hK : X.K = K) :
    PS X (.Expr (.Call (.Attribute o "append" apos) [e] [] cpos) pos) (tS K xi fun ev h => (fo ev h).bind fun x h1 => match x with
      | .ref r => (match h1[r]? with
        | some (.lst _) => (fa ev h1).bind fun y h2 => (appF (.ref r) y h2).bind fun _ h3 => .ok (.nx ev) h3
        | _ => .stuck)
      | _ => .stuck) := by
  subst hK
  refine PSm (ps_expr (pe_bm PySem.F.plainAttrs_list PySem.F.slot_list_append PySem.F.type_list_append mt_append ho (pa_cons ha pa_nil (star_cons hn)) hbase (by rw [star_cons hn]; rfl) hline (star_cons hn) rfl) rfl) fun D st H ⟨ev, m, h, re, rh, q⟩ => ?_
  refine tE_bind re rh q fun vx x m1 H1 h1 g1 re1 rh1 rx p1 => ?_
  cases x <;> try exact p1.elim
  rename_i r
  cases rx with
  | ref hp =>
    dsimp only at p1
    cases eh : h1[r]? with
    | none => rw [eh] at p1; exact p1.elim
    | some ob =>
      cases ob with
      | dct _ => rw [eh] at p1; exact p1.elim
      | lst xs =>
        rw [eh] at p1
        obtain ⟨vs, hv, _⟩ := rh1.at' r _ _ eh hp
        refine ⟨.inl ⟨rfl, vs, .inl (.inl hv)⟩, ?_⟩
        refine tE_bind re1 rh1 p1 fun vy y m2 H2 h2 g2 re2 rh2 ry p2 => ?_
        have hp2 := g2.at hp
        unfold appF at p2
        dsimp only at p2
        cases eh2 : h2[r]? with
        | none => rw [eh2] at p2; exact p2.elim
        | some ob =>
          cases ob with
          | dct _ => rw [eh2] at p2; exact p2.elim
          | lst ys =>
            rw [eh2] at p2
            dsimp only at p2
            obtain ⟨vs2, hv2, rv2⟩ := rh2.at' r _ _ eh2 hp2
            by_cases hl : ys.length < sizeLine
            · rw [if_pos hl] at p2
              obtain ⟨rl, gl⟩ := rh2.wrote eh2 hp2 (rv2.append (.cons ry .nil))
              refine ⟨_, vs2, vy, rfl, rfl, hv2, by rw [rv2.length]; exact hl, ?_⟩
              exact p2 m2 _ gl rl st (re2.grow gl)
            · rw [if_neg hl] at p2; exact p2.elim

/-! ### blocks, if, for, while -/
theorem sss_nil : PSs X [] (tS K xi fun ev h => .ok (.nx ev) h) := PSsm pss_nil fun D st H ⟨ev, m, h, re, rh, q⟩ => q.now rh _ re
theorem sss_cons {s : Stmt} {ss : List Stmt} {f g : Ev → IH → Res Fl} (cx : ∀ st st', xi st = xi st') (h1 : PS X s (tS K xi f)) (h2 : PSs X ss (tS K xi g)) : PSs X (s :: ss) (tS K xi fun ev h => (f ev h).bind fun o h1 => match o with
    | .nx ev' => g ev' h1
    | .rt y => .ok (.rt y) h1) := by
  refine PSsm (pss_cons h1 h2) fun D st H ⟨ev, m, h, re, rh, q⟩ => ⟨ev, m, h, re, rh, q.bind fun o h1 m1 H1 g1 rh1 p1 => ?_⟩
  cases o with
  | nx ev' => exact fun st' re' => ⟨ev', m1, h1, re', rh1, by rw [cx st' st]; exact p1⟩
  | rt x => exact fun v rv => p1.now rh1 v rv
theorem ss_if {as bs : List Stmt} {f g : Ev → IH → Res Fl} (hc : PT X c (tT K xi (bF fc))) (h1 : PSs X as (tS K xi f)) (h2 : PSs X bs (tS K xi g)) : PS X (.If c as bs pos) (tS K xi fun ev h => (fc ev h).bind fun x h1 => match x with
    | .bl true => f ev h1
    | .bl false => g ev h1
    | _ => .stuck) := by
  refine PSm (ps_if hc h1 h2) fun D st H ⟨ev, m, h, re, rh, q⟩ => ?_
  refine tT_of re rh q (fun x h1 n => ?_) fun t m1 H1 h1 g1 re1 rh1 p1 => ?_
  · cases x <;> try rfl
    exact absurd rfl (n _)
  · cases t with
    | true => exact ⟨ev, m1, h1, re1, rh1, p1⟩
    | false => exact ⟨ev, m1, h1, re1, rh1, p1⟩
theorem ss_for {iter : Expr} {body : List Stmt} {fi : Ev → IH → Res Src} {f : Ev → IH → Res Fl} (cx : ∀ st st', xi st = xi st') (hp : PassesOwn (model X.prog X.w) X.A X.env X.xe) (hc : X.calm = true) (hns : noSet iter = true) (hi : PI X tg iter (tI K xi fi)) (hg : PG X tg (tG K tgt)) (hb : PSs X body (tS K xi f)) :
    PS X (.For tg iter body [] pos) (tS K xi fun ev h => (fi ev h).bind fun src h1 => forLoop src (forTurn tgt f) (src.fuel h1) 0 ev h1) := by
  refine PSm (ps_for hp hc hi hg hb (folded_of hns)) fun D st H ⟨ev, m, h, re, rh, q⟩ => ?_
  refine ⟨ev, m, h, re, rh, q.bind fun src h1 m1 H1 g1 rh1 p1 J itok => ?_⟩
  let W : Nat → Nat → L2.St → Hp → Prop := fun i n st2 H2 => ∃ ev2 mu h2, Grow m1 H1 mu H2 ∧ REnv K mu H2 st2 ev2 ∧ RelH K mu H2 h2 ∧ Post K (xi st) m1 H1 (forLoop src (forTurn tgt f) n i ev2 h2) (toD K D)
  refine ⟨W, ⟨src.fuel h1, ev, m1, h1, Grow.refl _ _, re.grow g1, rh1, p1⟩, fun i n st2 H2 w => ?_⟩
  obtain ⟨ev2, mu, h2, g2, re2, rh2, p2⟩ := w
  cases n with
  | zero => exact p2.elim
  | succ n =>
    obtain ⟨stp, gon⟩ := itok mu H2 h2 i g2 rh2
    unfold forLoop at p2
    cases eg : src.get h2 i with
    | none => rw [eg] at p2; exact p2.elim
    | some o =>
      rw [eg] at p2
      cases o with
      | none => exact .inl ⟨stp eg, p2 _ _ g2 rh2 _ re2⟩
      | some x =>
        obtain ⟨go, yl⟩ := gon x eg
        dsimp only at p2
        unfold forTurn at p2
        cases eb : bindT tgt x h2 ev2 with
        | none => rw [eb] at p2; exact p2.elim
        | some ev3 =>
          rw [eb] at p2
          dsimp only at p2
          refine .inr ⟨go, W (i + 1) n, fun st' H' w => ⟨n, Nat.lt_succ_self n, w⟩, fun v H3 y => ?_⟩
          obtain ⟨g3, rh3, rx⟩ := yl v H3 y
          refine ⟨ev2, mu, h2, x, ev3, re2.grow g3, rh3, rx, eb, fun st' re' _ => ⟨ev3, mu, h2, re', rh3, ?_⟩⟩
          cases e4 : f ev3 h2 with
          | stuck => rw [e4] at p2; exact p2.elim
          | exc c fs h4 =>
            rw [e4] at p2
            exact fun m4 H4 g4 rh4 => by rw [cx _ st]; exact p2 m4 H4 ((g2.trans g3).trans g4) rh4
          | ok o h4 =>
            rw [e4, Res.bind_ok] at p2
            intro m4 H4 g4 rh4
            cases o with
            | nx ev4 => exact fun st4 re4 => ⟨ev4, m4, h4, (g2.trans g3).trans g4, re4, rh4, p2⟩
            | rt z => exact p2 m4 H4 ((g2.trans g3).trans g4) rh4
theorem ss_whl {body : List Stmt} {f : Ev → IH → Res Fl} (cx : ∀ st st', xi st = xi st') (hp : PassesOwn (model X.prog X.w) X.A X.env X.xe) (hc : PT X c (tT K xi (bF fc))) (hb : PSs X body (tS K xi f)) (N : Nat) :
    PS X (.While c body [] pos) (tS K xi fun ev h => whlLoop fc f N ev h) := by
  refine PSm (ps_while hp hc hb) fun D st H ⟨ev, m, h, re, rh, q⟩ => ?_
  let W : Nat → L2.St → Hp → Prop := fun n st2 H2 => ∃ ev2 mu h2, Grow m H mu H2 ∧ REnv K mu H2 st2 ev2 ∧ RelH K mu H2 h2 ∧ Post K (xi st) m H (whlLoop fc f n ev2 h2) (toD K D)
  refine ⟨W, ⟨N, ev, m, h, Grow.refl _ _, re, rh, q⟩, fun n st2 H2 w => ?_⟩
  obtain ⟨ev2, mu, h2, g2, re2, rh2, p2⟩ := w
  cases n with
  | zero => exact p2.elim
  | succ n =>
    unfold whlLoop at p2
    refine ⟨ev2, mu, h2, re2, rh2, ?_⟩
    unfold bF
    cases e3 : fc ev2 h2 with
    | stuck => rw [e3] at p2; exact p2.elim
    | exc c fs h4 =>
      rw [e3] at p2
      exact fun m4 H4 g4 rh4 => by rw [cx _ st]; exact p2 m4 H4 (g2.trans g4) rh4
    | ok b h3 =>
      rw [e3, Res.bind_ok] at p2
      cases b <;> try exact p2.elim
      rename_i b
      rw [Res.bind_ok]
      intro m3 H3 g3 rh3
      cases b with
      | false =>
        rw [if_neg Bool.false_ne_true]
        exact p2 m3 H3 (g2.trans g3) rh3 _ (re2.grow g3)
      | true =>
        rw [if_pos rfl]
        refine ⟨W n, fun st' H' w => ⟨n, Nat.lt_succ_self n, w⟩, ev2, m3, h3, re2.grow g3, rh3, ?_⟩
        dsimp only at p2
        cases e4 : f ev2 h3 with
        | stuck => rw [e4] at p2; exact p2.elim
        | exc c fs h4 =>
          rw [e4] at p2
          exact fun m4 H4 g4 rh4 => by rw [cx _ st]; exact p2 m4 H4 ((g2.trans g3).trans g4) rh4
        | ok o h4 =>
          rw [e4, Res.bind_ok] at p2
          intro m4 H4 g4 rh4
          cases o with
          | nx ev4 => exact fun st4 re4 => ⟨ev4, m4, h4, (g2.trans g3).trans g4, re4, rh4, p2⟩
          | rt z => exact p2 m4 H4 ((g2.trans g3).trans g4) rh4
end
end Vm

set_option Elab.async false
set_option linter.all false
set_option maxRecDepth 100000
set_option maxHeartbeats 8000000
/-! VmP: set(list of ints), sorted of it; the least of a list of pairs. -/
namespace Vm
open PySem PySem.Spec PyProof.Rows L2

/-! ### set(xs) of a list of ints -/
/-- an empty set, as it is made -/
abbrev noneIn (w : World) : Obj := { cls := .type "set", dict := none, data := .set #[] 0 (.fresh 0 0 (!w.params.followText "set-order")) }
section
variable {P : Program} {w : World} {A : Around} {E : Value → Shared → Prop} {s : Shared}
theorem set_listI {l : Addr} {us : Array Value} (ns : List Int) {Q : Value → Shared → Prop} (hh : A.handled = none) (hl : s.heap.IsList l us) (hi : IntsAre us.toList ns) (hb : ns.length + 1 < scanBound)
    (q : ∀ (g : Heap) (tk c : Nat), SetR w g s.heap.objs.size (fun j => decide (j ∈ ns)) c → c ≤ ns.length → (∀ b o, s.heap.get? b = some o → g.get? b = some o) → Q (.ref s.heap.objs.size) { s with heap := g, toks := tk }) :
    wpAny (model P w) A (call (.type "set") [.ref l]) Q E s := by
  have hn : us.size = ns.length := by have z := hi.length; rwa [Array.length_toList] at z
  obtain ⟨c0, tl, m1⟩ := PySem.F.called_set.mro
  have m2 := PySem.F.called_set.made
  have m3 := PySem.F.called_set.sub
  refine wpAny_call (codeAny_of_tree ?_)
  show wpAny _ _ (callAny (.type "set") _) _ _ _
  refine wpAny_pure ⟨Code.quiet_builtin _ (by decide +kernel), codeAny_builtin PySem.F.entry_type_call ?_⟩
  rw [Around.under_plain (weight_type_call_type "set" [.ref l] []) rfl]
  have m4 := PySem.F.called_set.notType
  have m5 := PySem.F.called_set.canCreate
  have m6 := PySem.F.typeCall_set_1 (.ref l)
  repeat (any_goals (first | assumption | wp_step))
  refine codeAny_mono (code_set_led1 (.ref l) (E := E) (Q₁ := fun x t => x = .ref s.heap.objs.size ∧ t = { s with heap := s.heap.push (noneIn w) }) ⟨rfl, rfl⟩) fun r t hr => ?_
  rcases r with e | fl
  · exact hr
  cases fl <;> try exact hr.elim
  obtain ⟨rfl, rfl⟩ := hr
  generalize hg0 : s.heap.push (noneIn w) = g0
  have z0 : g0.objs.size = s.heap.objs.size + 1 := by rw [← hg0]; exact Heap.size_push ..
  have oS : g0.get? s.heap.objs.size = some (noneIn w) := by rw [← hg0]; exact Heap.get?_push_size _ rfl
  have k0 : ∀ b o, s.heap.get? b = some o → g0.get? b = some o := fun b o e => by rw [← hg0]; exact Heap.get?_push_of_some _ e
  have tS : Shared.TypeIs { s with heap := g0 } (.ref s.heap.objs.size) "set" := ⟨_, oS, rfl⟩
  have m7 := PySem.F.called_set.init.lookup
  have m8 := PySem.F.called_set.init.bind (.ref s.heap.objs.size)
  repeat (any_goals (first | assumption | wp_step))
  refine codeAny_mono (codeAny_call_builtin (R := wants (fun r t => r = .none ∧ ∃ g tk c, t = { s with heap := g, toks := tk } ∧ SetR w g s.heap.objs.size (fun j => decide (j ∈ ns)) c ∧ c ≤ ns.length ∧ (∀ b o, s.heap.get? b = some o → g.get? b = some o)) E)
    PySem.F.called_set.init.plain PySem.F.entry_set_init (check_set_init_1 tS ?_)) fun r t hr => ?_
  · obtain ⟨⟨c1, d1, e1, f1⟩, o1, h1, n1, h2⟩ := hl
    simp only at h1 h2
    subst h1 h2
    have o2 := k0 _ _ o1
    have b1 := PySem.F.sub_list_set
    have b2 := PySem.F.sub_list_frozenset
    have b3 : (Value.type "list" == Value.type "dict") = false := by decide
    have l0 : g0.IsList l us := ⟨_, o2, rfl, n1, rfl⟩
    have lS := Heap.lt_size o1
    unfold Builtin.«set.__init__» noKeywords Builtin.Frozenset.updateFrom
    generalize hw : pyIter = walk
    wp_walk
    subst hw
    refine wpAny_pyIter_list l0 (wpAny_bind (wpAny_runValue ?_))
    have nI : l ≠ g0.objs.size := by (rw [z0]; exact Nat.ne_of_lt (Nat.lt_succ_of_lt lS))
    have nS : s.heap.objs.size ∉ [g0.objs.size, l] := by
      intro z
      rcases List.mem_cons.mp z with z | z
      · exact Nat.ne_of_lt (by rw [z0]; exact Nat.lt_succ_self _) z
      · exact Nat.ne_of_gt lS (List.mem_singleton.mp z)
    refine set_update_ints ((Walks.list (by simp [hh]) _ l nI us).toS) s.heap.objs.size nS ns hn hb (fun i v hv => ?_) (us.size - 0) 0 _ (by omega) (Nat.zero_le _) ⟨⟨_, Heap.get?_push_size _ rfl, rfl, rfl⟩, l0.push _⟩ ?_ ?_
    · obtain ⟨t, e⟩ := PyProof.Rows.IntsAre.int_at hi i v (by rw [Array.getElem?_toList]; exact hv)
      have lt : i < ns.length := by rw [← hn]; exact (Array.getElem?_eq_some_iff.mp hv).1
      refine ⟨ns[i], t, List.getElem?_eq_getElem lt, ?_⟩
      rw [e, List.getD_eq_getElem?_getD, List.getElem?_eq_getElem lt] <;> rfl
    · exact ⟨0, Nat.le_refl 0, setR_new_at (Heap.get?_push_of_some _ oS)⟩
    · rintro ⟨g, ge, dr, tk, os⟩ c mv hc hR
      obtain rfl : ge = s.gens := mv.gens
      obtain rfl : dr = s.drawn := mv.drawn
      obtain rfl : os = s.os := mv.os
      show wpAny _ _ _ _ _ _
      refine wpAny_pure ?_
      show wpAny _ _ (ret Value.none) _ _ _
      refine wpAny_pure ⟨rfl, g, tk, c, rfl, hR, by omega, fun b o e => mv.heap b o (fun z => ?_) (Heap.get?_push_of_some _ (k0 b o e))⟩
      have lb := Heap.lt_size e
      rcases List.mem_cons.mp z with z | z
      · exact Nat.ne_of_lt lb z
      · exact Nat.ne_of_lt (by rw [z0]; exact Nat.lt_succ_of_lt lb) (List.mem_singleton.mp z)
  · rcases r with e | fl
    · exact hr
    cases fl <;> try exact hr.elim
    obtain ⟨rfl, g, tk, c, rfl, hR, hc, hk⟩ := hr
    repeat (any_goals (first | assumption | wp_step))
    exact q _ _ _ hR hc hk
end
section
variable {X : Cx}
def rSetL (K : PySem.W.Frag) (w : World) : List V → Hp → VK → Prop := fun vs H Q => ∃ (a : Addr) (ns : List Int), vs = [V.ref a] ∧ (SqL K H a (ns.map V.int) ∨ SqT K H a (ns.map V.int)) ∧ ns.length + 1 < scanBound ∧
  ∀ (p : Addr) (c : Nat), c ≤ ns.length → H p = none → Q (.ref p) (upd H p (SetO w p (fun j => decide (j ∈ ns)) c))
theorem cr_setL (hc : X.calm = true) : CallR X (.type "set") (rSetL X.K X.w) := by
  intro pins s st H vs us Q I r h
  obtain ⟨a, ns, rfl, hs, hb, q⟩ := h
  rw [Vals.ref1 r]
  rcases hs with hs | hs
  · obtain ⟨its, rv, hl, _⟩ := I.list hs
    refine set_listI ns (I.ok.hd hc) hl.isList (by simpa using rv.ints) hb fun g tk c R hc' hk => ?_
    exact ⟨.ref _, _, I.laid (t' := tk) (o := SetO X.w s.heap.objs.size (fun j => decide (j ∈ ns)) c) hk (Nat.le_refl _) (setO_new R), rfl, q _ c hc' (I.hok.fresh (Nat.le_refl _))⟩
  · obtain ⟨its, rv, hl, _⟩ := I.tuple hs
    refine call_set_tupI ns (I.ok.hd hc) hl (by simpa using rv.ints) hb fun g tk c R hc' hk => ?_
    exact ⟨.ref _, _, I.laid (t' := tk) (o := SetO X.w s.heap.objs.size (fun j => decide (j ∈ ns)) c) hk (Nat.le_refl _) (setO_new R), rfl, q _ c hc' (I.hok.fresh (Nat.le_refl _))⟩
end
end Vm

set_option Elab.async false
set_option linter.all false
set_option maxRecDepth 100000
set_option maxHeartbeats 4000000
/-! VmK: further calls: list(range(n)), t[:n].count(x), sorted(set(xs)), min of pairs. -/
namespace Vm
open PySem PySem.Spec PyProof.Rows L2
variable [Tbs]

/-! ### list(range(n)) -/
section
variable {K : PySem.W.Frag}
/-- what is read as ints -/
theorem ints_at {m : List Addr} {H : Hp} {h : IH} {x : PV} {v : V} {ns : List Int} (rh : RelH K m H h) (r : Rep K m H v x) (e : (rd h x).bind intsOf = some ns) : ∃ p, v = .ref p ∧ (SqL K H p (ns.map V.int) ∨ SqT K H p (ns.map V.int)) := by
  cases e1 : rd h x with
  | none => rw [e1] at e; cases e
  | some xs =>
    rw [e1] at e
    obtain ⟨a, vs, rfl, hs, rv⟩ := rd_ok rh r e1
    have e2 := intsOf_eq (show intsOf xs = some ns from e)
    subst e2
    rw [rv.ints] at hs
    exact ⟨a, rfl, hs⟩
end
theorem reps_rng {K : PySem.W.Frag} {m : List Addr} {H : Hp} (n : Int) : Reps K m H (rgV 0 n) (rngs 0 n.toNat) := by
  have e1 : rgV 0 n = ((List.range n.toNat).map fun (i : Nat) => (0 + (i : Int))).map V.int := by
    unfold rgV
    rw [List.map_map, Int.sub_zero]
    rfl
  have e2 : rngs 0 n.toNat = ((List.range n.toNat).map fun (i : Nat) => (0 + (i : Int))).map PV.int := by
    unfold rngs
    rw [List.map_map]
    rfl
  rw [e1, e2]
  exact Reps.ofInts _
section
variable {X : Cx} {xj : XJ} {xi : XI} {a b e : Expr} {fa fb fe : Ev → IH → Res PV} {p p2 pos cpos apos : Pos}
theorem se_lrng (hc : X.calm = true) (hg : Gl X "list") (hm : X.mg "list" = none) (hg2 : Gl X "range") (hm2 : X.mg "range" = none) (hn : notStar a = true) (ha : PE X a (tE X.K xi fa)) :
    PE X (.Call (.Name "list" p) [.Call (.Name "range" p2) [a] [] cpos] [] pos) (tE X.K xi fun ev h => (fa ev h).bind fun x h1 => lrngF x h1) := by
  refine PEm (pe_listRg hc hg hm (prg_1 hg2 hm2 ha (star_cons hn)) rfl) fun st H Q ⟨ev, m, h, re, rh, q⟩ => ?_
  refine tE_bind re rh q fun v x m1 H1 h1 g1 re1 rh1 rx p1 => ?_
  cases x <;> try exact p1.elim
  rename_i n
  cases rx
  obtain ⟨hb, p1⟩ := Post.ite p1
  refine ⟨n, rfl, ⟨by decide, by decide, hb.1, hb.2.1, by rw [Int.sub_zero]; exact hb.2.2⟩, (new_at rh1 (reps_rng n) p1).2⟩

/-! ### t[:n].count(k), of ints -/
theorem countP_eqU {k : Int} : ∀ {ns : List Int} {us : List Value}, Vals (ns.map V.int) us → us.countP (eqU (.int k)) = ns.count k
  | [], _, .nil => rfl
  | n :: ns, _, .cons r t => by
    obtain ⟨tk, rfl⟩ := r
    rw [List.countP_cons, countP_eqU t, List.count_cons]
    show _ + (if (n == k) = true then 1 else 0) = _
    rfl
theorem se_scnt (hn : notStar e = true) (hline : (apos.endLine == cpos.line) = true) (ha : PE X a (tE X.K xi fa)) (hb : PE X b (tE X.K xi fb)) (he : PE X e (tE X.K xi fe)) {p3 : Pos} :
    PE X (.Call (.Attribute (.Subscript a (.Slice none (some b) none p2) p3) "count" apos) [e] [] cpos) (tE X.K xi fun ev h => (fa ev h).bind fun x h1 => (fb ev h1).bind fun u h2 => scntG fe ev x u h2) := by
  refine ⟨fun pins s st H Q I ⟨ev, m, h, re, rh, q⟩ => ?_⟩
  refine wpAny_Call_method_late rfl (by rw [star_cons hn]; rfl) hline rfl ?_
  refine Subscript_ (thn (ha.run pins s st H _ I (tE_bind re rh q fun v x m1 H1 h1 g1 re1 rh1 rx p1 => (⟨m1, h1, x, re1, rh1, rx, p1⟩ : ∃ m1 h1 x, REnv X.K m1 H1 st ev ∧ RelH X.K m1 H1 h1 ∧ Rep X.K m1 H1 v x ∧
    Post X.K (xi st) m1 H1 ((fb ev h1).bind fun u h2 => scntG fe ev x u h2) fun x m' H' => ∀ v, Rep X.K m' H' v x → Q v H'))) fun v s1 ⟨x, H1, I1, r1, m1, h1, xp, re1, rh1, rx, p1⟩ => ?_)
  refine wpAny_Slice ?_
  rw [evalPart_none]
  refine wpAny_pure ?_
  have pb : PO X (some b) (tPart (tE X.K xi fb)) := po_some hb
  refine thn (pb.run pins s1 st H1 (fun o H2 => ∃ n m2 h2, o = some n ∧ REnv X.K m2 H2 st ev ∧ RelH X.K m2 H2 h2 ∧ Rep X.K m2 H2 x xp ∧ Post X.K (xi st) m2 H2 (scntG fe ev xp (.int n) h2) fun x m' H' => ∀ v, Rep X.K m' H' v x → Q v H') I1 (tE_bind re1 rh1 p1 fun w u m2 H2 h2 g2 re2 rh2 ru p2 => ?_)) fun vu s2 ⟨o, H2, I2, pu, n, m2, h2, eo, re2, rh2, rx2, p2⟩ => ?_
  · cases u <;> try (cases xp <;> exact p2.elim)
    rename_i n
    cases ru
    exact ⟨n, rfl, n, m2, h2, rfl, re2, rh2, rx.grow g2, p2⟩
  subst eo
  obtain ⟨xs, rfl⟩ : ∃ xs, xp = .tup xs := by cases xp <;> first | exact ⟨_, rfl⟩ | exact p2.elim
  obtain ⟨hw, p2⟩ := Post.ite p2
  obtain ⟨ad, vs, rfl, hs, rv⟩ := tup_at rx2
  cases r1
  refine wpAny_pure ?_
  have I3 : L2.Inv X pins st H2 { s2 with heap := s2.heap.push { cls := .type "slice", data := .fields #[.none, vu, .none] } } := I2.kept (t' := s2.toks) fun b ob q => Heap.get?_push_of_some _ q
  obtain ⟨its, r, ht, hz⟩ := I3.tuple hs
  have hlen : its.toArray.size = xs.length := by rw [List.size_toArray, ← r.length, rv.length]
  refine tail_any (ops := [.ref s2.heap.objs.size, .ref ad]) ht.typeIs PyProof.Rows.slot_tuple_getitem.lookup ?_ (by with_unfolding_all rfl)
  refine HT.getItem_tuple_cut ht (Heap.IsSliceOf.new ..) .none pu (by rw [hlen]; exact fun z => hw z.2) ?_ (by rw [hlen, ← rv.length]; exact hz)
  dsimp only
  generalize hT : (s2.heap.push { cls := .type "slice", data := .fields #[.none, vu, .none] }).objs.size = T
  generalize hcut : ((its.toArray.toList.drop (HT.sIx its.toArray.size 0 none)).take (HT.sIx its.toArray.size its.toArray.size (some n) - HT.sIx its.toArray.size 0 none)) = cut
  have oT : ((s2.heap.push { cls := .type "slice", data := .fields #[.none, vu, .none] }).push { cls := .type "tuple", data := .seq cut.toArray }).get? T = some { cls := .type "tuple", data := .seq cut.toArray } := by
    rw [← hT]
    exact Heap.get?_push_size _ rfl
  have hcutV : Vals (vs.take (HT.sIx xs.length xs.length (some n))) cut := by
    rw [← hcut, hlen, HT.sIx_none]
    have := (r.drop 0).take (HT.sIx xs.length xs.length (some n) - 0)
    simpa using this
  have hlc : (vs.take (HT.sIx xs.length xs.length (some n))).length ≤ sizeLine := Nat.le_trans (by rw [List.length_take]; exact Nat.min_le_right _ _) hz
  have hTn : H2 T = none := by rw [← hT]; exact I3.hok.fresh (Nat.le_refl _)
  have I4 : L2.Inv X pins st (upd H2 T (.tup (vs.take (HT.sIx xs.length xs.length (some n))))) { s2 with heap := (s2.heap.push { cls := .type "slice", data := .fields #[.none, vu, .none] }).push { cls := .type "tuple", data := .seq cut.toArray } } := by
    rw [← hT]
    exact I3.laid (t' := s2.toks) (fun b ob q => Heap.get?_push_of_some _ q) (Nat.le_refl _) ⟨hlc, cut, hcutV, IsTup.new _ _⟩
  refine ⟨"tuple", "tuple.count", PySem.F.plainAttrs_tuple, PySem.F.slot_tuple_count, PySem.F.type_tuple_count, ⟨_, oT, rfl⟩, fun b hb => ?_, ?_⟩
  · cases hb
    exact ⟨_, oT, rfl⟩
  have g3 : Grow m2 H2 m2 (upd H2 T (.tup (vs.take (HT.sIx xs.length xs.length (some n))))) := Grow.junk hTn
  have hA := (pa_cons he pa_nil (star_cons hn)).run cpos pins _ st _ (fun ys H5 => ∃ y m5 h5 vy, ys = [vy] ∧ RelH X.K m5 H5 h5 ∧ Rep X.K m5 H5 vy y ∧ H5 T = some (.tup (vs.take (HT.sIx xs.length xs.length (some n)))) ∧ Post X.K (xi st) m5 H5 (scntF (.tup xs) (.int n) y h5) fun x m' H' => ∀ v, Rep X.K m' H' v x → Q v H') I4
    (tE_bind (re2.grow g3) (rh2.junk hTn) (Post.grow g3 p2) fun w y m5 H5 h5 g5 re5 rh5 ry p5 => ⟨y, m5, h5, w, rfl, rh5, ry, g5.kp.tup _ _ upd_same, p5⟩)
  rw [star_cons hn] at hA ⊢
  refine Calls.callWith_builtin rfl (Calls.evalArgs_plain (thn hA fun us s5 ⟨ys, H5, I5, r5, y, m5, h5, vy, ey, rh5, ry, eT, p5⟩ => ?_))
  subst ey
  obtain ⟨uy, rfl, ruy⟩ := vals1 r5
  cases y <;> try exact p5.elim
  rename_i k
  cases ry
  obtain ⟨tk, rfl⟩ := ruy
  unfold scntF at p5
  dsimp only at p5
  cases ei : intsOf xs with
  | none => rw [ei] at p5; exact p5.elim
  | some ns =>
    rw [ei] at p5
    dsimp only at p5
    obtain ⟨_, p5⟩ := Post.ite p5
    obtain ⟨hz5, its5, rv5, o5, ho5, hc5, n5, hd5⟩ := I5.hok T _ eT
    obtain ⟨cls, dd, data, sl⟩ := o5
    simp only at hc5 hd5
    subst hc5 hd5
    have e1 := intsOf_eq ei
    subst e1
    have e2 := rv.ints
    subst e2
    rw [← List.map_take] at rv5
    refine call_meets PySem.F.slot_tuple_count ⟨_, ho5, rfl⟩ PySem.F.entry_tuple_count (PySem.F.args_tuple_count_2 _ _) (SeqAt.tuple_countAt T its5.toArray n5 dd sl (.int k tk) (eqU (.int k))) ⟨ho5, fun y hy => ?_, ?_⟩
    · exact mem_eqAt (x := .int k) ⟨tk, rfl⟩ rfl rv5 (List.all_eq_true.mpr fun z hz => by
        obtain ⟨i, _, rfl⟩ := List.mem_map.mp hz
        rfl) y (by simpa using hy)
    · refine ⟨.int _, H5, I5.tok _, ⟨_, rfl⟩, ?_⟩
      rw [show (its5.toArray.toList.countP (eqU (.int k))) = _ from countP_eqU rv5]
      exact p5.now rh5 _ .int
end

/-! ### sorted(set(xs)) -/
theorem insS_mem {k j : Int} : ∀ {xs : List Int}, j ∈ insS k xs ↔ j = k ∨ j ∈ xs
  | [] => by simp [insS]
  | x :: xs => by
    unfold insS
    split
    · simp
    · split
      · rename_i e
        subst e
        simp
      · rw [List.mem_cons, insS_mem (xs := xs), List.mem_cons]
        constructor
        · rintro (h | h | h) <;> simp [h]
        · rintro (h | h | h) <;> simp [h]
theorem insS_asc {k : Int} : ∀ {xs : List Int}, xs.Pairwise (· < ·) → (insS k xs).Pairwise (· < ·)
  | [], _ => by simp [insS]
  | x :: xs, h => by
    obtain ⟨h1, h2⟩ := List.pairwise_cons.mp h
    unfold insS
    split
    · rename_i e
      refine List.pairwise_cons.mpr ⟨fun y hy => ?_, h⟩
      rcases List.mem_cons.mp hy with rfl | hy
      · exact e
      · have := h1 y hy; omega
    · split
      · exact h
      · refine List.pairwise_cons.mpr ⟨fun y hy => ?_, insS_asc h2⟩
        rcases insS_mem.mp hy with rfl | hy
        · omega
        · exact h1 y hy
theorem ssetL_mem {j : Int} : ∀ {ns : List Int}, j ∈ ssetL ns ↔ j ∈ ns
  | [] => by simp [ssetL]
  | n :: ns => by
    show j ∈ insS n (ssetL ns) ↔ _
    rw [insS_mem, ssetL_mem, List.mem_cons]
theorem ssetL_asc : ∀ {ns : List Int}, (ssetL ns).Pairwise (· < ·)
  | [] => by simp [ssetL]
  | n :: ns => insS_asc ssetL_asc
theorem asc_one : ∀ {xs ys : List Int}, xs.Pairwise (· < ·) → ys.Pairwise (· < ·) → (∀ k, k ∈ xs ↔ k ∈ ys) → xs = ys
  | [], [], _, _, _ => rfl
  | [], y :: ys, _, _, h => by
    have := (h y).mpr List.mem_cons_self
    cases this
  | x :: xs, [], _, _, h => by
    have := (h x).mp List.mem_cons_self
    cases this
  | x :: xs, y :: ys, hx, hy, h => by
    obtain ⟨a1, a2⟩ := List.pairwise_cons.mp hx
    obtain ⟨b1, b2⟩ := List.pairwise_cons.mp hy
    have e : x = y := by
      rcases List.mem_cons.mp ((h x).mp List.mem_cons_self) with e | e
      · exact e
      · rcases List.mem_cons.mp ((h y).mpr List.mem_cons_self) with e2 | e2
        · exact e2.symm
        · have := a1 y e2
          have := b1 x e
          omega
    subst e
    rw [asc_one a2 b2 fun k => ?_]
    have hk := h k
    rw [List.mem_cons, List.mem_cons] at hk
    constructor
    · intro m
      rcases hk.mp (.inr m) with e | m2
      · have := a1 k m; omega
      · exact m2
    · intro m
      rcases hk.mpr (.inr m) with e | m2
      · have := b1 k m; omega
      · exact m2
section
variable {X : Cx} {xj : XJ} {xi : XI} {a : Expr} {fa : Ev → IH → Res PV} {p p2 pos cpos : Pos}
theorem se_sset (hc : X.calm = true) (hg : Gl X "sorted") (hm : X.mg "sorted" = none) (hg2 : Gl X "set") (hm2 : X.mg "set" = none) (hn : notStar a = true) (ha : PE X a (tE X.K xi fa)) :
    PE X (.Call (.Name "sorted" p) [.Call (.Name "set" p2) [a] [] cpos] [] pos) (tE X.K xi fun ev h => (fa ev h).bind fun x h1 => ssetF x h1) := by
  have inner := pe_callTy (pos := cpos) (p := p2) (cr_setL hc) hg2 hm2 (by rfl) (pa_cons ha pa_nil (star_cons hn)) (by decide) (by decide) (star_cons hn) (plain_of (es := []) rfl)
  have outer := pe_callB (pos := pos) (p := p) (cr_sortedN hc) hg hm (by rfl) (pa_cons inner pa_nil (star_cons rfl)) (by decide) (by decide) (star_cons rfl) (plain_of (es := []) rfl)
  refine PEm outer fun st H Q ⟨ev, m, h, re, rh, q⟩ => ?_
  refine tE_bind re rh q fun v x m1 H1 h1 g1 re1 rh1 rx p1 => ?_
  unfold ssetF at p1
  cases e : (rd h1 x).bind intsOf with
  | none => rw [e] at p1; exact p1.elim
  | some ns =>
    rw [e] at p1
    obtain ⟨hl, p1⟩ := Post.ite p1
    obtain ⟨b, rfl, hs⟩ := ints_at rh1 rx e
    refine ⟨b, ns, rfl, hs, by unfold scanBound; omega, fun l c hcn hl1 => ⟨l, _, c, rfl, upd_same, by omega, fun ns' l2 asc mem len hl2 => ?_⟩⟩
    have es : ns' = ssetL ns := asc_one asc ssetL_asc fun k => by
      rw [mem k, ssetL_mem]
      simp
    subst es
    obtain ⟨r, g⟩ := RelH.laid (rh1.junk hl1) hl2 (Reps.ofInts (ssetL ns))
    have ne : l2 ≠ l := fun z => by rw [z, upd_same] at hl2; cases hl2
    have hl2' := hl2
    exact (new_at (rh1.junk hl1) (Reps.ofInts (ssetL ns)) (Post.grow (Grow.junk hl1) p1)).2 l2 hl2
end

/-! ### isinstance(x, int) -/
theorem kit_all (t : Ty) : ∀ a ∈ (["NoneType", "bool", "int", "str", "tuple", "list", "dict"] : List String), kitB a t.word = some (decide (a = t.word) || (decide (a = "bool") && decide (t = .int))) := by
  cases t <;> decide +kernel
theorem tyOf_mem {h : IH} {x : PV} {a : String} (e : tyOf h x = some a) : a ∈ (["NoneType", "bool", "int", "str", "tuple", "list", "dict"] : List String) := by
  cases x with
  | ref i =>
    cases hy : h[i]? with
    | none => simp [tyOf, hy] at e
    | some u => cases u <;> (simp [tyOf, hy] at e; subst e; decide)
  | _ => cases e; decide
theorem ty_of {K : PySem.W.Frag} {m : List Addr} {H : Hp} {h : IH} {x : PV} {v : V} {a : String} (rh : RelH K m H h) (r : Rep K m H v x) (e : tyOf h x = some a) : TyX K H v (.type a) := by
  cases x with
  | non => cases r; cases e; exact .base .non
  | bl b => cases r; cases e; exact .base (.bl _)
  | int i => cases r; cases e; exact .base (.int _)
  | str i => cases r; cases e; exact .base (.str _)
  | tup xs =>
    cases e
    cases r with
    | tup h1 h2 =>
      rcases h1 with (h1 | ⟨o, h1⟩) | ⟨o, its, n, h1, hc, _⟩
      · exact .base (.tup h1)
      · exact .fTuple h1
      · exact .kTuple h1 hc
  | fl xs =>
    cases e
    cases r with
    | fl h1 h2 =>
      rcases h1 with ⟨o, h1⟩ | ⟨o, its, n, h1, hc, _⟩
      · exact .base (.frz h1)
      · exact .kList h1 hc
  | ref i =>
    cases r with
    | ref hp =>
      cases hy : h[i]? with
      | none => simp [tyOf, hy] at e
      | some u =>
        have q := rh.at' i _ _ hy hp
        cases u with
        | lst ys =>
          simp [tyOf, hy] at e
          subst e
          obtain ⟨vs, h1, _⟩ := q
          exact .base (.lst h1)
        | dct ys =>
          simp [tyOf, hy] at e
          subst e
          obtain ⟨ws, h1, _⟩ := q
          exact .base (.dK h1)
def Ty.name : Ty → Str
  | .int => "int" | .bool => "bool" | .str => "str" | .tuple => "tuple" | .list => "list"
theorem Ty.boot (t : Ty) : bootBuiltins t.name = some (.type t.word) := by cases t <;> decide +kernel
section
variable {X : Cx} {xj : XJ} {xi : XI} {a : Expr} {fa : Ev → IH → Res PV} {p p2 pos : Pos}
theorem se_isin (t : Ty) (hg : Gl X "isinstance") (hm : X.mg "isinstance" = none) (hg2 : Gl X t.name) (hm2 : X.mg t.name = none) (hn : notStar a = true) (ha : PE X a (tE X.K xi fa)) :
    PE X (.Call (.Name "isinstance" p) [a, .Name t.name p2] [] pos) (tE X.K xi fun ev h => (fa ev h).bind fun x h1 => isF t x h1) := by
  have hw : PE X (.Name t.name p2) (tC (.ty t.word)) := pe_bltn hg2 hm2 t.boot rfl (by cases t <;> decide) (by cases t <;> decide)
  have q := pe_callB (pos := pos) (p := p) call_isi hg hm boot_isinstance (pa_cons ha (pa_cons hw pa_nil (star_cons rfl)) (star_cons hn)) (by decide) (by decide) (star_cons hn) (plain_of (es := [.Name t.name p2]) rfl)
  refine PEm q fun st H Q ⟨ev, m, h, re, rh, q⟩ => ?_
  refine tE_bind re rh q fun v x m1 H1 h1 g1 re1 rh1 rx p1 => ?_
  unfold isF at p1
  cases e : tyOf h1 x with
  | none => rw [e] at p1; exact p1.elim
  | some n =>
    rw [e] at p1
    exact ⟨v, .ty t.word, .type n, .type t.word, _, rfl, .ty t.word, ty_of rh1 rx e, kit_ty (kit_all t n (tyOf_mem e)), p1.now rh1 _ .bl⟩
/-- names of built-in classes -/
def tyNames (sc : Scope) : List Ty → List Expr → Bool
  | [], [] => true
  | t :: ts, e :: es => (match e with
    | .Name z _ => decide (z = t.name) && decide (sc.names.lookup z = some .globalImplicit)
    | _ => false) && tyNames sc ts es
  | _, _ => false
theorem tyNames_pa : ∀ {ts : List Ty} {es : List Expr}, tyNames X.env.scope ts es = true → (∀ t ∈ ts, X.mg t.name = none) → PA X es (fun σ H Q => Q (ts.map fun t => V.ty t.word) H)
  | [], [], _, _ => pa_nil
  | [], _ :: _, h, _ => by cases h
  | _ :: _, [], h, _ => by cases h
  | t :: ts, e :: es, h, hm => by
    unfold tyNames at h
    rw [Bool.and_eq_true] at h
    obtain ⟨h1, h2⟩ := h
    cases e <;> try (cases h1; done)
    simp only [Bool.and_eq_true, decide_eq_true_eq] at h1
    obtain ⟨rfl, g⟩ := h1
    exact pa_cons (pe_bltn (v := V.ty t.word) g (hm t List.mem_cons_self) t.boot rfl (by cases t <;> decide) (by cases t <;> decide)) (tyNames_pa h2 fun u hu => hm u (List.mem_cons_of_mem _ hu)) (star_cons rfl)
theorem kit_some {K : PySem.W.Frag} {n : String} (hn : ∀ t : Ty, PySem.W.kitOne K (.type n) (.type t.word) = some (decide (n = t.word) || (decide (n = "bool") && decide (t = .int)))) : ∀ ts : List Ty, PySem.W.kitAny K (.type n) (ts.map fun t => .type t.word) = some (isA ts n)
  | [] => rfl
  | t :: ts => by
    refine kitAny_cons (hn t) (fun e => ?_) fun e => ?_
    · rw [kit_some hn ts]
      unfold isA
      rw [List.any_cons, e, Bool.false_or]
    · unfold isA
      rw [List.any_cons, e, Bool.true_or]
theorem ty_paired : ∀ ts : List Ty, Paired ClsV (ts.map fun t => V.ty t.word) (ts.map fun t => Value.type t.word)
  | [] => .nil
  | t :: ts => .cons (.ty t.word) (ty_paired ts)
theorem se_isan {es : List Expr} {k : Nat} (ts : List Ty) (hg : Gl X "isinstance") (hm : X.mg "isinstance" = none) (ht : tyNames X.env.scope ts es = true) (hts : ∀ t ∈ ts, X.mg t.name = none) (hl : ts.length ≤ 100) (hn : notStar a = true) (ha : PE X a (tE X.K xi fa)) :
    PE X (.Call (.Name "isinstance" p) [a, .Tuple es k p2] [] pos) (tE X.K xi fun ev h => (fa ev h).bind fun x h1 => isanF ts x h1) := by
  have q := pe_callB (pos := pos) (p := p) call_isiT hg hm boot_isinstance (pa_cons ha (pa_cons (pe_tup (tyNames_pa ht hts)) pa_nil (star_cons rfl)) (star_cons hn)) (by decide) (by decide) (star_cons hn) (plain_of (es := [.Tuple es k p2]) rfl)
  refine PEm q fun st H Q ⟨ev, m, h, re, rh, q⟩ => ?_
  refine tE_bind re rh q fun v x m1 H1 h1 g1 re1 rh1 rx p1 => ?_
  unfold isanF at p1
  cases e : tyOf h1 x with
  | none => rw [e] at p1; exact p1.elim
  | some n =>
    rw [e] at p1
    refine ⟨by have : sizeLine = 2 ^ 24 := rfl; rw [List.length_map]; omega, fun t ht => ?_⟩
    exact ⟨v, t, _, .type n, _, _, rfl, upd_same, ty_paired ts, ty_of (rh1.junk ht) (rx.grow (Grow.junk ht)) e, kit_some (fun t => kit_ty (kit_all t n (tyOf_mem e))) ts, (Post.grow (Grow.junk ht) p1).now (rh1.junk ht) _ .bl⟩
end
end Vm

set_option Elab.async false
set_option linter.all false
set_option maxRecDepth 100000
set_option maxHeartbeats 8000000
/-! VmW: set(list of texts), sorted of it. -/
namespace Vm
open PySem PySem.Spec PyProof.Rows L2

/-- an entry's text -/
def txE (e : Int × Value) : Str := match e.2 with
  | .str z _ => z
  | _ => Str.empty
def TxOk (P : Program) (w : World) (e : Int × Value) : Prop := ∃ z t, e.2 = Value.str z t ∧ e.1 = (PySem.strKind P w).hash z
/-- a set of texts, as its table stands -/
def TxS (P : Program) (w : World) (h : Heap) (a : Addr) (M : Str → Bool) (c : Nat) : Prop :=
  ∃ ob tb ep t, h.get? a = some ob ∧ ob.ExactSet ∧ ob.data = .set tb ep t ∧ (∀ e ∈ tb.toList, TxOk P w e) ∧ (tb.toList.map txE).Nodup ∧ (∀ z, M z = true ↔ z ∈ tb.toList.map txE) ∧
    tb.size < scanBound ∧ t.fits tb.size = true ∧ tb.size = c ∧ Ris t.place.toList ∧ (w.params.followText "set-order" = true ∨ t.led = true)
section
variable {P : Program} {w : World} {h h' : Heap} {a : Addr} {M : Str → Bool} {c : Nat}
theorem TxS.stay (R : TxS P w h a M c) (k : ∀ ob, h.get? a = some ob → h'.get? a = some ob) : TxS P w h' a M c := by
  obtain ⟨ob, tb, ep, t, ho, r⟩ := R
  exact ⟨ob, tb, ep, t, k ob ho, r⟩
theorem TxS.as {M' : Str → Bool} (R : TxS P w h a M c) (e : ∀ z, M' z = M z) : TxS P w h a M' c := by
  have : M' = M := funext e
  rw [this]
  exact R
theorem tx_elems {l : List (Int × Value)} (g : ∀ e ∈ l, TxOk P w e) : ElemsOf (PySem.strKind P w) l := fun e he => by
  obtain ⟨z, t, e1, e2⟩ := g e he
  exact ⟨⟨z, by rw [e1]; exact strKind_is P w z t, e2⟩, by rw [e1]; rfl⟩
theorem tx_is {e : Int × Value} (g : TxOk P w e) (z : Str) : (PySem.strKind P w).is z e.2 = true ↔ txE e = z := by
  obtain ⟨y, t, e1, _⟩ := g
  have his : (PySem.strKind P w).is y e.2 = true := by rw [e1]; exact strKind_is P w y t
  have ek : txE e = y := by unfold txE; rw [e1]
  rw [ek]
  constructor
  · intro q
    have := KeyKind.is_eq_decide his z
    rw [this] at q
    exact (of_decide_eq_true q).symm
  · intro q
    rw [← q]
    exact his
theorem tx_mem {l : List (Int × Value)} (g : ∀ e ∈ l, TxOk P w e) (z : Str) : z ∈ l.map txE ↔ ∃ e ∈ l, (PySem.strKind P w).is z e.2 = true := by
  constructor
  · intro q
    obtain ⟨e, he, q⟩ := List.mem_map.mp q
    exact ⟨e, he, (tx_is (g e he) z).mpr q⟩
  · intro ⟨e, he, q⟩
    exact List.mem_map.mpr ⟨e, he, (tx_is (g e he) z).mp q⟩
end
section
variable {P : Program} {w : World} {A : Around} {E : Value → Shared → Prop} {s : Shared} {a : Addr} {M : Str → Bool} {c : Nat}
theorem tx_tail {gv : Bool → Sem Unit} (hg : ∀ (b : Bool) (s1 : Shared) (Q1 : Unit → Shared → Prop), Q1 () s1 → wpAny (model P w) A (gv b) Q1 E s1)
    {ob : Obj} {tb : Array (Int × Value)} {ep : Nat} {t : SetTable} (ho : s.heap.get? a = some ob) (hx : ob.ExactSet) (hd : ob.data = .set tb ep t)
    {tb1 : Array (Int × Value)} {t1 : SetTable} {M1 : Str → Bool} (ok1 : ∀ e ∈ tb1.toList, TxOk P w e) (nd1 : (tb1.toList.map txE).Nodup) (m1 : ∀ z, M1 z = true ↔ z ∈ tb1.toList.map txE)
    (sm1 : tb1.size < scanBound) (ft1 : t1.fits tb1.size = true) (ri1 : Ris t1.place.toList) (ld1 : w.params.followText "set-order" = true ∨ t1.led = true) {wd : Bool} {R : Option Bool → Shared → Prop}
    (hR : ∀ h1, Heap.SameBut a s.heap h1 → TxS P w h1 a M1 tb1.size → R (some true) { s with heap := h1 }) :
    wpAny (model P w) A (storeSet a tb1 t1 >>= fun _ => if (!wd && t1.tooFull) = true then (do
        gv (relayAll t1 tb1 (SetTable.grown tb1.size)).2.2
        storeSet a (relayAll t1 tb1 (SetTable.grown tb1.size)).1 (relayAll t1 tb1 (SetTable.grown tb1.size)).2.1
        pure (some true)) else pure (some true)) R E s := by
  refine wpAny_bind (wpAny_storeSet_of ho hd ?_ (fits_of_scanBound sm1))
  have ho1 := store_at (es' := tb1) (t' := t1) ho hd
  have sb1 := Heap.SameBut.update s.heap a (Obj.putSet tb1 t1)
  split
  · have q1 := relayAll_perm t1 tb1 (SetTable.grown tb1.size)
    have q2 := relayAll_fits t1 tb1 (SetTable.grown tb1.size)
    have q3 := relayAll_ris t1 tb1 (SetTable.grown tb1.size)
    have q4 := relayAll_led t1 tb1 (SetTable.grown tb1.size)
    generalize relayAll t1 tb1 (SetTable.grown tb1.size) = Z at q1 q2 q3 q4 ⊢
    obtain ⟨tb2, t2, gw⟩ := Z
    dsimp only at q1 q2 q3 q4 ⊢
    have sz : tb2.size = tb1.size := by rw [← Array.length_toList, q1.length_eq, Array.length_toList]
    have sm2 : tb2.size < scanBound := by omega
    refine wpAny_bind (hg _ _ _ ?_)
    refine wpAny_bind (wpAny_storeSet_of ho1 rfl ?_ (fits_of_scanBound sm2))
    have ho2 := store_at (es' := tb2) (t' := t2) ho1 rfl
    refine wpAny_pure (hR _ (sb1.trans (Heap.SameBut.update _ a _)) ?_)
    refine ⟨_, tb2, _, t2, ho2, hx, rfl, fun e he => ok1 e (q1.mem_iff.mp he), (q1.map txE).nodup_iff.mpr nd1, fun z => (m1 z).trans (q1.map txE).mem_iff.symm, sm2, q2, sz, q3, ?_⟩
    rcases ld1 with z | z
    · exact .inl z
    · exact .inr (by rw [q4]; exact z)
  · exact wpAny_pure (hR _ sb1 ⟨_, tb1, _, t1, ho1, hx, rfl, ok1, nd1, m1, sm1, ft1, rfl, ri1, ld1⟩)

theorem tx_put {z : Str} {tk : Tok} {Q : Bool → Shared → Prop} (R : TxS P w s.heap a M c) (room : c + 1 < scanBound)
    (hQ : ∀ h1, Heap.SameBut a s.heap h1 → TxS P w h1 a (fun j => M j || decide (j = z)) (if M z = true then c else c + 1) → Q (!M z) { s with heap := h1 }) :
    wpAny (model P w) A (setAddHashed a (.str z tk) ((PySem.strKind P w).hash z)) Q E s := by
  obtain ⟨ob, tb, ep, t, ho, hx, hd, g, nd, hm, sm, ft, hn, ri, ld⟩ := R
  have key : (PySem.strKind P w).is z (.str z tk) = true := strKind_is P w z tk
  have sc : (Value.str z tk).scannable = true := rfl
  have el : ElemsOf (PySem.strKind P w) tb.toList := tx_elems g
  unfold setAddHashed setAddHashedIn
  refine wpAny_holding (wpAny_bind (wpAny_setState_of ho hd ft ?_))
  dsimp only
  rw [byScan_of sc sm el]
  simp only [↓reduceIte]
  unfold setAddByScan
  refine wpAny_bind (wpAny_bind (wpAny_rule (wpAny_bind (wpAny_setScan_of key ho hd ft el ?_))))
  cases fi : List.findIdx? (fun e => (PySem.strKind P w).is z e.2) tb.toList with
  | some j =>
    dsimp only
    obtain ⟨hj, pj, _⟩ := List.findIdx?_eq_some_iff_getElem.mp fi
    have hz : M z = true := (hm z).mpr ((tx_mem g z).mpr ⟨tb.toList[j], List.getElem_mem hj, pj⟩)
    refine wpAny_pure (wpAny_pure ?_)
    have q := hQ s.heap (Heap.SameBut.refl a s.heap) ⟨ob, tb, ep, t, ho, hx, hd, g, nd, fun i => ?_, sm, ft, by rw [if_pos hz]; exact hn, ri, ld⟩
    · rw [hz] at q
      exact q
    · rw [Bool.or_eq_true, decide_eq_true_eq, ← hm i]
      exact ⟨fun y => y.elim id (fun e => by rw [e]; exact hz), .inl⟩
  | none =>
    dsimp only
    have nz : z ∉ tb.toList.map txE := fun y => by
      obtain ⟨e, he, q⟩ := (tx_mem g z).mp y
      have d := List.findIdx?_eq_none_iff.mp fi e he
      rw [q] at d
      cases d
    have hz : M z = false := by
      cases q : M z with
      | false => rfl
      | true => exact absurd ((hm z).mp q) nz
    have gw : ∀ (b : Bool) {s1 : Shared} {Q1 : Unit → Shared → Prop}, Q1 () s1 → wpAny (model P w) A (match b with | true => rule "set.scan.the-table-gave-way" | false => pure ()) Q1 E s1 :=
      fun b s1 Q1 q => by
        cases b
        · exact wpAny_pure q
        · exact wpAny_rule q
    have q1 := layNew_perm t tb ((PySem.strKind P w).hash z) (.str z tk)
    have q2 := layNew_fits t tb ((PySem.strKind P w).hash z) (.str z tk)
    have q3 := layNew_ris t tb ((PySem.strKind P w).hash z) (.str z tk) ri
    have q4 := layNew_led t tb ((PySem.strKind P w).hash z) (.str z tk)
    generalize layNew t tb ((PySem.strKind P w).hash z) (.str z tk) = Z at q1 q2 q3 q4 ⊢
    obtain ⟨tb1, t1, wd, gave⟩ := Z
    dsimp only at q1 q2 q3 q4 ⊢
    rw [Array.toList_push] at q1
    have pc : tb1.toList.Perm (((PySem.strKind P w).hash z, Value.str z tk) :: tb.toList) := q1.trans (List.perm_append_singleton _ _)
    have pk : (tb1.toList.map txE).Perm (z :: tb.toList.map txE) := pc.map txE
    have ok1 : ∀ e ∈ tb1.toList, TxOk P w e := fun e he => by
      rcases List.mem_cons.mp (pc.mem_iff.mp he) with y | y
      · rw [y]; exact ⟨z, tk, rfl, rfl⟩
      · exact g e y
    have nd1 : (tb1.toList.map txE).Nodup := pk.nodup_iff.mpr (List.nodup_cons.mpr ⟨nz, nd⟩)
    have m1 : ∀ i, (M i || decide (i = z)) = true ↔ i ∈ tb1.toList.map txE := fun i => by
      rw [pk.mem_iff, Bool.or_eq_true, decide_eq_true_eq, hm i, List.mem_cons]
      exact Or.comm
    have sz : tb1.size = c + 1 := by rw [← Array.length_toList, pc.length_eq, List.length_cons, Array.length_toList, hn]
    have sm1 : tb1.size < scanBound := by omega
    have ld1 : w.params.followText "set-order" = true ∨ t1.led = true := by
      rcases ld with y | y
      · exact .inl y
      · exact .inr (by rw [q4]; exact y)
    have fin : ∀ h1, Heap.SameBut a s.heap h1 → TxS P w h1 a (fun j => M j || decide (j = z)) tb1.size → Q true { s with heap := h1 } := fun h1 sb r => by
      have q := hQ h1 sb
      rw [hz] at q
      rw [sz] at r
      exact q r
    refine wpAny_bind (gw _ ?_)
    split
    · refine wpAny_bind ?_
      rw [hashByValue_scannable 8 sc]
      refine wpAny_pure ?_
      refine tx_tail ?_ ho hx hd ok1 nd1 m1 sm1 ?_ ?_ ?_ ?_
      · intro b s1 Q1 q
        cases b
        · exact wpAny_pure q
        · exact wpAny_rule q
      · first | (split <;> first | exact q2 | exact SetTable.fits_plain_off q2) | exact q2
      · first | (split <;> exact q3) | exact q3
      · first | (split <;> exact ld1) | exact ld1
      · intro h1 sb r
        dsimp only
        exact wpAny_pure (fin h1 sb r)
    · refine wpAny_bind (wpAny_pure ?_)
      simp only [↓reduceIte]
      refine tx_tail ?_ ho hx hd ok1 nd1 m1 sm1 q2 q3 ld1 ?_
      · intro b s1 Q1 q
        cases b
        · exact wpAny_pure q
        · exact wpAny_rule q
      · intro h1 sb r
        dsimp only
        exact wpAny_pure (fin h1 sb r)
end

/-! ### set(xs), xs a list of texts -/
section
variable {P : Program} {w : World} {A : Around} {E : Value → Shared → Prop} {s : Shared}
theorem tx_fill {I : Addr} {fp wr : List Addr} {G : Array GenState → Array GenState → Prop} {n : Nat} {Pv : Nat → Value → Prop} {St : Nat → Shared → Prop} {R : Result → Shared → Prop}
    (W : WalksS P w A.in1 I fp wr G n Pv St) (D : Addr) (hf : D ∉ fp) (zs : List Str) (hn : n = zs.length) (hb : zs.length + 1 < scanBound) (val : ∀ i v, Pv i v → ∃ z t, zs[i]? = some z ∧ v = .str z t) :
    ∀ (k i : Nat) (s : Shared), n - i = k → i ≤ n → St i s → (∃ c, c ≤ i ∧ TxS P w s.heap D (fun j => decide (j ∈ zs.take i)) c) →
      (∀ s1 c, Moved (D :: wr) G s s1 → c ≤ n → TxS P w s1.heap D (fun j => decide (j ∈ zs)) c → R (.ok (.ret .none)) s1) →
      codeAny (model P w) A (.builtin "set.update.loop" ⟨[.ref D, .ref I], []⟩) R s := by
  have hw : D ∉ wr := fun q => hf (W.sub _ q)
  have sub : ∀ b ∈ wr, b ∈ D :: wr := fun b q => List.mem_cons_of_mem _ q
  intro k
  induction k with
  | zero =>
    intro i s hk hi st ⟨c, hc, T⟩ hR
    have hin : i = n := by omega
    subst hin
    refine codeAny_builtin F.entry_set_update_loop ?_
    rw [Around.under_plainId F.plain_set_update_loop _]
    show wpAny _ A.in1 (pyNext (.ref I) >>= _) _ _ s
    refine wpAny_bind (W.done s _ _ st fun s1 mv => ?_)
    show wpAny _ A.in1 (ret Value.none) _ _ s1
    rw [List.take_of_length_le (show zs.length ≤ i by omega)] at T
    exact wpAny_pure (hR s1 c (mv.mono sub) hc (T.stay fun ob e => mv.heap D ob hw e))
  | succ k ih =>
    intro i s hk hi st ⟨c, hc, T⟩ hR
    have lt : i < n := by omega
    refine codeAny_builtin F.entry_set_update_loop ?_
    rw [Around.under_plainId F.plain_set_update_loop _]
    show wpAny _ A.in1 (pyNext (.ref I) >>= _) _ _ s
    refine wpAny_bind (W.item i s _ _ lt st fun v s1 pv st1 mv => ?_)
    obtain ⟨z, t, hz, rfl⟩ := val i v pv
    have T1 : TxS P w s1.heap D (fun j => decide (j ∈ zs.take i)) c := T.stay fun ob e => mv.heap D ob hw e
    show wpAny _ A.in1 (holding [Value.str z t] (setAdd D (.str z t)) >>= _) _ _ s1
    refine wpAny_bind (wpAny_holding ?_)
    unfold setAdd
    refine wpAny_holding (wpAny_bind ((PySem.strKind P w).pyHash (k := z) (strKind_is _ _ _ _) ?_))
    refine tx_put (s := { s1 with toks := s1.toks + 1 }) T1 (by omega) fun h1 sb T2 => ?_
    have T3 : TxS P w h1 D (fun j => decide (j ∈ zs.take (i + 1))) (if decide (z ∈ zs.take i) = true then c else c + 1) := T2.as fun j => by
      rw [List.take_add_one, hz]
      simp [List.mem_append]
    have hc3 : (if decide (z ∈ zs.take i) = true then c else c + 1) ≤ i + 1 := by
      split
      · omega
      · omega
    refine wpAny_pure ⟨plainId_quiet F.plain_set_update_loop _, ih (i + 1) _ (by omega) lt (W.frame _ s1 _ _ st1 (Nat.le_succ _) fun b q ob e => ?_) ⟨_, hc3, T3⟩ fun s2 c2 mv2 hc2 T4 => ?_⟩
    · rw [sb.2 b (fun y : b = D => hf (by rw [← y]; exact q))]
      exact e
    · refine hR s2 c2 (Moved.trans W.gtrans ((mv.mono sub).then_heap (Nat.le_succ _) fun b ob q e => ?_) mv2) hc2 T4
      rw [sb.2 b (fun y : b = D => q (by rw [y]; exact List.mem_cons_self))]
      exact e
/-- an empty set, as it is made -/
abbrev voidS (w : World) : Obj := { cls := .type "set", dict := none, data := .set #[] 0 (.fresh 0 0 (!w.params.followText "set-order")) }
theorem tx_void {h : Heap} {a : Addr} (e : h.get? a = some (voidS w)) : TxS P w h a (fun _ => false) 0 := by
  refine ⟨_, #[], 0, _, e, ⟨rfl, rfl, rfl⟩, rfl, fun x hx => by simp at hx, by simp, fun z => by simp, by decide, rfl, rfl, ?_, ?_⟩
  · exact List.Pairwise.nil
  · cases q : w.params.followText "set-order" with
    | true => exact .inl rfl
    | false => exact .inr rfl
theorem strs_in : ∀ {us : List Value} {zs : List Str}, StrsAre us zs → ∀ (i : Nat) (v : Value), us[i]? = some v → ∃ t, v = .str (zs.getD i Str.empty) t
  | _, _, .nil, i, v, e => by simp at e
  | _, _, .cons z t r, 0, v, e => by
    simp at e
    exact ⟨t, e.symm⟩
  | _, _, .cons z t r, i + 1, v, e => by
    obtain ⟨u, q⟩ := strs_in r i v (by simpa using e)
    exact ⟨u, by simpa using q⟩
theorem set_listT {l : Addr} {us : Array Value} (zs : List Str) {Q : Value → Shared → Prop} (hh : A.handled = none) (hl : s.heap.IsList l us) (hi : StrsAre us.toList zs) (hb : zs.length + 1 < scanBound)
    (q : ∀ (g : Heap) (tk c : Nat), TxS P w g s.heap.objs.size (fun j => decide (j ∈ zs)) c → c ≤ zs.length → (∀ b o, s.heap.get? b = some o → g.get? b = some o) → Q (.ref s.heap.objs.size) { s with heap := g, toks := tk }) :
    wpAny (model P w) A (call (.type "set") [.ref l]) Q E s := by
  have hn : us.size = zs.length := by
    have z := congrArg List.length hi.strs
    rw [List.length_map, Array.length_toList] at z
    exact z
  obtain ⟨c0, tl, m1⟩ := PySem.F.called_set.mro
  have m2 := PySem.F.called_set.made
  have m3 := PySem.F.called_set.sub
  refine wpAny_call (codeAny_of_tree ?_)
  show wpAny _ _ (callAny (.type "set") _) _ _ _
  refine wpAny_pure ⟨Code.quiet_builtin _ (by decide +kernel), codeAny_builtin PySem.F.entry_type_call ?_⟩
  rw [Around.under_plain (weight_type_call_type "set" [.ref l] []) rfl]
  have m4 := PySem.F.called_set.notType
  have m5 := PySem.F.called_set.canCreate
  have m6 := PySem.F.typeCall_set_1 (.ref l)
  repeat (any_goals (first | assumption | wp_step))
  refine codeAny_mono (code_set_led1 (.ref l) (E := E) (Q₁ := fun x t => x = .ref s.heap.objs.size ∧ t = { s with heap := s.heap.push (voidS w) }) ⟨rfl, rfl⟩) fun r t hr => ?_
  rcases r with e | fl
  · exact hr
  cases fl <;> try exact hr.elim
  obtain ⟨rfl, rfl⟩ := hr
  generalize hg0 : s.heap.push (voidS w) = g0
  have z0 : g0.objs.size = s.heap.objs.size + 1 := by rw [← hg0]; exact Heap.size_push ..
  have oS : g0.get? s.heap.objs.size = some (voidS w) := by rw [← hg0]; exact Heap.get?_push_size _ rfl
  have k0 : ∀ b o, s.heap.get? b = some o → g0.get? b = some o := fun b o e => by rw [← hg0]; exact Heap.get?_push_of_some _ e
  have tS : Shared.TypeIs { s with heap := g0 } (.ref s.heap.objs.size) "set" := ⟨_, oS, rfl⟩
  have m7 := PySem.F.called_set.init.lookup
  have m8 := PySem.F.called_set.init.bind (.ref s.heap.objs.size)
  repeat (any_goals (first | assumption | wp_step))
  refine codeAny_mono (codeAny_call_builtin (R := wants (fun r t => r = .none ∧ ∃ g tk c, t = { s with heap := g, toks := tk } ∧ TxS P w g s.heap.objs.size (fun j => decide (j ∈ zs)) c ∧ c ≤ zs.length ∧ (∀ b o, s.heap.get? b = some o → g.get? b = some o)) E)
    PySem.F.called_set.init.plain PySem.F.entry_set_init (check_set_init_1 tS ?_)) fun r t hr => ?_
  · obtain ⟨⟨c1, d1, e1, f1⟩, o1, h1, n1, h2⟩ := hl
    simp only at h1 h2
    subst h1 h2
    have o2 := k0 _ _ o1
    have b1 := PySem.F.sub_list_set
    have b2 := PySem.F.sub_list_frozenset
    have b3 : (Value.type "list" == Value.type "dict") = false := by decide
    have l0 : g0.IsList l us := ⟨_, o2, rfl, n1, rfl⟩
    have lS := Heap.lt_size o1
    unfold Builtin.«set.__init__» noKeywords Builtin.Frozenset.updateFrom
    generalize hw : pyIter = walk
    wp_walk
    subst hw
    refine wpAny_pyIter_list l0 (wpAny_bind (wpAny_runValue ?_))
    have nI : l ≠ g0.objs.size := by (rw [z0]; exact Nat.ne_of_lt (Nat.lt_succ_of_lt lS))
    have nS : s.heap.objs.size ∉ [g0.objs.size, l] := by
      intro z
      rcases List.mem_cons.mp z with z | z
      · exact Nat.ne_of_lt (by rw [z0]; exact Nat.lt_succ_self _) z
      · exact Nat.ne_of_gt lS (List.mem_singleton.mp z)
    refine tx_fill ((Walks.list (by simp [hh]) _ l nI us).toS) s.heap.objs.size nS zs hn hb (fun i v hv => ?_) (us.size - 0) 0 _ (by omega) (Nat.zero_le _) ⟨⟨_, Heap.get?_push_size _ rfl, rfl, rfl⟩, l0.push _⟩ ?_ ?_
    · obtain ⟨t, e⟩ := strs_in hi i v (by rw [Array.getElem?_toList]; exact hv)
      have lt : i < zs.length := by rw [← hn]; exact (Array.getElem?_eq_some_iff.mp hv).1
      refine ⟨zs[i], t, List.getElem?_eq_getElem lt, ?_⟩
      rw [e, List.getD_eq_getElem?_getD, List.getElem?_eq_getElem lt] <;> rfl
    · exact ⟨0, Nat.le_refl 0, (tx_void (Heap.get?_push_of_some _ oS)).as fun z => by simp⟩
    · rintro ⟨g, ge, dr, tk, os⟩ c mv hc hR
      obtain rfl : ge = s.gens := mv.gens
      obtain rfl : dr = s.drawn := mv.drawn
      obtain rfl : os = s.os := mv.os
      show wpAny _ _ _ _ _ _
      refine wpAny_pure ?_
      show wpAny _ _ (ret Value.none) _ _ _
      refine wpAny_pure ⟨rfl, g, tk, c, rfl, hR, by omega, fun b o e => mv.heap b o (fun z => ?_) (Heap.get?_push_of_some _ (k0 b o e))⟩
      have lb := Heap.lt_size e
      rcases List.mem_cons.mp z with z | z
      · exact Nat.ne_of_lt lb z
      · exact Nat.ne_of_lt (by rw [z0]; exact Nat.lt_succ_of_lt lb) (List.mem_singleton.mp z)
  · rcases r with e | fl
    · exact hr
    cases fl <;> try exact hr.elim
    obtain ⟨rfl, g, tk, c, rfl, hR, hc, hk⟩ := hr
    repeat (any_goals (first | assumption | wp_step))
    exact q _ _ _ hR hc hk
/-! ### sorted of it -/
theorem strs_back : ∀ (l : List Value), (∀ v ∈ l, ∃ z t, v = Value.str z t) → StrsAre l (l.map fun v => match v with | .str z _ => z | _ => Str.empty)
  | [], _ => .nil
  | v :: l, k => by
    obtain ⟨z, t, rfl⟩ := k v List.mem_cons_self
    exact .cons z t (strs_back l fun u hu => k u (List.mem_cons_of_mem _ hu))
theorem sorted_setT {a : Addr} {M : Str → Bool} {c : Nat} {Q : Value → Shared → Prop} (R : TxS P w s.heap a M c) (hh : A.handled = none)
    (hQ : ∀ s1 p (out : Array Value) (e : Nat) (zs : List Str), (∀ b o, s.heap.get? b = some o → s1.heap.get? b = some o) → s1.gens = s.gens → s1.os = s.os → s.heap.objs.size ≤ p →
      s1.heap.get? p = some (seqObj "list" out e) → StrsAre out.toList zs → sortedS zs = true → zs.Nodup → (∀ z, z ∈ zs ↔ M z = true) → zs.length = c → Q (.ref p) s1) :
    wpAny (model P w) A (call (.builtin "sorted") [.ref a]) Q E s := by
  obtain ⟨ob, tb, ep, t, ho, hx, hd, g, nd, hm, sm, ft, hn, ri, ld⟩ := R
  refine Calls.call_function_entry kind_sorted plain_sorted entry_sorted (args_sorted1 _) ?_
  unfold Builtin.«sorted»
  refine wpAny_bind (m := checkCount "sorted" 1 1 _) (wpAny_pure ?_)
  refine wpAny_bind (collect_set (A := A.in1) hh ⟨ob, ho, hx.1, hd⟩ ft sm ri ld fun s1 vs k1 hz g1 o1 pm => ?_)
  have vl : vs.length = c := by rw [pm.length_eq, List.length_map, Array.length_toList]; exact hn
  have hS : StrsAre vs (vs.map fun v => match v with | .str z _ => z | _ => Str.empty) := strs_back vs fun v hv => by
    obtain ⟨e, he, q⟩ := List.mem_map.mp (pm.mem_iff.mp hv)
    obtain ⟨z, tk, e1, _⟩ := g e he
    exact ⟨z, tk, by rw [← q]; exact e1⟩
  have pk : (vs.map fun v => match v with | .str z _ => z | _ => Str.empty).Perm (tb.toList.map txE) := by
    have q := pm.map (fun v => match v with | Value.str z _ => z | _ => Str.empty)
    rw [List.map_map] at q
    exact q
  have vz : vs.length ≤ sizeLine := by
    have : c < scanBound := by omega
    rw [vl, sizeLine_eq]
    unfold scanBound at this
    omega
  refine wpAny_bind (wpAny_newList ?_ vz)
  have oL : (s1.heap.push (seqObj "list" vs.toArray 0)).get? s1.heap.objs.size = some (seqObj "list" vs.toArray 0) := Heap.get?_push_size _ rfl
  refine wpAny_bind (wpAny_holding (wpAny_call_entry slot_list_sort ⟨_, oL, rfl⟩ entry_list_sort (list_sort_treeKAny strKind_oneLt oL hS.keysOf (fun v1 v2 rest e => keyKind_strs (by rw [← e]; exact hS)) vz fun st hp hs => ⟨_, rfl, ?_⟩) (args_list_sort _)))
  obtain ⟨zs, a1, a2, a3⟩ := sorted_out_str hS hp hs
  obtain ⟨e, he⟩ := sortedHeap_at (vs := vs) (out := (arrOf st).map (·.2)) oL
  have pn : zs.Perm (tb.toList.map txE) := a2.trans pk
  refine wpAny_pure ⟨_, rfl, hQ _ s1.heap.objs.size ((arrOf st).map (·.2)) e zs (fun b u q => ?_) g1 o1 hz he a1 a3 (pn.nodup_iff.mpr nd) (fun z => by rw [pn.mem_iff, ← hm z]) ?_⟩
  · have q1 := k1 b u q
    have lt := Heap.lt_size q1
    show (sortedHeap (s1.heap.push (seqObj "list" vs.toArray 0)) s1.heap.objs.size vs ((arrOf st).map (·.2))).get? b = some u
    rw [sortedHeap_old (Nat.ne_of_lt lt) (by rw [size_push']; exact Nat.lt_succ_of_lt lt)]
    exact Heap.get?_push_of_some _ q1
  · rw [pn.length_eq, List.length_map, Array.length_toList]
    exact hn
end
end Vm

set_option Elab.async false
set_option linter.all false
set_option maxRecDepth 100000
set_option maxHeartbeats 8000000
/-! VmN: texts, dicts with text keys, x in xs, pop, extend. -/
namespace Vm
open PySem PySem.Spec PyProof.Rows L2
variable [Tbs]
section
variable {X : Cx} {K : PySem.W.Frag} {xj : XJ} {xi : XI} {a b e : Expr} {fa fb : Ev → IH → Res PV} {pos p p2 cpos apos : Pos} {m : List Addr} {H : Hp} {h : IH}
/-! ### x in xs -/
theorem flat_rep {x : PV} {v u : V} (r : Rep K m H v x) (q : flatP x = some u) : v = u ∧ flatV u = true := by
  cases x <;> first | (cases q; done) | (cases r; cases q; exact ⟨rfl, rfl⟩)
theorem flats_rep : ∀ {vs : List V} {xs : List PV} {us : List V}, Reps K m H vs xs → flatsP xs = some us → vs = us ∧ us.all flatV = true
  | _, _, us, .nil, q => by cases q; exact ⟨rfl, rfl⟩
  | _, _, us, .cons (v := v) (x := x) (vs := vs) (xs := xs) r t, q => by
    unfold flatsP at q
    cases e1 : flatP x with
    | none => rw [e1] at q; cases q
    | some w =>
      cases e2 : flatsP xs with
      | none => rw [e1, e2] at q; cases q
      | some ws =>
        rw [e1, e2] at q
        cases q
        obtain ⟨rfl, f1⟩ := flat_rep r e1
        obtain ⟨rfl, f2⟩ := flats_rep t e2
        exact ⟨rfl, by rw [List.all_cons, f1, f2]; rfl⟩
/-! things of any depth -/
def rInT (K : PySem.W.Frag) (neg : Bool) : R2 := fun x y H Q => ∃ d es, Dp K H x d ∧ SeqAt.shaped d = true ∧ ((Dp K H y (.tuple es) ∧ SeqAt.shaped (.tuple es) = true) ∨ (Dp K H y (.list es) ∧ SeqAt.shaped (.list es) = true)) ∧
  Q (.bl (if neg then !es.any fun z => PyData.eqv z d else es.any fun z => PyData.eqv z d)) H
theorem room_inT {A : Around} {es : List PyData} {d : PyData} (h : SeqAt.shaped d = true) (hu : A.units + 65 < cLine) : A.units + 1 + min (PyData.depthAll es) d.depth < cLine := by
  have h1 := SeqAt.depth_of_shaped h
  have h2 : min (PyData.depthAll es) d.depth ≤ d.depth := Nat.min_le_right _ _
  omega
theorem op_inT (hu : X.A.units + 65 < cLine) : OpR X (compareOp .In) (rInT X.K false) := by
  intro pins s σ H x y v u Q I rx ry h
  obtain ⟨d, es, hd, sd, he, q⟩ := h
  obtain ⟨as, r1⟩ := Dp.reads I d x v hd rx
  rcases he with ⟨he, se⟩ | ⟨he, se⟩
  · obtain ⟨bs, r2⟩ := Dp.reads I (.tuple es) y u he ry
    exact SeqAt.in_tuple_reads r2 r1 (SeqAt.canLay_of_shaped se) (SeqAt.canLay_of_shaped sd) (room_inT sd hu) ⟨.bl _, H, I, rfl, q⟩
  · obtain ⟨bs, r2⟩ := Dp.reads I (.list es) y u he ry
    exact SeqAt.in_list_reads r2 r1 (SeqAt.canLay_of_shaped se) (SeqAt.canLay_of_shaped sd) (room_inT sd hu) ⟨.bl _, H, I, rfl, q⟩
theorem op_notInT (hu : X.A.units + 65 < cLine) : OpR X (compareOp .NotIn) (rInT X.K true) := by
  intro pins s σ H x y v u Q I rx ry h
  obtain ⟨d, es, hd, sd, he, q⟩ := h
  obtain ⟨as, r1⟩ := Dp.reads I d x v hd rx
  rcases he with ⟨he, se⟩ | ⟨he, se⟩
  · obtain ⟨bs, r2⟩ := Dp.reads I (.tuple es) y u he ry
    exact SeqAt.notIn_tuple_reads r2 r1 (SeqAt.canLay_of_shaped se) (SeqAt.canLay_of_shaped sd) (room_inT sd hu) ⟨.bl _, H, I, rfl, q⟩
  · obtain ⟨bs, r2⟩ := Dp.reads I (.list es) y u he ry
    exact SeqAt.notIn_list_reads r2 r1 (SeqAt.canLay_of_shaped se) (SeqAt.canLay_of_shaped sd) (room_inT sd hu) ⟨.bl _, H, I, rfl, q⟩
theorem ok_contD {neg : Bool} {x y : PV} {vx vy : V} {Q : VK} (rh : RelH K m H h) (rx : Rep K m H vx x) (ry : Rep K m H vy y) (q : Post K xj m H (contD neg x y h) fun z m' H' => ∀ v, Rep K m' H' v z → Q v H') : rInT K neg vx vy H Q := by
  unfold contD at q
  split at q
  · rename_i d es e1 e2
    obtain ⟨hs, q⟩ := Post.ite q
    exact ⟨d, es, data_ok rh 40 x vx d rx e1, hs.1, .inl ⟨data_ok rh 40 y vy _ ry e2, hs.2⟩, q.now rh _ .bl⟩
  · rename_i d es e1 e2
    obtain ⟨hs, q⟩ := Post.ite q
    exact ⟨d, es, data_ok rh 40 x vx d rx e1, hs.1, .inr ⟨data_ok rh 40 y vy _ ry e2, hs.2⟩, q.now rh _ .bl⟩
  · exact q.elim
theorem ok_contV {neg : Bool} {x y : PV} {vx vy : V} {Q : VK} (rh : RelH K m H h) (rx : Rep K m H vx x) (ry : Rep K m H vy y) (q : Post K xj m H (contV neg x y h) fun z m' H' => ∀ v, Rep K m' H' v z → Q v H') : rIn K neg vx vy H Q ∨ rInT K neg vx vy H Q := by
  unfold contV at q
  cases e1 : flatP x with
  | none => rw [e1] at q; exact .inr (ok_contD rh rx ry q)
  | some u =>
    rw [e1] at q
    cases e2 : (rd h y).bind flatsP with
    | none => rw [e2] at q; exact .inr (ok_contD rh rx ry q)
    | some us =>
      rw [e2] at q
      cases e3 : rd h y with
      | none => rw [e3] at e2; cases e2
      | some ys =>
        rw [e3] at e2
        obtain ⟨l, vs, rfl, hs, rs⟩ := rd_ok rh ry e3
        obtain ⟨rfl, f1⟩ := flat_rep rx e1
        obtain ⟨rfl, f2⟩ := flats_rep rs (show flatsP ys = some us from e2)
        exact .inl ⟨l, _, rfl, hs, f1, f2, q.now rh _ .bl⟩
theorem ok_cont (neg : Bool) : OpOk K xj (contF neg) (fun x y H Q => (∃ (c : Nat) (z : Str), x = .str ⟨#[c]⟩ ∧ y = .str z ∧ Q (.bl (if neg then !decide (c ∈ z.cps.toList) else decide (c ∈ z.cps.toList))) H) ∨ (rIn K neg x y H Q ∨ rInT K neg x y H Q)) := by
  intro m H h x y vx vy Q rh rx ry q
  unfold contF at q
  split at q
  · rename_i u z
    cases rx
    cases ry
    split at q
    · rename_i c e
      have eu : u = ⟨#[c]⟩ := by
        obtain ⟨⟨l⟩⟩ := u
        simp at e
        rw [e]
      subst eu
      exact .inl ⟨c, z, rfl, rfl, q.now rh _ .bl⟩
    · exact q.elim
  · exact .inr (ok_contV rh rx ry q)
theorem se_cont (hK : X.K = K) (hu : X.A.units + 65 < cLine) (neg : Bool) (hm : behindInMarks (if neg then .NotIn else .In) b = false) (ha : PE X a (tE K xi fa)) (hb : PE X b (tE K xi fb)) :
    PE X (.Compare a [if neg then .NotIn else .In] [b] pos) (tE K xi fun ev h => (fa ev h).bind fun x h1 => (fb ev h1).bind fun y h2 => contF neg x y h2) ∧
    PT X (.Compare a [if neg then .NotIn else .In] [b] pos) (tT K xi (bF fun ev h => (fa ev h).bind fun x h1 => (fb ev h1).bind fun y h2 => contF neg x y h2)) := by
  subst hK
  cases neg with
  | false => exact ⟨se_cmp (op_in_sign.or (op_in_seq.or (op_inT hu))) (fun _ => ok_cont false) hm ha hb, st_cmp (op_in_sign.or (op_in_seq.or (op_inT hu))) (fun _ => ok_cont false) hm ha hb⟩
  | true => exact ⟨se_cmp (op_notIn_sign.or (op_notIn_seq.or (op_notInT hu))) (fun _ => ok_cont true) hm ha hb, st_cmp (op_notIn_sign.or (op_notIn_seq.or (op_notInT hu))) (fun _ => ok_cont true) hm ha hb⟩
/-! ### pop, index, join -/
theorem lstC_at {x : PV} {v : V} (rh : RelH K m H h) (rx : Rep K m H v x) (c : lstC x h = true) : ∃ r q vs xs, x = .ref r ∧ v = .ref q ∧ m[r]? = some q ∧ h[r]? = some (.lst xs) ∧ H q = some (.lst vs) ∧ Reps K m H vs xs := by
  unfold lstC at c
  split at c
  · rename_i r
    split at c
    · rename_i xs e
      obtain ⟨q, vs, rfl, hm, hq, rv⟩ := lst_at rh rx e
      exact ⟨r, q, vs, xs, rfl, rfl, hm, e, hq, rv⟩
    · cases c
  · cases c
theorem reps_erase : ∀ {vs : List V} {xs : List PV} (i : Nat), Reps K m H vs xs → Reps K m H (vs.eraseIdx i) (xs.eraseIdx i)
  | _, _, _, .nil => .nil
  | _, _, 0, .cons r t => t
  | _, _, i + 1, .cons r t => .cons r (reps_erase i t)
theorem se_pop (hK : X.K = K) (hn : notStar e = true) (hline : (apos.endLine == cpos.line) = true) (hbase : attributeBase a "pop" X.env (eval a X.env) = eval a X.env) (ha : PE X a (tE K xi fa)) (he : PE X e (tE K xi fb)) :
    PE X (.Call (.Attribute a "pop" apos) [e] [] cpos) (tE K xi fun ev h => (fa ev h).bind fun x h1 => if lstC x h1 = true then (fb ev h1).bind fun y h2 => popF x y h2 else .stuck) := by
  subst hK
  refine PEm (pe_bm PySem.F.plainAttrs_list PySem.F.slot_list_pop PySem.F.type_list_pop mt_popAt ha (pa_cons he pa_nil (star_cons hn)) hbase (by rw [star_cons hn]; rfl) hline (star_cons hn) rfl) fun st H Q ⟨ev, m, h, re, rh, q⟩ => ?_
  refine tE_bind re rh q fun vx x m1 H1 h1 g1 re1 rh1 rx p1 => ?_
  obtain ⟨hc, p1⟩ := Post.ite p1
  obtain ⟨r, l, vs, xs, rfl, rfl, hm, eh, hl, rv⟩ := lstC_at rh1 rx hc
  refine ⟨.inl ⟨rfl, vs, .inl (.inl hl)⟩, ?_⟩
  refine tE_bind re1 rh1 p1 fun vy y m2 H2 h2 g2 re2 rh2 ry p2 => ?_
  have hm2 := g2.at hm
  cases y <;> try exact p2.elim
  rename_i j
  cases ry
  unfold popF at p2
  dsimp only at p2
  cases eh2 : h2[r]? with
  | none => rw [eh2] at p2; exact p2.elim
  | some ob =>
    cases ob with
    | dct _ => rw [eh2] at p2; exact p2.elim
    | lst ys =>
      rw [eh2] at p2
      dsimp only at p2
      obtain ⟨⟨h0, h3, h4⟩, p2⟩ := Post.ite p2
      obtain ⟨us, hu, ru⟩ := rh2.at' r _ _ eh2 hm2
      cases ey : ys[j.toNat]? with
      | none => rw [ey] at p2; exact p2.elim
      | some z =>
        rw [ey] at p2
        obtain ⟨w, ew, rw'⟩ := ru.get ey
        obtain ⟨rl, gl⟩ := rh2.wrote eh2 hm2 (reps_erase j.toNat ru)
        have hl2 := ru.length
        have h63 := line63
        refine ⟨l, us, j, j.toNat, w, rfl, rfl, hu, by omega, by omega, ?_, ew, ?_⟩
        · exact seqIndex_of h0 (by omega)
        · exact p2 m2 _ gl rl w (rw'.grow gl)
theorem strs_ok {y : PV} {v : V} {zs : List Str} (rh : RelH K m H h) (r : Rep K m H v y) (q : (rd h y).bind strsOf = some zs) : ∃ l, v = .ref l ∧ (SqL K H l (zs.map V.str) ∨ SqT K H l (zs.map V.str)) := by
  cases e1 : rd h y with
  | none => rw [e1] at q; cases q
  | some xs =>
    rw [e1] at q
    obtain ⟨l, vs, rfl, hs, rv⟩ := rd_ok rh r e1
    have e2 := strsOf_eq (show strsOf xs = some zs from q)
    subst e2
    rw [rv.strs] at hs
    exact ⟨l, rfl, hs⟩
theorem strC_at {x : PV} {v : V} (rx : Rep K m H v x) (c : strC x = true) : ∃ z, x = .str z ∧ v = .str z := by
  cases x <;> try (cases c; done)
  cases rx
  exact ⟨_, rfl, rfl⟩
theorem se_sidx (hn : notStar e = true) (hline : (apos.endLine == cpos.line) = true) (hbase : attributeBase a "index" X.env (eval a X.env) = eval a X.env) (ha : PE X a (tE K xi fa)) (he : PE X e (tE K xi fb)) :
    PE X (.Call (.Attribute a "index" apos) [e] [] cpos) (tE K xi fun ev h => (fa ev h).bind fun x h1 => if strC x = true then (fb ev h1).bind fun y h2 => sidxF x y h2 else .stuck) := by
  refine PEm (pe_m1 PySem.F.slot_str_index PySem.F.type_str_index mt_sindex ha he (star_cons hn) hbase hline) fun st H Q ⟨ev, m, h, re, rh, q⟩ => ?_
  refine tE_bind re rh q fun vx x m1 H1 h1 g1 re1 rh1 rx p1 => ?_
  obtain ⟨hc, p1⟩ := Post.ite p1
  obtain ⟨z, rfl, rfl⟩ := strC_at rx hc
  refine ⟨⟨z, rfl⟩, ?_⟩
  refine tE_bind re1 rh1 p1 fun vy y m2 H2 h2 g2 re2 rh2 ry p2 => ?_
  cases y <;> try exact p2.elim
  rename_i u
  cases ry
  unfold sidxF at p2
  dsimp only at p2
  split at p2
  · rename_i i rest eo
    exact ⟨z, u, i, rest, rfl, rfl, eo, p2.now rh2 _ .int⟩
  · exact p2.elim
theorem se_join (hK : X.K = K) (hn : notStar e = true) (hline : (apos.endLine == cpos.line) = true) (hbase : attributeBase a "join" X.env (eval a X.env) = eval a X.env) (ha : PE X a (tE K xi fa)) (he : PE X e (tE K xi fb)) :
    PE X (.Call (.Attribute a "join" apos) [e] [] cpos) (tE K xi fun ev h => (fa ev h).bind fun x h1 => if strC x = true then (fb ev h1).bind fun y h2 => joinF x y h2 else .stuck) := by
  subst hK
  refine PEm (pe_join ha he (star_cons hn) hbase hline) fun st H Q ⟨ev, m, h, re, rh, q⟩ => ?_
  refine tE_bind re rh q fun vx x m1 H1 h1 g1 re1 rh1 rx p1 => ?_
  obtain ⟨hc, p1⟩ := Post.ite p1
  obtain ⟨z, rfl, rfl⟩ := strC_at rx hc
  refine ⟨⟨z, rfl⟩, ?_⟩
  refine tE_bind re1 rh1 p1 fun vy y m2 H2 h2 g2 re2 rh2 ry p2 => ?_
  unfold joinF at p2
  dsimp only at p2
  cases e2 : (rd h2 y).bind strsOf with
  | none => rw [e2] at p2; exact p2.elim
  | some zs =>
    rw [e2] at p2
    obtain ⟨hz, p2⟩ := Post.ite p2
    obtain ⟨l, rfl, hs⟩ := strs_ok rh2 ry e2
    exact ⟨z, l, zs, rfl, rfl, hs, hz, p2.now rh2 _ .str⟩
theorem bindA {α β γ : Type} (r : Res α) (f : α → IH → Res β) (g : β → IH → Res γ) : (r.bind f).bind g = r.bind fun a h => (f a h).bind g := by cases r <;> rfl
/-! ### not xs -/
theorem se_nemp (hK : X.K = K) (ha : PE X a (tE K xi fa)) : PE X (.UnaryOp .Not a pos) (tE K xi fun ev h => (fa ev h).bind fun x h1 => nempF x h1) := by
  subst hK
  refine PEm (pe_notT ha) fun st H Q ⟨ev, m, h, re, rh, q⟩ => ?_
  refine tE_bind re rh q fun vx x m1 H1 h1 g1 re1 rh1 rx p1 => ?_
  unfold nempF at p1
  cases e1 : rd h1 x with
  | none => rw [e1] at p1; exact p1.elim
  | some xs =>
    rw [e1] at p1
    obtain ⟨l, vs, rfl, hs, rv⟩ := rd_ok rh1 rx e1
    have ee : vs.isEmpty = xs.isEmpty := by cases rv <;> rfl
    have fin : Q (.bl (!(!vs.isEmpty))) H1 := by
      rw [Bool.not_not, ee]
      exact p1.now rh1 _ .bl
    rcases hs with hs | hs
    · exact ⟨_, .inl ⟨vs, hs, rfl⟩, fin⟩
    · exact ⟨_, .inr (.inl ⟨vs, hs, rfl⟩), fin⟩
theorem st_nemp (hK : X.K = K) (hi : ∀ whole, isTrue a X.env whole = (do let v ← whole; standAt a.pos; holding [v] (truthy v))) (ha : PE X a (tE K xi fa)) : PT X (.UnaryOp .Not a pos) (tT K xi (bF fun ev h => (fa ev h).bind fun x h1 => nempF x h1)) := by
  subst hK
  refine PTm (pt_not (pt_truth ha hi)) fun st H Q ⟨ev, m, h, re, rh, q⟩ => ?_
  dsimp only [bF] at q
  rw [bindA] at q
  refine tE_bind re rh q fun vx x m1 H1 h1 g1 re1 rh1 rx p1 => ?_
  unfold nempF at p1
  cases e1 : rd h1 x with
  | none => rw [e1] at p1; exact p1.elim
  | some xs =>
    rw [e1] at p1
    obtain ⟨l, vs, rfl, hs, rv⟩ := rd_ok rh1 rx e1
    have ee : vs.isEmpty = xs.isEmpty := by cases rv <;> rfl
    have fin : Q (!(!vs.isEmpty)) H1 := by
      rw [Bool.not_not, ee]
      exact Post.now p1 rh1
    rcases hs with hs | hs
    · exact ⟨_, .inl ⟨vs, hs, rfl⟩, fin⟩
    · exact ⟨_, .inr (.inl ⟨vs, hs, rfl⟩), fin⟩
end

/-! ### dicts with text keys -/
abbrev KVs (K : PySem.W.Frag) (m : List Addr) (H : Hp) : List (Key × V) → List (Str × PV) → Prop := Paired fun a b => a.1 = .inr b.1 ∧ Rep K m H a.2 b.2
section
variable {X : Cx} {K : PySem.W.Frag} {xj : XJ} {xi : XI} {a b e : Expr} {fa fb : Ev → IH → Res PV} {pos p p2 cpos apos : Pos} {m m' : List Addr} {H H' : Hp} {h : IH}
theorem kvs_len {ws : List (Key × V)} {kvs : List (Str × PV)} (r : KVs K m H ws kvs) : ws.length = kvs.length := Paired.length r
theorem kvs_get : ∀ {ws : List (Key × V)} {kvs : List (Str × PV)} {k : Str} {x : PV}, KVs K m H ws kvs → kvs.lookup k = some x → ∃ v, valV ws (Sum.inr k : Key) = some v ∧ Rep K m H v x
  | _, _, k, x, .nil, q => by cases q
  | _, _, k, x, .cons (a := a) (b := b) r t, q => by
    obtain ⟨a1, a2⟩ := a
    obtain ⟨b1, b2⟩ := b
    obtain ⟨r1, r2⟩ := r
    dsimp only at r1 r2
    subst r1
    by_cases hk : k = b1
    · subst hk
      rw [List.lookup_cons_self] at q
      cases q
      exact ⟨a2, valV_pos rfl, r2⟩
    · have hk' : (k == b1) = false := beq_eq_false_iff_ne.mpr hk
      rw [List.lookup_cons, hk'] at q
      obtain ⟨v, e1, e2⟩ := kvs_get t q
      refine ⟨v, ?_, e2⟩
      rw [valV_neg (fun z => hk (Sum.inr.inj z).symm)]
      exact e1
theorem kvs_any : ∀ {ws : List (Key × V)} {kvs : List (Str × PV)} (k : Str), KVs K m H ws kvs → (ws.any fun kv => decide (kv.1 = (Sum.inr k : Key))) = kvs.any fun q => decide (q.1 = k)
  | _, _, k, .nil => rfl
  | _, _, k, .cons (a := a) (b := b) r t => by
    rw [List.any_cons, List.any_cons, kvs_any k t, r.1]
    congr 1
    by_cases hk : b.1 = k
    · simp [hk]
    · have : ¬ ((Sum.inr b.1 : Key) = Sum.inr k) := fun z => hk (Sum.inr.inj z)
      simp [hk]
theorem kvs_set {v : V} {x : PV} (rv : Rep K m H v x) : ∀ {ws : List (Key × V)} {kvs : List (Str × PV)} (k : Str), KVs K m H ws kvs → KVs K m H (ws.map fun kv => if kv.1 = (Sum.inr k : Key) then (kv.1, v) else kv) (dsetK kvs k x)
  | _, _, k, .nil => .nil
  | _, _, k, .cons (a := a) (b := b) r t => by
    obtain ⟨a1, a2⟩ := a
    obtain ⟨b1, b2⟩ := b
    obtain ⟨r1, r2⟩ := r
    dsimp only at r1 r2
    subst r1
    refine .cons ?_ (kvs_set rv k t)
    by_cases hk : b1 = k
    · subst hk
      simp
      exact rv
    · have : ¬ ((Sum.inr b1 : Key) = Sum.inr k) := fun z => hk (Sum.inr.inj z)
      simp [hk]
      exact r2
theorem kvs_grow (g : Grow m H m' H') {ws : List (Key × V)} {kvs : List (Str × PV)} (r : KVs K m H ws kvs) : KVs K m' H' ws kvs := Paired.mapP r fun a b z => ⟨z.1, z.2.grow g⟩
/-- a dict is rewritten -/
theorem RelH.wroteD (R : RelH K m H h) {i : Nat} {p : Addr} {kvs ls : List (Str × PV)} {ws : List (Key × V)} (ei : h[i]? = some (.dct kvs)) (ep : m[i]? = some p) (r : KVs K m H ws ls) :
    RelH K m (upd H p (.dK ws)) (h.set i (.dct ls)) ∧ Grow m H m (upd H p (.dK ws)) := by
  obtain ⟨vs, e, _⟩ := R.at' i _ p ei ep
  have g : Grow m H m (upd H p (.dK ws)) := ⟨⟨[], by simp⟩, Keep.wroteD e, fun b u h _ n => ⟨by
    rw [upd_ne (show b ≠ p from fun z => n (by rw [z]; exact List.mem_of_getElem? ep))]
    exact h, n⟩⟩
  have hi : i < h.length := (List.getElem?_eq_some_iff.mp ei).1
  refine ⟨⟨by simp [R.len], R.nd, fun P hP => tab_upd (R.tb P hP) (fun ps z => by rw [e] at z; cases z), fun j u q h1 h2 => ?_⟩, g⟩
  by_cases hj : i = j
  · subst hj
    rw [ep] at h2
    cases h2
    rw [List.getElem?_set_self hi] at h1
    cases h1
    exact ⟨ws, upd_same, kvs_grow g r⟩
  · rw [List.getElem?_set_ne hj] at h1
    have rr := R.at' j u q h1 h2
    refine rr.grow g (upd_ne fun z => ?_)
    subst z
    have a1 := (List.getElem?_eq_some_iff.mp ep)
    have a2 := (List.getElem?_eq_some_iff.mp h2)
    exact hj ((List.getElem_inj R.nd).mp (a1.2.trans a2.2.symm))
/-- a dict that was not the evaluator's becomes so, filled -/
theorem RelH.takeD (R : RelH K m H h) {p : Addr} {ls : List (Str × PV)} {ws : List (Key × V)} (e : H p = some (.dK [])) (hp : p ∉ m) (r : KVs K m H ws ls) : RelH K (m ++ [p]) (upd H p (.dK ws)) (h ++ [.dct ls]) := by
  have k : Keep H (upd H p (.dK ws)) := Keep.wroteD e
  refine ⟨by simp [R.len], ?_, fun P hP => tab_upd (R.tb P hP) (fun ps z => by rw [e] at z; cases z), fun i u q h1 h2 => ?_⟩
  · rw [List.nodup_append]
    exact ⟨R.nd, by simp, fun a ha b hb => by
      have : b = p := by simpa using hb
      subst this
      intro z
      subst z
      exact hp ha⟩
  · by_cases hi : i < h.length
    · rw [List.getElem?_append_left hi] at h1
      rw [List.getElem?_append_left (by rw [R.len]; exact hi)] at h2
      refine (R.at' i u q h1 h2).grow0 ⟨[p], rfl⟩ k (upd_ne fun z => hp ?_)
      rw [← z]
      exact List.mem_of_getElem? h2
    · have hi2 : i = h.length := by
        have := (List.getElem?_eq_some_iff.mp h1).1
        simp at this
        omega
      subst hi2
      rw [← R.len] at h2
      simp at h1 h2
      subst h1
      subst h2
      exact ⟨ws, upd_same, Paired.mapP r fun a b z => ⟨z.1, z.2.grow0 ⟨[p], rfl⟩ k⟩⟩
theorem dct_at {x : PV} {v : V} {r : Nat} {kvs : List (Str × PV)} (rh : RelH K m H h) (rx : Rep K m H v (.ref r)) (e : h[r]? = some (.dct kvs)) : ∃ q ws, v = .ref q ∧ m[r]? = some q ∧ H q = some (.dK ws) ∧ KVs K m H ws kvs := by
  cases rx with
  | ref hp =>
    obtain ⟨ws, e1, e2⟩ := rh.at' r _ _ e hp
    exact ⟨_, ws, rfl, hp, e1, e2⟩
theorem se_dix {k : Str} {j : Nat} {p3 : Pos} (hu : X.A.units + 1 < cLine) (ha : PE X a (tE K xi fa)) : PE X (.Subscript a (.Constant (.str k) j p3) pos) (tE K xi fun ev h => (fa ev h).bind fun x h1 => dixF x k h1) := by
  refine PEm (pe_dget hu ha pe_str (fun _ _ => rfl)) fun st H Q ⟨ev, m, h, re, rh, q⟩ => ?_
  refine tE_bind re rh q fun vx x m1 H1 h1 g1 re1 rh1 rx p1 => ?_
  cases x <;> try exact p1.elim
  rename_i r
  unfold dixF at p1
  dsimp only at p1
  cases e1 : h1[r]? with
  | none => rw [e1] at p1; exact p1.elim
  | some o =>
    cases o with
    | lst _ => rw [e1] at p1; exact p1.elim
    | dct kvs =>
      rw [e1] at p1
      dsimp only at p1
      cases e2 : kvs.lookup k with
      | none => rw [e2] at p1; exact p1.elim
      | some y =>
        rw [e2] at p1
        obtain ⟨l, ws, rfl, hm, hl, rk⟩ := dct_at (x := .ref r) rh1 rx e1
        obtain ⟨v, e3, rv⟩ := kvs_get rk e2
        refine ⟨l, v, rfl, ?_, p1.now rh1 _ rv⟩
        rw [← e3]
        exact DGet.k (k := Sum.inr k) hl
end

section
variable {X : Cx} {K : PySem.W.Frag} {xj : XJ} {xi : XI} {a b e : Expr} {fa fb fv : Ev → IH → Res PV} {pos p p2 cpos apos : Pos} {m m' : List Addr} {H H' : Hp} {h : IH}
theorem ss_dput {o : Expr} {k : Str} {j : Nat} {p3 tpos : Pos} (hu : X.A.units + 1 < cLine) (hn : noComp e = true) (hv : PE X e (tE K xi fv)) (ho : PE X o (tE K xi fa)) :
    PS X (.Assign [.Subscript o (.Constant (.str k) j p3) tpos] e pos) (tS K xi fun ev h => (fv ev h).bind fun z h1 => (fa ev h1).bind fun x h2 => (dputF x k z h2).bind fun _ h3 => .ok (.nx ev) h3) := by
  refine PSm (ps_asg hv (pg_sub ho pe_str (set_dict hu) (by intro v; rfl)) (by show swapsWith e (some (.Subscript o (.Constant (.str k) j p3) tpos)) pos.line X.env = pure false; exact swaps_of hn _ _ _) swapped_sub rfl) fun D st H ⟨ev, m, h, re, rh, q⟩ => ?_
  refine tE_bind re rh q fun vz z m1 H1 h1 g1 re1 rh1 rz p1 => ?_
  refine tE_bind re1 rh1 p1 fun vx x m2 H2 h2 g2 re2 rh2 rx p2 => ?_
  cases x <;> try exact p2.elim
  rename_i r
  unfold dputF at p2
  dsimp only at p2
  cases e1 : h2[r]? with
  | none => rw [e1] at p2; exact p2.elim
  | some o =>
    cases o with
    | lst _ => rw [e1] at p2; exact p2.elim
    | dct kvs =>
      rw [e1] at p2
      dsimp only at p2
      by_cases hc : (kvs.any fun p => decide (p.1 = k)) = true ∧ kvs.length < sizeLine
      · rw [if_pos hc] at p2
        obtain ⟨l, ws, rfl, hm, hl, rk⟩ := dct_at (x := .ref r) rh2 rx e1
        obtain ⟨rl, gl⟩ := RelH.wroteD rh2 e1 hm (kvs_set (rz.grow g2) k rk)
        refine ⟨l, _, rfl, .inl ⟨ws, Sum.inr k, hl, rfl, by rw [kvs_len rk]; exact hc.2, rfl⟩, ?_⟩
        have ep : putK ws (Sum.inr k : Key) vz = ws.map fun kv => if kv.1 = (Sum.inr k : Key) then (kv.1, vz) else kv := by
          unfold putK
          rw [kvs_any k rk, if_pos hc.1]
        rw [ep]
        exact p2 m2 _ gl rl st (re2.grow gl)
      · rw [if_neg hc] at p2; exact p2.elim
/-- the written pairs of a display -/
def conT (ks : List (Str × Int)) : List (TE × TE) := ks.map fun p => (tC (.str p.1), tC (.int p.2))
theorem con_run : ∀ (ks : List (Str × Int)) {st : L2.St} {H : Hp} {Q : List (V × V) → Hp → Prop}, Q (ks.map fun p => (V.str p.1, V.int p.2)) H → tPairs (conT ks) st H Q
  | [], _, _, _, q => q
  | (k, i) :: ks, st, H, Q, q => con_run ks (Q := fun ps H3 => Q ((V.str k, V.int i) :: ps) H3) q
/-- written keys and ints -/
inductive ConD : List (Str × Int) → List (Option Expr) → List Expr → Prop
  | nil : ConD [] [] []
  | cons {k : Str} {i : Int} {j j2 : Nat} {p p2 : Pos} {ks : List (Str × Int)} {es : List (Option Expr)} {vs : List Expr} : ConD ks es vs → ConD ((k, i) :: ks) (some (.Constant (.str k) j p) :: es) (.Constant (.int i) j2 p2 :: vs)
theorem con_pps {ks : List (Str × Int)} {es : List (Option Expr)} {vs : List Expr} (c : ConD ks es vs) : PPs X pos es vs (conT ks) := by
  induction c with
  | nil => exact pps_nil
  | cons c ih => exact pps_cons pe_str pe_int ih
theorem con_all {ks : List (Str × Int)} {es : List (Option Expr)} {vs : List Expr} (c : ConD ks es vs) : es.all (·.isSome) = true ∧ es.length = vs.length ∧ es.length = ks.length := by
  induction c with
  | nil => exact ⟨rfl, rfl, rfl⟩
  | cons c ih => exact ⟨by rw [List.all_cons, ih.1]; rfl, by rw [List.length_cons, List.length_cons, ih.2.1], by rw [List.length_cons, List.length_cons, ih.2.2]⟩
theorem merge_nodup : ∀ (more acc : List (Key × V)), ((acc ++ more).map (·.1)).Nodup → mergeK acc more = acc ++ more
  | [], acc, _ => by rw [List.append_nil]; rfl
  | (k, v) :: more, acc, hn => by
    show mergeK (putK acc k v) more = _
    have e : putK acc k v = acc ++ [(k, v)] := by
      unfold putK
      rw [if_neg]
      intro z
      obtain ⟨q, hq, z⟩ := List.any_eq_true.mp z
      rw [List.map_append, List.map_cons, List.nodup_append] at hn
      exact hn.2.2 q.1 (List.mem_map.mpr ⟨q, hq, rfl⟩) k List.mem_cons_self (of_decide_eq_true z)
    rw [e, merge_nodup more (acc ++ [(k, v)]) (by rw [List.append_assoc]; exact hn), List.append_assoc]
    rfl
theorem con_kv (m : List Addr) (H : Hp) : ∀ ks : List (Str × Int), KVs K m H (ks.map fun p => (Sum.inr p.1, V.int p.2)) (ks.map fun p => (p.1, PV.int p.2))
  | [] => .nil
  | z :: ks => .cons ⟨rfl, .int⟩ (con_kv m H ks)
theorem con_keys {k : Str} {v : V} {ks : List (Str × Int)} (hn : (k :: ks.map (·.1)).Nodup) : ((((Sum.inr k : Key), v) :: ks.map fun p => ((Sum.inr p.1 : Key), V.int p.2)).map (·.1)).Nodup := by
  have e : (((Sum.inr k : Key), v) :: ks.map fun p => ((Sum.inr p.1 : Key), V.int p.2)).map (·.1) = (k :: ks.map (·.1)).map fun z => (Sum.inr z : Key) := by
    simp [List.map_map]
  rw [e]
  have hn' : List.Pairwise (fun a b => a ≠ b) (k :: ks.map (·.1)) := hn
  exact List.Pairwise.map (fun z => (Sum.inr z : Key)) (fun a b n z => n (Sum.inr.inj z)) hn'
theorem se_dlit {k : Str} {j : Nat} {p3 : Pos} {ks : List (Str × Int)} {es : List (Option Expr)} {vs : List Expr} (c : ConD ks es vs) (ha : PE X a (tE K xi fa)) (hl : ks.length < 15) :
    PE X (.Dict (some (.Constant (.str k) j p3) :: es) (a :: vs) pos) (tE K xi fun ev h => (fa ev h).bind fun x h1 => dlitF k x ks h1) := by
  obtain ⟨c1, c2, c3⟩ := con_all c
  refine PEm (pe_disp (trs := (tC (.str k), tE K xi fa) :: conT ks) (pps_cons pe_str ha (con_pps c)) (by rw [List.all_cons, c1]; rfl) (by rw [List.length_cons, List.length_cons, c2]) (by intro z; cases z) (by rw [List.length_cons, c3]; omega)) fun st H Q ⟨ev, m, h, re, rh, q⟩ => ?_
  intro p hp
  have gj : Grow m H m (upd H p (.dK [])) := Grow.junk hp
  have hpm : p ∉ m := fun z => by
    obtain ⟨u, hu⟩ := rh.mem z
    rw [hp] at hu; cases hu
  refine ⟨ev, m, h, re.grow gj, rh.junk hp, ?_⟩
  dsimp only at q
  cases e : fa ev h with
  | stuck => rw [e] at q; exact q.elim
  | exc cc fs h1 =>
    rw [e] at q
    exact fun m1 H1 g1 rh1 => q m1 H1 (gj.trans g1) rh1
  | ok x h1 =>
    rw [e, Res.bind_ok] at q
    intro m1 H1 g1 rh1 v rx
    refine con_run ks ?_
    obtain ⟨hd, hn⟩ := g1.fr p _ upd_same (fun _ z => nomatch z) hpm
    obtain ⟨hc, q⟩ := Post.ite q
    refine ⟨hd, (Sum.inr k, v) :: ks.map fun p => (Sum.inr p.1, V.int p.2), ?_, by rw [List.length_cons, List.length_map]; omega, ?_⟩
    · rw [List.map_cons, List.map_map]
      rfl
    · rw [merge_nodup _ [] (by rw [List.nil_append]; exact con_keys hc.1), List.nil_append]
      have kv : KVs K m1 H1 ((Sum.inr k, v) :: ks.map fun p => (Sum.inr p.1, V.int p.2)) ((k, x) :: ks.map fun p => (p.1, PV.int p.2)) := .cons ⟨rfl, rx⟩ (con_kv m1 H1 ks)
      have rl := RelH.takeD rh1 hd hn kv
      refine q _ _ (((gj.trans g1).own hp).take hp) rl _ (.ref ?_)
      rw [← rh1.len]
      simp
end

/-! ### texts in order -/
theorem ln_cons {a b : Nat} {r t : List Nat} : (a :: r < b :: t) ↔ (a < b ∨ (a = b ∧ r < t)) := by
  have e := StrLaws.lt_cons_cons a b r t
  constructor
  · intro q
    rw [decide_eq_true q] at e
    have e' := e.symm
    rw [Bool.or_eq_true, Bool.and_eq_true, decide_eq_true_eq, decide_eq_true_eq, beq_iff_eq] at e'
    exact e'
  · intro q
    refine of_decide_eq_true ?_
    rw [e, Bool.or_eq_true, Bool.and_eq_true, decide_eq_true_eq, decide_eq_true_eq, beq_iff_eq]
    exact q
theorem ln_nil (r : List Nat) : ¬ r < [] := by
  cases r with
  | nil => exact of_decide_eq_false StrLaws.lt_nil_nil
  | cons a r => exact of_decide_eq_false (StrLaws.lt_cons_nil a r)
theorem ln_pos (b : Nat) (t : List Nat) : [] < b :: t := of_decide_eq_true (StrLaws.lt_nil_cons b t)
theorem ln_irr : ∀ a : List Nat, ¬ a < a
  | [] => ln_nil []
  | a :: r => fun q => by
    rcases ln_cons.mp q with z | ⟨_, z⟩
    · omega
    · exact ln_irr r z
theorem ln_tr : ∀ {a b c : List Nat}, a < b → b < c → a < c
  | a, [], c, q, _ => absurd q (ln_nil a)
  | a, b :: s, [], _, q => absurd q (ln_nil _)
  | [], b :: s, c :: t, _, _ => ln_pos c t
  | a :: r, b :: s, c :: t, q1, q2 => by
    rcases ln_cons.mp q1 with z1 | ⟨z1, y1⟩ <;> rcases ln_cons.mp q2 with z2 | ⟨z2, y2⟩
    · exact ln_cons.mpr (.inl (by omega))
    · exact ln_cons.mpr (.inl (by omega))
    · exact ln_cons.mpr (.inl (by omega))
    · exact ln_cons.mpr (.inr ⟨by omega, ln_tr y1 y2⟩)
theorem ln_tri : ∀ {a b : List Nat}, ¬ a < b → ¬ b < a → a = b
  | [], [], _, _ => rfl
  | [], b :: t, q, _ => absurd (ln_pos b t) q
  | a :: r, [], _, q => absurd (ln_pos a r) q
  | a :: r, b :: t, q1, q2 => by
    have h1 : ¬ a < b := fun z => q1 (ln_cons.mpr (.inl z))
    have h2 : ¬ b < a := fun z => q2 (ln_cons.mpr (.inl z))
    have e : a = b := by omega
    subst e
    rw [ln_tri (fun z => q1 (ln_cons.mpr (.inr ⟨rfl, z⟩))) fun z => q2 (ln_cons.mpr (.inr ⟨rfl, z⟩))]
/-- one text below another -/
abbrev TLt (x y : Str) : Prop := x.cps.toList < y.cps.toList
theorem tl_eq {x y : Str} (h1 : ¬ TLt x y) (h2 : ¬ TLt y x) : x = y := by
  obtain ⟨⟨x⟩⟩ := x
  obtain ⟨⟨y⟩⟩ := y
  have e : x = y := ln_tri h1 h2
  rw [e]
theorem tl_le {x y z : Str} (h1 : ¬ TLt y x) (h2 : ¬ TLt z y) : ¬ TLt z x := fun q => by
  by_cases c : TLt x y
  · exact h2 (ln_tr q c)
  · have e := tl_eq c h1
    subst e
    exact h2 q
theorem tl_uniq : ∀ {l m : List Str}, l.Pairwise (fun a b => ¬ TLt b a) → m.Pairwise (fun a b => ¬ TLt b a) → l.Perm m → l = m
  | [], m, _, _, p => (List.Perm.nil_eq p)
  | x :: l, [], _, _, p => by cases p.eq_nil
  | x :: l, y :: m, hl, hm, p => by
    obtain ⟨a1, a2⟩ := List.pairwise_cons.mp hl
    obtain ⟨b1, b2⟩ := List.pairwise_cons.mp hm
    have h1 : ¬ TLt y x := by
      rcases List.mem_cons.mp (p.mem_iff.mpr (List.mem_cons_self (a := y) (l := m))) with e | e
      · rw [e]; exact ln_irr _
      · exact a1 y e
    have h2 : ¬ TLt x y := by
      rcases List.mem_cons.mp (p.mem_iff.mp (List.mem_cons_self (a := x) (l := l))) with e | e
      · rw [e]; exact ln_irr _
      · exact b1 x e
    have e := tl_eq h2 h1
    subst e
    rw [tl_uniq a2 b2 p.cons_inv]
theorem tl_asc : ∀ {l m : List Str}, l.Pairwise TLt → m.Pairwise TLt → (∀ z, z ∈ l ↔ z ∈ m) → l = m := by
  intro l m hl hm he
  have wk : ∀ {k : List Str}, k.Pairwise TLt → k.Pairwise (fun a b => ¬ TLt b a) ∧ k.Nodup := fun {k} hk =>
    ⟨hk.imp fun {a b} q z => ln_irr _ (ln_tr q z), hk.imp fun {a b} q z => by subst z; exact ln_irr _ q⟩
  exact tl_uniq (wk hl).1 (wk hm).1 ((List.perm_ext_iff_of_nodup (wk hl).2 (wk hm).2).mpr he)
theorem insT_perm (z : Str) : ∀ xs : List Str, (insT z xs).Perm (z :: xs)
  | [] => List.Perm.refl _
  | x :: xs => by
    unfold insT
    split
    · exact ((insT_perm z xs).cons x).trans (List.Perm.swap z x xs)
    · exact List.Perm.refl _
theorem insT_srt (z : Str) : ∀ {xs : List Str}, xs.Pairwise (fun a b => ¬ TLt b a) → (insT z xs).Pairwise (fun a b => ¬ TLt b a)
  | [], _ => by simp [insT]
  | x :: xs, q => by
    obtain ⟨q1, q2⟩ := List.pairwise_cons.mp q
    unfold insT
    split
    · rename_i c
      refine List.pairwise_cons.mpr ⟨fun y hy => ?_, insT_srt z q2⟩
      rcases List.mem_cons.mp ((insT_perm z xs).mem_iff.mp hy) with e | e
      · subst e
        exact fun w => ln_irr _ (ln_tr c w)
      · exact q1 y e
    · rename_i c
      refine List.pairwise_cons.mpr ⟨fun y hy => ?_, q⟩
      rcases List.mem_cons.mp hy with e | e
      · subst e; exact c
      · exact tl_le c (q1 y e)
theorem srtT_perm : ∀ zs : List Str, (srtT zs).Perm zs
  | [] => List.Perm.refl _
  | z :: zs => (insT_perm z (srtT zs)).trans ((srtT_perm zs).cons z)
theorem srtT_srt : ∀ zs : List Str, (srtT zs).Pairwise (fun a b => ¬ TLt b a)
  | [] => List.Pairwise.nil
  | z :: zs => insT_srt z (srtT_srt zs)
theorem insU_mem {z y : Str} : ∀ {xs : List Str}, y ∈ insU z xs ↔ y = z ∨ y ∈ xs
  | [] => by simp [insU]
  | x :: xs => by
    unfold insU
    split
    · rw [List.mem_cons, insU_mem (xs := xs), List.mem_cons]
      constructor
      · rintro (q | q | q) <;> simp [q]
      · rintro (q | q | q) <;> simp [q]
    · split
      · rename_i e
        subst e
        simp
      · simp
theorem insU_asc (z : Str) : ∀ {xs : List Str}, xs.Pairwise TLt → (insU z xs).Pairwise TLt
  | [], _ => by simp [insU]
  | x :: xs, q => by
    obtain ⟨q1, q2⟩ := List.pairwise_cons.mp q
    unfold insU
    split
    · rename_i c
      refine List.pairwise_cons.mpr ⟨fun y hy => ?_, insU_asc z q2⟩
      rcases insU_mem.mp hy with e | e
      · subst e; exact c
      · exact q1 y e
    · rename_i c
      split
      · exact q
      · rename_i ne
        have lt : TLt z x := Decidable.byContradiction fun w => ne (tl_eq c w)
        refine List.pairwise_cons.mpr ⟨fun y hy => ?_, q⟩
        rcases List.mem_cons.mp hy with e | e
        · subst e; exact lt
        · exact ln_tr lt (q1 y e)
theorem srtU_mem {y : Str} : ∀ {zs : List Str}, y ∈ srtU zs ↔ y ∈ zs
  | [] => by simp [srtU]
  | z :: zs => by
    show y ∈ insU z (srtU zs) ↔ _
    rw [insU_mem, srtU_mem, List.mem_cons]
theorem srtU_asc : ∀ {zs : List Str}, (srtU zs).Pairwise TLt
  | [] => List.Pairwise.nil
  | z :: zs => insU_asc z srtU_asc
theorem rising_srt : ∀ (p : Str) (l : List Str), risingS p l = true → (p :: l).Pairwise (fun a b => ¬ TLt b a)
  | p, [], _ => by simp
  | p, x :: r, q => by
    have q' : (!ltCps x.cps.toList p.cps.toList && risingS x r) = true := q
    rw [Bool.and_eq_true, Bool.not_eq_true', ltCps_eq, decide_eq_false_iff_not] at q'
    have t := rising_srt x r q'.2
    refine List.pairwise_cons.mpr ⟨fun y hy => ?_, t⟩
    rcases List.mem_cons.mp hy with e | e
    · subst e; exact q'.1
    · exact tl_le q'.1 ((List.pairwise_cons.mp t).1 y e)
theorem sorted_srt : ∀ {l : List Str}, sortedS l = true → l.Pairwise (fun a b => ¬ TLt b a)
  | [], _ => List.Pairwise.nil
  | x :: r, q => rising_srt x r q
theorem srt_asc {l : List Str} (h : l.Pairwise (fun a b => ¬ TLt b a)) (n : l.Nodup) : l.Pairwise TLt := by
  induction l with
  | nil => exact List.Pairwise.nil
  | cons x l ih =>
    obtain ⟨h1, h2⟩ := List.pairwise_cons.mp h
    obtain ⟨n1, n2⟩ := List.nodup_cons.mp n
    refine List.pairwise_cons.mpr ⟨fun y hy => ?_, ih h2 n2⟩
    exact Decidable.byContradiction fun w => n1 (by rw [tl_eq w (h1 y hy)]; exact hy)
/-- the set of texts at a -/
def SetX (P : Program) (w : World) (a : Addr) (M : Str → Bool) (c : Nat) : HO := .ext fun h => TxS P w h a M c
theorem setX_new {P : Program} {w : World} {H : Hp} {h : Heap} {a : Addr} {M : Str → Bool} {c : Nat} (R : TxS P w h a M c) : ObjOk P w H h a (SetX P w a M c) := by
  have ⟨o, _, _, _, ho, _⟩ := R
  exact ⟨R, ⟨o, ho⟩, fun h1 h2 q k => TxS.stay q k⟩
section
variable {X : Cx} {K : PySem.W.Frag} {xj : XJ} {xi : XI} {a e : Expr} {fa fb : Ev → IH → Res PV} {pos p p2 cpos apos : Pos} {m m' : List Addr} {H H' : Hp} {h : IH}
def rSetX (K : PySem.W.Frag) (P : Program) (w : World) : List V → Hp → VK → Prop := fun vs H Q => ∃ (l : Addr) (zs : List Str), vs = [V.ref l] ∧ SqL K H l (zs.map V.str) ∧ zs.length + 1 < scanBound ∧
  ∀ (q : Addr) (c : Nat), c ≤ zs.length → H q = none → Q (.ref q) (upd H q (SetX P w q (fun j => decide (j ∈ zs)) c))
theorem cr_setX (hc : X.calm = true) : CallR X (.type "set") (rSetX X.K X.prog X.w) := by
  intro pins s st H vs us Q I r h
  obtain ⟨l, zs, rfl, hs, hb, q⟩ := h
  rw [Vals.ref1 r]
  obtain ⟨its, rv, hl, _⟩ := I.list hs
  refine set_listT zs (I.ok.hd hc) hl.isList (by simpa using rv.strs) hb fun g tk c R hc' hk => ?_
  exact ⟨.ref _, _, I.laid (t' := tk) (o := SetX X.prog X.w s.heap.objs.size (fun j => decide (j ∈ zs)) c) hk (Nat.le_refl _) (setX_new R), rfl, q _ c hc' (I.hok.fresh (Nat.le_refl _))⟩
def rSortX (P : Program) (w : World) : List V → Hp → VK → Prop := fun vs H Q => ∃ (l : Addr) (M : Str → Bool) (c : Nat), vs = [V.ref l] ∧ H l = some (SetX P w l M c) ∧ c ≤ 1000 ∧
  ∀ (zs : List Str) (q : Addr), sortedS zs = true → zs.Nodup → (∀ z, z ∈ zs ↔ M z = true) → H q = none → Q (.ref q) (upd H q (.lst (zs.map V.str)))
theorem cr_sortX (hc : X.calm = true) : CallR X (.builtin "sorted") (rSortX X.prog X.w) := by
  intro pins s st H vs us Q I r h
  obtain ⟨l, M, c, rfl, ha, h64, q⟩ := h
  have R : TxS X.prog X.w s.heap l M c := (I.hok l _ ha).1
  rw [Vals.ref1 r]
  refine sorted_setT R (I.ok.hd hc) fun s1 q1 out ep zs k g o hp hg hi hs hn hm hl => ?_
  have hz : (zs.map V.str).length ≤ sizeLine := by rw [List.length_map, hl, sizeLine_eq]; omega
  have hf : H q1 = none := I.hok.fresh hp
  have J : Inv X pins st (upd H q1 (.lst (zs.map V.str))) { s with heap := s1.heap, gens := s1.gens, drawn := s1.drawn, toks := s1.toks } :=
    I.call (ch := []) (Un.laid k hp hf) (I.hok.laid k hp ⟨hz, out.toList, ep, vals_of_strs hi, hg⟩) (by rw [g]; exact I.bare) (fun _ z => nomatch z)
  have e : s1 = { s with heap := s1.heap, gens := s1.gens, drawn := s1.drawn, toks := s1.toks } := by
    cases s1
    cases s
    cases o
    rfl
  rw [e]
  exact ⟨.ref q1, _, J, rfl, q zs q1 hs hn hm hf⟩
theorem lstr_at {x : PV} {v : V} {r : Nat} {xs : List PV} {zs : List Str} (rh : RelH K m H h) (rx : Rep K m H v (.ref r)) (e1 : h[r]? = some (.lst xs)) (e2 : strsOf xs = some zs) : ∃ q, v = .ref q ∧ SqL K H q (zs.map V.str) := by
  obtain ⟨q, vs, rfl, hm, hq, rv⟩ := lst_at rh rx e1
  have e3 := strsOf_eq e2
  subst e3
  rw [rv.strs] at hq
  exact ⟨q, rfl, .inl (.inl hq)⟩
theorem se_tsrt (hg : Gl X "sorted") (hm : X.mg "sorted" = none) (hn : notStar a = true) (ha : PE X a (tE X.K xi fa)) :
    PE X (.Call (.Name "sorted" p) [a] [] pos) (tE X.K xi fun ev h => (fa ev h).bind fun x h1 => tsrtF x h1) := by
  refine PEm (pe_callB (pos := pos) (p := p) cr_sortedS hg hm (by rfl) (pa_cons ha pa_nil (star_cons hn)) (by decide) (by decide) (star_cons hn) (plain_of (es := []) rfl)) fun st H Q ⟨ev, m, h, re, rh, q⟩ => ?_
  refine tE_bind re rh q fun v x m1 H1 h1 g1 re1 rh1 rx p1 => ?_
  cases x <;> try exact p1.elim
  rename_i r
  unfold tsrtF at p1
  dsimp only at p1
  split at p1
  · rename_i xs e1
    split at p1
    · rename_i zs e2
      obtain ⟨hl, p1⟩ := Post.ite p1
      obtain ⟨l, rfl, hs⟩ := lstr_at (x := .ref r) rh1 rx e1 e2
      refine ⟨l, zs, rfl, hs, hl, fun ys q pm so hq => ?_⟩
      have es : ys = srtT zs := tl_uniq (sorted_srt so) (srtT_srt zs) (pm.trans (srtT_perm zs).symm)
      subst es
      exact (new_at rh1 (Reps.ofStrs (srtT zs)) p1).2 q hq
    · exact p1.elim
  · exact p1.elim
theorem se_tset (hc : X.calm = true) (hg : Gl X "sorted") (hm : X.mg "sorted" = none) (hg2 : Gl X "set") (hm2 : X.mg "set" = none) (hn : notStar a = true) (ha : PE X a (tE X.K xi fa)) :
    PE X (.Call (.Name "sorted" p) [.Call (.Name "set" p2) [a] [] cpos] [] pos) (tE X.K xi fun ev h => (fa ev h).bind fun x h1 => tsetF x h1) := by
  have inner := pe_callTy (pos := cpos) (p := p2) (cr_setX hc) hg2 hm2 (by rfl) (pa_cons ha pa_nil (star_cons hn)) (by decide) (by decide) (star_cons hn) (plain_of (es := []) rfl)
  have outer := pe_callB (pos := pos) (p := p) (cr_sortX hc) hg hm (by rfl) (pa_cons inner pa_nil (star_cons rfl)) (by decide) (by decide) (star_cons rfl) (plain_of (es := []) rfl)
  refine PEm outer fun st H Q ⟨ev, m, h, re, rh, q⟩ => ?_
  refine tE_bind re rh q fun v x m1 H1 h1 g1 re1 rh1 rx p1 => ?_
  cases x <;> try exact p1.elim
  rename_i r
  unfold tsetF at p1
  dsimp only at p1
  split at p1
  · rename_i xs e1
    split at p1
    · rename_i zs e2
      obtain ⟨hl, p1⟩ := Post.ite p1
      obtain ⟨l, rfl, hs⟩ := lstr_at (x := .ref r) rh1 rx e1 e2
      refine ⟨l, zs, rfl, hs, by unfold scanBound; omega, fun q c hcn hq => ⟨q, _, c, rfl, upd_same, by omega, fun ys q2 so nd mem hq2 => ?_⟩⟩
      have es : ys = srtU zs := tl_asc (srt_asc (sorted_srt so) nd) srtU_asc fun z => by
        rw [mem z, srtU_mem]
        simp
      subst es
      exact (new_at (rh1.junk hq) (Reps.ofStrs (srtU zs)) (Post.grow (Grow.junk hq) p1)).2 q2 hq2
    · exact p1.elim
  · exact p1.elim
end
/-! ### extend -/
theorem ext_tup (l : Addr) (us : Array Value) (n : Nat) (b : Addr) (dd : Option Addr) (sl : Array (Option Value)) (ws : Array Value) (n2 : Nat) (h0 : ¬(!us.isEmpty && Builtin.List.listTooLong (us.size + ws.size)) = true) (h1 : us.size ≤ sizeLine) (h2 : us.size + ws.size ≤ sizeLine + 1) :
    Meets (Builtin.«list.extend» ⟨[.ref l, .ref b], []⟩) (fun _ R s => s.heap.get? l = some (seqObj "list" us n) ∧ s.heap.get? b = some { cls := .type "tuple", dict := dd, data := .seq ws n2, slots := sl } ∧
      R (.ok (.ret Value.none)) { s with heap := s.heap.update l (Obj.mapSeq fun x => x ++ ws), toks := s.toks }) :=
  .of_wp fun prog w A R s q => by
    obtain ⟨hp, g, d, tk, os⟩ := s
    obtain ⟨hl, hb, q⟩ := q
    have f1 := AutoSeq1.idx_int
    have f2 := AutoSeq1.sub_tuple_tuple
    have f3 := AutoSeq1.sub_list_list
    have f4 := AutoSeq1.sub_tuple_list
    have f5 := AutoSeq1.sub_list_tuple
    have hz : (us ++ ws).size ≤ sizeLine + 1 := by rw [Array.size_append]; exact h2
    wp_walk using (wpAny_updateSeq hl rfl (hz := h1) (_hz' := hz)), wpAny_loadPart' hl, wpAny_loadPart' hb
    exact ⟨_, rfl, q⟩
section
variable {X : Cx} {K : PySem.W.Frag} {xj : XJ} {xi : XI} {a e tg : Expr} {fa fb : Ev → IH → Res PV} {pos p p2 cpos apos : Pos} {m m' : List Addr} {H H' : Hp} {h : IH}
def rExtT (K : PySem.W.Frag) : V → List V → Hp → VK → Prop := fun x vs H Q => ∃ l b xs zs, x = V.ref l ∧ vs = [V.ref b] ∧ H l = some (.lst xs) ∧ SqT K H b zs ∧ xs.length + zs.length ≤ sizeLine ∧ Q .non (upd H l (.lst (xs ++ zs)))
theorem mt_extT : MtR X "list.extend" (fun x vs H Q => rExtend x vs H Q ∨ rExtT X.K x vs H Q) := by
  intro pins s st H x vs v us Q I rx rv h
  rcases h with h | ⟨l, b, xs, zs, rfl, rfl, hl, hb, hz, q⟩
  · exact mt_extend pins s st H x vs v us Q I rx rv h
  · cases rx
    obtain ⟨u, rfl, ru⟩ := rv.one
    cases ru
    obtain ⟨z, its, n, r, el, e⟩ := I.lstM hl
    obtain ⟨its2, r2, ⟨⟨cl, dd, data, sl⟩, ho, hc, n2, hd⟩, hz2⟩ := I.tuple hb
    simp only at hc hd
    subst hc hd
    have len2 := r2.length
    have sz : its.toArray.size + its2.toArray.size ≤ sizeLine := by rw [List.size_toArray, List.size_toArray]; omega
    have long : ¬ (!its.toArray.isEmpty && Builtin.List.listTooLong (its.toArray.size + its2.toArray.size)) = true := by
      rw [notLongL sz, Bool.and_false]
      exact Bool.false_ne_true
    refine call_meets F.slot_list_extend ⟨_, e, rfl⟩ F.entry_list_extend (F.args_list_extend_2 _ _) (ext_tup l its.toArray n b dd sl its2.toArray n2 long (by rw [List.size_toArray]; omega) (by omega)) ⟨e, ho, ?_⟩
    refine ⟨.non, _, I.lset (its' := its ++ its2) hl e (by simp) (r.append r2) ?_, rfl, q⟩
    rw [List.length_append]
    omega
theorem ss_ext (hn : notStar e = true) (hline : (apos.endLine == cpos.line) = true) (hbase : attributeBase a "extend" X.env (eval a X.env) = eval a X.env) (ha : PE X a (tE K xi fa)) (he : PE X e (tE K xi fb)) (hK : X.K = K) :
    PS X (.Expr (.Call (.Attribute a "extend" apos) [e] [] cpos) pos) (tS K xi fun ev h => (fa ev h).bind fun x h1 => if lstC x h1 = true then (fb ev h1).bind fun y h2 => (extF x y h2).bind fun _ h3 => .ok (.nx ev) h3 else .stuck) := by
  subst hK
  refine PSm (ps_expr (pe_bm PySem.F.plainAttrs_list PySem.F.slot_list_extend PySem.F.type_list_extend mt_extT ha (pa_cons he pa_nil (star_cons hn)) hbase (by rw [star_cons hn]; rfl) hline (star_cons hn) rfl) rfl) fun D st H ⟨ev, m, h, re, rh, q⟩ => ?_
  refine tE_bind re rh q fun vx x m1 H1 h1 g1 re1 rh1 rx p1 => ?_
  obtain ⟨hc, p1⟩ := Post.ite p1
  obtain ⟨r, l, vs, xs, rfl, rfl, hm, eh, hl, rv⟩ := lstC_at rh1 rx hc
  refine ⟨.inl ⟨rfl, vs, .inl (.inl hl)⟩, ?_⟩
  refine tE_bind re1 rh1 p1 fun vy y m2 H2 h2 g2 re2 rh2 ry p2 => ?_
  have hm2 := g2.at hm
  unfold extF at p2
  dsimp only at p2
  cases eh2 : h2[r]? with
  | none => rw [eh2] at p2; exact p2.elim
  | some ob =>
    cases ob with
    | dct _ => rw [eh2] at p2; exact p2.elim
    | lst ys =>
      rw [eh2] at p2
      cases ey : rdX h2 y with
      | none => rw [ey] at p2; exact p2.elim
      | some zs =>
        rw [ey] at p2
        dsimp only at p2
        by_cases hz : ys.length + zs.length ≤ sizeLine
        · rw [if_pos hz] at p2
          obtain ⟨us, hu, ru⟩ := rh2.at' r _ _ eh2 hm2
          have l1 := ru.length
          have fin : ∀ ws : List V, Reps X.K m2 H2 ws zs → D.nx st (upd H2 l (.lst (us ++ ws))) := fun ws rw' => by
            obtain ⟨rl, gl⟩ := rh2.wrote eh2 hm2 (ru.append rw')
            exact p2 m2 _ gl rl st (re2.grow gl)
          cases y <;> try (cases ey; done)
          · obtain ⟨b, ws, rfl, hb, rw'⟩ := tup_at ry
            cases ey
            have l2 := rw'.length
            exact .inr ⟨l, b, us, ws, rfl, rfl, hu, hb, by omega, fin ws rw'⟩
          · rename_i i
            unfold rdX at ey
            dsimp only at ey
            split at ey
            · rename_i ks e3
              cases ey
              obtain ⟨b, ws, rfl, hb, hq, rw'⟩ := lst_at rh2 ry e3
              have l2 := rw'.length
              exact .inl ⟨l, b, us, ws, rfl, rfl, hu, hq, by omega, fin ws rw'⟩
            · cases ey
        · rw [if_neg hz] at p2; exact p2.elim
/-! ### the signs of a text -/
theorem it_sgn {m0 : List Addr} {H0 : Hp} {z : Str} : ItOk K m0 H0 (Its z) (.items (signs z)) := by
  intro m H h k g rh
  refine ⟨fun e => ?_, fun x e => ?_⟩
  · have e' : (signs z)[k]? = none := Option.some.inj e
    rw [List.getElem?_eq_none_iff] at e'
    simp [signs] at e'
    exact e'
  · have e' : (signs z)[k]? = some x := Option.some.inj e
    unfold signs at e'
    rw [List.getElem?_map] at e'
    cases ec : z.cps.toList[k]? with
    | none => rw [ec] at e'; cases e'
    | some c =>
      rw [ec] at e'
      cases e'
      have hk : k < z.cps.size := by
        have := (List.getElem?_eq_some_iff.mp ec).1
        simpa using this
      refine ⟨hk, fun v H' y => ?_⟩
      obtain ⟨rfl, c', e2, rfl⟩ := y
      have e3 : z.cps[k]? = some c := by rw [← Array.getElem?_toList]; exact ec
      rw [e3] at e2
      cases e2
      exact ⟨Grow.refl _ _, rh, .str⟩
theorem si_sgn (ha : PE X a (tE K xi fa)) : PI X tg a (tI K xi fun ev h => (fa ev h).bind fun x h1 => match x with
    | .str z => .ok (.items (signs z)) h1
    | _ => .stuck) := by
  refine PIm (pi_str ha) fun st H R ⟨ev, m, h, re, rh, q⟩ => ?_
  refine tE_bind re rh q fun v x m1 H1 h1 g1 re1 rh1 rx p1 => ?_
  cases x <;> try exact p1.elim
  rename_i z
  cases rx
  exact ⟨z, rfl, p1.now rh1 _ it_sgn⟩
end
end Vm

set_option Elab.async false
set_option linter.all false
set_option maxRecDepth 100000
set_option maxHeartbeats 8000000
/-! VmL: sorted(xs), xs a list of rows of ints, of any length, below 0 too. -/
namespace Vm
open PySem PySem.Spec PyProof.Rows L2
variable [Tbs]
/-- a row as data -/
def tupD (r : List Int) : PyData := .tuple (r.map PyData.int)
theorem tupD_le : PySem.W.dataLe false tupD = rowLe := by
  funext p q
  show (!PySem.W.dataLt (.tuple (q.map .int)) (.tuple (p.map .int))) = _
  rw [PySem.W.dataLt_tuple]
  show (!PySem.W.rowLt (q.map .int) (p.map .int)) = _
  rw [PySem.W.dataLt_ints]
  unfold rowLe
  by_cases h : q < p
  · have h' : ¬ p ≤ q := fun r => List.not_lt.mpr r h
    simp [h, h']
  · have h' : p ≤ q := List.not_lt.mp h
    simp [h, h']
inductive Rws (K : PySem.W.Frag) (H : Hp) : List V → List (List Int) → Prop
  | nil : Rws K H [] []
  | cons {t : Addr} {r : List Int} {vs : List V} {rs : List (List Int)} : SqT K H t (r.map V.int) → Rws K H vs rs → Rws K H (.ref t :: vs) (r :: rs)
theorem Rws.length {K : PySem.W.Frag} {H : Hp} : ∀ {vs : List V} {rs : List (List Int)}, Rws K H vs rs → vs.length = rs.length
  | _, _, .nil => rfl
  | _, _, .cons _ t => by rw [List.length_cons, List.length_cons, Rws.length t]
/-- the machine's value is such a row -/
def RowV (K : PySem.W.Frag) (H : Hp) (u : Value) (r : List Int) : Prop := ∃ t, u = .ref t ∧ SqT K H t (r.map V.int)
theorem rws_each {K : PySem.W.Frag} {H : Hp} : ∀ {vs : List V} {us : List Value} {rs : List (List Int)}, Rws K H vs rs → Vals vs us → PySem.W.EachIs (RowV K H) us rs
  | _, _, _, .nil, .nil => .nil
  | _, _, _, .cons h t, .cons r v => by
    cases r
    exact .cons ⟨_, rfl, h⟩ (rws_each t v)
theorem each_rws {K : PySem.W.Frag} {H : Hp} : ∀ {us : List Value} {rs : List (List Int)}, PySem.W.EachIs (RowV K H) us rs → ∃ vs, Rws K H vs rs ∧ Vals vs us
  | _, _, .nil => ⟨[], .nil, .nil⟩
  | _, _, .cons ⟨t, e, h⟩ r => by
    obtain ⟨vs, h1, h2⟩ := each_rws r
    subst e
    exact ⟨.ref t :: vs, .cons h h1, .cons rfl h2⟩
theorem reads_ints {h : Heap} : ∀ {us : List Value} {ns : List Int}, IntsAre us ns → ReadsAll h us (ns.map PyData.int) []
  | _, _, .nil => .nil
  | _, _, .cons n t r => .cons (as := []) (bs := []) (.int n t) (reads_ints r)
section
variable {X : Cx} {K : PySem.W.Frag} {xj : XJ} {xi : XI} {a : Expr} {fa : Ev → IH → Res PV} {pos p : Pos} {pins : List (Addr × Obj)} {σ : L2.St} {s : Shared} {m : List Addr} {H : Hp} {h : IH}
theorem rowV_reads (I : Inv X pins σ H s) {u : Value} {r : List Int} (h : RowV X.K H u r) : ∃ as, Reads s.heap u (tupD r) as := by
  obtain ⟨t, rfl, h⟩ := h
  obtain ⟨its, rv, ⟨o, e1, e2, n, e3⟩, _⟩ := I.tuple h
  exact ⟨[], .tuple e1 e2 e3 (reads_ints (by simpa using rv.ints))⟩
def rSortR (K : PySem.W.Frag) : List V → Hp → VK → Prop := fun vs H Q => ∃ (a : Addr) (xs : List V) (rs : List (List Int)), vs = [V.ref a] ∧ SqL K H a xs ∧ Rws K H xs rs ∧ (∀ r ∈ rs, r ≠ []) ∧
  ∀ (ys : List V) (p : Addr), Rws K H ys (srtR rs) → H p = none → Q (.ref p) (upd H p (.lst ys))
theorem cr_sortR (hu : X.A.units + 100 < cLine) : CallR X (.builtin "sorted") (rSortR X.K) := by
  intro pins s σ H vs us Q I r h
  obtain ⟨a, xs, rs, rfl, hs, hx, hne, q⟩ := h
  obtain ⟨its, rv, hl, hz⟩ := I.list hs
  rw [Vals.ref1 r]
  have e := rws_each hx rv
  have er : PySem.W.EachIs (fun v b => ∃ as, Reads s.heap v (tupD b) as) its rs := e.mono fun u r h => rowV_reads I h
  have hlen : rs.length ≤ sizeLine := by rw [← hx.length]; exact hz
  refine PySem.W.sorted_data (enc := tupD) (R := RowV X.K H) hl.isList e er (PySem.W.AllAlike.of fun x y => ?_) (.inl fun d hd => ?_) hlen (fun b hb => ?_) fun out ol eo => ?_
  · show PySem.W.alike (.tuple (x.map .int)) (.tuple (y.map .int)) = true
    rw [PySem.W.alike]
    exact PySem.W.alike_ints x y
  · obtain ⟨b, hb, rfl⟩ := List.mem_map.mp hd
    cases b with
    | nil => exact absurd rfl (hne _ hb)
    | cons z zs => exact ⟨.int z, zs.map .int, rfl⟩
  · have : (tupD b).depth ≤ 1 := by
      show (PyData.tuple (b.map .int)).depth ≤ 1
      rw [PyData.depth, PySem.W.depth_ints]
      omega
    omega
  · rw [tupD_le] at eo
    obtain ⟨ys, hy, vy⟩ := each_rws eo
    obtain ⟨ep, he'⟩ := PyProof.Rows.sortedAll_at s.heap its (List.toArray out)
    have hl2 : ys.length ≤ sizeLine := by
      rw [hy.length]
      show (rs.mergeSort rowLe).length ≤ _
      rw [List.length_mergeSort]
      exact hlen
    exact ⟨.ref _, upd H (s.heap.objs.size + 1) (.lst ys), I.laid (t' := s.toks) (fun _ _ => PyProof.Rows.sortedAll_old) (Nat.le_succ _) ⟨hl2, out, ep, vy, he'⟩, rfl, q _ _ hy (I.hok.fresh (Nat.le_succ _))⟩
theorem rows_rws : ∀ {vs : List V} {xs : List PV} {rs : List (List Int)}, Reps K m H vs xs → rowsZ xs = some rs → Rws K H vs rs
  | _, _, rs, .nil, q => by cases q; exact .nil
  | _, _, rs, .cons (v := v) (x := x) (vs := vs) (xs := xs) r t, q => by
    have e := rowsZ_eq q
    cases rs with
    | nil => cases e
    | cons z zs =>
      rw [List.map_cons] at e
      injection e with e1 e2
      subst e1
      subst e2
      unfold rowP at r
      cases r with
      | tup h hr =>
        rw [hr.ints] at h
        exact .cons h (rows_rws t (rowsZ_map zs))
theorem rws_reps : ∀ {vs : List V} {rs : List (List Int)}, Rws K H vs rs → Reps K m H vs (rs.map rowP)
  | _, _, .nil => .nil
  | _, _, .cons (r := r) h t => .cons (.tup h (Reps.ofInts r)) (rws_reps t)
theorem se_psrt (hu : X.A.units + 100 < cLine) (hg : Gl X "sorted") (hm : X.mg "sorted" = none) (hn : notStar a = true) (ha : PE X a (tE X.K xi fa)) :
    PE X (.Call (.Name "sorted" p) [a] [] pos) (tE X.K xi fun ev h => (fa ev h).bind fun x h1 => psrtF x h1) := by
  refine PEm (pe_callB (pos := pos) (p := p) (cr_sortR hu) hg hm (by rfl) (pa_cons ha pa_nil (star_cons hn)) (by decide) (by decide) (star_cons hn) (plain_of (es := []) rfl)) fun st H Q ⟨ev, m, h, re, rh, q⟩ => ?_
  refine tE_bind re rh q fun v x m1 H1 h1 g1 re1 rh1 rx p1 => ?_
  cases x <;> try exact p1.elim
  rename_i r
  unfold psrtF at p1
  dsimp only at p1
  split at p1
  · rename_i xs e1
    split at p1
    · rename_i rs e2
      obtain ⟨hc, p1⟩ := Post.ite p1
      obtain ⟨q, vs, rfl, hm, hq, rv⟩ := lst_at rh1 rx e1
      refine ⟨q, vs, rs, rfl, .inl (.inl hq), rows_rws rv e2, fun z hz e => ?_, fun ys p hy hp => ?_⟩
      · have := List.all_eq_true.mp hc z hz
        subst e
        simp at this
      · exact (new_at rh1 (rws_reps hy) p1).2 p hp
    · exact p1.elim
  · exact p1.elim
end
end Vm

set_option Elab.async false
set_option linter.all false
set_option maxRecDepth 100000
set_option maxHeartbeats 8000000
/-! VmM: dicts by any text, how often an int stands in a list, a module's names. -/
namespace Vm
open PySem PySem.Spec PyProof.Rows L2
variable [Tbs]
section
variable {X : Cx} {K : PySem.W.Frag} {xj : XJ} {xi : XI} {a b e : Expr} {fa fb fv : Ev → IH → Res PV} {pos p p2 cpos apos : Pos} {m m' : List Addr} {H H' : Hp} {h : IH}
theorem kvs_val : ∀ {ws : List (Key × V)} {kvs : List (Str × PV)} (k : Str), KVs K m H ws kvs → (valV ws (Sum.inr k : Key)).isSome = (kvs.lookup k).isSome
  | _, _, k, .nil => rfl
  | _, _, k, .cons (a := a) (b := b) r t => by
    obtain ⟨a1, a2⟩ := a
    obtain ⟨b1, b2⟩ := b
    obtain ⟨r1, r2⟩ := r
    dsimp only at r1 r2
    subst r1
    by_cases hk : k = b1
    · subst hk
      rw [List.lookup_cons_self, valV_pos rfl]
      rfl
    · have hk' : (k == b1) = false := beq_eq_false_iff_ne.mpr hk
      rw [List.lookup_cons, hk', valV_neg (fun z => hk (Sum.inr.inj z).symm)]
      exact kvs_val k t
theorem kvs_app : ∀ {ws us : List (Key × V)} {kvs ls : List (Str × PV)}, KVs K m H ws kvs → KVs K m H us ls → KVs K m H (ws ++ us) (kvs ++ ls)
  | _, _, _, _, .nil, s => s
  | _, _, _, _, .cons r t, s => .cons r (kvs_app t s)
/-- a dict of texts at x, by the text y -/
def dkM {β : Type} (x y : PV) (h : IH) (f : Nat → List (Str × PV) → Str → Res β) : Res β := match x, y with
  | .ref r, .str k => (match h[r]? with
    | some (.dct kvs) => f r kvs k
    | _ => .stuck)
  | _, _ => .stuck
theorem dk_at {β : Type} {x y : PV} {vx vy : V} {f : Nat → List (Str × PV) → Str → Res β} {R : β → List Addr → Hp → Prop} (rh : RelH K m H h) (rx : Rep K m H vx x) (ry : Rep K m H vy y) (q : Post K xj m H (dkM x y h f) R) :
    ∃ r kvs k l ws, x = .ref r ∧ y = .str k ∧ h[r]? = some (.dct kvs) ∧ vx = .ref l ∧ vy = .str k ∧ m[r]? = some l ∧ H l = some (.dK ws) ∧ KVs K m H ws kvs ∧ Post K xj m H (f r kvs k) R := by
  unfold dkM at q
  split at q
  · rename_i r k
    split at q
    · rename_i kvs e
      obtain ⟨l, ws, rfl, hm, hl, rk⟩ := dct_at (x := .ref r) rh rx e
      cases ry
      exact ⟨r, kvs, k, l, ws, rfl, rfl, e, rfl, rfl, hm, hl, rk, q⟩
    · exact q.elim
  · exact q.elim
theorem dget_dk (x y : PV) (h : IH) : dgetF x y h = dkM x y h fun _ kvs k => match kvs.lookup k with
    | some v => .ok v h
    | none => .stuck := rfl
theorem dput_dk (x y z : PV) (h : IH) : dputkF x y z h = dkM x y h fun r kvs k => if kvs.length < sizeLine then .ok () (h.set r (.dct (dputL kvs k z))) else .stuck := rfl
theorem se_dget (hu : X.A.units + 1 < cLine) (hi : plainIx b = true) (ha : PE X a (tE K xi fa)) (hb : PE X b (tE K xi fb)) :
    PE X (.Subscript a b pos) (tE K xi fun ev h => (fa ev h).bind fun x h1 => (fb ev h1).bind fun y h2 => dgetF x y h2) := by
  refine PEm (pe_dget hu ha hb (plainIx_of hi)) fun st H Q ⟨ev, m, h, re, rh, q⟩ => ?_
  refine tE_bind re rh q fun vx x m1 H1 h1 g1 re1 rh1 rx p1 => ?_
  refine tE_bind re1 rh1 p1 fun vy y m2 H2 h2 g2 re2 rh2 ry p2 => ?_
  rw [dget_dk] at p2
  obtain ⟨r, kvs, k, l, ws, rfl, rfl, e, rfl, rfl, hm, hl, rk, p3⟩ := dk_at rh2 (rx.grow g2) ry p2
  cases e2 : kvs.lookup k with
  | none => rw [e2] at p3; exact p3.elim
  | some z =>
    rw [e2] at p3
    obtain ⟨v, e3, rv⟩ := kvs_get rk e2
    refine ⟨l, v, rfl, ?_, p3.now rh2 _ rv⟩
    rw [← e3]
    exact DGet.k (k := Sum.inr k) hl
theorem din_at {β : Type} {neg : Bool} {y x : PV} {vx vy : V} {g : PV → IH → Res β} {R : β → List Addr → Hp → Prop} (rh : RelH K m H h) (rx : Rep K m H vx x) (ry : Rep K m H vy y) (p : Post K xj m H ((dinF neg y x h).bind g) R) :
    ∃ (l : Addr) (o : Option V), vx = .ref l ∧ DGet H l vy o ∧ Post K xj m H (g (.bl (if neg then !o.isSome else o.isSome)) h) R := by
  cases x <;> cases y <;> try exact p.elim
  rename_i r k
  cases ry
  unfold dinF at p
  dsimp only at p
  cases e : h[r]? with
  | none => rw [e] at p; exact p.elim
  | some o =>
    cases o with
    | lst _ => rw [e] at p; exact p.elim
    | dct kvs =>
      rw [e] at p
      obtain ⟨l, ws, rfl, hm, hl, rk⟩ := dct_at (x := .ref r) rh rx e
      refine ⟨l, _, rfl, DGet.k (k := Sum.inr k) hl, ?_⟩
      rw [kvs_val k rk]
      exact p
theorem din_tail {neg : Bool} {y x : PV} {vx vy : V} {Q : VK} (rh : RelH K m H h) (rx : Rep K m H vx x) (ry : Rep K m H vy y) (p : Post K xj m H (dinF neg y x h) fun z m' H' => ∀ v, Rep K m' H' v z → Q v H') :
    ∃ (l : Addr) (o : Option V), vx = .ref l ∧ DGet H l vy o ∧ Q (.bl (if neg then !o.isSome else o.isSome)) H := by
  have e : dinF neg y x h = (dinF neg y x h).bind fun z h1 => .ok z h1 := by cases dinF neg y x h <;> rfl
  rw [e] at p
  obtain ⟨l, o, h1, h2, p⟩ := din_at rh rx ry p
  exact ⟨l, o, h1, h2, p.now rh _ .bl⟩
theorem se_din (neg : Bool) (hu : X.A.units + 1 < cLine) (hm : behindInMarks (if neg then .NotIn else .In) b = false) (ha : PE X a (tE K xi fa)) (hb : PE X b (tE K xi fb)) :
    PE X (.Compare a [if neg then .NotIn else .In] [b] pos) (tE K xi fun ev h => (fa ev h).bind fun y h1 => (fb ev h1).bind fun x h2 => dinF neg y x h2) := by
  cases neg with
  | false =>
    refine PEm (pe_cmp (pc_dinN hu ha hb) hm) fun st H Q ⟨ev, m, h, re, rh, q⟩ => ?_
    refine tE_bind re rh q fun vy y m1 H1 h1 g1 re1 rh1 ry p1 => ?_
    refine tE_bind re1 rh1 p1 fun vx x m2 H2 h2 g2 re2 rh2 rx p2 => ?_
    exact .inl (din_tail (neg := false) rh2 rx (ry.grow g2) p2)
  | true =>
    refine PEm (pe_cmp (pc_dnotinN hu ha hb) hm) fun st H Q ⟨ev, m, h, re, rh, q⟩ => ?_
    refine tE_bind re rh q fun vy y m1 H1 h1 g1 re1 rh1 ry p1 => ?_
    refine tE_bind re1 rh1 p1 fun vx x m2 H2 h2 g2 re2 rh2 rx p2 => ?_
    exact .inl (din_tail (neg := true) rh2 rx (ry.grow g2) p2)
theorem st_din (neg : Bool) (hu : X.A.units + 1 < cLine) (hm : behindInMarks (if neg then .NotIn else .In) b = false) (ha : PE X a (tE K xi fa)) (hb : PE X b (tE K xi fb)) :
    PT X (.Compare a [if neg then .NotIn else .In] [b] pos) (tT K xi (bF fun ev h => (fa ev h).bind fun y h1 => (fb ev h1).bind fun x h2 => dinF neg y x h2)) := by
  cases neg with
  | false =>
    refine PTm (pt_cmp (pc_dinN hu ha hb) hm) fun st H Q ⟨ev, m, h, re, rh, q⟩ => ?_
    dsimp only [bF] at q
    rw [bindA] at q
    refine tE_bind re rh q fun vy y m1 H1 h1 g1 re1 rh1 ry p1 => ?_
    rw [bindA] at p1
    refine tE_bind re1 rh1 p1 fun vx x m2 H2 h2 g2 re2 rh2 rx p2 => ?_
    obtain ⟨l, o, e1, e2, p3⟩ := din_at (neg := false) rh2 rx (ry.grow g2) p2
    exact .inl ⟨l, o, e1, e2, _, rfl, Post.now p3 rh2⟩
  | true =>
    refine PTm (pt_cmp (pc_dnotinN hu ha hb) hm) fun st H Q ⟨ev, m, h, re, rh, q⟩ => ?_
    dsimp only [bF] at q
    rw [bindA] at q
    refine tE_bind re rh q fun vy y m1 H1 h1 g1 re1 rh1 ry p1 => ?_
    rw [bindA] at p1
    refine tE_bind re1 rh1 p1 fun vx x m2 H2 h2 g2 re2 rh2 rx p2 => ?_
    obtain ⟨l, o, e1, e2, p3⟩ := din_at (neg := true) rh2 rx (ry.grow g2) p2
    exact .inl ⟨l, o, e1, e2, _, rfl, Post.now p3 rh2⟩
/-- d[k] = v -/
theorem ss_dputk {o i : Expr} {fo fi : Ev → IH → Res PV} {tpos : Pos} (hu : X.A.units + 1 < cLine) (hn : noComp e = true) (hi : plainIx i = true) (hv : PE X e (tE K xi fv)) (ho : PE X o (tE K xi fo)) (hi' : PE X i (tE K xi fi)) :
    PS X (.Assign [.Subscript o i tpos] e pos) (tS K xi fun ev h => (fv ev h).bind fun z h1 => (fo ev h1).bind fun x h2 => (fi ev h2).bind fun y h3 => (dputkF x y z h3).bind fun _ h4 => .ok (.nx ev) h4) := by
  refine PSm (ps_asg hv (pg_sub ho hi' (set_dict hu) (by intro v; cases i <;> first | rfl | cases hi)) (by show swapsWith e (some (.Subscript o i tpos)) pos.line X.env = pure false; exact swaps_of hn _ _ _) swapped_sub rfl) fun D st H ⟨ev, m, h, re, rh, q⟩ => ?_
  refine tE_bind re rh q fun vz z m1 H1 h1 g1 re1 rh1 rz p1 => ?_
  refine tE_bind re1 rh1 p1 fun vx x m2 H2 h2 g2 re2 rh2 rx p2 => ?_
  refine tE_bind re2 rh2 p2 fun vy y m3 H3 h3 g3 re3 rh3 ry p3 => ?_
  have p4 : Post K (xi st) m3 H3 (dputkF x y z h3) fun _ m' H' => toD K D (.nx ev) m' H' := p3.bind fun _ h1 m1 H1 g1 rh1 p1 => p1.now rh1
  rw [dput_dk] at p4
  obtain ⟨r, kvs, k, l, ws, rfl, rfl, e1, rfl, rfl, hm, hl, rk, p5⟩ := dk_at rh3 (rx.grow g3) ry p4
  obtain ⟨hc, p5⟩ := Post.ite p5
  have rz3 := (rz.grow g2).grow g3
  have key : KVs K m3 H3 (putK ws (Sum.inr k : Key) vz) (dputL kvs k z) := by
    unfold putK dputL
    rw [kvs_any k rk]
    by_cases c : (kvs.any fun p => decide (p.1 = k)) = true
    · rw [if_pos c, if_pos c]
      exact kvs_set rz3 k rk
    · rw [if_neg c, if_neg c]
      exact kvs_app rk (.cons ⟨rfl, rz3⟩ .nil)
  obtain ⟨rl, gl⟩ := RelH.wroteD rh3 e1 hm key
  exact ⟨l, _, rfl, .inl ⟨ws, Sum.inr k, hl, rfl, by rw [kvs_len rk]; exact hc, rfl⟩, p5 m3 _ gl rl st (re3.grow gl)⟩
theorem se_cnt (hK : X.K = K) (hn : notStar e = true) (hline : (apos.endLine == cpos.line) = true) (hbase : attributeBase a "count" X.env (eval a X.env) = eval a X.env) (ha : PE X a (tE K xi fa)) (he : PE X e (tE K xi fb)) :
    PE X (.Call (.Attribute a "count" apos) [e] [] cpos) (tE K xi fun ev h => (fa ev h).bind fun x h1 => if lstC x h1 = true then (fb ev h1).bind fun y h2 => cntF x y h2 else .stuck) := by
  subst hK
  refine PEm (pe_bm PySem.F.plainAttrs_list PySem.F.slot_list_count PySem.F.type_list_count mt_lcount ha (pa_cons he pa_nil (star_cons hn)) hbase (by rw [star_cons hn]; rfl) hline (star_cons hn) rfl) fun st H Q ⟨ev, m, h, re, rh, q⟩ => ?_
  refine tE_bind re rh q fun vx x m1 H1 h1 g1 re1 rh1 rx p1 => ?_
  obtain ⟨hc, p1⟩ := Post.ite p1
  obtain ⟨r, l, vs, xs, rfl, rfl, hm, eh, hl, rv⟩ := lstC_at rh1 rx hc
  refine ⟨.inl ⟨rfl, vs, .inl (.inl hl)⟩, ?_⟩
  refine tE_bind re1 rh1 p1 fun vy y m2 H2 h2 g2 re2 rh2 ry p2 => ?_
  have hm2 := g2.at hm
  cases y <;> try exact p2.elim
  rename_i k
  cases ry
  unfold cntF at p2
  dsimp only at p2
  cases eh2 : h2[r]? with
  | none => rw [eh2] at p2; exact p2.elim
  | some ob =>
    cases ob with
    | dct _ => rw [eh2] at p2; exact p2.elim
    | lst ys =>
      rw [eh2] at p2
      dsimp only at p2
      cases e2 : intsOf ys with
      | none => rw [e2] at p2; exact p2.elim
      | some ns =>
        rw [e2] at p2
        obtain ⟨us, hu, ru⟩ := rh2.at' r _ _ eh2 hm2
        have e3 := intsOf_eq e2
        subst e3
        rw [ru.ints] at hu
        exact ⟨l, ns, k, rfl, rfl, .inl (.inl hu), p2.now rh2 _ .int⟩
/-! ### a module's names -/
def ConGood (X : Cx) (x : Str) (k : Cst) : Prop := ∃ u v, X.mg x = some u ∧ RelV v u ∧ ∀ m H, Rep X.K m H v k.pv
theorem se_gcon {x : Str} {k : Cst} (hg : Gl X x) (h : ConGood X x k) (hd : (x == ("__debug__" : Str)) = false) : PE X (.Name x pos) (tE X.K xi fun _ h => .ok k.pv h) := by
  obtain ⟨u, v, h1, h2, h3⟩ := h
  exact se_con (C8.pe_gc hg ⟨u, h1, h2⟩ hd) h3
end
end Vm

set_option Elab.async false
set_option linter.all false
set_option maxRecDepth 100000
set_option maxHeartbeats 4000000
/-! VnJ: displays with text keys and any values; range by steps. -/
namespace Vm
open PySem PySem.Spec PyProof.Rows L2
variable [Tbs]
def trsOf (K : PySem.W.Frag) (xi : XI) (G B : Fns) : List Str → Es → List (TE × TE)
  | k :: ks, .cons e es => (tC (.str k), tE K xi (evE G B e)) :: trsOf K xi G B ks es
  | _, _ => []
def esLen : Es → Nat
  | .nil => 0
  | .cons _ es => esLen es + 1
theorem trs_run {K : PySem.W.Frag} {xi : XI} {G B : Fns} : ∀ (es : Es) (ks : List Str), esLen es = ks.length → ∀ {st : L2.St} {H : Hp} {ev : Ev} {m : List Addr} {h : IH} {Q : List (V × V) → Hp → Prop}, REnv K m H st ev → RelH K m H h →
    Post K (xi st) m H (evEs G B es ev h) (fun xs m' H' => ∀ vs, Reps K m' H' vs xs → Q ((ks.map V.str).zip vs) H') → tPairs (trsOf K xi G B ks es) st H Q
  | .nil, [], _, st, H, ev, m, h, Q, re, rh, p => p.now rh [] .nil
  | .nil, _ :: _, l, _, _, _, _, _, _, _, _, _ => by cases l
  | .cons e es, [], l, _, _, _, _, _, _, _, _, _ => by cases l
  | .cons e es, k :: ks, l, st, H, ev, m, h, Q, re, rh, p => by
    have l' : esLen es = ks.length := by simpa [esLen] using l
    have p1 : Post K (xi st) m H ((evE G B e ev h).bind fun x h1 => (evEs G B es ev h1).bind fun xs h2 => .ok (x :: xs) h2) (fun xs m' H' => ∀ vs, Reps K m' H' vs xs → Q (((k :: ks).map V.str).zip vs) H') := p
    show tE K xi (evE G B e) st H fun y H2 => tPairs (trsOf K xi G B ks es) st H2 fun ps H3 => Q ((V.str k, y) :: ps) H3
    refine ⟨ev, m, h, re, rh, p1.bind fun x h1 m1 H1 g1 rh1 p2 => ?_⟩
    intro v rv
    refine trs_run es ks l' (re.grow g1) rh1 (p2.bind fun xs h2 m2 H2 g2 rh2 p3 => ?_)
    intro vs rvs
    exact p3.now rh2 (v :: vs) (.cons (rv.grow g2) rvs)
theorem zip_kv {K : PySem.W.Frag} {m : List Addr} {H : Hp} : ∀ {ks : List Str} {vs : List V} {xs : List PV}, Reps K m H vs xs → KVs K m H ((ks.zip vs).map fun q => ((Sum.inr q.1 : Key), q.2)) (ks.zip xs)
  | [], _, _, _ => by
    rw [List.zip_nil_left, List.zip_nil_left]
    exact .nil
  | k :: ks, _, _, .nil => by
    rw [List.zip_nil_right, List.zip_nil_right]
    exact .nil
  | k :: ks, _, _, .cons r t => .cons ⟨rfl, r⟩ (zip_kv (ks := ks) t)
theorem se_ddis {X : Cx} {xi : XI} {G B : Fns} {pos : Pos} {keys : List (Option Expr)} {ys : List Expr} {ks : List Str} {es : Es} (hp : PPs X pos keys ys (trsOf X.K xi G B ks es)) (k1 : keys.all (·.isSome) = true) (k2 : keys.length = ys.length) (k3 : keys ≠ []) (k4 : keys.length ≤ 15) (k5 : esLen es = ks.length) :
    PE X (.Dict keys ys pos) (tE X.K xi fun ev h => (evEs G B es ev h).bind fun xs h1 => ddisF ks xs h1) := by
  refine PEm (pe_disp hp k1 k2 k3 k4) fun st H Q ⟨ev, m, h, re, rh, q⟩ => ?_
  intro p hp
  have gj : Grow m H m (upd H p (.dK [])) := Grow.junk hp
  have hpm : p ∉ m := fun z => by
    obtain ⟨u, hu⟩ := rh.mem z
    rw [hp] at hu; cases hu
  refine trs_run es ks k5 (re.grow gj) (rh.junk hp) ?_
  dsimp only at q
  cases e : evEs G B es ev h with
  | stuck => rw [e] at q; exact q.elim
  | exc cc fs h1 =>
    rw [e] at q
    exact fun m1 H1 g1 rh1 => q m1 H1 (gj.trans g1) rh1
  | ok xs h1 =>
    rw [e, Res.bind_ok] at q
    intro m1 H1 g1 rh1 vs rx
    obtain ⟨hd, hn⟩ := g1.fr p _ upd_same (fun _ z => nomatch z) hpm
    obtain ⟨hc, q⟩ := Post.ite q
    have lv : vs.length = ks.length := by rw [rx.length]; exact hc.2.1
    have lz : (ks.zip vs).length = ks.length := by rw [List.length_zip, lv]; omega
    refine ⟨hd, (ks.zip vs).map fun q => ((Sum.inr q.1 : Key), q.2), ?_, by rw [List.length_map, lz]; exact hc.2.2, ?_⟩
    · rw [List.map_map, List.zip_map_left]
      rfl
    · have nd : (((ks.zip vs).map fun q => ((Sum.inr q.1 : Key), q.2)).map (·.1)).Nodup := by
        have e1 : ((ks.zip vs).map fun q => ((Sum.inr q.1 : Key), q.2)).map (·.1) = ks.map fun z => (Sum.inr z : Key) := by
          rw [List.map_map]
          have : ((fun x : Key × V => x.1) ∘ fun q : Str × V => ((Sum.inr q.1 : Key), q.2)) = (fun z => (Sum.inr z : Key)) ∘ Prod.fst := rfl
          rw [this, ← List.map_map, List.map_fst_zip (by omega)]
        rw [e1]
        have hn' : List.Pairwise (fun a b => a ≠ b) ks := hc.1
        exact List.Pairwise.map (fun z => (Sum.inr z : Key)) (fun a b n z => n (Sum.inr.inj z)) hn'
      rw [merge_nodup _ [] (by rw [List.nil_append]; exact nd), List.nil_append]
      have kv := zip_kv (ks := ks) rx
      have rl := RelH.takeD rh1 hd hn kv
      refine q _ _ (((gj.trans g1).own hp).take hp) rl _ (.ref ?_)
      rw [← rh1.len]
      simp
/-! ### range by steps -/
theorem it_rng3 {K : PySem.W.Frag} {m0 : List Addr} {H0 : Hp} {lo c : Int} {n : Nat} : ItOk K m0 H0 (Itc lo c n) (.items (rng3L lo c n)) := by
  intro m H h k g rh
  refine ⟨fun e => ?_, fun x e => ?_⟩
  · have e' : (rng3L lo c n)[k]? = none := Option.some.inj e
    rw [List.getElem?_eq_none_iff] at e'
    simp [rng3L] at e'
    exact e'
  · have e' : (rng3L lo c n)[k]? = some x := Option.some.inj e
    obtain ⟨hk, hx⟩ := List.getElem?_eq_some_iff.mp e'
    simp [rng3L] at hk hx
    subst hx
    refine ⟨hk, fun v H' y => ?_⟩
    obtain ⟨rfl, rfl⟩ := y
    exact ⟨Grow.refl _ _, rh, .int⟩
theorem rgc_ok {i j k : Int} (h : 0 ≤ i ∧ i ≤ 1000000 ∧ 0 ≤ j ∧ j ≤ 1000000 ∧ 0 < k ∧ k ≤ 1000000) : RgC i j k (if i < j then ((j - i - 1) / k + 1).toNat else 0) := by
  obtain ⟨h1, h2, h3, h4, h5, h6⟩ := h
  have q0 : i < j → 0 ≤ (j - i - 1) / k ∧ (j - i - 1) / k ≤ j - i - 1 := fun c => ⟨Int.ediv_nonneg (by omega) (by omega), Int.ediv_le_self _ (by omega)⟩
  have e : Builtin.Range.rangeSize i j k = ((if i < j then ((j - i - 1) / k + 1).toNat else 0 : Nat) : Int) := by
    unfold Builtin.Range.rangeSize
    rw [if_pos h5]
    split
    · have := q0 ‹_›
      omega
    · rfl
  refine ⟨by omega, by omega, ?_, e⟩
  unfold Builtin.Range.small
  rw [e]
  have s : ((if i < j then ((j - i - 1) / k + 1).toNat else 0 : Nat) : Int) ≤ 1000000 := by
    split
    · have := q0 ‹_›
      omega
    · omega
  have s0 : 0 ≤ ((if i < j then ((j - i - 1) / k + 1).toNat else 0 : Nat) : Int) := Int.natCast_nonneg _
  generalize ((if i < j then ((j - i - 1) / k + 1).toNat else 0 : Nat) : Int) = z at s s0
  have f : ∀ x : Int, 0 ≤ x → x ≤ 3000000 → Builtin.Range.rangeFitsLong x = true := fun x a b => by
    unfold Builtin.Range.rangeFitsLong
    simp
    omega
  rw [f i h1 (by omega), f j h3 (by omega), f k (by omega) (by omega), f z s0 (by omega), if_pos h5, f (j + (k - 1)) (by omega) (by omega)]
  simp
theorem si_rng3 {X : Cx} {K : PySem.W.Frag} {xj : XJ} {xi : XI} {tg a b c : Expr} {pos p : Pos} {fa fb fc : Ev → IH → Res PV} (hg : Gl X "range") (hm : X.mg "range" = none) (hn : notStar a = true) (hn2 : notStar b = true) (hn3 : notStar c = true) (ha : PE X a (tE K xi fa)) (hb : PE X b (tE K xi fb)) (hc : PE X c (tE K xi fc)) : PI X tg (.Call (.Name "range" p) [a, b, c] [] pos)
    (tI K xi fun ev h => (fa ev h).bind fun x h1 => (fb ev h1).bind fun y h2 => (fc ev h2).bind fun z h3 => rng3F x y z h3) := by
  refine PIm (pi_range3 hg hm (pa_cons ha (pa_cons hb (pa_cons hc pa_nil (star_cons hn3)) (star_cons hn2)) (star_cons hn)) (by rw [star_cons hn]) (by rw [star_cons hn2, star_cons hn3]; rfl)) fun st H R ⟨ev, m, h, re, rh, q⟩ => ?_
  refine tE_bind re rh q fun v x m1 H1 h1 g1 re1 rh1 rx p1 => ?_
  refine tE_bind re1 rh1 p1 fun w y m2 H2 h2 g2 re2 rh2 ry p2 => ?_
  refine tE_bind re2 rh2 p2 fun u z m3 H3 h3 g3 re3 rh3 rz p3 => ?_
  cases x <;> cases y <;> cases z <;> try exact p3.elim
  rename_i i j k
  cases rx
  cases ry
  cases rz
  obtain ⟨hb, p3⟩ := Post.ite p3
  exact ⟨i, j, k, _, rfl, rgc_ok hb, p3.now rh3 _ it_rng3⟩
end Vm

set_option Elab.async false
set_option linter.all false
set_option maxRecDepth 100000
set_option maxHeartbeats 4000000
/-! VnK: x is True, tuple(range(n)), insert. -/
namespace Vm
open PySem PySem.Spec PyProof.Rows L2
variable [T : Tbs]
section
variable {X : Cx} {K : PySem.W.Frag} {xj : XJ} {xi : XI} {a b e : Expr} {fa fb fc : Ev → IH → Res PV} {pos p p2 cpos apos : Pos} {m : List Addr} {H : Hp} {h : IH}
/-- something else is no truth value -/
def rNoB (neg : Bool) : R2 := fun x y H Q => (x = .non ∨ (∃ i, x = .int i) ∨ ∃ z, x = .str z) ∧ (∃ b, y = .bl b) ∧ Q (.bl neg) H
theorem op_is_nb : OpR X (compareOp .Is) (rNoB false) := by
  intro pins s σ H x y v u Q I rx ry h
  obtain ⟨hx, ⟨b, rfl⟩, q⟩ := h
  cases ry
  rcases hx with rfl | ⟨i, rfl⟩ | ⟨z, rfl⟩
  · cases rx
    exact wpAny_pure ⟨.bl false, H, I, rfl, q⟩
  · obtain ⟨t, rfl⟩ := rx
    exact wpAny_pure ⟨.bl false, H, I, rfl, q⟩
  · obtain ⟨t, rfl⟩ := rx
    exact wpAny_pure ⟨.bl false, H, I, rfl, q⟩
theorem op_isnot_nb : OpR X (compareOp .IsNot) (rNoB true) := by
  intro pins s σ H x y v u Q I rx ry h
  obtain ⟨hx, ⟨b, rfl⟩, q⟩ := h
  cases ry
  rcases hx with rfl | ⟨i, rfl⟩ | ⟨z, rfl⟩
  · cases rx
    exact wpAny_pure ⟨.bl true, H, I, rfl, q⟩
  · obtain ⟨t, rfl⟩ := rx
    exact wpAny_pure ⟨.bl true, H, I, rfl, q⟩
  · obtain ⟨t, rfl⟩ := rx
    exact wpAny_pure ⟨.bl true, H, I, rfl, q⟩
theorem ok_isb : OpOk K xj (isbF false) (fun x y H Q => (∃ a b, x = .bl a ∧ y = .bl b ∧ Q (.bl (decide (a = b))) H) ∨ rNoB false x y H Q) := by
  intro m H h x y vx vy Q rh rx ry p
  cases x <;> cases y <;> try exact p.elim
  · cases rx; cases ry
    exact .inr ⟨.inl rfl, ⟨_, rfl⟩, p.now rh _ .bl⟩
  · cases rx; cases ry
    exact .inl ⟨_, _, rfl, rfl, p.now rh _ .bl⟩
  · cases rx; cases ry
    exact .inr ⟨.inr (.inl ⟨_, rfl⟩), ⟨_, rfl⟩, p.now rh _ .bl⟩
  · cases rx; cases ry
    exact .inr ⟨.inr (.inr ⟨_, rfl⟩), ⟨_, rfl⟩, p.now rh _ .bl⟩
theorem ok_isnb : OpOk K xj (isbF true) (fun x y H Q => (∃ a b, x = .bl a ∧ y = .bl b ∧ Q (.bl (!decide (a = b))) H) ∨ rNoB true x y H Q) := by
  intro m H h x y vx vy Q rh rx ry p
  cases x <;> cases y <;> try exact p.elim
  · cases rx; cases ry
    exact .inr ⟨.inl rfl, ⟨_, rfl⟩, p.now rh _ .bl⟩
  · cases rx; cases ry
    exact .inl ⟨_, _, rfl, rfl, p.now rh _ .bl⟩
  · cases rx; cases ry
    exact .inr ⟨.inr (.inl ⟨_, rfl⟩), ⟨_, rfl⟩, p.now rh _ .bl⟩
  · cases rx; cases ry
    exact .inr ⟨.inr (.inr ⟨_, rfl⟩), ⟨_, rfl⟩, p.now rh _ .bl⟩
theorem se_isb (neg : Bool) (ha : PE X a (tE K xi fa)) (hb : PE X b (tE K xi fb)) :
    PE X (.Compare a [if neg then .IsNot else .Is] [b] pos) (tE K xi fun ev h => (fa ev h).bind fun x h1 => (fb ev h1).bind fun y h2 => isbF neg x y h2) ∧
    PT X (.Compare a [if neg then .IsNot else .Is] [b] pos) (tT K xi (bF fun ev h => (fa ev h).bind fun x h1 => (fb ev h1).bind fun y h2 => isbF neg x y h2)) := by
  have hm : behindInMarks (if neg then .IsNot else .Is) b = false := nomark b (by cases neg <;> decide) (by cases neg <;> decide)
  cases neg with
  | false => exact ⟨se_cmp (op_is_bl.or op_is_nb) (fun _ => ok_isb) hm ha hb, st_cmp (op_is_bl.or op_is_nb) (fun _ => ok_isb) hm ha hb⟩
  | true => exact ⟨se_cmp (op_isnot_bl.or op_isnot_nb) (fun _ => ok_isnb) hm ha hb, st_cmp (op_isnot_bl.or op_isnot_nb) (fun _ => ok_isnb) hm ha hb⟩
theorem se_trng (hc : X.calm = true) (hg : Gl X "tuple") (hm : X.mg "tuple" = none) (hg2 : Gl X "range") (hm2 : X.mg "range" = none) (hn : notStar a = true) (ha : PE X a (tE X.K xi fa)) :
    PE X (.Call (.Name "tuple" p) [.Call (.Name "range" p2) [a] [] cpos] [] pos) (tE X.K xi fun ev h => (fa ev h).bind fun x h1 => trngF x h1) := by
  refine PEm (pe_tupRg hc hg hm (prg_1 hg2 hm2 ha (star_cons hn)) rfl) fun st H Q ⟨ev, m, h, re, rh, q⟩ => ?_
  refine tE_bind re rh q fun v x m1 H1 h1 g1 re1 rh1 rx p1 => ?_
  cases x <;> try exact p1.elim
  rename_i n
  cases rx
  obtain ⟨hb, p1⟩ := Post.ite p1
  refine ⟨n, rfl, ⟨by decide, by decide, hb.1, hb.2.1, by rw [Int.sub_zero]; exact hb.2.2⟩, newT_at rh1 (reps_rng n) p1⟩
theorem ss_ins {i : Expr} (hni : notStar i = true) (hn : notStar e = true) (hline : (apos.endLine == cpos.line) = true) (hbase : attributeBase a "insert" X.env (eval a X.env) = eval a X.env) (ha : PE X a (tE K xi fa)) (hi : PE X i (tE K xi fb)) (he : PE X e (tE K xi fc)) (hK : X.K = K) :
    PS X (.Expr (.Call (.Attribute a "insert" apos) [i, e] [] cpos) pos) (tS K xi fun ev h => (fa ev h).bind fun x h1 => if lstC x h1 = true then (fb ev h1).bind fun y h2 => (fc ev h2).bind fun z h3 => (insF x y z h3).bind fun _ h4 => .ok (.nx ev) h4 else .stuck) := by
  subst hK
  refine PSm (ps_expr (pe_bm PySem.F.plainAttrs_list PySem.F.slot_list_insert PySem.F.type_list_insert mt_insert ha (pa_cons hi (pa_cons he pa_nil (star_cons hn)) (star_cons hni)) hbase (by rw [star_cons hni, star_cons hn]; rfl) hline (star_cons hni) (by rw [star_cons hn]; rfl)) rfl) fun D st H ⟨ev, m, h, re, rh, q⟩ => ?_
  refine tE_bind re rh q fun vx x m1 H1 h1 g1 re1 rh1 rx p1 => ?_
  obtain ⟨hc, p1⟩ := Post.ite p1
  obtain ⟨r, l, vs, xs, rfl, rfl, hm, eh, hl, rv⟩ := lstC_at rh1 rx hc
  refine ⟨.inl ⟨rfl, vs, .inl (.inl hl)⟩, ?_⟩
  refine tE_bind re1 rh1 p1 fun vy y m2 H2 h2 g2 re2 rh2 ry p2 => ?_
  have hm2 := g2.at hm
  refine tE_bind re2 rh2 p2 fun vz z m3 H3 h3 g3 re3 rh3 rz p3 => ?_
  have hm3 := g3.at hm2
  cases y <;> try exact p3.elim
  rename_i j
  cases ry
  unfold insF at p3
  dsimp only at p3
  cases eh2 : h3[r]? with
  | none => rw [eh2] at p3; exact p3.elim
  | some ob =>
    cases ob with
    | dct _ => rw [eh2] at p3; exact p3.elim
    | lst ys =>
      rw [eh2] at p3
      dsimp only at p3
      by_cases hz : ys.length < sizeLine ∧ 0 ≤ j ∧ j < 2 ^ 63
      · rw [if_pos hz] at p3
        obtain ⟨us, hu, ru⟩ := rh3.at' r _ _ eh2 hm3
        have l1 := ru.length
        obtain ⟨rl, gl⟩ := rh3.wrote eh2 hm3 (((ru.take j.toNat).append (.cons rz .nil)).append (ru.drop j.toNat))
        exact ⟨l, us, j, vz, rfl, rfl, hu, by omega, hz.2.1, hz.2.2, p3 m3 _ gl rl st (re3.grow gl)⟩
      · rw [if_neg hz] at p3; exact p3.elim
/-- a, b, c = x, y, z -/
theorem ss_par3 {i j l : Nat} {x y z : Str} {c : Expr} {px py pz pt pt2 : Pos} {kt k2 : Nat} (hc : X.calm = true) (hN : X.N.Nodup) (hi : X.N[i]? = some x) (hj : X.N[j]? = some y) (hl : X.N[l]? = some z) (hij : i ≠ j) (hil : i ≠ l) (hjl : j ≠ l)
    (hx : X.env.scope.names.lookup x = some .local) (hy : X.env.scope.names.lookup y = some .local) (hz : X.env.scope.names.lookup z = some .local) (hna : notStar a = true) (hnb : notStar b = true) (hnc : notStar c = true) (ha : PE X a (tE K xi fa)) (hb : PE X b (tE K xi fb)) (hcc : PE X c (tE K xi fc))
    (hw : swappedStores [.Tuple [.Name x px, .Name y py, .Name z pz] kt pt] (.Tuple [a, b, c] k2 pt2) X.env = pure (some [x, y, z])) :
    PS X (.Assign [.Tuple [.Name x px, .Name y py, .Name z pz] kt pt] (.Tuple [a, b, c] k2 pt2) pos) (tS K xi fun ev h => (fa ev h).bind fun x h1 => (fb ev h1).bind fun y h2 => (fc ev h2).bind fun z h3 => .ok (.nx (((ev.set i (some x)).set j (some y)).set l (some z))) h3) := by
  refine PSm (ps_par3 hc hN hi hj hl hij hil hjl hx hy hz (pa_cons ha (pa_cons hb (pa_cons hcc pa_nil (star_cons hnc)) (star_cons hnb)) (star_cons hna)) hw rfl) fun D st H ⟨ev, m, h, re, rh, q⟩ => ?_
  refine tE_bind re rh q fun v x m1 H1 h1 g1 re1 rh1 rx p1 => ?_
  refine tE_bind re1 rh1 p1 fun w y m2 H2 h2 g2 re2 rh2 ry p2 => ?_
  refine tE_bind re2 rh2 p2 fun u z m3 H3 h3 g3 re3 rh3 rz p3 => ?_
  exact ⟨v, w, u, rfl, p3.now rh3 _ (((re3.set i (rx.grow (g2.trans g3))).set j (ry.grow g3)).set l rz)⟩
/-- d.get(k), k a key that is there -/
theorem se_dgt (hu : X.A.units + 1 < cLine) (hn : notStar e = true) (hline : (apos.endLine == cpos.line) = true) (hbase : attributeBase a "get" X.env (eval a X.env) = eval a X.env) (ha : PE X a (tE K xi fa)) (he : PE X e (tE K xi fb)) :
    PE X (.Call (.Attribute a "get" apos) [e] [] cpos) (tE K xi fun ev h => (fa ev h).bind fun x h1 => if dctC x h1 = true then (fb ev h1).bind fun y h2 => dgetF x y h2 else .stuck) := by
  refine PEm (pe_dget1 hu ha he ⟨hbase, by rw [star_cons hn]; rfl, hline, by rw [star_cons hn]; rfl⟩) fun st H Q ⟨ev, m, h, re, rh, q⟩ => ?_
  refine tE_bind re rh q fun vx x m1 H1 h1 g1 re1 rh1 rx p1 => ?_
  obtain ⟨hc, p1⟩ := Post.ite p1
  unfold dctC at hc
  obtain ⟨r, rfl⟩ : ∃ r, x = .ref r := by cases x <;> first | (cases hc; done) | exact ⟨_, rfl⟩
  dsimp only at hc
  · split at hc
    · rename_i kvs eh
      obtain ⟨l, ws, rfl, hm, hl, rk⟩ := dct_at (x := .ref r) rh1 rx eh
      refine ⟨l, rfl, .inl ⟨_, .inl hl⟩, ?_⟩
      refine tE_bind re1 rh1 p1 fun vy y m2 H2 h2 g2 re2 rh2 ry p2 => ?_
      rw [dget_dk] at p2
      obtain ⟨r', kvs', k, l', ws', e1, rfl, e2, e3, rfl, hm', hl', rk', p3⟩ := dk_at rh2 (rx.grow g2) ry p2
      cases e1
      cases e3
      cases e4 : kvs'.lookup k with
      | none => rw [e4] at p3; exact p3.elim
      | some z =>
        rw [e4] at p3
        obtain ⟨v, e5, rv⟩ := kvs_get rk' e4
        refine ⟨some v, ?_, p3.now rh2 _ rv⟩
        rw [← e5]
        exact DGet.k (k := Sum.inr k) hl'
    · cases hc
end
end Vm

set_option Elab.async false
set_option linter.all false
set_option maxRecDepth 100000
set_option maxHeartbeats 4000000
/-! VnQ: a tuple by a step of 1 or -1. -/
namespace Vm
open PySem PySem.Spec PyProof.Rows L2
variable [Tbs]
theorem adj_all (n : Nat) : Builtin.Slice.sliceAdjust none none 1 (n : Int) = (0, (n : Int)) := by
  unfold Builtin.Slice.sliceAdjust
  simp
theorem plc_all (n : Nat) : Builtin.Slice.slicePlaces 0 (n : Int) 1 = n := by
  unfold Builtin.Slice.slicePlaces
  rw [if_pos (by decide)]
  split
  · simp
  · omega
theorem sliced_all {prog : Program} {w : World} {A : Around} {E : Value → Shared → Prop} {s : Shared} {sl : Addr} {vl vu vs : Value} {n : Nat} {Q : Int × Int × Nat → Shared → Prop} (hs : s.heap.IsSliceOf sl vl vu vs) (pl : IsPart vl none) (pu : IsPart vu none) (ps : IsPart vs (some 1)) (h : Q (0, 1, n) s) :
    wpAny (model prog w) A (Builtin.Slice.sliceApplied (.ref sl) (pure (n : Int))) Q E s := by
  obtain ⟨os, hos, hcs, hds⟩ := id hs
  unfold Builtin.Slice.sliceApplied
  unfold Builtin.Slice.sliceFields
  refine wpAny_bind (wpAny_bind (wpAny_field hos hds rfl (wpAny_bind (wpAny_field hos hds rfl (wpAny_bind (wpAny_field hos hds rfl (wpAny_pure ?_)))))))
  refine wpAny_bind (HT.slicePart_ ps ?_)
  dsimp only
  rw [if_neg (by decide)]
  refine wpAny_bind (HT.slicePart_ pl (wpAny_bind (HT.slicePart_ pu (wpAny_bind (wpAny_pure ?_)))))
  dsimp only [Option.getD_some]
  rw [adj_all]
  dsimp only
  rw [plc_all]
  exact wpAny_pure h
theorem getItem_allT {prog : Program} {w : World} {A : Around} {E : Value → Shared → Prop} {s : Shared} {t sl : Addr} {items : Array Value} {vl vu vs : Value} {Q : Value → Shared → Prop} (ht : IsTup s.heap t items) (hs : s.heap.IsSliceOf sl vl vu vs) (pl : IsPart vl none) (pu : IsPart vu none) (ps : IsPart vs (some 1))
    (h : Q (.ref t) s) : wpAny (model prog w) A (getItem (.ref t) (.ref sl)) Q E s := by
  obtain ⟨os, hos, hcs, hds⟩ := id hs
  have hTs : s.TypeIs (.ref sl) "slice" := ⟨os, hos, hcs⟩
  unfold getItem
  refine wpAny_holding (wpAny_bind (wpAny_sequenceKey ht.typeIs (by decide) (wpAny_bind (wpAny_callSpecial?_slot ht.typeIs slot_tuple_getitem (wpAny_call_entry slot_tuple_getitem ht.typeIs entry_tuple_getitem ?_ (args_tuple_getitem _ _))))))
  unfold Builtin.«tuple.__getitem__»
  refine wpAny_bind ?_
  have e : slotArgs "__getitem__" 1 { pos := [Value.ref t, Value.ref sl] } = pure (.ref t, [.ref sl]) := rfl
  rw [e]
  refine wpAny_pure ?_
  dsimp only
  refine wpAny_bind (tupleItemsOf_ ht (wpAny_bind (wpAny_typeOf hTs ?_)))
  rw [if_pos (by decide)]
  refine wpAny_bind (sliced_all hs pl pu ps ?_)
  dsimp only
  rw [if_pos (by simp)]
  refine wpAny_bind ?_
  unfold Builtin.Tuple.tupleIsExact
  refine wpAny_bind (wpAny_typeOf ht.typeIs (wpAny_pure ?_))
  rw [if_pos (by decide)]
  exact wpAny_bind (wpAny_rule (wpAny_pure ⟨_, rfl, wpAny_pure h⟩))
/-- the tuple itself, or turned about -/
theorem pe_stp {X : Cx} {e st : Expr} {te : TE} {ts : TO} {pos p2 : Pos} (he : PE X e te) (hs : PO X (some st) ts) :
    PE X (.Subscript e (.Slice none none (some st) p2) pos) fun σ H Q => te σ H fun x H1 => ts σ H1 fun k H2 => (k = some (-1) ∧ rTurned X.K x H2 Q) ∨ (k = some 1 ∧ ∃ a xs, x = .ref a ∧ SqT X.K H2 a xs ∧ Q x H2) := by
  refine ⟨fun pins s σ H Q I h => ?_⟩
  refine Subscript_ (thn (he.run pins s σ H _ I h) fun v s1 hx => ?_)
  obtain ⟨x, H1, I1, r1, q1⟩ := hx
  refine wpAny_Slice ?_
  rw [evalPart_none]
  refine wpAny_pure (wpAny_pure ?_)
  refine thn (hs.run pins s1 σ H1 _ I1 q1) fun vs s2 hk => ?_
  obtain ⟨k, H2, I2, pk, q2⟩ := hk
  have I3 := I2.kept (h' := s2.heap.push { cls := Value.type "slice", data := Data.fields #[.none, .none, vs] }) (t' := s2.toks) fun b ob q => Heap.get?_push_of_some _ q
  rcases q2 with ⟨rfl, q2⟩ | ⟨rfl, a, xs, rfl, hq, q2⟩
  · obtain ⟨T, id, hT, ht, hg⟩ := turned_item (sl := s2.heap.objs.size) I3 r1 (Heap.IsSliceOf.new s2.1 .none .none vs) IsPart.none IsPart.none pk q2
    exact tail_any ht hT hg rfl
  · cases r1
    obtain ⟨its, r, ht, hz⟩ := I3.tuple hq
    exact tail_any ht.typeIs slot_tuple_getitem.lookup (getItem_allT ht (Heap.IsSliceOf.new s2.1 .none .none vs) IsPart.none IsPart.none pk ⟨.ref a, H2, I3, rfl, q2⟩) rfl
section
variable {K : PySem.W.Frag} {X : Cx} {xj : XJ} {xi : XI} {a b e : Expr} {fa fb fe : Ev → IH → Res PV} {pos p2 p3 p4 cpos apos : Pos} {j : Nat}
theorem se_stp (ha : PE X a (tE X.K xi fa)) (hb : PE X b (tE X.K xi fb)) : PE X (.Subscript a (.Slice none none (some b) p2) pos) (tE X.K xi fun ev h => (fa ev h).bind fun x h1 => (fb ev h1).bind fun y h2 => stpF x y h2) := by
  refine PEm (pe_stp ha (po_some hb)) fun st H Q ⟨ev, m, h, re, rh, p⟩ => ?_
  refine tE_bind re rh p fun v x m1 H1 h1 g1 re1 rh1 rx p1 => ?_
  refine tE_bind re1 rh1 p1 fun w y m2 H2 h2 g2 re2 rh2 ry p2 => ?_
  cases x <;> try (exact p2.elim)
  rename_i xs
  cases y <;> try (exact p2.elim)
  rename_i i
  cases ry
  have rx2 := rx.grow g2
  obtain ⟨q, vs, rfl, h1', r1⟩ := tup_at rx2
  refine ⟨i, rfl, ?_⟩
  unfold stpF at p2
  dsimp only at p2
  by_cases c : i = 1
  · rw [if_pos c] at p2
    subst c
    exact .inr ⟨rfl, q, vs, rfl, h1', p2.now rh2 _ rx2⟩
  · rw [if_neg c] at p2
    obtain ⟨d, p2⟩ := Post.ite p2
    subst d
    exact .inl ⟨rfl, q, vs, rfl, .inr ⟨h1', newT_at rh2 r1.reverse p2⟩⟩
end
end Vm

set_option Elab.async false
set_option linter.all false
set_option maxRecDepth 100000
set_option maxHeartbeats 4000000
/-! VnR: isinstance of a caught error that has fields. -/
namespace Vm
open PySem PySem.Spec PyProof.Rows L2
/-- isinstance(e, C), isinstance(e, (C, ..)), e the error pinned at a, its class at D, its fields at dd -/
def rIsX (K : PySem.W.Frag) (D a dd : Addr) (xs : List V) (H : Hp) (Q : VK) : Prop := ∃ fs c b, xs = [.ref a, c] ∧ H dd = some (.xd fs) ∧
  ((∃ cv, (∀ u, L2.RelV c u → u = cv) ∧ PySem.W.kitOne K (.ref D) cv = some b) ∨ ∃ p cs cvs, c = .ref p ∧ SqT K H p cs ∧ (∀ us, Vals cs us → us = cvs) ∧ PySem.W.kitAny K (.ref D) cvs = some b) ∧ Q (.bl b) H
theorem call_isX {X : Cx} {a D dd : Addr} {oe : Obj} (hp : (a, oe) ∈ X.pn) (C : ExcC X.K D) (hz : Zc (.ref D) (some dd) oe) (hf : ∃ vs, oe.data = .fields vs) : CallR X (.builtin "isinstance") (rIsX X.K D a dd) := by
  intro pins s σ H xs us Q I r h
  obtain ⟨fs, c, b, rfl, hd, hc, q⟩ := h
  obtain ⟨u1, u2, rfl, r1, r2⟩ := vals2 r
  cases r1
  obtain ⟨g1, _⟩ := I.pin (a, oe) (List.mem_append_left _ hp)
  have hdd := I.hok dd _ hd
  have hcl : (PySem.W.clsIn X.K D).isSome = true := by
    have z := C.hd
    unfold PySem.W.hasDictIn at z
    cases e : PySem.W.clsIn X.K D with
    | none => rw [e] at z; cases z
    | some _ => rfl
  have hod : ∃ od, s.heap.get? dd = some od := by
    obtain ⟨m, hns, _⟩ := hdd
    obtain ⟨od, es, ep, hod, _⟩ := hns
    exact ⟨od, hod⟩
  obtain ⟨od, hod⟩ := hod
  have J : PySem.W.InstAt s.heap a oe D (some od) := ⟨g1, hz.1, by
    obtain ⟨vs, e⟩ := hf
    unfold PySem.W.notCls
    rw [e], by rw [hz.2]; exact hod⟩
  have X' : PySem.W.KitX X.K (.ref a) (.ref D) fun h => PySem.W.InstAt h a oe D (some od) := PySem.W.kitx_exc hcl C.hg C.hk C.hs C.ha C.hn C.ht C.hm
  rcases hc with ⟨cv, h1, h2⟩ | ⟨p, cs, cvs, rfl, h1, h2, h3⟩
  · cases h1 u2 r2
    exact PySem.W.kia_one X' I.kIn J h2 (fun z => by cases z) fun tk => ⟨.bl b, H, I.tok tk, rfl, q⟩
  · cases r2
    obtain ⟨its, rv, ht, hz'⟩ := I.tuple h1
    have e := h2 its rv
    subst e
    obtain ⟨o, ho, hc', n, hd'⟩ := ht
    obtain ⟨cls, dc, data, sl⟩ := o
    simp only at hc' hd'
    subst hc' hd'
    exact PySem.W.kia_tup X' I.kIn J ho h3 (fun z => by cases z) fun tk => ⟨.bl b, H, I.tok tk, rfl, q⟩
section
variable {P : Program} {w : World} {K : PySem.W.Frag} {mg : Str → Option Value} {base : Heap}
/-- what a def promises that is called with the error that is handled: where it stands, its class, its dict -/
abbrev SpE := Addr → Value → Option Addr → Hp → VK → Prop
structure FnE (P : Program) (w : World) (K : PySem.W.Frag) (mg : Str → Option Value) (base : Heap) (k : Nat) (f : Addr) (fd : FuncData) (x : Str) (sp : SpE) : Prop where
  go : ∀ {A : Around} {outer : List Env} {s : Shared} {H : Hp} {args : Args} {a : Addr} {oe : Obj} {cls : Value} {d : Option Addr} {Q : VK}, Hush A → Room k A → Env0 P w K mg base A outer s H → BindsTo s fd args [(x, .ref a)] →
    s.heap.get? a = some oe → H a = none → ¬ a ∈ frs outer → L2N.Zn cls d oe → (∃ vs, oe.data = .fields vs) → sp a cls d H Q →
    codeAny (model P w) (A.mark (some (.ref a))) (.call (.ref f) args) (CR CX0 outer P w H s Q fun _ _ _ => False) s
theorem FnE.of {x qual y : Str} {params : Arguments} {body : List Stmt} {scope : Scope} {f : Addr} {fd : FuncData} {N : List Str} {k : Nat} {sp : SpE} (D : FunD K x qual params body scope [] [] f fd) (S : FnScope N [y] scope)
    (hbody : ∀ (cd : Value) (A : Around) (outer : List Env) (s : Shared) (H : Hp) (a : Addr) (oe : Obj) (cls : Value) (d : Option Addr) (Q : VK), fd.code = cd → Hush A → Room k (A.deeper (envOfC qual scope s.heap.objs.size f cd)) → L2N.Zn cls d oe → (∃ vs, oe.data = .fields vs) → sp a cls d H Q →
      ∃ t, PSs ((cxOf CX0 P w K mg base N qual scope f cd A outer s H fun _ _ _ => False).suite a [(a, oe)]) body t ∧ t { nx := fun _ H' => Q .non H', rt := Q } (L2.start N [.ref a]) H) : FnE P w K mg base (k + 1) f fd y sp where
  go {A outer s H args a oe cls d Q} hh hr e0 hb ga ha hfr hz hf hsp := by
    obtain ⟨oc, od, dV, kV, doc, pm, an, cd, ct, osl, rfl, lk, hcd, _, _⟩ := D.ex
    have old : ∀ b o, base.get? b = some o → s.heap.get? b = some o := fun b o e => (e0.bs b o e).1
    have inH : K.In s.heap := e0.mod.kin.keeps old
    obtain ⟨t, pt, q⟩ := hbody cd A outer s H a oe cls d Q rfl hh (hr.deeper _) hz hf hsp
    refine codeAny_call_function (A := A.mark (some (.ref a))) hr.depth (inH _ _ lk) rfl S.co S.gen rfl (PySem.W.codeRec_of inH hcd) (hb _ _ _ _ (wpAny_newFunctionEnv_cells S.kind ?_ ?_))
    · intro z hz
      have hp := S.par z.1 (by simp only [List.mem_cons, List.not_mem_nil, or_false] at hz; rw [hz]; simp)
      exact hp.imp id fun c => ⟨c, PySem.W.cellsFrom_some _ _ _ (.inl c)⟩
    · rintro env rfl s1 x
      have I0 := inv_start (CX := CX0) (mg := mg) (E := fun _ _ _ => False) (us := [.ref a]) (vs := [.ref a]) S hr.hd e0 rfl (.cons rfl .nil) x
      have I : L2.Inv ((cxOf CX0 P w K mg base N qual scope f cd A outer s H fun _ _ _ => False).suite a [(a, oe)]) [] (L2.start N [.ref a]) H s1 := by
        obtain ⟨o1, o2, o3, o4, o5, o6, o7, o8, o9, o10, o11, o12, o13, o14, o15, o16, o17, o18⟩ := I0.ok
        refine ⟨⟨o1, o2, o3, o4, o5, o6, o7, o8, fun z => (by cases z), o10, o11, o12, o13, o14, o15, o16, o17, o18⟩, I0.os, I0.bare, I0.base, I0.loc, I0.cell, I0.free, I0.freeC, fun p hp => ?_, I0.hok, I0.len⟩
        have : p = (a, oe) := by simpa using hp
        subst this
        refine ⟨x.toInCall.keep _ _ ga, ha, ?_, ?_, ?_⟩
        · intro z
          have z' : a = s.heap.objs.size := z
          rw [z', Heap.get?_none_of_le (Nat.le_refl _)] at ga
          cases ga
        · exact hfr
        · intro v z
          obtain ⟨vs, e⟩ := hf
          rw [e] at z
          cases z
      refine ⟨(e0.mod.nolimit.keeps old).keeps x.toInCall.keep, codeAny_func (wpAny_mono (pt.run [] s1 _ H _ I q) (fun fl s' hs => ?_) fun _ _ z => z.elim)⟩
      match fl, hs with
      | .next, ⟨σ', H', J, q'⟩ => exact ⟨V.non, H', J.os, J.bare, J.base, J.hok, rfl, q'⟩
      | .ret u, ⟨v, σ', H', J, rv, q'⟩ => exact ⟨v, H', J.os, J.bare, J.base, J.hok, rv, q'⟩
      | .brk, ⟨_, _, _, q'⟩ => exact q'.elim
      | .cont, ⟨_, _, _, q'⟩ => exact q'.elim
/-- what a suite's call of such a def comes to -/
theorem FnE.call {X : Cx} {a : Addr} {oe : Obj} {pn pins : List (Addr × Obj)} {σ : L2.St} {H : Hp} {s : Shared} {Q : VK} {cls : Value} {d : Option Addr} {k : Nat} {f : Addr} {fd : FuncData} {y : Str} {sp : SpE} (F : FnE X.prog X.w X.K X.mg X.base k f fd y sp)
    (hh : Hush X.A) (hr : Room k X.A) (hb : Binds X.K fd [y] []) (hz : L2N.Zn cls d oe) (hf : ∃ vs, oe.data = .fields vs) (I : L2.Inv (X.suite a ((a, oe) :: pn)) pins σ H s) (h : sp a cls d H Q) :
    wpAny (model X.prog X.w) (X.suite a ((a, oe) :: pn)).A (call (.ref f) [.ref a]) (EP (X.suite a ((a, oe) :: pn)) pins σ Q) (fun _ _ => False) s := by
  have bt := hb s [.ref a] I.kIn rfl
  rw [List.append_nil] at bt
  obtain ⟨g1, g2, g3, g4, _⟩ := I.pin (a, oe) (List.mem_append_left _ List.mem_cons_self)
  have e := I.env0
  have e0 : Env0 X.prog X.w X.K X.mg X.base X.A X.stack s H := ⟨e.frames, e.mod, e.bs, e.bsz, e.funs, e.frf, e.hok, e.bare⟩
  have nf : ¬ a ∈ frs X.stack := by
    have st : X.stack = X.outer ∨ X.stack = X.env :: X.outer ∧ X.env.frame = some X.env.locals := I.ok.stk
    rcases st with st | ⟨st, fr⟩
    · rw [st]
      exact g4
    · rw [st]
      unfold frs
      rw [List.filterMap_cons, fr]
      intro z
      rcases List.mem_cons.mp z with z | z
      · exact g3 z
      · exact g4 z
  have c := F.go (args := ⟨[.ref a], []⟩) hh hr e0 bt g1 g2 nf hz hf h
  refine wpAny_call (codeAny_mono c fun res s' q => ?_)
  match res, q with
  | .ok (.ret u), q => exact I.after q
theorem pe_callE {X : Cx} {a : Addr} {oe : Obj} {pn : List (Addr × Obj)} {cls : Value} {d : Option Addr} {k : Nat} {f : Addr} {fd : FuncData} {y x : Str} {sp : SpE} {p pos : Pos} {e : Expr} {t : TA} (F : FnE X.prog X.w X.K X.mg X.base k f fd y sp) (hh : Hush X.A) (hr : Room k X.A) (hg : Gl X x) (hm : X.mg x = some (.ref f))
    (hk : PySem.W.keepIn X.K (.ref f) = true) (hb : Binds X.K fd [y] []) (hz : L2N.Zn cls d oe) (hf : ∃ vs, oe.data = .fields vs) (ha : PA (X.suite a ((a, oe) :: pn)) [e] t) (hdb : (x == ("__debug__" : Str)) = false) (he : starEach [e] X.env = (false, eval e X.env) :: starEach [] X.env) (hpl : (backTo pos (starEach [] X.env)).any (·.1) = false) :
    PE (X.suite a ((a, oe) :: pn)) (.Call (.Name x p) [e] [] pos) (fun σ H Q => t σ H fun vs H1 => vs = [.ref a] ∧ sp a cls d H1 Q) where
  run pins s σ H Q I h := by
    have args := ha.run pos pins s σ H (fun vs H1 => vs = [.ref a] ∧ sp a cls d H1 Q) I h
    exact wpAny_Call_Name_kw (ld_glob I hg hm (PySem.W.callWith_K (h₀ := X.base) I.ok.mod.kin hk (thn args fun us s1 ⟨vs, H1, I1, r, e, q⟩ => ⟨I1.kIn, by
      subst e
      obtain ⟨u, rfl, ru⟩ := vals1 r
      cases ru
      exact F.call hh hr hb hz hf I1 q⟩) he hpl) hdb)
end
end Vm

set_option Elab.async false
set_option linter.all false
set_option maxRecDepth 100000
set_option maxHeartbeats 8000000
/-! VmH: the evaluator's text against the program's, and that the evaluator tells true of expressions. -/
namespace Vm
open PySem PySem.Spec PyProof.Rows L2
variable [T : Tbs]

/-- the names of a def by slot, the defs with how many parameters, the built-ins -/
structure Tb where
  N : List Str
  T : List (Str × Nat)
  B : List Str
  C : List (Str × Cst)
  gn : Bool
  X : List (Str × List Str)
  Hd : List (Str × List Str)
  Hn : List (Str × List (Str × List Str))

def visB (sc : Scope) (x : Str) : Bool := match sc.names.lookup x with
  | some .local => true
  | some .cell => true
  | some .free => true
  | _ => false
theorem visB_ok {sc : Scope} {x : Str} (h : visB sc x = true) : Vis sc x := by
  unfold visB at h
  unfold Vis
  split at h <;> first | (rename_i e; simp [e]; done) | cases h
def globB (sc : Scope) (x : Str) : Bool := decide (sc.names.lookup x = some .globalImplicit)
def okName (x : Str) : Bool := !(x == ("__debug__" : Str)) && !(x == ("__classdict__" : Str))
/-- a name that is stored in a def's body -/
def locB (sc : Scope) (x : Str) : Bool := match sc.names.lookup x with
  | some .local => true
  | some .cell => true
  | _ => false
/-- .. in a comprehension's block -/
def locC (scope sc : Scope) (x : Str) : Bool := match (relS scope sc).names.lookup x with
  | some .local => true
  | some .cell => decide (scope.names.lookup x = some .cell)
  | _ => false
/-- .. in a generator expression's block -/
def locG (scope : Scope) (x : Str) : Bool := decide (scope.names.lookup x = some .local)
def chkNames (N : List Str) (loc : Str → Bool) : List Nat → List Expr → Bool
  | [], [] => true
  | i :: is, .Name x _ :: es => decide (N[i]? = some x) && loc x && chkNames N loc is es
  | _, _ => false
def chkTg (N : List Str) (loc : Str → Bool) : Tg → Expr → Bool
  | .one i, .Name x _ => decide (N[i]? = some x) && loc x
  | .many is, .Tuple es _ _ => chkNames N loc is es
  | _, _ => false
def ownNs : List Nat → List Expr → List (Str × Nat)
  | i :: is, .Name x _ :: es => (x, i) :: ownNs is es
  | _, _ => []
def ownOf : Tg → Expr → List (Str × Nat)
  | .one i, .Name x _ => [(x, i)]
  | .many is, .Tuple es _ _ => ownNs is es
  | _, _ => []
theorem ownNs_slots {N : List Str} {loc : Str → Bool} : ∀ {is : List Nat} {es : List Expr}, chkNames N loc is es = true → (ownNs is es).map (·.2) = is
  | [], [], _ => rfl
  | [], _ :: _, h => by cases h
  | i :: is, [], h => by cases h
  | i :: is, e :: es, h => by
    cases e <;> try (cases h; done)
    unfold chkNames at h
    rw [Bool.and_eq_true] at h
    show i :: (ownNs is es).map (·.2) = i :: is
    rw [ownNs_slots h.2]
theorem ownOf_slots {N : List Str} {loc : Str → Bool} {t : Tg} {e : Expr} (h : chkTg N loc t e = true) : (ownOf t e).map (·.2) = t.slots := by
  cases t <;> cases e <;> try (cases h; done)
  · rfl
  · exact ownNs_slots h
theorem chkNames_only {N : List Str} {loc : Str → Bool} : ∀ {is : List Nat} {es : List Expr}, chkNames N loc is es = true → namesOnly es = true ∧ es.length = is.length
  | [], [], _ => ⟨rfl, rfl⟩
  | [], _ :: _, h => by cases h
  | i :: is, [], h => by cases h
  | i :: is, e :: es, h => by
    cases e <;> try (cases h; done)
    unfold chkNames at h
    rw [Bool.and_eq_true] at h
    obtain ⟨h1, h2⟩ := chkNames_only h.2
    exact ⟨h1, by rw [List.length_cons, List.length_cons, h2]⟩
theorem snd_names {X : Cx} {K : PySem.W.Frag} {loc : Str → Bool} (nd : X.N.Nodup) (hl : ∀ x, loc x = true → L2.Loc X.env.scope x ∧ (X.fn x = true ∨ X.env.scope.names.lookup x = some .local)) :
    ∀ {is : List Nat} {es : List Expr}, chkNames X.N loc is es = true → PGs X es (tGs K is)
  | [], [], _ => sgs_nil
  | [], _ :: _, h => by cases h
  | i :: is, [], h => by cases h
  | i :: is, e :: es, h => by
    cases e <;> try (cases h; done)
    unfold chkNames at h
    rw [Bool.and_eq_true, Bool.and_eq_true, decide_eq_true_eq] at h
    obtain ⟨⟨h1, h2⟩, h3⟩ := h
    obtain ⟨a, b⟩ := hl _ h2
    exact sgs_cons nd h1 a b (snd_names nd hl h3)
theorem snd_tg {X : Cx} {loc : Str → Bool} (nd : X.N.Nodup) (hc : X.calm = true) (hl : ∀ x, loc x = true → L2.Loc X.env.scope x ∧ (X.fn x = true ∨ X.env.scope.names.lookup x = some .local)) {t : Tg} {e : Expr} (h : chkTg X.N loc t e = true) : PG X e (tG X.K t) := by
  cases t <;> cases e <;> try (cases h; done)
  · unfold chkTg at h
    rw [Bool.and_eq_true, decide_eq_true_eq] at h
    obtain ⟨a, b⟩ := hl _ h.2
    exact sg_one nd h.1 a b
  · obtain ⟨h1, h2⟩ := chkNames_only h
    exact sg_many hc rfl h1 h2 (snd_names nd hl h)

def keysB : List Str → List (Option Expr) → Bool
  | [], [] => true
  | k :: ks, some (.Constant (.str z) _ _) :: es => decide (k = z) && keysB ks es
  | _, _ => false
theorem keysB_cons {k : Str} {ks : List Str} {es : List (Option Expr)} (h : keysB (k :: ks) es = true) : ∃ j p es', es = some (.Constant (.str k) j p) :: es' ∧ keysB ks es' = true := by
  unfold keysB at h
  split at h
  · cases ‹k :: ks = []›
  · rename_i a b z j p es' e1
    cases e1
    rw [Bool.and_eq_true, decide_eq_true_eq] at h
    obtain ⟨rfl, h⟩ := h
    exact ⟨_, _, _, rfl, h⟩
  · cases h
theorem keysB_some : ∀ {ks : List Str} {es : List (Option Expr)}, keysB ks es = true → es.all (·.isSome) = true
  | [], [], _ => rfl
  | [], _ :: _, h => by cases h
  | k :: ks, es, h => by
    obtain ⟨j, p, es', rfl, h'⟩ := keysB_cons h
    rw [List.all_cons, keysB_some h']
    rfl
theorem keysB_len : ∀ {ks : List Str} {es : List (Option Expr)}, keysB ks es = true → es.length = ks.length
  | [], [], _ => rfl
  | [], _ :: _, h => by cases h
  | k :: ks, es, h => by
    obtain ⟨j, p, es', rfl, h'⟩ := keysB_cons h
    rw [List.length_cons, List.length_cons, keysB_len h']
def noSuper : Expr → Bool
  | .Call .. => false
  | _ => true
theorem base_of {o : Expr} {f : Str} {env : Env} (h : noSuper o = true) : attributeBase o f env (eval o env) = eval o env := by
  cases o <;> first | rfl | cases h
def conB : List (Str × Int) → List (Option Expr) → List Expr → Bool
  | [], [], [] => true
  | (k, i) :: ks, some (.Constant (.str z) _ _) :: es, .Constant (.int n) _ _ :: vs => decide (k = z) && decide (i = n) && conB ks es vs
  | _, _, _ => false
theorem conB_ok : ∀ {ks : List (Str × Int)} {es : List (Option Expr)} {vs : List Expr}, conB ks es vs = true → ConD ks es vs := by
  intro ks
  induction ks with
  | nil =>
    intro es vs h
    cases es <;> cases vs <;> first | exact .nil | (simp [conB] at h)
  | cons p ks ih =>
    obtain ⟨k, i⟩ := p
    intro es vs h
    unfold conB at h
    split at h
    · rename_i e4
      cases e4
    · rename_i k' i' ks' z q1 q2 es' n q3 q4 vs' e1
      cases e1
      simp only [Bool.and_eq_true, decide_eq_true_eq] at h
      obtain ⟨⟨h1, h2⟩, h3⟩ := h
      subst h1
      subst h2
      exact .cons (ih h3)
    · cases h
def isNm : Expr → Bool
  | .Name .. => true
  | _ => false

def Es.len : Es → Nat
  | .nil => 0
  | .cons _ es => es.len + 1
/-- what unpacks the pairs of a walk by twos -/
def tgOk : It → Expr → Bool
  | .enum _, .Tuple _ _ _ => true
  | .enum _, _ => false
  | .zip _ _, .Tuple _ _ _ => true
  | .zip _ _, _ => false
  | _, _ => true
mutual
def chkE : E → Tb → Scope → Expr → Bool
  | .var i => fun c sc y => match y with
    | .Name x _ => decide (c.N[i]? = some x) && visB sc x && okName x
    | _ => false
  | .int i => fun _ _ y => match y with
    | .Constant (.int j) _ _ => decide (i = j)
    | _ => false
  | .str i => fun _ _ y => match y with
    | .Constant (.str j) _ _ => decide (i = j)
    | _ => false
  | .bl i => fun _ _ y => match y with
    | .Constant (.bool j) _ _ => decide (i = j)
    | _ => false
  | .non => fun _ _ y => match y with
    | .Constant .none _ _ => true
    | _ => false
  | .bin op a b => fun c sc y => match y with
    | .BinOp x o z _ => decide (o = bopS op) && chkE a c sc x && chkE b c sc z
    | _ => false
  | .neg a => fun c sc y => match y with
    | .UnaryOp .USub x _ => chkE a c sc x
    | _ => false
  | .cmp op a b => fun c sc y => match y with
    | .Compare x [o] [z] _ => decide (o = copS op) && chkE a c sc x && chkE b c sc z
    | _ => false
  | .chain o1 o2 a b d => fun c sc y => match y with
    | .Compare x [p, q] [z, u] _ => decide (p = copS o1) && decide (q = copS o2) && chkE a c sc x && chkE b c sc z && chkE d c sc u
    | _ => false
  | .isn a => fun c sc y => match y with
    | .Compare x [.Is] [.Constant .none _ _] _ => chkE a c sc x
    | _ => false
  | .notn a => fun c sc y => match y with
    | .Compare x [.IsNot] [.Constant .none _ _] _ => chkE a c sc x
    | _ => false
  | .band a b => fun c sc y => match y with
    | .BoolOp .And (x :: z :: r) p => chkE a c sc x && (match r with
      | [] => chkE b c sc z
      | u :: r => chkE b c sc (.BoolOp .And (z :: u :: r) p))
    | _ => false
  | .bor a b => fun c sc y => match y with
    | .BoolOp .Or (x :: z :: r) p => chkE a c sc x && (match r with
      | [] => chkE b c sc z
      | u :: r => chkE b c sc (.BoolOp .Or (z :: u :: r) p))
    | _ => false
  | .not a => fun c sc y => match y with
    | .UnaryOp .Not x _ => chkE a c sc x
    | _ => false
  | .ite d a b => fun c sc y => match y with
    | .IfExp t x z _ => chkE d c sc t && chkE a c sc x && chkE b c sc z
    | _ => false
  | .tup es => fun c sc y => match y with
    | .Tuple xs _ _ => chkEs es c sc xs
    | _ => false
  | .lst es => fun c sc y => match y with
    | .List xs _ => chkEs es c sc xs
    | _ => false
  | .ix a i => fun c sc y => match y with
    | .Subscript x z _ => plainIx z && chkE a c sc x && chkE i c sc z
    | _ => false
  | .call f es => fun c sc y => match y with
    | .Call (.Name x _) (z :: zs) [] _ => decide (c.T[f]? = some (x, es.len)) && globB sc x && okName x && chkEs es c sc (z :: zs)
    | _ => false
  | .bi b es => fun c sc y => match y with
    | .Call (.Name x _) (z :: zs) [] _ => decide (c.B[b]? = some x) && globB sc x && okName x && chkEs es c sc (z :: zs)
    | _ => false
  | .lc elt tg it cond => fun c sc y => match y with
    | .ListComp e [⟨t, iter, ifs, a⟩] scope _ => decide (a = 0) && noSet iter && chkIt it c sc iter && tgOk it t && blkC c.N sc scope (ownOf tg t) && chkTg c.N (locC scope sc) tg t && (match ifs with
      | [] => (match cond with
        | .bl true => true
        | _ => false)
      | [f] => chkE cond c (relS scope sc) f
      | _ => false) && chkE elt c (relS scope sc) e
    | _ => false
  | .anyg al elt tg it => fun c sc y => match y with
    | .Call (.Name x _) [.GeneratorExp e [⟨t, iter, [], a⟩] scope _] [] _ => decide (x = if al then ("all" : Str) else ("any" : Str)) && globB sc x && decide (a = 0) && c.gn && plainIt iter && chkIt it c sc iter && tgOk it t && blkGB c.N sc scope (ownOf tg t) && chkTg c.N (locG scope) tg t && chkE elt { c with gn := false } scope e
    | _ => false
  | .slc a lo hi => fun c sc y => match y with
    | .Subscript x (.Slice l u none _) _ => chkE a c sc x && chkPt lo c sc l && chkPt hi c sc u
    | _ => false
  | .isin t a => fun c sc y => match y with
    | .Call (.Name x _) [z, .Name w _] [] _ => decide (x = ("isinstance" : Str)) && decide (w = t.name) && globB sc x && globB sc w && chkE a c sc z
    | _ => false
  | .isan ts a => fun c sc y => match y with
    | .Call (.Name x _) [z, .Tuple es _ _] [] _ => decide (x = ("isinstance" : Str)) && globB sc x && tyNames sc ts es && decide (ts.length ≤ 100) && chkE a c sc z
    | _ => false
  | .lrng a => fun c sc y => match y with
    | .Call (.Name x _) [.Call (.Name x2 _) [z] [] _] [] _ => decide (x = ("list" : Str)) && decide (x2 = ("range" : Str)) && globB sc x && globB sc x2 && chkE a c sc z
    | _ => false
  | .sset a => fun c sc y => match y with
    | .Call (.Name x _) [.Call (.Name x2 _) [z] [] _] [] _ => decide (x = ("sorted" : Str)) && decide (x2 = ("set" : Str)) && globB sc x && globB sc x2 && chkE a c sc z
    | _ => false
  | .scnt a u e => fun c sc y => match y with
    | .Call (.Attribute (.Subscript x (.Slice none (some z) none _) _) f apos) [k] [] cpos => decide (f = ("count" : Str)) && (apos.endLine == cpos.line) && chkE a c sc x && chkE u c sc z && chkE e c sc k
    | _ => false
  | .cont neg a b => fun c sc y => match y with
    | .Compare x [o] [z] _ => decide (o = if neg then .NotIn else .In) && !(behindInMarks (if neg then .NotIn else .In) z) && chkE a c sc x && chkE b c sc z
    | _ => false
  | .pop a i => fun c sc y => match y with
    | .Call (.Attribute o f apos) [z] [] cpos => decide (f = ("pop" : Str)) && (apos.endLine == cpos.line) && noSuper o && chkE a c sc o && chkE i c sc z
    | _ => false
  | .sidx a i => fun c sc y => match y with
    | .Call (.Attribute o f apos) [z] [] cpos => decide (f = ("index" : Str)) && (apos.endLine == cpos.line) && noSuper o && chkE a c sc o && chkE i c sc z
    | _ => false
  | .join a i => fun c sc y => match y with
    | .Call (.Attribute o f apos) [z] [] cpos => decide (f = ("join" : Str)) && (apos.endLine == cpos.line) && noSuper o && chkE a c sc o && chkE i c sc z
    | _ => false
  | .dlit k a ks => fun c sc y => match y with
    | .Dict (some (.Constant (.str z) _ _) :: es) (v :: vs) _ => decide (z = k) && decide (ks.length < 15) && conB ks es vs && chkE a c sc v
    | _ => false
  | .dix a k => fun c sc y => match y with
    | .Subscript x (.Constant (.str z) _ _) _ => decide (z = k) && chkE a c sc x
    | _ => false
  | .tset a => fun c sc y => match y with
    | .Call (.Name x _) [.Call (.Name x2 _) [z] [] _] [] _ => decide (x = ("sorted" : Str)) && decide (x2 = ("set" : Str)) && globB sc x && globB sc x2 && chkE a c sc z
    | _ => false
  | .tsrt a => fun c sc y => match y with
    | .Call (.Name x _) [z] [] _ => decide (x = ("sorted" : Str)) && globB sc x && chkE a c sc z
    | _ => false
  | .psrt a => fun c sc y => match y with
    | .Call (.Name x _) [z] [] _ => decide (x = ("sorted" : Str)) && globB sc x && chkE a c sc z
    | _ => false
  | .ddis ks es => fun c sc y => match y with
    | .Dict keys ys _ => keysB ks keys && decide (esLen es = ks.length) && decide (ks ≠ []) && decide (ks.length ≤ 15) && chkEs es c sc ys
    | _ => false
  | .rev a => fun c sc y => match y with
    | .Subscript x (.Slice none none (some (.UnaryOp .USub (.Constant (.int 1) _ _) _)) _) _ => chkE a c sc x
    | _ => false
  | .nemp a => fun c sc y => match y with
    | .UnaryOp .Not x _ => isNm x && chkE a c sc x
    | _ => false
  | .dgt a i => fun c sc y => match y with
    | .Call (.Attribute o f apos) [z] [] cpos => decide (f = ("get" : Str)) && (apos.endLine == cpos.line) && noSuper o && chkE a c sc o && chkE i c sc z
    | _ => false
  | .stp a s => fun c sc y => match y with
    | .Subscript x (.Slice none none (some z) _) _ => chkE a c sc x && chkE s c sc z
    | _ => false
  | .isb neg a b => fun c sc y => match y with
    | .Compare x [o] [z] _ => decide (o = if neg then .IsNot else .Is) && chkE a c sc x && chkE b c sc z
    | _ => false
  | .trng a => fun c sc y => match y with
    | .Call (.Name x _) [.Call (.Name x2 _) [z] [] _] [] _ => decide (x = ("tuple" : Str)) && decide (x2 = ("range" : Str)) && globB sc x && globB sc x2 && chkE a c sc z
    | _ => false
  | .gcon x k => fun c sc y => match y with
    | .Name z _ => decide (z = x) && globB sc x && okName x && decide ((x, k) ∈ c.C)
    | _ => false
  | .dget a k => fun c sc y => match y with
    | .Subscript x z _ => plainIx z && chkE a c sc x && chkE k c sc z
    | _ => false
  | .din neg k d => fun c sc y => match y with
    | .Compare x [o] [z] _ => decide (o = if neg then .NotIn else .In) && !(behindInMarks (if neg then .NotIn else .In) z) && chkE k c sc x && chkE d c sc z
    | _ => false
  | .cnt a i => fun c sc y => match y with
    | .Call (.Attribute o f apos) [z] [] cpos => decide (f = ("count" : Str)) && (apos.endLine == cpos.line) && noSuper o && chkE a c sc o && chkE i c sc z
    | _ => false
def chkEs : Es → Tb → Scope → List Expr → Bool
  | .nil => fun _ _ ys => match ys with
    | [] => true
    | _ => false
  | .cons e es => fun c sc ys => match ys with
    | y :: ys => chkE e c sc y && chkEs es c sc ys
    | _ => false
def chkIt : It → Tb → Scope → Expr → Bool
  | .rng a => fun c sc y => match y with
    | .Call (.Name x _) [z] [] _ => decide (x = ("range" : Str)) && globB sc x && chkE a c sc z
    | _ => false
  | .rng2 a b => fun c sc y => match y with
    | .Call (.Name x _) [z, u] [] _ => decide (x = ("range" : Str)) && globB sc x && chkE a c sc z && chkE b c sc u
    | _ => false
  | .rng3 a b d => fun c sc y => match y with
    | .Call (.Name x _) [z, u, w] [] _ => decide (x = ("range" : Str)) && globB sc x && chkE a c sc z && chkE b c sc u && chkE d c sc w
    | _ => false
  | .seq a => fun c sc y => chkE a c sc y
  | .sgn a => fun c sc y => chkE a c sc y
  | .enum a => fun c sc y => match y with
    | .Call (.Name x _) [z] [] _ => decide (x = ("enumerate" : Str)) && globB sc x && chkE a c sc z
    | _ => false
  | .zip a b => fun c sc y => match y with
    | .Call (.Name x _) [z, u] [] _ => decide (x = ("zip" : Str)) && globB sc x && chkE a c sc z && chkE b c sc u
    | _ => false
def chkPt : Pt → Tb → Scope → Option Expr → Bool
  | .no => fun _ _ y => match y with
    | none => true
    | _ => false
  | .yes a => fun c sc y => match y with
    | some z => chkE a c sc z
    | _ => false
end

/-- a built-in keeps what the evaluator does -/
def BiGood (X : Cx) (x : Str) (F : List PV → IH → Res PV) : Prop :=
  (∃ id r, bootBuiltins x = some (.builtin id) ∧ CallR X (.builtin id) r ∧ BiOk X.K F r) ∨ (∃ T r, bootBuiltins x = some (.type T) ∧ CallR X (.type T) r ∧ BiOk X.K F r)
/-- a def keeps what the evaluator does -/
def DefGood (j : Nat) (X : Cx) (x : Str) (n : Nat) (F : List PV → IH → Res PV) : Prop :=
  ∃ f fd ps k, X.mg x = some (.ref f) ∧ PySem.W.keepIn X.K (.ref f) = true ∧ Binds X.K fd ps [] ∧ Room (k + j) X.A ∧ FnG X.prog X.w X.K X.mg X.base k f fd n ps (spOf X.K n F)
/-- names of built-ins that the language has by itself -/
def coreN : List Str := ["any", "all", "list", "sorted", "set", "enumerate", "zip", "isinstance", "int", "bool", "str", "tuple"]
/-- the context of an expression -/
structure Okc (xi : XI) (c : Tb) (G B : Fns) (X : Cx) : Prop where
  tk : XOk X xi
  ft : Fit X
  N : X.N = c.N
  nd : X.N.Nodup
  rng : X.mg "range" = none
  more : ∀ x ∈ coreN, X.mg x = none
  fn : ∀ (i : Nat) x n, c.T[i]? = some (x, n) → DefGood c.gn.toNat X x n (G i)
  bi : ∀ (i : Nat) x, c.B[i]? = some x → X.mg x = none ∧ x ≠ "__name__"
  cs : ∀ x k, (x, k) ∈ c.C → ConGood X x k
  gn : c.gn = true → ∃ cc P, X.env.code = .ref cc ∧ GxR.TabB X.base X.mg cc P ∧ P ∈ T.at' ∧ Room 1 X.A
abbrev BiAll (c : Tb) (B : Fns) : Prop := ∀ (X : Cx), Fit X → ∀ (i : Nat) x, c.B[i]? = some x → BiGood X x (B i)

theorem esLen_chk : ∀ (es : Es) {c : Tb} {sc : Scope} {ys : List Expr}, chkEs es c sc ys = true → esLen es = ys.length
  | .nil, c, sc, ys, h => by cases ys <;> first | rfl | cases h
  | .cons e es, c, sc, ys, h => by
    cases ys <;> try (cases h; done)
    simp only [chkEs, Bool.and_eq_true] at h
    rw [List.length_cons, ← esLen_chk es h.2]
    rfl
def isBop : Expr → Bool
  | .BoolOp .. => true
  | _ => false
structure Snd (X : Cx) (xi : XI) (y : Expr) (f : Ev → IH → Res PV) : Prop where
  e : PE X y (tE X.K xi f)
  t : PT X y (tT X.K xi (bF f))
  w : isBop y = true → PW X y (tT X.K xi (bF f))
  s : notStar y = true

theorem glob_ok {X : Cx} {x : Str} (h : globB X.env.scope x = true) : Gl X x := by
  unfold globB at h
  rw [decide_eq_true_eq] at h
  exact h
theorem okName_d {x : Str} (h : okName x = true) : (x == ("__debug__" : Str)) = false ∧ (x == ("__classdict__" : Str)) = false := by
  unfold okName at h
  simpa using h
theorem evEs_len {G B : Fns} : ∀ (es : Es) (ev : Ev) (h : IH) (xs : List PV) (h1 : IH), evEs G B es ev h = .ok xs h1 → xs.length = es.len
  | .nil, _, _, _, _, e => by cases e; rfl
  | .cons e es, ev, h, xs, h1, q => by
    unfold evEs at q
    cases e1 : evE G B e ev h with
    | stuck => rw [e1] at q; cases q
    | exc _ _ _ => rw [e1] at q; cases q
    | ok x h2 =>
      rw [e1, Res.bind_ok] at q
      cases e2 : evEs G B es ev h2 with
      | stuck => rw [e2] at q; cases q
      | exc _ _ _ => rw [e2] at q; cases q
      | ok ys h3 =>
        rw [e2] at q
        cases q
        rw [List.length_cons, evEs_len es ev h2 ys _ e2]
        rfl
theorem Okc.blk {xi : XI} {c : Tb} {G B : Fns} {X : Cx} (ok : Okc xi c G B X) (s : Shared) (H : Hp) (scope : Scope) (cenv : Env) (fp : List Addr) (hcd : cenv.code = X.env.code := by rfl) : Okc xi0 c G B (X.blk s H scope cenv fp) :=
  ⟨XOk.none, ⟨ok.ft.calm, ok.ft.hu, ok.ft.hush⟩, ok.N, ok.nd, ok.rng, ok.more, ok.fn, ok.bi, ok.cs, fun z => by
    obtain ⟨cc, P, h1, h2⟩ := ok.gn z
    exact ⟨cc, P, hcd.trans h1, h2⟩⟩
theorem Okc.gen {xi : XI} {c : Tb} {G B : Fns} {X : Cx} (ok : Okc xi c G B X) (hg : c.gn = true) {s4 : Shared} {H4 : Hp} {elt tg iter : Expr} {scope : Scope} {gpos : Pos} {it a : Addr} {cenv : Env} {fp : List Addr} {go : Obj} : Okc xi0 { c with gn := false } G B (gX X s4 H4 elt tg iter scope gpos it cenv fp a go) := by
  obtain ⟨cc, P, h1, h2, h3, hr⟩ := ok.gn hg
  refine ⟨XOk.none, ⟨ok.ft.calm, ?_, genA_guards ok.ft.hush⟩, ok.N, ok.nd, ok.rng, ok.more, fun i x n e => ?_, ok.bi, ok.cs, fun z => by cases z⟩
  · have := hr.un
    have := genA_units (X := X) (elt := elt) (tg := tg) (iter := iter) (scope := scope) (gpos := gpos) (it := it) (cenv := cenv)
    show (genA X elt tg iter scope gpos it cenv).units + 100 < cLine
    omega
  · obtain ⟨f, fd, ps, k, g1, g2, g3, g4, g5⟩ := ok.fn i x n e
    rw [hg] at g4
    exact ⟨f, fd, ps, k, g1, g2, g3, genA_room g4, g5⟩

theorem snd_of {X : Cx} {xi : XI} {y : Expr} {f : Ev → IH → Res PV} (e : PE X y (tE X.K xi f)) (he : ∀ whole, isTrue y X.env whole = (do let v ← whole; standAt y.pos; holding [v] (truthy v)))
    (w : isBop y = false) (s : notStar y = true) : Snd X xi y f := ⟨e, st_val e he, fun z => (by rw [w] at z; cases z), s⟩
theorem locC_ok {scope sc : Scope} {x : Str} (h : locC scope sc x = true) : L2.Loc (relS scope sc) x ∧ ((scope.names.lookup x == some .cell) = true ∨ (relS scope sc).names.lookup x = some .local) := by
  unfold locC at h
  unfold L2.Loc
  split at h
  · rename_i e
    exact ⟨.inl e, .inr e⟩
  · rename_i e
    exact ⟨.inr e, .inl (by simpa using h)⟩
  · cases h
section
variable {G B : Fns}
mutual
theorem sndE : ∀ (e : E) (xi : XI) (c : Tb) (hB : BiAll c B) (X : Cx) (y : Expr), Okc xi c G B X → chkE e c X.env.scope y = true → Snd X xi y (evE G B e)
  | .var i, xi, c, hB, X, y, ok, hc => by
    cases y <;> try (cases hc; done)
    rename_i x p
    simp only [chkE, Bool.and_eq_true, decide_eq_true_eq] at hc
    obtain ⟨⟨h1, h2⟩, h3⟩ := hc
    exact snd_of (se_var (by rw [ok.N]; exact h1) (visB_ok h2) (okName_d h3).1 (okName_d h3).2) (fun _ => rfl) rfl rfl
  | .int i, xi, c, hB, X, y, ok, hc => by
    cases y <;> try (cases hc; done)
    rename_i v k p
    cases v <;> try (cases hc; done)
    simp only [chkE, decide_eq_true_eq] at hc
    subst hc
    exact snd_of (se_con pe_int fun _ _ => .int) (fun _ => rfl) rfl rfl
  | .str i, xi, c, hB, X, y, ok, hc => by
    cases y <;> try (cases hc; done)
    rename_i v k p
    cases v <;> try (cases hc; done)
    simp only [chkE, decide_eq_true_eq] at hc
    subst hc
    exact snd_of (se_con pe_str fun _ _ => .str) (fun _ => rfl) rfl rfl
  | .bl i, xi, c, hB, X, y, ok, hc => by
    cases y <;> try (cases hc; done)
    rename_i v k p
    cases v <;> try (cases hc; done)
    simp only [chkE, decide_eq_true_eq] at hc
    subst hc
    exact snd_of (se_con pe_bl fun _ _ => .bl) (fun _ => rfl) rfl rfl
  | .non, xi, c, hB, X, y, ok, hc => by
    cases y <;> try (cases hc; done)
    rename_i v k p
    cases v <;> try (cases hc; done)
    exact snd_of (se_con pe_non fun _ _ => .non) (fun _ => rfl) rfl rfl
  | .bin op a b, xi, c, hB, X, y, ok, hc => by
    cases y <;> try (cases hc; done)
    simp only [chkE, Bool.and_eq_true, decide_eq_true_eq] at hc
    obtain ⟨⟨rfl, h1⟩, h2⟩ := hc
    obtain ⟨r, q, k⟩ := bop_all ok.ft op
    exact snd_of (se_bin q (k) (sndE a _ c hB X _ ok h1).e (sndE b _ c hB X _ ok h2).e) (fun _ => rfl) rfl rfl
  | .neg a, xi, c, hB, X, y, ok, hc => by
    cases y <;> try (cases hc; done)
    rename_i o x p
    cases o <;> try (cases hc; done)
    exact snd_of (se_neg (sndE a _ c hB X _ ok hc).e) (fun _ => rfl) rfl rfl
  | .cmp op a b, xi, c, hB, X, y, ok, hc => by
    cases y <;> try (cases hc; done)
    rename_i x os zs p
    rcases os with _ | ⟨o, _ | ⟨_, _⟩⟩ <;> try (cases hc; done)
    rcases zs with _ | ⟨z, _ | ⟨_, _⟩⟩ <;> try (cases hc; done)
    simp only [chkE, Bool.and_eq_true, decide_eq_true_eq] at hc
    obtain ⟨⟨rfl, h1⟩, h2⟩ := hc
    obtain ⟨r, q, k⟩ := cop_all ok.ft op
    exact ⟨se_cmp q (k) (cop_mark op _) (sndE a _ c hB X _ ok h1).e (sndE b _ c hB X _ ok h2).e, st_cmp q (k) (cop_mark op _) (sndE a _ c hB X _ ok h1).e (sndE b _ c hB X _ ok h2).e, fun z => (nomatch z), rfl⟩
  | .chain o1 o2 a b d, xi, c, hB, X, y, ok, hc => by
    cases y <;> try (cases hc; done)
    rename_i x os zs p
    rcases os with _ | ⟨o, _ | ⟨q, _ | ⟨_, _⟩⟩⟩ <;> try (cases hc; done)
    rcases zs with _ | ⟨z, _ | ⟨u, _ | ⟨_, _⟩⟩⟩ <;> try (cases hc; done)
    simp only [chkE, Bool.and_eq_true, decide_eq_true_eq] at hc
    obtain ⟨⟨⟨⟨rfl, rfl⟩, h1⟩, h2⟩, h3⟩ := hc
    exact ⟨se_chain ok.ft rfl (sndE a _ c hB X _ ok h1).e (sndE b _ c hB X _ ok h2).e (sndE d _ c hB X _ ok h3).e, st_chain ok.ft rfl (sndE a _ c hB X _ ok h1).e (sndE b _ c hB X _ ok h2).e (sndE d _ c hB X _ ok h3).e, fun z => (nomatch z), rfl⟩
  | .isn a, xi, c, hB, X, y, ok, hc => by
    cases y <;> try (cases hc; done)
    rename_i x os zs p
    rcases os with _ | ⟨o, _ | ⟨_, _⟩⟩ <;> try (first | (cases hc; done) | (cases o <;> (cases hc; done)))
    cases o <;> try (cases hc; done)
    rcases zs with _ | ⟨z, _ | ⟨_, _⟩⟩ <;> try (first | (cases hc; done) | (cases z <;> first | (cases hc; done) | (rename_i v _ _; cases v <;> (cases hc; done))))
    cases z <;> try (cases hc; done)
    rename_i v _ _
    cases v <;> try (cases hc; done)
    exact ⟨se_isn (sndE a _ c hB X _ ok hc).e, st_isn (sndE a _ c hB X _ ok hc).e, fun z => (nomatch z), rfl⟩
  | .notn a, xi, c, hB, X, y, ok, hc => by
    cases y <;> try (cases hc; done)
    rename_i x os zs p
    rcases os with _ | ⟨o, _ | ⟨_, _⟩⟩ <;> try (first | (cases hc; done) | (cases o <;> (cases hc; done)))
    cases o <;> try (cases hc; done)
    rcases zs with _ | ⟨z, _ | ⟨_, _⟩⟩ <;> try (first | (cases hc; done) | (cases z <;> first | (cases hc; done) | (rename_i v _ _; cases v <;> (cases hc; done))))
    cases z <;> try (cases hc; done)
    rename_i v _ _
    cases v <;> try (cases hc; done)
    exact ⟨se_notn (sndE a _ c hB X _ ok hc).e, st_notn (sndE a _ c hB X _ ok hc).e, fun z => (nomatch z), rfl⟩
  | .band a b, xi, c, hB, X, y, ok, hc => by
    cases y <;> try (cases hc; done)
    rename_i o zs p
    cases o <;> try (cases hc; done)
    rcases zs with _ | ⟨x, _ | ⟨z, r⟩⟩ <;> try (cases hc; done)
    simp only [chkE, Bool.and_eq_true] at hc
    obtain ⟨h1, h2⟩ := hc
    have A := sndE a _ c hB X _ ok h1
    cases r with
    | nil =>
      have Q := sndE b _ c hB X _ ok h2
      have W := sw_band (pos := p) A.t (rest := []) (pw_and1 Q.t)
      exact ⟨se_band A.e (pe_one Q.e), W.pt, fun _ => W, rfl⟩
    | cons u r =>
      have Q := sndE b _ c hB X _ ok h2
      have W := sw_band (pos := p) A.t (Q.w rfl)
      exact ⟨se_band A.e Q.e, W.pt, fun _ => W, rfl⟩
  | .bor a b, xi, c, hB, X, y, ok, hc => by
    cases y <;> try (cases hc; done)
    rename_i o zs p
    cases o <;> try (cases hc; done)
    rcases zs with _ | ⟨x, _ | ⟨z, r⟩⟩ <;> try (cases hc; done)
    simp only [chkE, Bool.and_eq_true] at hc
    obtain ⟨h1, h2⟩ := hc
    have A := sndE a _ c hB X _ ok h1
    cases r with
    | nil =>
      have Q := sndE b _ c hB X _ ok h2
      have W := sw_bor (pos := p) A.t (rest := []) (pw_or1 Q.t)
      exact ⟨se_bor A.e (pe_one Q.e), W.pt, fun _ => W, rfl⟩
    | cons u r =>
      have Q := sndE b _ c hB X _ ok h2
      have W := sw_bor (pos := p) A.t (Q.w rfl)
      exact ⟨se_bor A.e Q.e, W.pt, fun _ => W, rfl⟩
  | .not a, xi, c, hB, X, y, ok, hc => by
    cases y <;> try (cases hc; done)
    rename_i o x p
    cases o <;> try (cases hc; done)
    exact ⟨se_not (sndE a _ c hB X _ ok hc).e, st_not (sndE a _ c hB X _ ok hc).t, fun z => (nomatch z), rfl⟩
  | .ite d a b, xi, c, hB, X, y, ok, hc => by
    cases y <;> try (cases hc; done)
    simp only [chkE, Bool.and_eq_true] at hc
    obtain ⟨⟨h1, h2⟩, h3⟩ := hc
    exact ⟨se_ite (sndE d _ c hB X _ ok h1).t (sndE a _ c hB X _ ok h2).e (sndE b _ c hB X _ ok h3).e, st_ite (sndE d _ c hB X _ ok h1).t (sndE a _ c hB X _ ok h2).t (sndE b _ c hB X _ ok h3).t, fun z => (nomatch z), rfl⟩
  | .tup es, xi, c, hB, X, y, ok, hc => by
    cases y <;> try (cases hc; done)
    exact snd_of (se_tup (sndEs es _ c hB X _ ok hc).1) (fun _ => rfl) rfl rfl
  | .lst es, xi, c, hB, X, y, ok, hc => by
    cases y <;> try (cases hc; done)
    exact snd_of (se_lst (sndEs es _ c hB X _ ok hc).1) (fun _ => rfl) rfl rfl
  | .ix a i, xi, c, hB, X, y, ok, hc => by
    cases y <;> try (cases hc; done)
    simp only [chkE, Bool.and_eq_true] at hc
    obtain ⟨⟨h1, h2⟩, h3⟩ := hc
    exact snd_of (se_ix rfl h1 (sndE a _ c hB X _ ok h2).e (sndE i _ c hB X _ ok h3).e) (fun _ => rfl) rfl rfl
  | .call f es, xi, c, hB, X, y, ok, hc => by
    cases y <;> try (cases hc; done)
    rename_i fn zs kw p
    cases fn <;> try (cases hc; done)
    cases zs <;> try (cases hc; done)
    cases kw <;> try (cases hc; done)
    simp only [chkE, Bool.and_eq_true, decide_eq_true_eq] at hc
    obtain ⟨⟨⟨h1, h2⟩, h3⟩, h4⟩ := hc
    obtain ⟨f, fd, ps, k, g1, g2, g3, g4, g6⟩ := ok.fn _ _ _ h1
    have S := sndEs es _ c hB X _ ok h4
    exact snd_of (se_call g6 ok.tk ok.ft.hush (g4.mono (Nat.le_add_right _ _)) (glob_ok h2) g1 g2 g3 S.1 (fun ev h xs h1 e => evEs_len es ev h xs h1 e) S.2 (okName_d h3).1) (fun _ => rfl) rfl rfl
  | .bi b es, xi, c, hB, X, y, ok, hc => by
    cases y <;> try (cases hc; done)
    rename_i fn zs kw p
    cases fn <;> try (cases hc; done)
    cases zs <;> try (cases hc; done)
    cases kw <;> try (cases hc; done)
    simp only [chkE, Bool.and_eq_true, decide_eq_true_eq] at hc
    obtain ⟨⟨⟨h1, h2⟩, h3⟩, h4⟩ := hc
    obtain ⟨m1, m2⟩ := ok.bi _ _ h1
    have S := sndEs es _ c hB X _ ok h4
    rcases hB X ok.ft _ _ h1 with ⟨id, r, b1, b2, b3⟩ | ⟨T, r, b1, b2, b3⟩
    · exact snd_of (se_biB b2 b3 (glob_ok h2) m1 b1 S.1 S.2 m2 (okName_d h3).1) (fun _ => rfl) rfl rfl
    · exact snd_of (se_biT b2 b3 (glob_ok h2) m1 b1 S.1 S.2 m2 (okName_d h3).1) (fun _ => rfl) rfl rfl
  | .lc elt tg it cond, xi, c, hB, X, y, ok, hc => by
    cases y <;> try (cases hc; done)
    rename_i e gs scope p
    rcases gs with _ | ⟨⟨t, iter, ifs, a⟩, _ | ⟨_, _⟩⟩ <;> try (cases hc; done)
    simp only [chkE, Bool.and_eq_true, decide_eq_true_eq] at hc
    obtain ⟨⟨⟨⟨⟨⟨⟨rfl, h2⟩, h3⟩, ht0⟩, h4⟩, h5⟩, h6⟩, h7⟩ := hc
    have hi := sndIt it _ c hB X _ t ok h3 ht0
    have hb : BlkOk X.N X.env.scope scope (ownOf tg t) := by rw [ok.N]; exact blkOk_by h4
    have hg : ∀ (s : Shared) (H : Hp) (C : Addr) (cl : List (Str × Addr)) (fp : List Addr), PG (X.blk s H scope (compEnvC scope cl C X.env) fp) t (tG X.K tg) := fun s H C cl fp =>
      snd_tg (X := X.blk s H scope (compEnvC scope cl C X.env) fp) (loc := locC scope X.env.scope) ok.nd ok.ft.calm (fun x hx => locC_ok hx) (by rw [show (X.blk s H scope (compEnvC scope cl C X.env) fp).N = c.N from ok.N]; exact h5)
    have he : ∀ (s : Shared) (H : Hp) (C : Addr) (cl : List (Str × Addr)) (fp : List Addr), PE (X.blk s H scope (compEnvC scope cl C X.env) fp) e (tE X.K xi0 (evE G B elt)) := fun s H C cl fp => (sndE elt _ c hB (X.blk s H scope (compEnvC scope cl C X.env) fp) e (ok.blk ..) h7).e
    have fin : ∀ (tt : TT), (∀ (s : Shared) (H : Hp) (C : Addr) (cl : List (Str × Addr)) (fp : List Addr), PTs (X.blk s H scope (compEnvC scope cl C X.env) fp) ifs tt) → (∀ st H Q, tT X.K xi0 (bF (evE G B cond)) st H Q → tt st H Q) → Snd X xi (.ListComp e [⟨t, iter, ifs, 0⟩] scope p) (evE G B (.lc elt tg it cond)) := fun tt ht htt => by
      refine snd_of (PEm (pe_lc ok.ft.calm ok.nd hi hb hg ht he (folded_of h2)) fun st H Q q => ?_) (fun _ => rfl) rfl rfl
      rw [ownOf_slots h5]
      exact tLc_of htt q
    rcases ifs with _ | ⟨f, _ | ⟨_, _⟩⟩ <;> try (cases h6; done)
    · cases cond <;> try (cases h6; done)
      rename_i b
      cases b <;> try (cases h6; done)
      refine fin tYes (fun s H C cl fp => pts_nil) fun st H Q q => ?_
      obtain ⟨ev, m, h, re, rh, q⟩ := q
      exact q.now rh
    · exact fin _ (fun s H C cl fp => pts_one (sndE cond _ c hB (X.blk s H scope (compEnvC scope cl C X.env) fp) f (ok.blk ..) h6).t) fun st H Q q => q
  | .anyg al elt tg it, xi, c, hB, X, y, ok, hc => by
    unfold chkE at hc
    split at hc
    · rename_i x p e t iter a scope gpos pos
      simp only [Bool.and_eq_true, decide_eq_true_eq] at hc
      obtain ⟨⟨⟨⟨⟨⟨⟨⟨⟨h1, h2⟩, rfl⟩, h4⟩, h5⟩, h6⟩, h7⟩, h8⟩, h9⟩, h10⟩ := hc
      obtain ⟨cc, P, hcd, TB, hP, hr⟩ := ok.gn h4
      have hi := sndIt it _ c hB X _ t ok h6 h7
      have hb : BlkG X.N X.env.scope scope (ownOf tg t) := by rw [ok.N]; exact blkG_by h8
      have hg : ∀ (s4 : Shared) (H4 : Hp) (it : Addr) (code : Value) (fp : List Addr) (a : Addr) (go : Obj), PG (gX X s4 H4 e t iter scope gpos it (genEnv scope (cloFrom X.env.cells scope.names []) s4.heap.objs.size code builtinsNs X.env) fp a go) t (tG X.K tg) := fun s4 H4 it code fp a go =>
        snd_tg (X := gX X s4 H4 e t iter scope gpos it (genEnv scope (cloFrom X.env.cells scope.names []) s4.heap.objs.size code builtinsNs X.env) fp a go) (loc := locG scope) ok.nd ok.ft.calm (fun x hx => ⟨.inl (of_decide_eq_true hx), .inr (of_decide_eq_true hx)⟩) (by rw [show (gX X s4 H4 e t iter scope gpos it (genEnv scope (cloFrom X.env.cells scope.names []) s4.heap.objs.size code builtinsNs X.env) fp a go).N = c.N from ok.N]; exact h9)
      have he : ∀ (s4 : Shared) (H4 : Hp) (it : Addr) (code : Value) (fp : List Addr) (a : Addr) (go : Obj), PE (gX X s4 H4 e t iter scope gpos it (genEnv scope (cloFrom X.env.cells scope.names []) s4.heap.objs.size code builtinsNs X.env) fp a go) e (tE X.K xi0 (evE G B elt)) := fun s4 H4 it code fp a go =>
        (sndE elt _ { c with gn := false } (fun X ft i x e => hB X ft i x e) (gX X s4 H4 e t iter scope gpos it (genEnv scope (cloFrom X.env.cells scope.names []) s4.heap.objs.size code builtinsNs X.env) fp a go) e (ok.gen h4) h10).e
      cases al with
      | false =>
        subst h1
        refine snd_of (PEm (pe_anyG ok.ft.calm ok.nd hr (glob_ok h2) (ok.more _ (by decide)) TB hcd hb hi hg he (genFold_of h5)) fun st H Q q => ?_) (fun _ => rfl) rfl rfl
        rw [ownOf_slots h9]
        exact tGen_of hP q
      | true =>
        subst h1
        refine snd_of (PEm (pe_allG ok.ft.calm ok.nd hr (glob_ok h2) (ok.more _ (by decide)) TB hcd hb hi hg he (genFold_of h5)) fun st H Q q => ?_) (fun _ => rfl) rfl rfl
        rw [ownOf_slots h9]
        exact tGen_of hP q
    · cases hc
  | .slc a lo hi, xi, c, hB, X, y, ok, hc => by
    cases y <;> try (cases hc; done)
    rename_i x sl p
    cases sl <;> try (cases hc; done)
    rename_i l u st p2
    cases st <;> try (cases hc; done)
    simp only [chkE, Bool.and_eq_true] at hc
    obtain ⟨⟨h1, h2⟩, h3⟩ := hc
    exact snd_of (se_slc rfl (sndE a _ c hB X _ ok h1).e (sndPt lo _ c hB X _ ok h2) (sndPt hi _ c hB X _ ok h3)) (fun _ => rfl) rfl rfl
  | .isin t a, xi, c, hB, X, y, ok, hc => by
    unfold chkE at hc
    split at hc
    · simp only [Bool.and_eq_true, decide_eq_true_eq] at hc
      obtain ⟨⟨⟨⟨rfl, rfl⟩, h3⟩, h4⟩, h5⟩ := hc
      have A := sndE a _ c hB X _ ok h5
      exact snd_of (se_isin t (glob_ok h3) (ok.more _ (by decide)) (glob_ok h4) (ok.more _ (by cases t <;> decide)) A.s A.e) (fun _ => rfl) rfl rfl
    · cases hc
  | .isan ts a, xi, c, hB, X, y, ok, hc => by
    unfold chkE at hc
    split at hc
    · simp only [Bool.and_eq_true, decide_eq_true_eq] at hc
      obtain ⟨⟨⟨⟨rfl, h3⟩, h4⟩, hl⟩, h5⟩ := hc
      have A := sndE a _ c hB X _ ok h5
      exact snd_of (se_isan ts (glob_ok h3) (ok.more _ (by decide)) h4 (fun t _ => ok.more _ (by cases t <;> decide)) hl A.s A.e) (fun _ => rfl) rfl rfl
    · cases hc
  | .lrng a, xi, c, hB, X, y, ok, hc => by
    unfold chkE at hc
    split at hc
    · simp only [Bool.and_eq_true, decide_eq_true_eq] at hc
      obtain ⟨⟨⟨⟨rfl, rfl⟩, h3⟩, h4⟩, h5⟩ := hc
      have A := sndE a _ c hB X _ ok h5
      exact snd_of (se_lrng ok.ft.calm (glob_ok h3) (ok.more _ (by decide)) (glob_ok h4) ok.rng A.s A.e) (fun _ => rfl) rfl rfl
    · cases hc
  | .sset a, xi, c, hB, X, y, ok, hc => by
    unfold chkE at hc
    split at hc
    · simp only [Bool.and_eq_true, decide_eq_true_eq] at hc
      obtain ⟨⟨⟨⟨rfl, rfl⟩, h3⟩, h4⟩, h5⟩ := hc
      have A := sndE a _ c hB X _ ok h5
      exact snd_of (se_sset ok.ft.calm (glob_ok h3) (ok.more _ (by decide)) (glob_ok h4) (ok.more _ (by decide)) A.s A.e) (fun _ => rfl) rfl rfl
    · cases hc
  | .scnt a u e, xi, c, hB, X, y, ok, hc => by
    unfold chkE at hc
    split at hc
    · simp only [Bool.and_eq_true, decide_eq_true_eq] at hc
      obtain ⟨⟨⟨⟨rfl, h2⟩, h3⟩, h4⟩, h5⟩ := hc
      have A := sndE e _ c hB X _ ok h5
      exact snd_of (se_scnt A.s h2 (sndE a _ c hB X _ ok h3).e (sndE u _ c hB X _ ok h4).e A.e) (fun _ => rfl) rfl rfl
    · cases hc
  | .cont neg a b, xi, c, hB, X, y, ok, hc => by
    unfold chkE at hc
    split at hc
    · simp only [Bool.and_eq_true, decide_eq_true_eq, Bool.not_eq_true'] at hc
      obtain ⟨⟨⟨rfl, h2⟩, h3⟩, h4⟩ := hc
      have Q := fun pos => se_cont (pos := pos) rfl (by have := ok.ft.hu; omega) neg h2 (sndE a _ c hB X _ ok h3).e (sndE b _ c hB X _ ok h4).e
      exact ⟨(Q _).1, (Q _).2, fun z => (nomatch z), rfl⟩
    · cases hc
  | .pop a i, xi, c, hB, X, y, ok, hc => by
    unfold chkE at hc
    split at hc
    · simp only [Bool.and_eq_true, decide_eq_true_eq] at hc
      obtain ⟨⟨⟨⟨rfl, h2⟩, h3⟩, h4⟩, h5⟩ := hc
      have A := sndE i _ c hB X _ ok h5
      exact snd_of (se_pop rfl A.s h2 (base_of h3) (sndE a _ c hB X _ ok h4).e A.e) (fun _ => rfl) rfl rfl
    · cases hc
  | .sidx a i, xi, c, hB, X, y, ok, hc => by
    unfold chkE at hc
    split at hc
    · simp only [Bool.and_eq_true, decide_eq_true_eq] at hc
      obtain ⟨⟨⟨⟨rfl, h2⟩, h3⟩, h4⟩, h5⟩ := hc
      have A := sndE i _ c hB X _ ok h5
      exact snd_of (se_sidx A.s h2 (base_of h3) (sndE a _ c hB X _ ok h4).e A.e) (fun _ => rfl) rfl rfl
    · cases hc
  | .join a i, xi, c, hB, X, y, ok, hc => by
    unfold chkE at hc
    split at hc
    · simp only [Bool.and_eq_true, decide_eq_true_eq] at hc
      obtain ⟨⟨⟨⟨rfl, h2⟩, h3⟩, h4⟩, h5⟩ := hc
      have A := sndE i _ c hB X _ ok h5
      exact snd_of (se_join rfl A.s h2 (base_of h3) (sndE a _ c hB X _ ok h4).e A.e) (fun _ => rfl) rfl rfl
    · cases hc
  | .dlit k a ks, xi, c, hB, X, y, ok, hc => by
    unfold chkE at hc
    split at hc
    · simp only [Bool.and_eq_true, decide_eq_true_eq] at hc
      obtain ⟨⟨⟨rfl, h2⟩, h3⟩, h4⟩ := hc
      exact snd_of (se_dlit (conB_ok h3) (sndE a _ c hB X _ ok h4).e h2) (fun _ => rfl) rfl rfl
    · cases hc
  | .dix a k, xi, c, hB, X, y, ok, hc => by
    unfold chkE at hc
    split at hc
    · simp only [Bool.and_eq_true, decide_eq_true_eq] at hc
      obtain ⟨rfl, h4⟩ := hc
      exact snd_of (se_dix (by have := ok.ft.hu; omega) (sndE a _ c hB X _ ok h4).e) (fun _ => rfl) rfl rfl
    · cases hc
  | .gcon x k, xi, c, hB, X, y, ok, hc => by
    unfold chkE at hc
    split at hc
    · simp only [Bool.and_eq_true, decide_eq_true_eq] at hc
      obtain ⟨⟨⟨rfl, h2⟩, h3⟩, h4⟩ := hc
      exact snd_of (se_gcon (glob_ok h2) (ok.cs _ _ h4) (okName_d h3).1) (fun _ => rfl) rfl rfl
    · cases hc
  | .dget a k, xi, c, hB, X, y, ok, hc => by
    unfold chkE at hc
    split at hc
    · simp only [Bool.and_eq_true] at hc
      obtain ⟨⟨h1, h2⟩, h3⟩ := hc
      exact snd_of (se_dget (by have := ok.ft.hu; omega) h1 (sndE a _ c hB X _ ok h2).e (sndE k _ c hB X _ ok h3).e) (fun _ => rfl) rfl rfl
    · cases hc
  | .din neg k d, xi, c, hB, X, y, ok, hc => by
    unfold chkE at hc
    split at hc
    · simp only [Bool.and_eq_true, decide_eq_true_eq, Bool.not_eq_true'] at hc
      obtain ⟨⟨⟨rfl, h2⟩, h3⟩, h4⟩ := hc
      exact ⟨se_din neg (by have := ok.ft.hu; omega) h2 (sndE k _ c hB X _ ok h3).e (sndE d _ c hB X _ ok h4).e, st_din neg (by have := ok.ft.hu; omega) h2 (sndE k _ c hB X _ ok h3).e (sndE d _ c hB X _ ok h4).e, (fun z => by cases z), rfl⟩
    · cases hc
  | .cnt a i, xi, c, hB, X, y, ok, hc => by
    unfold chkE at hc
    split at hc
    · simp only [Bool.and_eq_true, decide_eq_true_eq] at hc
      obtain ⟨⟨⟨⟨rfl, h2⟩, h3⟩, h4⟩, h5⟩ := hc
      have A := sndE i _ c hB X _ ok h5
      exact snd_of (se_cnt rfl A.s h2 (base_of h3) (sndE a _ c hB X _ ok h4).e A.e) (fun _ => rfl) rfl rfl
    · cases hc
  | .tset a, xi, c, hB, X, y, ok, hc => by
    unfold chkE at hc
    split at hc
    · simp only [Bool.and_eq_true, decide_eq_true_eq] at hc
      obtain ⟨⟨⟨⟨rfl, rfl⟩, h3⟩, h4⟩, h5⟩ := hc
      have A := sndE a _ c hB X _ ok h5
      exact snd_of (se_tset ok.ft.calm (glob_ok h3) (ok.more _ (by decide)) (glob_ok h4) (ok.more _ (by decide)) A.s A.e) (fun _ => rfl) rfl rfl
    · cases hc
  | .tsrt a, xi, c, hB, X, y, ok, hc => by
    unfold chkE at hc
    split at hc
    · simp only [Bool.and_eq_true, decide_eq_true_eq] at hc
      obtain ⟨⟨rfl, h3⟩, h5⟩ := hc
      have A := sndE a _ c hB X _ ok h5
      exact snd_of (se_tsrt (glob_ok h3) (ok.more _ (by decide)) A.s A.e) (fun _ => rfl) rfl rfl
    · cases hc
  | .psrt a, xi, c, hB, X, y, ok, hc => by
    unfold chkE at hc
    split at hc
    · simp only [Bool.and_eq_true, decide_eq_true_eq] at hc
      obtain ⟨⟨rfl, h3⟩, h5⟩ := hc
      have A := sndE a _ c hB X _ ok h5
      exact snd_of (se_psrt ok.ft.hu (glob_ok h3) (ok.more _ (by decide)) A.s A.e) (fun _ => rfl) rfl rfl
    · cases hc
  | .ddis ks es, xi, c, hB, X, y, ok, hc => by
    cases y <;> try (cases hc; done)
    simp only [chkE, Bool.and_eq_true, decide_eq_true_eq] at hc
    obtain ⟨⟨⟨⟨h1, h2⟩, h3⟩, h4⟩, h5⟩ := hc
    have kl := keysB_len h1
    exact snd_of (se_ddis (sndPs es ks _ _ c hB X _ ok h1 h2 h5) (keysB_some h1) (by rw [kl, ← h2, esLen_chk es h5]) (fun z => h3 (by rw [z] at kl; exact List.length_eq_zero_iff.mp kl.symm)) (by rw [kl]; exact h4) h2) (fun _ => rfl) rfl rfl
  | .dgt a i, xi, c, hB, X, y, ok, hc => by
    unfold chkE at hc
    split at hc
    · simp only [Bool.and_eq_true, decide_eq_true_eq] at hc
      obtain ⟨⟨⟨⟨rfl, h2⟩, h3⟩, h4⟩, h5⟩ := hc
      have A := sndE i _ c hB X _ ok h5
      exact snd_of (se_dgt (by have := ok.ft.hu; omega) A.s h2 (base_of h3) (sndE a _ c hB X _ ok h4).e A.e) (fun _ => rfl) rfl rfl
    · cases hc
  | .stp a s, xi, c, hB, X, y, ok, hc => by
    unfold chkE at hc
    split at hc
    · rw [Bool.and_eq_true] at hc
      exact snd_of (se_stp (sndE a _ c hB X _ ok hc.1).e (sndE s _ c hB X _ ok hc.2).e) (fun _ => rfl) rfl rfl
    · cases hc
  | .isb neg a b, xi, c, hB, X, y, ok, hc => by
    unfold chkE at hc
    split at hc
    · simp only [Bool.and_eq_true, decide_eq_true_eq] at hc
      obtain ⟨⟨rfl, h3⟩, h4⟩ := hc
      have Q := fun pos => se_isb (pos := pos) neg (sndE a _ c hB X _ ok h3).e (sndE b _ c hB X _ ok h4).e
      exact ⟨(Q _).1, (Q _).2, fun z => (nomatch z), rfl⟩
    · cases hc
  | .trng a, xi, c, hB, X, y, ok, hc => by
    unfold chkE at hc
    split at hc
    · simp only [Bool.and_eq_true, decide_eq_true_eq] at hc
      obtain ⟨⟨⟨⟨rfl, rfl⟩, h3⟩, h4⟩, h5⟩ := hc
      have A := sndE a _ c hB X _ ok h5
      exact snd_of (se_trng ok.ft.calm (glob_ok h3) (ok.more _ (by decide)) (glob_ok h4) ok.rng A.s A.e) (fun _ => rfl) rfl rfl
    · cases hc
  | .rev a, xi, c, hB, X, y, ok, hc => by
    unfold chkE at hc
    split at hc
    · exact snd_of (se_rev rfl (sndE a _ c hB X _ ok hc).e) (fun _ => rfl) rfl rfl
    · cases hc
  | .nemp a, xi, c, hB, X, y, ok, hc => by
    unfold chkE at hc
    split at hc
    · rename_i x p
      rw [Bool.and_eq_true] at hc
      cases x <;> try (cases hc.1; done)
      have A := sndE a _ c hB X _ ok hc.2
      exact ⟨se_nemp rfl A.e, st_nemp rfl (fun _ => rfl) A.e, fun z => (nomatch z), rfl⟩
    · cases hc
theorem sndEs : ∀ (es : Es) (xi : XI) (c : Tb) (hB : BiAll c B) (X : Cx) (ys : List Expr), Okc xi c G B X → chkEs es c X.env.scope ys = true → PA X ys (tA X.K xi (evEs G B es)) ∧ ys.all notStar = true
  | .nil, xi, c, hB, X, ys, ok, hc => by
    cases ys <;> try (cases hc; done)
    exact ⟨sa_nil, rfl⟩
  | .cons e es, xi, c, hB, X, ys, ok, hc => by
    cases ys <;> try (cases hc; done)
    simp only [chkEs, Bool.and_eq_true] at hc
    have A := sndE e _ c hB X _ ok hc.1
    have S := sndEs es _ c hB X _ ok hc.2
    exact ⟨sa_cons A.s A.e S.1, by rw [List.all_cons, A.s, S.2]; rfl⟩
theorem sndPs : ∀ (es : Es) (ks : List Str) (keys : List (Option Expr)) (xi : XI) (c : Tb) (hB : BiAll c B) (X : Cx) (ys : List Expr), Okc xi c G B X → keysB ks keys = true → esLen es = ks.length → chkEs es c X.env.scope ys = true → ∀ {pos : Pos}, PPs X pos keys ys (trsOf X.K xi G B ks es)
  | .nil, ks, keys, xi, c, hB, X, ys, ok, hk, hl, hc => by
    cases ks <;> try (cases hl; done)
    cases keys <;> try (cases hk; done)
    cases ys <;> try (cases hc; done)
    exact pps_nil
  | .cons e es, ks, keys, xi, c, hB, X, ys, ok, hk, hl, hc => by
    cases ks <;> try (cases hl; done)
    cases ys <;> try (cases hc; done)
    rename_i k ks y ys
    obtain ⟨j, p, keys', rfl, hk'⟩ := keysB_cons hk
    simp only [chkEs, Bool.and_eq_true] at hc
    exact pps_cons pe_str (sndE e _ c hB X _ ok hc.1).e (sndPs es ks _ _ c hB X _ ok hk' (by simpa [esLen] using hl) hc.2)
theorem sndIt : ∀ (it : It) (xi : XI) (c : Tb) (hB : BiAll c B) (X : Cx) (y : Expr) (tg : Expr), Okc xi c G B X → chkIt it c X.env.scope y = true → tgOk it tg = true → PI X tg y (tI X.K xi (evIt G B it))
  | .rng a, xi, c, hB, X, y, tg, ok, hc, _ => by
    cases y <;> try (cases hc; done)
    rename_i fn zs kw p
    cases fn <;> try (cases hc; done)
    rcases zs with _ | ⟨z, _ | ⟨_, _⟩⟩ <;> try (cases hc; done)
    cases kw <;> try (cases hc; done)
    simp only [chkIt, Bool.and_eq_true, decide_eq_true_eq] at hc
    obtain ⟨⟨rfl, h2⟩, h3⟩ := hc
    have A := sndE a _ c hB X _ ok h3
    exact si_rng (glob_ok h2) ok.rng A.s A.e
  | .rng2 a b, xi, c, hB, X, y, tg, ok, hc, _ => by
    cases y <;> try (cases hc; done)
    rename_i fn zs kw p
    cases fn <;> try (cases hc; done)
    rcases zs with _ | ⟨z, _ | ⟨u, _ | ⟨_, _⟩⟩⟩ <;> try (cases hc; done)
    cases kw <;> try (cases hc; done)
    simp only [chkIt, Bool.and_eq_true, decide_eq_true_eq] at hc
    obtain ⟨⟨⟨rfl, h2⟩, h3⟩, h4⟩ := hc
    have A := sndE a _ c hB X _ ok h3
    have A2 := sndE b _ c hB X _ ok h4
    exact si_rng2 (glob_ok h2) ok.rng A.s A2.s A.e A2.e
  | .rng3 a b d, xi, c, hB, X, y, tg, ok, hc, _ => by
    cases y <;> try (cases hc; done)
    rename_i fn zs kw p
    cases fn <;> try (cases hc; done)
    rcases zs with _ | ⟨z, _ | ⟨u, _ | ⟨w, _ | ⟨_, _⟩⟩⟩⟩ <;> try (cases hc; done)
    cases kw <;> try (cases hc; done)
    simp only [chkIt, Bool.and_eq_true, decide_eq_true_eq] at hc
    obtain ⟨⟨⟨⟨rfl, h2⟩, h3⟩, h4⟩, h5⟩ := hc
    have A := sndE a _ c hB X _ ok h3
    have A2 := sndE b _ c hB X _ ok h4
    have A3 := sndE d _ c hB X _ ok h5
    exact si_rng3 (xj := fun _ _ _ _ => False) (glob_ok h2) ok.rng A.s A2.s A3.s A.e A2.e A3.e
  | .seq a, xi, c, hB, X, y, tg, ok, hc, _ => si_seq rfl (sndE a _ c hB X _ ok hc).e
  | .sgn a, xi, c, hB, X, y, tg, ok, hc, _ => si_sgn (sndE a _ c hB X _ ok hc).e
  | .enum a, xi, c, hB, X, y, tg, ok, hc, ht => by
    cases tg <;> try (cases ht; done)
    unfold chkIt at hc
    split at hc
    · simp only [Bool.and_eq_true, decide_eq_true_eq] at hc
      obtain ⟨⟨rfl, h2⟩, h3⟩ := hc
      have A := sndE a _ c hB X _ ok h3
      exact si_enum rfl (glob_ok h2) (ok.more _ (by decide)) A.s A.e
    · cases hc
  | .zip a b, xi, c, hB, X, y, tg, ok, hc, ht => by
    cases tg <;> try (cases ht; done)
    unfold chkIt at hc
    split at hc
    · simp only [Bool.and_eq_true, decide_eq_true_eq] at hc
      obtain ⟨⟨⟨rfl, h2⟩, h3⟩, h4⟩ := hc
      have A := sndE a _ c hB X _ ok h3
      have A2 := sndE b _ c hB X _ ok h4
      exact si_zip rfl (glob_ok h2) (ok.more _ (by decide)) A.s A2.s A.e A2.e
    · cases hc
theorem sndPt : ∀ (a : Pt) (xi : XI) (c : Tb) (hB : BiAll c B) (X : Cx) (y : Option Expr), Okc xi c G B X → chkPt a c X.env.scope y = true → PO X y (tO X.K xi (evPt G B a))
  | .no, xi, c, hB, X, y, ok, hc => by
    cases y <;> try (cases hc; done)
    exact so_none
  | .yes a, xi, c, hB, X, y, ok, hc => by
    cases y <;> try (cases hc; done)
    exact so_some (sndE a _ c hB X _ ok hc).e
end
end
end Vm

set_option Elab.async false
set_option linter.all false
set_option maxRecDepth 100000
set_option maxHeartbeats 4000000
/-! VnU: walks, pairs taken apart, a list kept in part, while an error is handled. -/
namespace Vm
open PySem PySem.Spec PyProof.Rows L2 HotX
section
variable {prog : Program} {w : World} {A : Around} {E : Value → Shared → Prop} {s : Shared}
/-- a list's walk ends while an error is handled -/
theorem list_end_hot {it lt e1 : Addr} {k : Nat} {vs} {Q : Option Value → Shared → Prop} (hot : HotAt A e1 s.heap) (ne : e1 ≠ it) (at' : s.heap.IsListIter it lt k) (lo : s.heap.IsList lt vs) (over : vs[k]? = none)
    (go : ∀ hz, Heap.ExtBut it s.heap hz → Q none { s with heap := hz }) : wpAny (model prog w) A (pyNext (.ref it)) Q E s := by
  obtain ⟨oi, gi, ci, di⟩ := id at'
  obtain ⟨ot, gt, _, nt, dt⟩ := lo
  obtain ⟨ah, oh, vh, gh, dh, ch⟩ := hot
  unfold pyNext
  refine wpAny_bind (wpAny_attempt (wpAny_callSpecial?_slot (name := Str.ofString "__next__") at'.typeIs slot_listiter_next (wpAny_call_entry slot_listiter_next at'.typeIs entry_listiter_next ?_ (args_listiter_next _))))
  show wpAny _ _ (field (.ref it) 0 >>= _) _ _ s
  refine wpAny_bind (wpAny_field gi di (x := .ref lt) rfl ?_)
  show wpAny _ _ (if (Value.ref lt == Value.none) = true then _ else _) _ _ s
  rw [if_neg (show ¬ ((Value.ref lt == Value.none) = true) from Bool.false_ne_true)]
  show wpAny _ _ (field (.ref it) 1 >>= _) _ _ s
  refine wpAny_bind (wpAny_field gi di (x := .int k 0) rfl ?_)
  show wpAny _ _ (seqItems? (.ref lt) >>= _) _ _ s
  refine wpAny_bind (wpAny_seqItems gt dt ?_)
  simp only [Int.toNat_natCast, over]
  refine wpAny_bind (wpAny_rule (wpAny_bind (wpAny_setField gi di (by simp) ?_)))
  show wpAny _ _ (newExc (.type "StopIteration") [] >>= _) _ _ _
  refine wpAny_bind ?_
  simp only [newExc, newTuple]
  refine wpAny_bind (wpAny_newObj_type ?_ (by size_fits))
  refine wpAny_bind (m := firstArgMember _ _) (wpAny_of_eq (a := Value.none) (by first | rfl | (simp only [firstArgMember]; rfl)) ?_)
  refine wpAny_newObj_type ?_ (by size_fits)
  have g1 : ∀ f, (s.heap.update it f).get? e1 = some oh := fun f => (Heap.get?_update_other s.heap f (Ne.symm ne)).trans gh
  refine raiseNew_hot ⟨ah, oh, vh, Heap.get?_push_of_some _ (Heap.get?_push_of_some _ (g1 _)), dh, ch⟩ (Nat.ne_of_lt (Heap.lt_size (Heap.get?_push_of_some _ (g1 _)))) (Heap.get?_push_size _ rfl) rfl (by first | (simp; done) | (simp; omega) | (simp only [Array.size_append]; simp; omega)) ?_
  refine wpAny_bind (wpAny_isInstance (T := "StopIteration") (b := true) ⟨_, Heap.get?_update_self _ (Heap.get?_push_size _ rfl) rfl, rfl⟩ isSubtype_stop ?_)
  refine wpAny_pure (go _ fun b o nb gb => ?_)
  have g2 : ∀ f, (s.heap.update it f).get? b = some o := fun f => (Heap.get?_update_other s.heap f (Ne.symm nb)).trans gb
  rw [Heap.get?_update_other _ _ (Nat.ne_of_gt (Heap.lt_size (Heap.get?_push_of_some _ (g2 _))))]
  exact Heap.get?_push_of_some _ (Heap.get?_push_of_some _ (g2 _))
/-- a tuple's walk ends while an error is handled -/
theorem tuple_end_hot {it lt e1 : Addr} {k : Nat} {vs} {Q : Option Value → Shared → Prop} (hot : HotAt A e1 s.heap) (ne : e1 ≠ it) (at' : IsTupIter s.heap it lt k) (lo : IsTup s.heap lt vs) (over : vs[k]? = none)
    (go : ∀ hz, Heap.ExtBut it s.heap hz → Q none { s with heap := hz }) : wpAny (model prog w) A (pyNext (.ref it)) Q E s := by
  obtain ⟨oi, gi, ci, di⟩ := id at'
  obtain ⟨ot, gt, _, nt, dt⟩ := lo
  obtain ⟨ah, oh, vh, gh, dh, ch⟩ := hot
  unfold pyNext
  refine wpAny_bind (wpAny_attempt (wpAny_callSpecial?_slot (name := Str.ofString "__next__") at'.typeIs slot_tupleiter_next (wpAny_call_entry slot_tupleiter_next at'.typeIs entry_tupleiter_next ?_ (args_tupleiter_next _))))
  show wpAny _ _ (field (.ref it) 0 >>= _) _ _ s
  refine wpAny_bind (wpAny_field gi di (x := .ref lt) rfl ?_)
  show wpAny _ _ (if (Value.ref lt == Value.none) = true then _ else _) _ _ s
  rw [if_neg (show ¬ ((Value.ref lt == Value.none) = true) from Bool.false_ne_true)]
  show wpAny _ _ (field (.ref it) 1 >>= _) _ _ s
  refine wpAny_bind (wpAny_field gi di (x := .int k 0) rfl ?_)
  show wpAny _ _ (seqItems? (.ref lt) >>= _) _ _ s
  refine wpAny_bind (wpAny_seqItems gt dt ?_)
  simp only [Int.toNat_natCast, over]
  refine wpAny_bind (wpAny_rule (wpAny_bind (wpAny_setField gi di (by simp) ?_)))
  show wpAny _ _ (newExc (.type "StopIteration") [] >>= _) _ _ _
  refine wpAny_bind ?_
  simp only [newExc, newTuple]
  refine wpAny_bind (wpAny_newObj_type ?_ (by size_fits))
  refine wpAny_bind (m := firstArgMember _ _) (wpAny_of_eq (a := Value.none) (by first | rfl | (simp only [firstArgMember]; rfl)) ?_)
  refine wpAny_newObj_type ?_ (by size_fits)
  have g1 : ∀ f, (s.heap.update it f).get? e1 = some oh := fun f => (Heap.get?_update_other s.heap f (Ne.symm ne)).trans gh
  refine raiseNew_hot ⟨ah, oh, vh, Heap.get?_push_of_some _ (Heap.get?_push_of_some _ (g1 _)), dh, ch⟩ (Nat.ne_of_lt (Heap.lt_size (Heap.get?_push_of_some _ (g1 _)))) (Heap.get?_push_size _ rfl) rfl (by first | (simp; done) | (simp; omega) | (simp only [Array.size_append]; simp; omega)) ?_
  refine wpAny_bind (wpAny_isInstance (T := "StopIteration") (b := true) ⟨_, Heap.get?_update_self _ (Heap.get?_push_size _ rfl) rfl, rfl⟩ isSubtype_stop ?_)
  refine wpAny_pure (go _ fun b o nb gb => ?_)
  have g2 : ∀ f, (s.heap.update it f).get? b = some o := fun f => (Heap.get?_update_other s.heap f (Ne.symm nb)).trans gb
  rw [Heap.get?_update_other _ _ (Nat.ne_of_gt (Heap.lt_size (Heap.get?_push_of_some _ (g2 _))))]
  exact Heap.get?_push_of_some _ (Heap.get?_push_of_some _ (g2 _))
/-- a tuple's things one by one, while an error is handled -/
theorem items_hot {tu e1 : Addr} {vs : Array Value} {Q : List Value → Shared → Prop} (hot : HotAt A e1 s.heap) (ht : IsTup s.heap tu vs) (go : ∀ hz, Heap.ExtBut s.heap.objs.size s.heap hz → Q vs.toList { s with heap := hz }) :
    wpAny (model prog w) A (unpackItems (.ref tu) vs.size none) Q E s := by
  obtain ⟨ah, oh, vh, gh, dh, ch⟩ := hot
  have far : tu ≠ s.heap.objs.size := by
    obtain ⟨o, z, _⟩ := ht
    exact Nat.ne_of_lt (Heap.lt_size z)
  have far1 : e1 ≠ s.heap.objs.size := Nat.ne_of_lt (Heap.lt_size gh)
  unfold unpackItems
  refine wpAny_bind ?_
  unfold notIterableAtAll
  refine wpAny_bind (wpAny_specialOf ht.typeIs slot_tuple_iter.lookup (wpAny_pure ?_))
  simp only [Bool.false_eq_true, if_false]
  refine wpAny_bind (wpAny_holding (iter_tuple ht (wpAny_bind (wpAny_holding (draw_tuple far vs.size 0 _ _ ⟨_, Heap.get?_push_size _ rfl, rfl, rfl⟩ (ht.push _) (by omega) fun h1 it1 sb1 => ?_)))))
  rw [List.drop_zero, List.take_of_length_le (by simp), if_neg (by simp)]
  refine wpAny_bind (wpAny_holding (tuple_end_hot ⟨ah, oh, vh, sb1.extBut e1 _ far1 (Heap.get?_push_of_some _ gh), dh, ch⟩ far1 it1 ((ht.push _).extBut sb1.extBut far) (by simp) fun h2 eb => ?_))
  simp only [Option.isSome_none, Bool.false_eq_true, if_false]
  exact wpAny_pure (go h2 fun b o nb gb => eb b o nb (sb1.extBut b o nb (Heap.get?_push_of_some _ gb)))
/-- (a, b, ..) = a tuple, while an error is handled -/
theorem take_hot {env : Env} {es : List Expr} {k} {pos : Pos} {tu e1 : Addr} {vs : Array Value} {Q : Unit → Shared → Prop} (hot : HotAt A e1 s.heap) (ht : IsTup s.heap tu vs) (hn : (assignEach es env).length = vs.size) (hst : (assignEach es env).findIdx? (·.1) = none)
    (go : ∀ hz, Heap.ExtBut s.heap.objs.size s.heap hz → wpAny (model prog w) A (assignInOrder ((assignEach es env).map (·.2)) vs.toList) Q E { s with heap := hz }) : wpAny (model prog w) A (assign (.Tuple es k pos) env (.ref tu)) Q E s := by
  rw [PyProof.Rows.assign_Tuple]
  refine wpAny_bind (wpAny_standAt ?_)
  unfold unpack
  rw [hn, hst]
  exact wpAny_bind (wpAny_holding (items_hot hot ht go))
end
/-- the words whose truth is true -/
def kept (ps : List (Str × Bool)) : List V := (ps.filter fun p => p.2).map fun p => V.str p.1
theorem kept_step {ps : List (Str × Bool)} {j : Nat} {p : Str × Bool} (h : ps[j]? = some p) : kept (ps.take (j + 1)) = if p.2 = true then kept (ps.take j) ++ [V.str p.1] else kept (ps.take j) := by
  unfold kept
  rw [List.take_succ, h, List.filter_append, List.map_append]
  cases e : p.2 <;> simp [e]
theorem kept_length (ps : List (Str × Bool)) : (kept ps).length ≤ ps.length := by
  unfold kept
  rw [List.length_map]
  exact List.length_filter_le ..
/-- .. where they stand -/
def PairsAt (H : Hp) : List Addr → List (Str × Bool) → Prop
  | [], [] => True
  | q :: qs, p :: ps => H q = some (.tup [.str p.1, .bl p.2]) ∧ PairsAt H qs ps
  | _, _ => False
theorem PairsAt.len {H : Hp} : ∀ {qs : List Addr} {ps : List (Str × Bool)}, PairsAt H qs ps → qs.length = ps.length
  | [], [], _ => rfl
  | _ :: _, _ :: _, h => by
    rw [List.length_cons, List.length_cons, PairsAt.len h.2]
theorem PairsAt.get {H : Hp} : ∀ {qs : List Addr} {ps : List (Str × Bool)} {j : Nat} {q : Addr}, PairsAt H qs ps → qs[j]? = some q → ∃ p, ps[j]? = some p ∧ H q = some (.tup [.str p.1, .bl p.2])
  | [], [], _, _, _, e => by cases e
  | _ :: _, p :: _, 0, _, h, e => by
    cases e
    exact ⟨p, rfl, h.1⟩
  | _ :: _, _ :: _, j + 1, _, h, e => PairsAt.get (j := j) h.2 e
/-- y = [w for w, t in z if t] -/
def tKeep (iz iy : Nat) : TS := fun D σ H => ∃ la qs ps, σ[iz]? = some (some (.ref la)) ∧ H la = some (.lst (qs.map V.ref)) ∧ PairsAt H qs ps ∧ ps.length ≤ 1000 ∧ ∀ L, H L = none → D.nx (σ.set iy (some (.ref L))) (upd H L (.lst (kept ps)))
theorem upd_twice {H : Hp} {a : Addr} {o u : HO} : upd (upd H a o) a u = upd H a u := by
  funext b
  by_cases hb : b = a
  · subst hb
    rw [upd_same, upd_same]
  · rw [upd_ne hb, upd_ne hb, upd_ne hb]
/-- the block's context, the handled error pinned -/
abbrev blkH (X : Cx) (s : Shared) (H : Hp) (scope : Scope) (ce : Env) (ia : Addr) (p : Addr × Obj) : Cx := (X.blk s H scope ce [ia]).tr [p] fun _ _ => False
theorem ss_keep {X : Cx} {a0 : Addr} {oe : Obj} {z y w t : Str} {iz iy iw it : Nat} {scope : Scope} {k} {p1 p2 p3 p4 p5 p6 py pos spos : Pos} (hot : L2H.Hot1 X.A (a0, oe)) (hp : (a0, oe) ∈ X.pn) (nd : X.N.Nodup)
    (nz : X.N[iz]? = some z) (vz : Vis X.env.scope z) (dz : (z == ("__debug__" : Str)) = false) (cz : (z == ("__classdict__" : Str)) = false) (ny : X.N[iy]? = some y) (ly : X.env.scope.names.lookup y = some .local)
    (nw : X.N[iw]? = some w) (nt : X.N[it]? = some t) (wt : iw ≠ it) (ok : BlkOk X.N X.env.scope scope [(w, iw), (t, it)]) (lw : (relS scope X.env.scope).names.lookup w = some .local) (lt : (relS scope X.env.scope).names.lookup t = some .local)
    (dw : (w == ("__debug__" : Str)) = false) (cw : (w == ("__classdict__" : Str)) = false) (dt : (t == ("__debug__" : Str)) = false) (ct : (t == ("__classdict__" : Str)) = false)
    (sw : swapsWith (.ListComp (.Name w p1) [⟨.Tuple [.Name w p2, .Name t p3] k p4, .Name z p5, [.Name t p6], 0⟩] scope pos) (some (.Name y py)) spos.line X.env = pure true) :
    PS X (.Assign [.Name y py] (.ListComp (.Name w p1) [⟨.Tuple [.Name w p2, .Name t p3] k p4, .Name z p5, [.Name t p6], 0⟩] scope pos) spos) (tKeep iz iy) := by
  refine ⟨fun pins s σ H D I h => ?_⟩
  obtain ⟨la, qs, ps, hσ, hla, hqs, small, nxt⟩ := h
  rw [exec_Assign_Name_used _ _ _ _ sw]
  refine wpAny_bind (wpAny_standAt (wpAny_bind ?_))
  show wpAny _ X.A (do let _ ← comprehension (.ListComp (.Name w p1) [⟨.Tuple [.Name w p2, .Name t p3] k p4, .Name z p5, [.Name t p6], 0⟩] scope pos) scope X.env (firstIterPos [⟨.Tuple [.Name w p2, .Name t p3] k p4, .Name z p5, [.Name t p6], 0⟩] pos) (newList []) false (eval (.Name z p5) X.env) (some (assign (.Name y py) X.env))) _ _ s
  refine wpAny_bind (wpAny_mono (Q := fun _ s' => SP X pins D .next s') (E := X.xe) ?_ (fun _ s' hq => wpAny_pure (wpAny_pure hq)) fun _ _ z => z)
  have frees : ∀ n ∈ scope.names, n.2 = .free → ∃ c, X.env.cells.lookup n.1 = some c := fun n hn e => I.ok.has _ (ok.free n hn e)
  refine wpAny_comprehension_free (use := some _) rfl (fun x => rfl) (closure_ok frees) ok.kind (fun n hn e => by rw [ok.uniq n hn, e]) ?_
  refine thn ((pe_var nz vz dz cz).run pins s σ H (fun v H1 => v = .ref la ∧ H1 = H) I ⟨_, hσ, rfl, rfl⟩) fun xv s1 hx => ?_
  obtain ⟨x, H1, I1, r1, rfl, rfl⟩ := hx
  cases r1
  obtain ⟨its, rv, pl, _⟩ := I1.list (SqL.of hla)
  refine wpAny_pyIter_list pl.isList ?_
  -- the walk's own object, the new list, the block
  generalize hia : s1.heap.objs.size = ia
  have gi2 : (s1.heap.push { cls := .type "list_iterator", data := .fields #[.ref la, .int 0 0] }).get? ia = some { cls := .type "list_iterator", data := .fields #[.ref la, .int 0 0] } := by
    rw [← hia]
    exact Heap.get?_push_size _ rfl
  have I2 : Inv X pins σ H1 { s1 with heap := s1.heap.push { cls := .type "list_iterator", data := .fields #[.ref la, .int 0 0] } } := I1.kept (t' := s1.toks) fun b o e => Heap.get?_push_of_some _ e
  have fi2 : FpOk X pins H1 ia := I1.fpOk (Nat.le_of_eq hia) (I1.hok.fresh (Nat.le_of_eq hia))
  generalize hs2 : ({ s1 with heap := s1.heap.push { cls := .type "list_iterator", data := .fields #[.ref la, .int 0 0] } } : Shared) = s2 at I2 ⊢
  have gi2 : s2.heap.get? ia = some { cls := .type "list_iterator", data := .fields #[.ref la, .int 0 0] } := by
    rw [← hs2]
    exact gi2
  refine wpAny_newObj_type (newEnv_comp ?_) (by show 0 ≤ sizeLine; decide)
  generalize hL : s2.heap.objs.size = L
  have nL : H1 L = none := I2.hok.fresh (Nat.le_of_eq hL)
  have iL : ia < L := by
    rw [← hL]
    exact Heap.lt_size gi2
  generalize hs3 : ({ s2 with heap := s2.heap.push { cls := .type "list", data := .seq ([] : List Value).toArray } } : Shared) = s3
  have h3 : s3.heap = s2.heap.push { cls := .type "list", data := .seq ([] : List Value).toArray } := by rw [← hs3]
  have I3 : Inv X pins σ (upd H1 L (.lst [])) s3 := by
    rw [← hs3]
    refine I2.laid (t' := s2.toks) (fun b o e => Heap.get?_push_of_some _ e) (Nat.le_of_eq hL) ⟨Nat.zero_le _, [], 0, .nil, ?_⟩
    rw [← hL]
    exact Heap.get?_push_size _ rfl
  have gi3 : s3.heap.get? ia = some { cls := .type "list_iterator", data := .fields #[.ref la, .int 0 0] } := by
    rw [h3]
    exact Heap.get?_push_of_some _ gi2
  have ni3 : (upd H1 L (.lst [])) ia = none := by
    rw [upd_ne (Nat.ne_of_lt iL)]
    exact fi2.1
  have I4 := block_start (fp := [ia]) I3 ok nd fun b hb => by
    have e : b = ia := by simpa using hb
    subst e
    exact ⟨⟨ni3, fi2.2⟩, Heap.lt_size gi3⟩
  show codeAny _ _ (.compStart _ 0 (.ref ia) (.ref L) (compEnvC scope (cellsFrom (s3.heap.objs.size + 1) scope.names (cloFrom X.env.cells scope.names [])) s3.heap.objs.size X.env)) (compPost (model X.prog X.w) X.A X.xe (some (assign (.Name y py) X.env)) (fun _ s' => SP X pins D .next s') (.ref L) s3.heap.objs.size) { s3 with heap := pushCells (s3.heap.push { cls := .type "dict", data := .dict #[] }) scope.names }
  generalize hce : compEnvC scope (cellsFrom (s3.heap.objs.size + 1) scope.names (cloFrom X.env.cells scope.names [])) s3.heap.objs.size X.env = ce at I4 ⊢
  have cL : ce.locals = s3.heap.objs.size := by rw [← hce]; rfl
  have csc : ce.scope = relS scope X.env.scope := by rw [← hce]; rfl
  have over : ∀ b o, s3.heap.get? b = some o → (pushCells (s3.heap.push { cls := .type "dict", data := .dict #[] }) scope.names).get? b = some o := fun b o e => pushCells_keeps _ _ _ _ (Heap.get?_push_of_some _ e)
  generalize hs4 : ({ s3 with heap := pushCells (s3.heap.push { cls := .type "dict", data := .dict #[] }) scope.names } : Shared) = s4 at I4 ⊢
  have over4 : ∀ b o, s3.heap.get? b = some o → s4.heap.get? b = some o := fun b o e => by
    rw [← hs4]
    exact over b o e
  obtain ⟨P1, P2, P3, P4, P5⟩ := I3.pin (a0, oe) (List.mem_append_left _ hp)
  have P1 : s3.heap.get? a0 = some oe := P1
  have a0i : a0 ≠ ia := fun z => by
    rw [z, gi3] at P1
    cases P1
    obtain ⟨_, ws, e1, e2⟩ := hot
    cases e1
    cases e2
  have I4' := I4.pins_of (pins' := [(a0, oe)]) fun p hpp => by
    have e : p = (a0, oe) := by simpa using hpp
    subst e
    refine ⟨over4 _ _ P1, P2, fun z => ?_, fun z => ?_, P5⟩
    · have z : a0 = ce.locals := z
      rw [cL] at z
      exact absurd (Heap.lt_size P1) (by rw [z]; exact Nat.lt_irrefl _)
    · exact (List.mem_cons.mp (I3.stkSub a0 z)).elim P3 P4
  have IB : Inv (blkH X s3 (upd H1 L (.lst [])) scope ce ia (a0, oe)) [] (wipe σ [iw, it]) (upd H1 L (.lst [])) s4 := I4'.toTry fun _ _ => False
  have hotB : ∀ {pl : List (Addr × Obj)} {σ' : L2.St} {H' : Hp} {s' : Shared}, Inv (blkH X s3 (upd H1 L (.lst [])) scope ce ia (a0, oe)) pl σ' H' s' → HotAt X.A a0 s'.heap := fun {pl σ' H' s'} J => by
    obtain ⟨hh, ws, e1, e2⟩ := hot
    exact ⟨hh, oe, ws, (J.pin (a0, oe) (List.mem_append_left _ List.mem_cons_self)).1, e1, e2⟩
  have it4 : s4.heap.IsListIter ia la 0 := ⟨_, over4 _ _ gi3, rfl, rfl⟩
  have laL : la ≠ L := ne_of_none hla nL
  have hl : ps.length = qs.length := hqs.len.symm
  have wL : ∀ {H' : Hp} {s' : Shared} {pl : List (Addr × Obj)} {σ' : L2.St}, Inv (blkH X s3 (upd H1 L (.lst [])) scope ce ia (a0, oe)) pl σ' H' s' → H' ia = none → FpOk (blkH X s3 (upd H1 L (.lst [])) scope ce ia (a0, oe)) [] H' ia := fun {H' s' pl σ'} J n => ⟨n, (J.ok.exf ia List.mem_cons_self).1, J.ok.exfs ia List.mem_cons_self, .inl List.mem_cons_self, fun x c e => (J.ok.exf ia List.mem_cons_self).2 x c e, fun p hp => by
    have e : p = (a0, oe) := by simpa using hp
    subst e
    exact a0i⟩
  have nia : ∀ xs, (upd H1 L (.lst xs)) ia = none := fun xs => by
    rw [upd_ne (Nat.ne_of_lt iL)]
    exact fi2.1
  refine codeAny_compStart_list ?loop (wpAny_pyIter_listiter it4 ?loop)
  refine compLoop_any (fun n s' => ∃ j, j + n = ps.length ∧ Inv (blkH X s3 (upd H1 L (.lst [])) scope ce ia (a0, oe)) [] (wipe σ [iw, it]) (upd H1 L (.lst (kept (ps.take j)))) s' ∧ s'.heap.IsListIter ia la j) ?_ ps.length ⟨0, Nat.zero_add _, IB, it4⟩
  rintro n s5 ⟨j, hj, I5, it5⟩
  obtain ⟨its5, rv5, pl5, _⟩ := I5.list (SqL.of (by rw [upd_ne laL]; exact hla))
  obtain ⟨f0, f1, f2, f3, f4, f5⟩ := wL I5 (nia _)
  have len5 : its5.length = ps.length := by
    rw [← rv5.length, List.length_map, hl]
  cases n with
  | zero =>
    have hj : j = ps.length := hj
    refine list_end_hot (hotB I5) a0i it5 pl5.isList (by simp; omega) fun hz eb => ?_
    have I6 := I5.turned (h' := hz) (t' := s5.toks) (fun b o nb e => eb b o nb e) f0 f1 f3 f4 f5
    subst hj
    rw [List.take_length] at I6
    -- back in the def's own context
    have I7 : Inv X pins σ (upd H1 L (.lst (kept ps))) { s5 with heap := hz } := I3.call' (ch := [ia]) I6.os I6.base I6.hok I6.bare fun b hb => by
      have e : b = ia := by simpa using hb
      subst e
      exact ⟨fi2.2.2.2.1, fi2.2.1, fi2.2.2.2.2.1, fi2.2.2.2.2.2⟩
    have nC : (upd H1 L (.lst (kept ps))) s3.heap.objs.size = none := by
      have z : (upd H1 L (.lst (kept ps))) ce.locals = none := I6.free
      rw [cL] at z
      exact z
    obtain ⟨mC, nsC, _⟩ := I6.loc
    have nsC : hz.Ns ce.locals mC := nsC
    rw [cL] at nsC
    obtain ⟨c0, c1, c2, c3, c4, c5⟩ := I3.fpOk (Nat.le_refl _) nC
    show wpAny _ _ (assign (.Name y py) X.env (.ref L)) _ _ _
    refine wpAny_assign_Name (store_ok2 (v := V.ref L) I7 nd ny (.inl ly) rfl (fun s8 I8 ⟨fr, sb, hfr⟩ => ?_) (.inr ly))
    refine ⟨mC, nsC.sameBut sb fun z => ?_, fun h9 sb9 => ?_⟩
    · rcases hfr with e | e
      · exact c1 (z.trans e)
      · exact c4 y fr e z.symm
    · exact ⟨_, _, I8.turned (t' := s8.toks) (fun b o nb e => (sb9.2 b nb).trans e) c0 c1 c3 c4 c5, nxt L nL⟩
  | succ n =>
    have lj : j < ps.length := by omega
    obtain ⟨q, hq⟩ : ∃ q, qs[j]? = some q := ⟨_, List.getElem?_eq_getElem (by omega)⟩
    obtain ⟨p, hpj, hqp⟩ := hqs.get hq
    have hv : its5[j]? = some (Value.ref q) := by
      obtain ⟨u, hu, ru⟩ := rv5.get (show (qs.map V.ref)[j]? = some (V.ref q) by rw [List.getElem?_map, hq]; rfl)
      cases ru
      exact hu
    refine wpAny_pyNext_list_item it5 pl5.isList (x := .ref q) (by simpa using hv) fun h6 it6 sb6 => ?_
    have I6 := I5.turned (h' := h6) (t' := s5.toks) (fun b o nb e => (sb6.2 b nb).trans e) f0 f1 f3 f4 f5
    obtain ⟨o6, g6, cl6, d6⟩ := id it6
    have I6p := I6.pins_of (pins' := [(ia, o6)]) fun x hx => by
      have e : x = (ia, o6) := by simpa using hx
      subst e
      exact ⟨g6, nia _, f1, f2, fun v z => by
        rw [d6] at z
        cases z⟩
    refine go_of (s := { s5 with heap := h6 }) g6 cl6 d6 (by decide) ?_
    have qL : q ≠ L := ne_of_none hqp nL
    obtain ⟨its7, rv7, tp7, _⟩ := I6p.tuple (SqT.of (by rw [upd_ne qL]; exact hqp))
    have sz7 : its7.length = 2 := rv7.length.symm
    refine take_hot (s := { s5 with heap := h6 }) (hotB I6) tp7 (by simp [sz7]; rfl) (by rfl) fun h7 eb7 => ?_
    have I7 := I6p.kept (h' := h7) (t' := s5.toks) fun b o e => eb7 b o (Nat.ne_of_lt (Heap.lt_size e)) e
    have vw : (ce.scope).names.lookup w = some .local := by rw [csc]; exact lw
    have vt : (ce.scope).names.lookup t = some .local := by rw [csc]; exact lt
    have lenW : (wipe σ [iw, it]).length = X.N.length := by rw [wipe_length]; exact I.len
    have bw : iw < (wipe σ [iw, it]).length := by rw [lenW]; exact (List.getElem?_eq_some_iff.mp nw).1
    have bt : it < (wipe σ [iw, it]).length := by rw [lenW]; exact (List.getElem?_eq_some_iff.mp nt).1
    refine thnF ((pgs_cons (X := blkH X s3 (upd H1 L (.lst [])) scope ce ia (a0, oe)) (pg_name nd nw (.inl vw) (.inr vw)) (pgs_cons (pg_name nd nt (.inl vt) (.inr vt)) pgs_nil)).run _ _ _ _ _ _ (fun σ8 H8 => σ8 = ((wipe σ [iw, it]).set iw (some (.str p.1))).set it (some (.bl p.2)) ∧ H8 = upd H1 L (.lst (kept (ps.take j)))) I7 (by simpa using rv7) ⟨_, _, rfl, _, _, rfl, rfl, rfl, rfl⟩) fun _ s8 ⟨σ8, H8, I8, e8, e8'⟩ => ?_
    subst e8 e8'
    have gw : (((wipe σ [iw, it]).set iw (some (.str p.1))).set it (some (.bl p.2)))[iw]? = some (some (V.str p.1)) := by
      rw [List.getElem?_set_ne (Ne.symm wt), List.getElem?_set_self bw]
    have gt : (((wipe σ [iw, it]).set iw (some (.str p.1))).set it (some (.bl p.2)))[it]? = some (some (V.bl p.2)) := by
      rw [List.getElem?_set_self (by simpa using bt)]
    refine thnF ((pts_one (pt_val (pe_var (X := blkH X s3 (upd H1 L (.lst [])) scope ce ia (a0, oe)) nt (.inl vt) dt ct))).run _ s8 _ _ (fun b H9 => b = p.2 ∧ H9 = upd H1 L (.lst (kept (ps.take j)))) I8 ⟨_, gt, _, rfl, rfl, rfl⟩) fun b s9 ⟨H9, I9, eb, e9⟩ => ?_
    subst eb e9
    -- the turn's end
    have fin : ∀ {s' : Shared}, Inv (blkH X s3 (upd H1 L (.lst [])) scope ce ia (a0, oe)) [(ia, o6)] (((wipe σ [iw, it]).set iw (some (.str p.1))).set it (some (.bl p.2))) (upd H1 L (.lst (kept (ps.take (j + 1))))) s' →
        ∃ m, m < n + 1 ∧ ∃ j', j' + m = ps.length ∧ Inv (blkH X s3 (upd H1 L (.lst [])) scope ce ia (a0, oe)) [] (wipe σ [iw, it]) (upd H1 L (.lst (kept (ps.take j')))) s' ∧ s'.heap.IsListIter ia la j' := fun {s'} J => by
      refine ⟨n, Nat.lt_succ_self _, j + 1, by omega, (J.pins_of (pins' := []) fun _ z => nomatch z).weak (by simp) fun i v e => ?_, ⟨o6, (J.pin (ia, o6) (List.mem_append_right _ List.mem_cons_self)).1, cl6, d6⟩⟩
      obtain ⟨_, ni⟩ := wipe_some e
      rw [List.getElem?_set_ne (fun z => ni (by rw [← z]; simp)), List.getElem?_set_ne (fun z => ni (by rw [← z]; simp))]
      exact e
    have st := kept_step hpj
    cases eb : p.2 with
    | false =>
      simp only [Bool.false_eq_true, if_false]
      rw [eb, if_neg Bool.false_ne_true] at st
      rw [← st, eb] at I9
      rw [eb] at fin
      exact fin I9
    | true =>
      simp only [if_true]
      rw [eb, if_pos rfl] at st
      refine thnF ((pe_var (X := blkH X s3 (upd H1 L (.lst [])) scope ce ia (a0, oe)) nw (.inl vw) dw cw).run _ s9 _ _ (fun v H10 => v = V.str p.1 ∧ H10 = upd H1 L (.lst (kept (ps.take j)))) I9 ⟨_, gw, rfl, rfl⟩) fun u s10 ⟨v10, H10, I10, r10, ev, e10⟩ => ?_
      subst ev e10
      refine app_ok (X := blkH X s3 (upd H1 L (.lst [])) scope ce ia (a0, oe)) I10 upd_same ?_ r10 fun s11 I11 => fin ?_
      · have := kept_length (ps.take j)
        rw [List.length_take] at this
        have e : sizeLine = 2 ^ 24 := rfl
        omega
      · rw [upd_twice, ← st] at I11
        exact I11
end Vm

set_option Elab.async false
set_option linter.all false
set_option maxRecDepth 100000
set_option maxHeartbeats 4000000
/-! VnM: own errors: made, raised, caught. -/
namespace Vm
open PySem PySem.Spec PyProof.Rows L2
variable [T : Tbs]
/-- what an error's __init__ promises: its fields in its dict -/
def spInit (C : Addr) (ns : List Str) : Sp := fun vs H Q _ => ∃ a ws, vs = .ref a :: ws ∧ ws.length = ns.length ∧ H a = some (exo a C none) ∧
  ∀ d H2, H d = none → d ≠ a → H2 a = some (exo a C (some d)) → H2 d = some (exd d (ns.zip ws).reverse) → (∀ b, b ≠ a → b ≠ d → H2 b = H b) → Q .non H2
/-- an error's class as it stands -/
def ErrOk (P : Program) (w : World) (K : PySem.W.Frag) (mg : Str → Option Value) (base : Heap) (c : Str) (ns : List Str) : Prop :=
  ∃ C fI fd ps, mg c = some (.ref C) ∧ PySem.W.nsIn K mainGlobals c = some (some (.ref C)) ∧ OexC K C ∧ PySem.W.findIn K (.ref C) "__init__" = some (some (.ref fI)) ∧ PySem.W.typeIn K (.ref fI) = some (.type "function") ∧
    Binds K fd ps [] ∧ ps.length = ns.length + 1 ∧ ns.length ≤ 900 ∧ FnOk P w K mg base (L2.CX P w) 1 fI fd ps (spInit C ns)
theorem esLen_len : ∀ (es : Es), esLen es = es.len
  | .nil => rfl
  | .cons e es => by
    show esLen es + 1 = es.len + 1
    rw [esLen_len es]
section
variable {X : Cx} {xi : XI} {e : Expr} {es : List Expr} {x : Str} {p pos : Pos}
theorem del_upd {H1 H2 : Hp} {a d : Addr} {o o2 : HO} (ha : H1 a = none) (hoth : ∀ b, b ≠ a → b ≠ d → H2 b = upd H1 a o2 b) : upd (del H2 a) d o = upd H1 d o := by
  funext b
  by_cases hb : b = d
  · subst hb
    rw [upd_same, upd_same]
  · rw [upd_ne hb, upd_ne hb]
    unfold del
    by_cases hba : b = a
    · subst hba
      rw [if_pos rfl, ha]
    · rw [if_neg hba, hoth b hba hb, upd_ne hba]
/-- an own error is made where none is handled: its context is None -/
theorem pmk_N {CX : CXT} {C fI : Addr} {k : Nat} {fd : FuncData} {ps : List Str} {sp : Sp} {ta : TA} (oex : OexC X.K C) (iC : PySem.W.findIn X.K (.ref C) "__init__" = some (some (.ref fI))) (tI : PySem.W.typeIn X.K (.ref fI) = some (.type "function"))
    (Fi : FnOk X.prog X.w X.K X.mg X.base CX k fI fd ps sp) (room : Room (k + 1) X.A) (bd : Binds X.K fd ps []) (out : Passes CX X (fun _ _ _ => False)) (gx : Gl X x) (mx : X.mg x = some (.ref C)) (pa : PA X (e :: es) ta) (dx : (x == ("__debug__" : Str)) = false)
    (st : starEach (e :: es) X.env = (false, eval e X.env) :: starEach es X.env) (pl : (backTo pos (starEach es X.env)).any (·.1) = false) : L2N.PMk X (.Call (.Name x p) (e :: es) [] pos) (tMkO C sp [] ta) := by
  intro pins s σ H Q I h
  obtain ⟨q1, q2, q3, q4, q5, q6, q7, q8, q9, q10, q11, q12, q13, q14, q15, cC, refs⟩ := oex.cls
  refine wpAny_Call_Name_kw (ld_glob I gx mx ?_ dx)
  refine PySem.W.callWith_K (h₀ := X.base) I.ok.mod.kin oex.kC (thn (pa.run pos pins s σ H _ I h) fun us t ⟨vs, H1, J, rv, len, due⟩ => ⟨J.kIn, ?_⟩) st pl
  show wpAny _ _ (call (.ref C) us) _ _ _
  obtain ⟨hp, gs, dr, tk, os⟩ := t
  have far : hp.objs.size ≤ hp.objs.size + 1 := Nat.le_succ _
  have new := due (hp.objs.size + 1) (J.hok.fresh far)
  have at1 : ((hp.push (PySem.W.kdv_tup us)).push (PySem.HandSPX.excO C hp.objs.size)).get? (hp.objs.size + 1) = some (PySem.HandSPX.excO C hp.objs.size) := by heap_get
  have keep : ∀ b o, hp.get? b = some o → ((hp.push (PySem.W.kdv_tup us)).push (PySem.HandSPX.excO C hp.objs.size)).get? b = some o := fun _ _ z => Heap.get?_push_of_some _ (Heap.get?_push_of_some _ z)
  have J2 := J.laid (t' := tk) (o := exo (hp.objs.size + 1) C none) keep far (exo_ok at1)
  have rs : Vals (V.ref (hp.objs.size + 1) :: (vs ++ [])) (Value.ref (hp.objs.size + 1) :: us) := by
    rw [List.append_nil]
    exact .cons rfl rv
  have hl : (Value.ref (hp.objs.size + 1) :: us ++ []).length = ps.length := by
    rw [List.append_nil, ← Fi.len _ _ _ _ new, rs.length]
  have small : us.length ≤ sizeLine := by
    have := Paired.length rv
    rw [← this, sizeLine_eq]
    omega
  have bound := bd _ (Value.ref (hp.objs.size + 1) :: us) J2.kIn hl
  rw [List.append_nil] at bound
  refine wpAny_call (PySem.HandSPX.call_own F.excBase_ValueError (fun Y => PySem.HandSPX.refsVE_contains Y _ refs) (J.kIn _ _ cC) (PySem.W.looks_findIn J.kIn iC) (fun me => PySem.W.bind_fn J.kIn me tI) small (codeAny_mono (Fi.run _ X.stack _ _ _ _ _ _ (fun _ _ _ => False) (room.make C us []) (J2.env0.make C us []) bound rs new) fun r s2 z => ?_))
  match r, z with
  | .error er, z => exact out pins σ _ _ er s2 J2 z
  | .ok (.ret u), ⟨v, H2, os2, bare2, un2, hok2, ru, ev, d, fs, ea, ed, hd1, q⟩ =>
    subst ev
    obtain ⟨h2, g2, d2, t2, o2⟩ := s2
    obtain ⟨t0, G, JG, kG, fr, obj, na⟩ := mk_end0 (d2 := d2) (t2 := t2) J far keep un2 hok2 os2 bare2 ea ed hd1
    refine ⟨ru, hp.objs.size + 1, _, _, ⟨G, g2, d2, t2, o2⟩, _, .ref C, some d, rfl, JG, kG, fr, obj, ⟨rfl, rfl, fun ws z => ?_⟩, rfl, rfl, na, rfl, bare2, raises_own oex.exC oex.tyC, q⟩
    cases z
    rfl
/-- raise x(..) -/
theorem ss_rais {ns : List Str} {pos' : Pos} {fs : Ev → IH → Res (List PV)} (hT : (x, ns) ∈ T.cls) (ER : ErrOk X.prog X.w X.K X.mg X.base x ns) (tk : XOk X xi) (hc : X.calm = true) (hr : Room 2 X.A) (hg : Gl X x) (hdb : (x == ("__debug__" : Str)) = false)
    (ha : PA X (e :: es) (tA X.K xi fs)) (hst : (e :: es).all notStar = true) (hfs : ∀ ev h xs h1, fs ev h = .ok xs h1 → xs.length = ns.length) :
    PS X (.Raise (some (.Call (.Name x p) (e :: es) [] pos)) none pos') (tS X.K xi fun ev h => (fs ev h).bind fun xs h1 => (.exc x xs h1 : Res Fl)) := by
  rw [List.all_cons, Bool.and_eq_true] at hst
  obtain ⟨C, fI, fd, ps, gC, nC, oex, iC, tI, hb, hl, hn, F1⟩ := ER
  obtain ⟨W, tkW, hW⟩ := tk
  refine PSm (L2N.ps_raise hc tkW (pmk_N (CX := L2.CX X.prog X.w) oex iC tI F1 hr hb (fun pins σ H s u s' I q => ?_) hg gC ha hdb (star_cons hst.1) (plain_of hst.2))) fun D st H ⟨ev, m, h, re, rh, q⟩ => ?_
  · obtain ⟨_, _, _, _, _, _, _, _, _, _, _, _, z⟩ := q
    exact z.elim
  refine ⟨ev, m, h, re, rh, ?_⟩
  dsimp only at q
  cases e1 : fs ev h with
  | stuck => rw [e1] at q; exact q.elim
  | exc c fs h1 => rw [e1] at q; exact q
  | ok xs h1 =>
    rw [e1, Res.bind_ok] at q
    intro m1 H1 g1 rh1 vs rvs
    have lv : vs.length = ns.length := by rw [rvs.length, hfs _ _ _ _ e1]
    refine ⟨by omega, fun a ha0 => ⟨a, vs, by rw [List.append_nil], lv, upd_same, fun d H2 hd hda h2a h2d hoth => ?_⟩⟩
    have hd' : H1 d = none := by rw [upd_ne hda] at hd; exact hd
    refine ⟨rfl, d, _, h2a, h2d, hd', ?_⟩
    rw [del_upd ha0 hoth]
    refine hW st x xs m1 _ (q m1 _ (g1.trans (Grow.junk hd')) (rh1.junk hd')) (.ref C) (some d) ⟨C, d, ns, vs, nC, hT, rfl, rfl, lv.symm, upd_same, fun z => ?_, rvs.grow (Grow.junk hd')⟩
    obtain ⟨u, hu⟩ := rh1.mem z
    rw [hd'] at hu; cases hu
/-- try: x = .., except .. : x = a constant -/
theorem ss_tri {i : Nat} {b : Stmt} {w : Expr} {hx : Str} {D : Addr} {cs : List Str} {v : V} {kx : PV} {fe : Ev → IH → Res PV} {px ph pw pe pt : Pos} (hs : X.stack = X.env :: X.outer) (hf : X.env.frame = some X.env.locals) (tk : XOk X xi) (hc : Names X hx (.ref D))
    (hE : ∀ c ns C, (c, ns) ∈ T.cls → PySem.W.nsIn X.K mainGlobals c = some (some (.ref C)) → PySem.W.exmOne X.K (.ref C) (.ref D) = some (cs.contains c))
    (nd : X.N.Nodup) (hN : X.N[i]? = some x) (l1 : L2.Loc X.env.scope x) (l2 : X.fn x = true ∨ X.env.scope.names.lookup x = some .local) (rv : ∀ m H, Rep X.K m H v kx)
    (body : ∀ (W : WX) (pn : List (Addr × Obj)) (xe : Value → Shared → Prop), L2N.Takes (X.tr pn xe) W → PS (X.tr pn xe) b (tS X.K (xW X.K W) (asgF (.one i) fe))) (pc : ∀ X' : Cx, PE X' w (tC v)) (nw : noComp w = true) :
    PS X (.Try [b] [.ExceptHandler (some (.Name hx ph)) none [.Assign [.Name x px] w pw] pe] [] [] pt) (tS X.K xi fun ev h => triF (fe ev h) cs (fun h1 => .ok kx h1) fun x h1 => .ok (.nx (ev.set i (some x))) h1) := by
  obtain ⟨Wout, tkW, hW⟩ := tk
  refine PSm (L2N.ps_try_many (tb := fun W => tS X.K (xW X.K W) (asgF (.one i) fe)) (l := [(.ref D, fun _ _ _ => tAsg (tC v) (gName i))]) hs hf tkW (fun W pn xe tkx _ => pss_one (body W pn xe tkx)) (.cons hc (fun a oe cls d pn _ _ => pss_one (ps_set (X := X.suite a ((a, oe) :: pn)) nd hN l1 (pc _) (swaps_of nw _ _ _) l2)) .nil)) fun D' st H ⟨ev, m, h, re, rh, q⟩ => ?_
  refine ⟨ev, m, h, re, rh, ?_⟩
  unfold asgF
  dsimp only at q ⊢
  cases e1 : fe ev h with
  | stuck => rw [e1] at q; exact q.elim
  | ok y h1 => rw [e1] at q; exact q
  | exc c fs h1 =>
    rw [e1] at q
    intro m' H' g' rh' cls d er
    have er' := er
    obtain ⟨C, dd, ns, vs, nC, hT, rfl, rfl, _, _, _, _⟩ := er'
    refine ⟨_, hE c ns C hT nC, fun hb a ha => ?_, fun hb => ?_⟩
    · unfold triF at q
      dsimp only at q
      rw [if_pos hb] at q
      exact q m' H' g' rh' _ ((re.grow g').set i (rv m' H'))
    · unfold triF at q
      dsimp only at q
      rw [hb, if_neg Bool.false_ne_true] at q
      exact hW st c fs m' H' (q m' H' g' rh') _ _ er
end
end Vm

set_option Elab.async false
set_option linter.all false
set_option maxRecDepth 100000
set_option maxHeartbeats 4000000
/-! VnS: a def that tells of a caught error: its kind, its fields. -/
namespace Vm
open PySem PySem.Spec PyProof.Rows L2
variable [T : Tbs]
theorem if_no {p q : Prop} {c : Bool} (h : c = false) (k : q) : if c = true then p else q := by
  subst h
  exact k
theorem if_yes {p q : Prop} {c : Bool} (h : c = true) (k : p) : if c = true then p else q := by
  subst h
  exact k
section
variable {X : Cx} {a D dd : Addr} {oe : Obj} {pn : List (Addr × Obj)} {p p2 pos : Pos} {n c : Str} {i : Nat}
/-- e, the error, in its slot -/
abbrev tMe (i : Nat) (a dd : Addr) (P : Hp → VK → Prop) : TE := fun σ H Q => σ[i]? = some (some (.ref a)) ∧ (∃ fs, H dd = some (.xd fs)) ∧ P H Q
/-- isinstance(e, C) -/
theorem pe_is1 {cv : Value} {v : V} {b : Bool} (hC : ExcC X.K D) (hz : Zc (.ref D) (some dd) oe) (hf : ∃ vs, oe.data = .fields vs) (hg : Gl X "isinstance") (hm : X.mg "isinstance" = none) (hN : X.N[i]? = some n) (hv : Vis X.env.scope n) (hd : (n == ("__debug__" : Str)) = false) (hcd : (n == ("__classdict__" : Str)) = false)
    (hc : PE (X.suite a ((a, oe) :: pn)) (.Name c p2) (tC v)) (hr : ∀ u, L2.RelV v u → u = cv) (hk : PySem.W.kitOne X.K (.ref D) cv = some b) {pn1 : Pos} :
    PE (X.suite a ((a, oe) :: pn)) (.Call (.Name "isinstance" p) [.Name n pn1, .Name c p2] [] pos) (tMe i a dd fun H Q => Q (.bl b) H) := by
  refine PEm (pe_callB (X := X.suite a ((a, oe) :: pn)) (call_isX (X := X.suite a ((a, oe) :: pn)) List.mem_cons_self hC hz hf) hg hm boot_isinstance (pa_cons (pe_var hN hv hd hcd) (pa_cons hc pa_nil (star_cons rfl)) (star_cons rfl)) (by decide) (by decide) (star_cons rfl) (plain_of (es := [.Name c p2]) rfl)) fun σ H Q ⟨h1, ⟨fs, h2⟩, q⟩ => ?_
  exact ⟨.ref a, h1, fs, v, b, rfl, h2, .inl ⟨cv, hr, hk⟩, q⟩
/-- isinstance(e, (C, ..)) -/
theorem pe_isT {es : List Expr} {k : Nat} {cvs : List Value} {vs : List V} {b : Bool} (hC : ExcC X.K D) (hz : Zc (.ref D) (some dd) oe) (hf : ∃ vs, oe.data = .fields vs) (hg : Gl X "isinstance") (hm : X.mg "isinstance" = none) (hN : X.N[i]? = some n) (hv : Vis X.env.scope n) (hd : (n == ("__debug__" : Str)) = false) (hcd : (n == ("__classdict__" : Str)) = false)
    (hc : PA (X.suite a ((a, oe) :: pn)) es (fun σ H Q => Q vs H)) (hl : vs.length ≤ 100) (hr : ∀ us, Vals vs us → us = cvs) (hk : PySem.W.kitAny X.K (.ref D) cvs = some b) {pn1 : Pos} :
    PE (X.suite a ((a, oe) :: pn)) (.Call (.Name "isinstance" p) [.Name n pn1, .Tuple es k p2] [] pos) (tMe i a dd fun H Q => ∀ q, H q = none → Q (.bl b) (upd H q (.tup vs))) := by
  refine PEm (pe_callB (X := X.suite a ((a, oe) :: pn)) (call_isX (X := X.suite a ((a, oe) :: pn)) List.mem_cons_self hC hz hf) hg hm boot_isinstance (pa_cons (pe_var hN hv hd hcd) (pa_cons (pe_tup hc) pa_nil (star_cons rfl)) (star_cons rfl)) (by decide) (by decide) (star_cons rfl) (plain_of (es := [.Tuple es k p2]) rfl)) fun σ H Q ⟨h1, ⟨fs, h2⟩, q⟩ => ?_
  refine ⟨.ref a, h1, ?_⟩
  refine ⟨by have : sizeLine = 2 ^ 24 := rfl; omega, fun q' hq' => ?_⟩
  exact ⟨fs, .ref q', b, rfl, by rw [upd_ne (ne_of_none h2 hq')]; exact h2, .inr ⟨q', vs, cvs, rfl, .inl (.inl upd_same), hr, hk⟩, q q' hq'⟩
end
/-- .. its promise -/
def spNo (K : PySem.W.Frag) (yes : List (Str × List Str)) : SpE := fun a cls d H Q => ∃ c fs m h, ExcRel K c fs m H cls d ∧ RelH K m H h ∧ ∀ m' H', Grow m H m' H' → RelH K m' H' h → ∀ v, Rep K m' H' v (noV yes c fs) → Q v H'
/-- what is known of the errors' classes -/
structure NoK (K : PySem.W.Frag) (yes : List (Str × List Str)) (pv : Value) (cvs : List Value) (f1 f2 : Str) : Prop where
  of : ∀ c ns C, (c, ns) ∈ T.cls → PySem.W.nsIn K mainGlobals c = some (some (.ref C)) → ExcC K C ∧ L2.XfC K C ∧ PySem.W.findIn K (.ref C) f1 = some none ∧ PySem.W.findIn K (.ref C) f2 = some none ∧ ∃ b1 b2 b3, PySem.W.kitOne K (.ref C) pv = some b1 ∧ PySem.W.kitAny K (.ref C) cvs = some b2 ∧ PySem.W.kitOne K (.ref C) (.type "ValueError") = some b3 ∧
    (∀ ws, yes.lookup c = some ws → ws = [("no" : Str)] ∧ b1 = true ∧ b2 = false ∧ b3 = true ∧ ns = [f1, f2]) ∧ (yes.lookup c = none → (!b1 || b2 || !b3) = true)
section
variable {P : Program} {w : World} {K : PySem.W.Frag} {mg : Str → Option Value} {base : Heap}
theorem no_ok {x qual y o pc f1 f2 : Str} {params : Arguments} {scope : Scope} {f PA' : Addr} {fd : FuncData} {k : Nat} {yes : List (Str × List Str)} {es : List Expr} {cvs : List Value} {cs : List V} {j1 j2 j3 j4 j5 : Nat} {p1 p2 p3 p4 p5 p6 p7 p8 p9 p10 p11 p12 p13 p14 p15 p16 p17 p18 p19 p20 p21 p22 p23 p24 p25 p26 p27 p28 p29 : Pos}
    (D : FunD K x qual params [.Assign [.Name o p1] (.Call (.Name "isinstance" p2) [.Name y p3, .Tuple es j1 p4] [] p5) p6,
      .If (.BoolOp .Or [.UnaryOp .Not (.Call (.Name "isinstance" p7) [.Name y p8, .Name pc p9] [] p10) p11, .Name o p12, .UnaryOp .Not (.Call (.Name "isinstance" p13) [.Name y p14, .Name "ValueError" p15] [] p16) p17] p18) [.Return (some (.Tuple [.Constant (.str "other") j2 p19] j3 p20)) p21] [] p22,
      .Return (some (.Tuple [.Constant (.str "no") j4 p23, .Attribute (.Name y p24) f1 p25, .Attribute (.Name y p26) f2 p27] j5 p28)) p29] scope [] [] f fd)
    (S : FnScope [y, o] [y] scope) (ly : scope.names.lookup y = some .local) (lo : scope.names.lookup o = some .local) (dy : (y == ("__debug__" : Str)) = false) (dcy : (y == ("__classdict__" : Str)) = false) (do' : (o == ("__debug__" : Str)) = false) (dco : (o == ("__classdict__" : Str)) = false)
    (gi : globB scope "isinstance" = true) (mi : mg "isinstance" = none) (gv : globB scope "ValueError" = true) (mv : mg "ValueError" = none) (gp : globB scope pc = true) (mp : mg pc = some (.ref PA')) (dp : (pc == ("__debug__" : Str)) = false)
    (hes : ∀ {X : Cx} {a : Addr} {oe : Obj} {pn : List (Addr × Obj)}, X.K = K → X.mg = mg → X.env.scope = scope → PA (X.suite a ((a, oe) :: pn)) es (fun σ H Q => Q cs H)) (lc : cs.length ≤ 100) (hcs : ∀ us, Vals cs us → us = cvs) (nk : NoK K yes (.ref PA') cvs f1 f2) (f12 : (f1 == f2) = false) (hk : 1 ≤ k) :
    FnE P w K mg base (k + 1) f fd y (spNo K yes) := by
  refine FnE.of D S fun cd A outer s H a oe cls d Q hcd hh hr hz hf hsp => ?_
  obtain ⟨c, fs, m, h, er, rh, q⟩ := hsp
  obtain ⟨C, dd, ns, vs, nC, hT, rfl, rfl, lnv, hdd, dm, rv⟩ := er
  obtain ⟨eC, xC, fi1, fi2, b1, b2, b3, k1, k2, k3, hy, hn⟩ := nk.of c ns C hT nC
  let X : Cx := cxOf CX0 P w K mg base [y, o] qual scope f cd A outer s H fun _ _ _ => False
  have gl : ∀ z, globB scope z = true → Gl X z := fun z hz => glob_ok (X := X) hz
  have nd : X.N.Nodup := S.nd
  have vy : Vis X.env.scope y := .inl ly
  have pvy : ∀ pos, PE (X.suite a [(a, oe)]) (.Name y pos) (tVar 0) := fun pos => pe_var rfl vy dy dcy
  have pvo : ∀ pos, PE (X.suite a [(a, oe)]) (.Name o pos) (tVar 1) := fun pos => pe_var rfl (.inl lo) do' dco
  have e1 := pe_is1 (X := X) (pn := []) (p := p7) (pos := p10) (i := 0) (n := y) (pn1 := p8) eC hz.zc hf (gl _ gi) mi rfl vy dy dcy (c := pc) (p2 := p9) (pe_glob (X := X.suite a [(a, oe)]) (gl _ gp) mp (v := .ref PA') rfl dp) (fun u hu => hu) k1
  have e3 := pe_is1 (X := X) (pn := []) (p := p13) (pos := p16) (i := 0) (n := y) (pn1 := p14) eC hz.zc hf (gl _ gi) mi rfl vy dy dcy (c := "ValueError") (p2 := p15) (pe_bltn (X := X.suite a [(a, oe)]) (v := .ty "ValueError") (gl _ gv) mv (by decide +kernel) rfl (by decide) (by decide)) (fun u hu => hu) k3
  have e2 := pe_isT (X := X) (pn := []) (p := p2) (p2 := p4) (pos := p5) (i := 0) (n := y) (pn1 := p3) (k := j1) eC hz.zc hf (gl _ gi) mi rfl vy dy dcy (hes (X := X) (a := a) (oe := oe) (pn := []) rfl rfl rfl) lc hcs k2
  refine ⟨_, pss_cons (ps_set (X := X.suite a [(a, oe)]) (i := 1) nd rfl (.inl lo) e2 rfl (.inl rfl)) (pss_cons (ps_if (pw_or (pt_not (pt_val e1 fun _ => rfl)) (pw_or (pt_val (pvo p12) fun _ => rfl) (pw_or1 (pt_not (pt_val e3 fun _ => rfl))))).pt (pss_one (ps_ret (pe_tup (pa_cons pe_str pa_nil (star_cons rfl))))) pss_nil)
    (pss_one (ps_ret (pe_tup (pa_cons pe_str (pa_cons (pe_xf xC fi1 hz.zc hf (pvy p24)) (pa_cons (pe_xf xC fi2 hz.zc hf (pvy p26)) pa_nil (star_cons rfl)) (star_cons rfl)) (star_cons rfl)))))), ?_⟩
  refine ⟨rfl, ⟨_, hdd⟩, fun q1 hq1 => ?_⟩
  have hdd1 : (upd H q1 (.tup cs)) dd = some (.xd (ns.zip vs).reverse) := by rw [upd_ne (ne_of_none hdd hq1)]; exact hdd
  have rh1 := rh.junk (o := .tup cs) hq1
  have g1 : Grow m H m (upd H q1 (.tup cs)) := Grow.junk hq1
  have other : yes.lookup c = none → ∀ q2, (upd H q1 (.tup cs)) q2 = none → Q (.ref q2) (upd (upd H q1 (.tup cs)) q2 (.tup [.str "other"])) := fun e q2 hq2 =>
    q m _ (g1.trans (Grow.junk hq2)) (rh1.junk hq2) _ (by
      unfold noV
      rw [e]
      exact .tup (.inl (.inl upd_same)) (.cons .str .nil))
  have lt : (1 : Nat) ≤ sizeLine := by rw [sizeLine_eq]; decide
  have lt3 : (3 : Nat) ≤ sizeLine := by rw [sizeLine_eq]; decide
  cases e : yes.lookup c with
  | some ws =>
    obtain ⟨rfl, rfl, rfl, rfl, rfl⟩ := hy ws e
    obtain ⟨v1, v2, rfl⟩ : ∃ v1 v2, vs = [v1, v2] := by
      rcases vs with _ | ⟨v1, _ | ⟨v2, _ | ⟨_, _⟩⟩⟩ <;> first | (cases lnv; done) | exact ⟨_, _, rfl⟩ | (simp at lnv)
    refine ⟨rfl, ⟨_, hdd1⟩, true, rfl, ?_⟩
    refine if_no (c := !true) rfl ?_
    refine ⟨.bl false, rfl, false, rfl, ?_⟩
    refine if_no (c := false) rfl ?_
    refine ⟨rfl, ⟨_, hdd1⟩, true, rfl, ?_⟩
    refine if_no (c := !true) rfl ?_
    refine ⟨.ref a, rfl, rfl, rfl, dd, _, v1, rfl, hdd1, ?_, .ref a, rfl, rfl, rfl, dd, _, v2, rfl, hdd1, ?_, lt3, fun q2 hq2 => ?_⟩
    · show List.lookup f1 [(f2, v2), (f1, v1)] = some v1
      simp [List.lookup, f12]
    · show List.lookup f2 [(f2, v2), (f1, v1)] = some v2
      simp [List.lookup]
    · refine q m _ (g1.trans (Grow.junk hq2)) (rh1.junk hq2) _ ?_
      unfold noV
      rw [e]
      exact .tup (.inl (.inl upd_same)) (.cons .str (rv.grow (g1.trans (Grow.junk hq2))))
  | none =>
    have hb := hn e
    have ot := other e
    refine ⟨rfl, ⟨_, hdd1⟩, b1, rfl, ?_⟩
    cases b1 with
    | false =>
      refine if_yes (c := !false) rfl ?_
      exact ⟨lt, ot⟩
    | true =>
      refine if_no (c := !true) rfl ?_
      refine ⟨.bl b2, rfl, b2, rfl, ?_⟩
      cases b2 with
      | true =>
        refine if_yes (c := true) rfl ?_
        exact ⟨lt, ot⟩
      | false =>
        refine if_no (c := false) rfl ?_
        refine ⟨rfl, ⟨_, hdd1⟩, b3, rfl, ?_⟩
        cases b3 with
        | true => simp at hb
        | false =>
          refine if_yes (c := !false) rfl ?_
          exact ⟨lt, ot⟩
end
theorem REnv.unset {K : PySem.W.Frag} {m : List Addr} {H : Hp} {st : L2.St} {ev : Ev} (j : Nat) (r : REnv K m H st ev) : REnv K m H (st.set j none) (ev.set j none) :=
  ⟨by simp [r.len], fun i x e => by
    by_cases h : j = i
    · subst h
      have hi : j < ev.length := by
        have := (List.getElem?_eq_some_iff.mp e).1
        simpa using this
      rw [List.getElem?_set_self hi] at e
      cases e
    · rw [List.getElem?_set_ne h] at e ⊢
      exact r.at' i x e⟩
section
variable {X : Cx} {xi : XI} {x n g : Str}
theorem ss_tria {i j : Nat} {b : Stmt} {hx : Str} {D : Addr} {cs : List Str} {yes : List (Str × List Str)} {fe : Ev → IH → Res PV} {px ph pe pt p1 p2 p3 p4 : Pos} {k : Nat} {f : Addr} {fd : FuncData} {y : Str} (hs : X.stack = X.env :: X.outer) (hf : X.env.frame = some X.env.locals) (tk : XOk X xi) (hc : Names X hx (.ref D))
    (hE : ∀ c ns C, (c, ns) ∈ T.cls → PySem.W.nsIn X.K mainGlobals c = some (some (.ref C)) → PySem.W.exmOne X.K (.ref C) (.ref D) = some (cs.contains c))
    (nd : X.N.Nodup) (hN : X.N[i]? = some x) (l1 : L2.Loc X.env.scope x) (l2 : X.fn x = true ∨ X.env.scope.names.lookup x = some .local) (hj : X.N[j]? = some n) (ln : X.env.scope.names.lookup n = some .local) (dn : (n == ("__debug__" : Str)) = false) (dcn : (n == ("__classdict__" : Str)) = false) (ij : i ≠ j)
    (F : FnE X.prog X.w X.K X.mg X.base k f fd y (spNo X.K yes)) (hh : Hush X.A) (hr : Room k X.A) (hg : Gl X g) (hm : X.mg g = some (.ref f)) (hk : PySem.W.keepIn X.K (.ref f) = true) (hb : Binds X.K fd [y] []) (dg : (g == ("__debug__" : Str)) = false)
    (body : ∀ (W : WX) (pn : List (Addr × Obj)) (xe : Value → Shared → Prop), L2N.Takes (X.tr pn xe) W → PS (X.tr pn xe) b (tS X.K (xW X.K W) (asgF (.one i) fe))) :
    PS X (.Try [b] [.ExceptHandler (some (.Name hx ph)) (some n) [.Assign [.Name x px] (.Call (.Name g p1) [.Name n p2] [] p3) p4] pe] [] [] pt) (tS X.K xi fun ev h => triaF (fe ev h) cs yes i j ev) := by
  obtain ⟨Wout, tkW, hW⟩ := tk
  refine PSm (L2N.ps_try_as (i := j) (tb := fun W => tS X.K (xW X.K W) (asgF (.one i) fe)) (ts := fun a cls d => tAsg (fun σ H Q => tCons (tVar j) tNil σ H fun vs H1 => vs = [.ref a] ∧ spNo X.K yes a cls d H1 Q) (gName i)) hs hf nd hj ln hc tkW (fun W pn xe tkx _ => pss_one (body W pn xe tkx))
    (fun a oe cls d pn hz hf' => pss_one (ps_set (X := X.suite a ((a, oe) :: pn)) nd hN l1 (pe_callE F hh hr hg hm hk hb hz hf' (pa_cons (pe_var (X := X.suite a ((a, oe) :: pn)) hj (.inl ln) dn dcn) pa_nil (star_cons rfl)) dg (star_cons rfl) (plain_of (es := []) rfl)) rfl l2))) fun D' st H ⟨ev, m, h, re, rh, q⟩ => ?_
  refine ⟨ev, m, h, re, rh, ?_⟩
  unfold asgF
  dsimp only at q ⊢
  cases e1 : fe ev h with
  | stuck => rw [e1] at q; exact q.elim
  | ok y h1 => rw [e1] at q; exact q
  | exc c fs h1 =>
    rw [e1] at q
    intro m' H' g' rh' cls d er
    have er' := er
    obtain ⟨C, dd, ns, vs, nC, hT, rfl, rfl, _, _, _, _⟩ := er'
    refine ⟨_, hE c ns C hT nC, fun hb' a ha => ?_, fun hb' => ?_⟩
    · unfold triaF at q
      dsimp only at q
      rw [if_pos hb'] at q
      have re' := re.grow g'
      obtain ⟨je, q⟩ : j < ev.length ∧ Post X.K (xi st) m H (.ok (.nx ((ev.set i (some (noV yes c fs))).set j none)) h1 : Res Fl) (toD X.K D') := by
        by_cases w : j < ev.length
        · rw [if_pos w] at q
          exact ⟨w, q⟩
        · rw [if_neg w] at q
          exact q.elim
      have jl : j < st.length := by rw [re.len]; exact je
      refine ⟨.ref a, List.getElem?_set_self jl, rfl, c, fs, m', h1, er, rh', fun m2 H2 g2 rh2 v rv => ?_⟩
      have := q m2 H2 (g'.trans g2) rh2 (((st.set i (some v)).set j none)) (((re'.grow g2).set i rv).unset j)
      show D'.nx ((((st.set j (some (.ref a))).set i (some v))).set j none) H2
      have e2 : (((st.set j (some (.ref a))).set i (some v))).set j none = (st.set i (some v)).set j none := by
        rw [List.set_comm _ _ (Ne.symm ij), List.set_set]
      rw [e2]
      exact this
    · unfold triaF at q
      dsimp only at q
      rw [hb', if_neg Bool.false_ne_true] at q
      exact hW st c fs m' H' (q m' H' g' rh') _ _ er
end
/-- such a def as it stands -/
def NoOk (P : Program) (w : World) (K : PySem.W.Frag) (mg : Str → Option Value) (base : Heap) (g : Str) (yes : List (Str × List Str)) : Prop :=
  ∃ f fd y, mg g = some (.ref f) ∧ PySem.W.keepIn K (.ref f) = true ∧ Binds K fd [y] [] ∧ FnE P w K mg base 2 f fd y (spNo K yes)
end Vm

set_option Elab.async false
set_option linter.all false
set_option maxRecDepth 100000
set_option maxHeartbeats 4000000
/-! VnV: a def that tells of a caught error by a list of words. -/
namespace Vm
open PySem PySem.Spec PyProof.Rows L2
variable [T : Tbs]
/-- which word it is told by -/
def pick : Bool → Bool → Bool → Bool → Bool → Bool → Option Nat
  | _, _, _, _, true, _ => none
  | _, _, _, _, _, false => none
  | true, false, false, false, false, true => some 0
  | false, true, false, false, false, true => some 1
  | false, false, true, false, false, true => some 2
  | false, false, false, true, false, true => some 3
  | _, _, _, _, _, _ => none
abbrev four (k1 k2 k3 k4 : Str) (b1 b2 b3 b4 : Bool) : List (Str × Bool) := [(k1, b1), (k2, b2), (k3, b3), (k4, b4)]
theorem pick_len {k1 k2 k3 k4 : Str} {b1 b2 b3 b4 b5 b6 : Bool} (h : (kept (four k1 k2 k3 k4 b1 b2 b3 b4)).length ≠ 1) : pick b1 b2 b3 b4 b5 b6 = none := by
  revert h
  cases b1 <;> cases b2 <;> cases b3 <;> cases b4 <;> cases b5 <;> cases b6 <;> first | (intro _; rfl) | (intro h; exact absurd rfl h)
theorem pick_odd {b1 b2 b3 b4 b6 : Bool} : pick b1 b2 b3 b4 true b6 = none := by cases b1 <;> rfl
theorem pick_no {b1 b2 b3 b4 b5 : Bool} : pick b1 b2 b3 b4 b5 false = none := by cases b5 <;> rfl
theorem pick_one {k1 k2 k3 k4 : Str} {b1 b2 b3 b4 : Bool} (h : (kept (four k1 k2 k3 k4 b1 b2 b3 b4)).length = 1) : (pick b1 b2 b3 b4 false true = some 0 ∧ kept (four k1 k2 k3 k4 b1 b2 b3 b4) = [.str k1]) ∨ (pick b1 b2 b3 b4 false true = some 1 ∧ kept (four k1 k2 k3 k4 b1 b2 b3 b4) = [.str k2]) ∨
    (pick b1 b2 b3 b4 false true = some 2 ∧ kept (four k1 k2 k3 k4 b1 b2 b3 b4) = [.str k3]) ∨ (pick b1 b2 b3 b4 false true = some 3 ∧ kept (four k1 k2 k3 k4 b1 b2 b3 b4) = [.str k4]) := by
  revert h
  cases b1 <;> cases b2 <;> cases b3 <;> cases b4 <;> first | (intro h; cases h; done) | (intro _; exact .inl ⟨rfl, rfl⟩) | (intro _; exact .inr (.inl ⟨rfl, rfl⟩)) | (intro _; exact .inr (.inr (.inl ⟨rfl, rfl⟩))) | (intro _; exact .inr (.inr (.inr ⟨rfl, rfl⟩)))
/-- what is then due -/
def dueW (yes : List (Str × List Str)) (k1 k2 k3 f1 f2 f3 g1 g2 c : Str) (ns : List Str) : Option Nat → Prop
  | some 0 => yes.lookup c = some [("no" : Str), k1] ∧ ns = [f1]
  | some 1 => yes.lookup c = some [("no" : Str), k2] ∧ ns = [f2]
  | some 2 => yes.lookup c = some [("no" : Str), k3] ∧ ns = [f3]
  | some 3 => yes.lookup c = some [("no" : Str)] ∧ ns = [g1, g2]
  | _ => yes.lookup c = none
structure RfK (K : PySem.W.Frag) (yes : List (Str × List Str)) (k1 k2 k3 f1 f2 f3 g1 g2 : Str) (v1 v2 v3 v4 : Value) (cvs : List Value) : Prop where
  of : ∀ c ns C, (c, ns) ∈ T.cls → PySem.W.nsIn K mainGlobals c = some (some (.ref C)) → ExcC K C ∧ L2.XfC K C ∧ (∀ f ∈ [f1, f2, f3, g1, g2], PySem.W.findIn K (.ref C) f = some none) ∧
    ∃ b1 b2 b3 b4 b5 b6, PySem.W.kitOne K (.ref C) v1 = some b1 ∧ PySem.W.kitOne K (.ref C) v2 = some b2 ∧ PySem.W.kitOne K (.ref C) v3 = some b3 ∧ PySem.W.kitOne K (.ref C) v4 = some b4 ∧ PySem.W.kitAny K (.ref C) cvs = some b5 ∧ PySem.W.kitOne K (.ref C) (.type "ValueError") = some b6 ∧
      dueW yes k1 k2 k3 f1 f2 f3 g1 g2 c ns (pick b1 b2 b3 b4 b5 b6)
/-- a heap that has only grown by what nobody tracks -/
structure Up (K : PySem.W.Frag) (m : List Addr) (h : IH) (H H' : Hp) : Prop where
  g : Grow m H m H'
  r : RelH K m H' h
  k : ∀ b o, H b = some o → H' b = some o
theorem keepU {H : Hp} {p b : Addr} {o u : HO} (hp : H p = none) (e : H b = some u) : upd H p o b = some u := by
  rw [upd_ne (ne_of_none e hp)]
  exact e
theorem Up.next {K : PySem.W.Frag} {m : List Addr} {h : IH} {H H' : Hp} {p : Addr} {o : HO} (s : Up K m h H H') (hp : H' p = none) : Up K m h H (upd H' p o) :=
  ⟨s.g.trans (Grow.junk hp), s.r.junk hp, fun b u e => keepU hp (s.k b u e)⟩
section
variable {P : Program} {w : World} {K : PySem.W.Frag} {mg : Str → Option Value} {base : Heap}
theorem ref_ok {x qual y o1 o2 o3 wd tr c1 c2 c3 c4 k1 k2 k3 k4 f1 f2 f3 g1 g2 : Str} {params : Arguments} {scope sc2 : Scope} {f A1 A2 A3 A4 : Addr} {fd : FuncData} {k : Nat} {yes : List (Str × List Str)} {es : List Expr} {cvs : List Value} {cs : List V}
    (D : FunD K x qual params [
      .Assign [.Name o1 p1] (.List [.Tuple [.Constant (.str k1) j1 p2, .Call (.Name "isinstance" p3) [.Name y p4, .Name c1 p5] [] p6] j2 p7, .Tuple [.Constant (.str k2) j3 p8, .Call (.Name "isinstance" p9) [.Name y p10, .Name c2 p11] [] p12] j4 p13,
        .Tuple [.Constant (.str k3) j5 p14, .Call (.Name "isinstance" p15) [.Name y p16, .Name c3 p17] [] p18] j6 p19] p20) p21,
      .Assign [.Name o1 p22] (.BinOp (.Name o1 p23) .Add (.List [.Tuple [.Constant (.str k4) j7 p24, .Call (.Name "isinstance" p25) [.Name y p26, .Name c4 p27] [] p28] j8 p29] p30) p31) p32,
      .Assign [.Name o2 p33] (.ListComp (.Name wd p34) [⟨.Tuple [.Name wd p35, .Name tr p36] j9 p37, .Name o1 p38, [.Name tr p39], 0⟩] sc2 p40) p41,
      .Assign [.Name o3 p42] (.Call (.Name "isinstance" p43) [.Name y p44, .Tuple es j10 p45] [] p46) p47,
      .If (.BoolOp .Or [.Compare (.Call (.Name "len" p48) [.Name o2 p49] [] p50) [.NotEq] [.Constant (.int 1) j11 p51] p52, .Name o3 p53, .UnaryOp .Not (.Call (.Name "isinstance" p54) [.Name y p55, .Name "ValueError" p56] [] p57) p58] p59) [.Return (some (.Tuple [.Constant (.str "other") j12 p60] j13 p61)) p62] [] p63,
      .If (.Compare (.Subscript (.Name o2 p64) (.Constant (.int 0) j14 p65) p66) [.Eq] [.Constant (.str k1) j15 p67] p68) [.Return (some (.Tuple [.Constant (.str "no") j16 p69, .Constant (.str k1) j17 p70, .Attribute (.Name y p71) f1 p72] j18 p73)) p74] [] p75,
      .If (.Compare (.Subscript (.Name o2 p76) (.Constant (.int 0) j19 p77) p78) [.Eq] [.Constant (.str k2) j20 p79] p80) [.Return (some (.Tuple [.Constant (.str "no") j21 p81, .Constant (.str k2) j22 p82, .Attribute (.Name y p83) f2 p84] j23 p85)) p86] [] p87,
      .If (.Compare (.Subscript (.Name o2 p88) (.Constant (.int 0) j24 p89) p90) [.Eq] [.Constant (.str k3) j25 p91] p92) [.Return (some (.Tuple [.Constant (.str "no") j26 p93, .Constant (.str k3) j27 p94, .Attribute (.Name y p95) f3 p96] j28 p97)) p98] [] p99,
      .Return (some (.Tuple [.Constant (.str "no") j29 q1, .Attribute (.Name y q2) g1 q3, .Attribute (.Name y q4) g2 q5] j30 q6)) q7] scope [] [] f fd)
    (S : FnScope [y, o1, o2, o3, wd, tr] [y] scope) (ly : scope.names.lookup y = some .local) (l1 : scope.names.lookup o1 = some .local) (l2 : scope.names.lookup o2 = some .local) (l3 : scope.names.lookup o3 = some .local)
    (oy : okName y = true) (ok1 : okName o1 = true) (ok2 : okName o2 = true) (ok3 : okName o3 = true) (okw : okName wd = true) (okt : okName tr = true)
    (gi : globB scope "isinstance" = true) (mi : mg "isinstance" = none) (gl : globB scope "len" = true) (ml : mg "len" = none) (gv : globB scope "ValueError" = true) (mv : mg "ValueError" = none)
    (gc1 : globB scope c1 = true) (mc1 : mg c1 = some (.ref A1)) (oc1 : okName c1 = true) (gc2 : globB scope c2 = true) (mc2 : mg c2 = some (.ref A2)) (oc2 : okName c2 = true) (gc3 : globB scope c3 = true) (mc3 : mg c3 = some (.ref A3)) (oc3 : okName c3 = true) (gc4 : globB scope c4 = true) (mc4 : mg c4 = some (.ref A4)) (oc4 : okName c4 = true)
    (blk : blkC [y, o1, o2, o3, wd, tr] scope sc2 [(wd, 4), (tr, 5)] = true) (lw : (relS sc2 scope).names.lookup wd = some .local) (lt : (relS sc2 scope).names.lookup tr = some .local)
    (sw : ∀ env : Env, env.scope = scope → swapsWith (.ListComp (.Name wd p34) [⟨.Tuple [.Name wd p35, .Name tr p36] j9 p37, .Name o1 p38, [.Name tr p39], 0⟩] sc2 p40) (some (.Name o2 p33)) p41.line env = pure true)
    (hes : ∀ {X : Cx} {a : Addr} {oe : Obj} {pn : List (Addr × Obj)}, X.K = K → X.mg = mg → X.env.scope = scope → PA (X.suite a ((a, oe) :: pn)) es (fun σ H Q => Q cs H)) (lc : cs.length ≤ 100) (hcs : ∀ us, Vals cs us → us = cvs)
    (rk : RfK K yes k1 k2 k3 f1 f2 f3 g1 g2 (.ref A1) (.ref A2) (.ref A3) (.ref A4) cvs) (d21 : k2 ≠ k1) (d31 : k3 ≠ k1) (d41 : k4 ≠ k1) (d32 : k3 ≠ k2) (d42 : k4 ≠ k2) (d43 : k4 ≠ k3) (g12 : (g1 == g2) = false) (hk : 1 ≤ k) :
    FnE P w K mg base (k + 1) f fd y (spNo K yes) := by
  refine FnE.of D S fun cd A outer s H a oe cls d Q hcd hh hr hz hf hsp => ?_
  obtain ⟨c, fs, m, h, er, rh, q⟩ := hsp
  obtain ⟨C, dd, ns, vs, nC, hT, rfl, rfl, lnv, hdd, dm, rv⟩ := er
  obtain ⟨eC, xC, fi, b1, b2, b3, b4, b5, b6, e1, e2, e3, e4, e5, e6, due⟩ := rk.of c ns C hT nC
  let X : Cx := cxOf CX0 P w K mg base [y, o1, o2, o3, wd, tr] qual scope f cd A outer s H fun _ _ _ => False
  have glo : ∀ z, globB scope z = true → Gl X z := fun z hz => glob_ok (X := X) hz
  have nd : X.N.Nodup := S.nd
  have vy : Vis X.env.scope y := .inl ly
  have v1 : Vis X.env.scope o1 := .inl l1
  have hot : L2H.Hot1 (X.suite a [(a, oe)]).A (a, oe) := by
    obtain ⟨ws, hw⟩ := hf
    exact ⟨rfl, ws, hw, hz.2.2 ws hw⟩
  have pvy : ∀ pos, PE (X.suite a [(a, oe)]) (.Name y pos) (tVar 0) := fun pos => pe_var rfl vy (okName_d oy).1 (okName_d oy).2
  have pv1 : ∀ pos, PE (X.suite a [(a, oe)]) (.Name o1 pos) (tVar 1) := fun pos => pe_var rfl v1 (okName_d ok1).1 (okName_d ok1).2
  have pv2 : ∀ pos, PE (X.suite a [(a, oe)]) (.Name o2 pos) (tVar 2) := fun pos => pe_var rfl (.inl l2) (okName_d ok2).1 (okName_d ok2).2
  have pv3 : ∀ pos, PE (X.suite a [(a, oe)]) (.Name o3 pos) (tVar 3) := fun pos => pe_var rfl (.inl l3) (okName_d ok3).1 (okName_d ok3).2
  have is : ∀ {cc : Str} {AA : Addr} {b : Bool} {pa pb pc pd : Pos}, globB scope cc = true → mg cc = some (.ref AA) → okName cc = true → PySem.W.kitOne K (.ref C) (.ref AA) = some b → PE (X.suite a [(a, oe)]) (.Call (.Name "isinstance" pa) [.Name y pb, .Name cc pc] [] pd) (tMe 0 a dd fun H Q => Q (.bl b) H) :=
    fun {cc AA b pa pb pc pd} g1 g2 g3 g4 => pe_is1 (X := X) (pn := []) (i := 0) (n := y) eC hz.zc hf (glo _ gi) mi rfl vy (okName_d oy).1 (okName_d oy).2 (pe_glob (X := X.suite a [(a, oe)]) (glo _ g1) g2 (v := .ref AA) rfl (okName_d g3).1) (fun u hu => hu) g4
  have isV := pe_is1 (X := X) (pn := []) (p := p54) (pos := p57) (i := 0) (n := y) (pn1 := p55) eC hz.zc hf (glo _ gi) mi rfl vy (okName_d oy).1 (okName_d oy).2 (c := "ValueError") (p2 := p56) (pe_bltn (X := X.suite a [(a, oe)]) (v := .ty "ValueError") (glo _ gv) mv (by decide +kernel) rfl (by decide) (by decide)) (fun u hu => hu) e6
  have isT := pe_isT (X := X) (pn := []) (p := p43) (p2 := p45) (pos := p46) (i := 0) (n := y) (pn1 := p44) (k := j10) eC hz.zc hf (glo _ gi) mi rfl vy (okName_d oy).1 (okName_d oy).2 (hes (X := X) (a := a) (oe := oe) (pn := []) rfl rfl rfl) lc hcs e5
  have tup : ∀ {kk cc : Str} {AA : Addr} {b : Bool} {pa pb pc pd pe pf : Pos} {ja jb}, globB scope cc = true → mg cc = some (.ref AA) → okName cc = true → PySem.W.kitOne K (.ref C) (.ref AA) = some b →
      PE (X.suite a [(a, oe)]) (.Tuple [.Constant (.str kk) ja pe, .Call (.Name "isinstance" pa) [.Name y pb, .Name cc pc] [] pd] jb pf) (tTup (tCons (tC (.str kk)) (tCons (tMe 0 a dd fun H Q => Q (.bl b) H) tNil))) :=
    fun {kk cc AA b pa pb pc pd pe pf ja jb} g1 g2 g3 g4 => pe_tup (pa_cons pe_str (pa_cons (is g1 g2 g3 g4) pa_nil (star_cons rfl)) (star_cons rfl))
  have wis : ∀ {kk : Str} {pa pb pc pd pe : Pos} {ja jb}, PT (X.suite a [(a, oe)]) (.Compare (.Subscript (.Name o2 pa) (.Constant (.int 0) ja pb) pc) [.Eq] [.Constant (.str kk) jb pd] pe) (tTest (tOp rEq (tOp (rIxL X.K) (tVar 2) (tC (.int 0))) (tC (.str kk)))) :=
    fun {kk pa pb pc pd pe ja jb} => pt_cmpR op_eq (pe_ix ix_list (pv2 pa) pe_int (fun _ _ => rfl)) pe_str (nobehind _ (by decide) (by decide))
  have ret3 : ∀ {kk ff : Str} {pa pb pc pd pe pf : Pos} {ja jb jc}, ff ∈ [f1, f2, f3, g1, g2] → PSs (X.suite a [(a, oe)]) [.Return (some (.Tuple [.Constant (.str "no") ja pa, .Constant (.str kk) jb pb, .Attribute (.Name y pc) ff pd] jc pe)) pf] _ :=
    fun {kk ff pa pb pc pd pe pf ja jb jc} hff => pss_one (ps_ret (pe_tup (pa_cons pe_str (pa_cons pe_str (pa_cons (pe_xf xC (fi ff hff) hz.zc hf (pvy pc)) pa_nil (star_cons rfl)) (star_cons rfl)) (star_cons rfl))))
  have keepS := ss_keep (X := X.suite a [(a, oe)]) (iz := 1) (iy := 2) (iw := 4) (it := 5) (p1 := p34) (p2 := p35) (p3 := p36) (p4 := p37) (p5 := p38) (p6 := p39) (py := p33) (pos := p40) (spos := p41) (k := j9) hot List.mem_cons_self nd rfl v1 (okName_d ok1).1 (okName_d ok1).2 rfl l2 rfl rfl (by decide) (blkOk_by blk) lw lt (okName_d okw).1 (okName_d okw).2 (okName_d okt).1 (okName_d okt).2 (sw _ rfl)
  refine ⟨_, pss_cons (ps_set (X := X.suite a [(a, oe)]) (i := 1) nd rfl (.inl l1) (pe_lst (pa_cons (tup gc1 mc1 oc1 e1) (pa_cons (tup gc2 mc2 oc2 e2) (pa_cons (tup gc3 mc3 oc3 e3) pa_nil (star_cons rfl)) (star_cons rfl)) (star_cons rfl))) rfl (.inl rfl))
    (pss_cons (ps_set (X := X.suite a [(a, oe)]) (i := 1) nd rfl (.inl l1) (pe_op op_cat (pv1 p23) (pe_lst (pa_cons (tup gc4 mc4 oc4 e4) pa_nil (star_cons rfl)))) rfl (.inl rfl))
    (pss_cons keepS (pss_cons (ps_set (X := X.suite a [(a, oe)]) (i := 3) nd rfl (.inl l3) isT rfl (.inl rfl))
    (pss_cons (ps_if (pw_or (pt_cmp (pc_neI (pe_callB (X := X.suite a [(a, oe)]) call_len_seq (glo _ gl) ml PySem.boot_len (pa_cons (pv2 p49) pa_nil (star_cons rfl)) (by decide) (by decide) (star_cons rfl) (plain_of (es := []) rfl)) pe_int) (nobehind _ (by decide) (by decide))) (pw_or (pt_val (pv3 p53) fun _ => rfl) (pw_or1 (pt_not (pt_val isV fun _ => rfl))))).pt (pss_one (ps_ret (pe_tup (pa_cons pe_str pa_nil (star_cons rfl))))) pss_nil)
    (pss_cons (ps_if wis (ret3 (by simp)) pss_nil) (pss_cons (ps_if wis (ret3 (by simp)) pss_nil) (pss_cons (ps_if wis (ret3 (by simp)) pss_nil)
    (pss_one (ps_ret (pe_tup (pa_cons pe_str (pa_cons (pe_xf xC (fi g1 (by simp)) hz.zc hf (pvy q2)) (pa_cons (pe_xf xC (fi g2 (by simp)) hz.zc hf (pvy q4)) pa_nil (star_cons rfl)) (star_cons rfl)) (star_cons rfl)))))))))))), ?_⟩
  have z0 : (0 : Nat) ≤ sizeLine := Nat.zero_le _
  have z1 : (1 : Nat) ≤ sizeLine := by rw [sizeLine_eq]; decide
  have z2 : (2 : Nat) ≤ sizeLine := by rw [sizeLine_eq]; decide
  have z3 : (3 : Nat) ≤ sizeLine := by rw [sizeLine_eq]; decide
  have z4 : (4 : Nat) ≤ sizeLine := by rw [sizeLine_eq]; decide
  have U0 : Up K m h H H := ⟨Grow.refl m H, rh, fun _ _ e => e⟩
  refine ⟨rfl, ⟨_, hdd⟩, z2, fun q1 hq1 => ?_⟩
  have U1 := U0.next (o := .tup [.str k1, .bl b1]) hq1
  refine ⟨rfl, ⟨_, U1.k _ _ hdd⟩, z2, fun q2 hq2 => ?_⟩
  have U2 := U1.next (o := .tup [.str k2, .bl b2]) hq2
  refine ⟨rfl, ⟨_, U2.k _ _ hdd⟩, z2, fun q3 hq3 => ?_⟩
  have U3 := U2.next (o := .tup [.str k3, .bl b3]) hq3
  refine ⟨z3, fun n1 hn1 => ?_⟩
  have U4 := U3.next (o := .lst [.ref q1, .ref q2, .ref q3]) hn1
  refine ⟨.ref n1, rfl, rfl, ⟨_, U4.k _ _ hdd⟩, z2, fun q4 hq4 => ?_⟩
  have U5 := U4.next (o := .tup [.str k4, .bl b4]) hq4
  refine ⟨z1, fun n2 hn2 => ?_⟩
  have U6 := U5.next (o := .lst [.ref q4]) hn2
  refine ⟨n1, n2, _, _, rfl, rfl, keepU hn2 (keepU hq4 upd_same), upd_same, z4, fun n3 hn3 => ?_⟩
  have U7 := U6.next (o := .lst ([.ref q1, .ref q2, .ref q3] ++ [.ref q4])) hn3
  refine ⟨n3, [q1, q2, q3, q4], four k1 k2 k3 k4 b1 b2 b3 b4, rfl, upd_same, ⟨?_, ?_, ?_, ?_, trivial⟩, by show (4 : Nat) ≤ 1000; decide, fun n4 hn4 => ?_⟩
  · exact keepU hn3 (keepU hn2 (keepU hq4 (keepU hn1 (keepU hq3 (keepU hq2 upd_same)))))
  · exact keepU hn3 (keepU hn2 (keepU hq4 (keepU hn1 (keepU hq3 upd_same))))
  · exact keepU hn3 (keepU hn2 (keepU hq4 (keepU hn1 upd_same)))
  · exact keepU hn3 (keepU hn2 upd_same)
  have U8 := U7.next (o := .lst (kept (four k1 k2 k3 k4 b1 b2 b3 b4))) hn4
  refine ⟨rfl, ⟨_, U8.k _ _ hdd⟩, fun q5 hq5 => ?_⟩
  have U9 := U8.next (o := .tup cs) hq5
  have atW := keepU (o := HO.tup cs) hq5 (upd_same (H := upd (upd (upd (upd (upd (upd (upd H q1 (.tup [.str k1, .bl b1])) q2 (.tup [.str k2, .bl b2])) q3 (.tup [.str k3, .bl b3])) n1 (.lst [.ref q1, .ref q2, .ref q3])) q4 (.tup [.str k4, .bl b4])) n2 (.lst [.ref q4])) n3 (.lst ([.ref q1, .ref q2, .ref q3] ++ [.ref q4]))) (a := n4) (o := HO.lst (kept (four k1 k2 k3 k4 b1 b2 b3 b4))))
  have ddW := U9.k _ _ hdd
  revert U9 atW ddW
  generalize upd (upd (upd (upd (upd (upd (upd (upd (upd H q1 (.tup [.str k1, .bl b1])) q2 (.tup [.str k2, .bl b2])) q3 (.tup [.str k3, .bl b3])) n1 (.lst [.ref q1, .ref q2, .ref q3])) q4 (.tup [.str k4, .bl b4])) n2 (.lst [.ref q4])) n3 (.lst ([.ref q1, .ref q2, .ref q3] ++ [.ref q4]))) n4 (.lst (kept (four k1 k2 k3 k4 b1 b2 b3 b4)))) q5 (.tup cs) = HW
  intro U9 atW ddW
  generalize hkp : kept (four k1 k2 k3 k4 b1 b2 b3 b4) = kp at atW
  have other : yes.lookup c = none → ∀ r, HW r = none → Q (.ref r) (upd HW r (.tup [.str "other"])) := fun e r hr => q m _ (U9.next hr).g (U9.next hr).r _ (by
    unfold noV
    rw [e]
    exact .tup (.inl (.inl upd_same)) (.cons .str .nil))
  refine ⟨.ref n4, rfl, n4, kp, rfl, .inl (SqL.of atW), _, _, rfl, rfl, ?_⟩
  by_cases h1 : kp.length = 1
  · refine ⟨_, rfl, ?_⟩
    refine if_no (c := !decide ((kp.length : Int) = 1)) (by rw [h1]; rfl) ?_
    refine ⟨.bl b5, rfl, b5, rfl, ?_⟩
    cases b5 with
    | true =>
      rw [pick_odd] at due
      refine if_yes (c := true) rfl ?_
      refine if_yes (c := true) rfl ?_
      exact ⟨z1, other due⟩
    | false =>
      refine if_no (c := false) rfl ?_
      refine ⟨rfl, ⟨_, ddW⟩, b6, rfl, ?_⟩
      cases b6 with
      | false =>
        rw [pick_no] at due
        refine if_yes (c := !false) rfl ?_
        exact ⟨z1, other due⟩
      | true =>
        refine if_no (c := !true) rfl ?_
        have wd : ∀ (k' : Str) {R : Bool → Hp → Prop} {k1' : Str}, kp = [.str k'] → R (decide (V.str k' = V.str k1')) HW → tTest (tOp rEq (tOp (rIxL X.K) (tVar 2) (tC (.int 0))) (tC (.str k1'))) [some (.ref a), some (.ref n3), some (.ref n4), some (.bl false), none, none] HW R := fun k' R k1' e r => by
          subst e
          exact ⟨.ref n4, rfl, n4, _, 0, .str k', rfl, rfl, SqL.of atW, atI_nat (j := 0) rfl, rfl, _, rfl, r⟩
        have told : ∀ {f' : Str} {ws : List Str} {v' : V} {k' : Str}, yes.lookup c = some ws → ws = [("no" : Str), k'] → ns = [f'] → vs = [v'] → tRet (tTup (tCons (tC (.str "no")) (tCons (tC (.str k')) (tCons (tXf a (.ref C) (some dd) C f' (tVar 0)) tNil)))) { nx := fun _ H' => Q .non H', rt := Q } [some (.ref a), some (.ref n3), some (.ref n4), some (.bl false), none, none] HW := fun {f' ws v' k'} e1 e2 e3 e4 => by
          subst e2 e3 e4
          refine ⟨.ref a, rfl, rfl, rfl, dd, _, v', rfl, ddW, by simp [List.lookup], z3, fun r hr => ?_⟩
          have UR := U9.next (o := .tup [.str "no", .str k', v']) hr
          refine q m _ UR.g UR.r _ ?_
          unfold noV
          rw [e1]
          exact .tup (.inl (.inl upd_same)) (.cons .str (.cons .str (rv.grow UR.g)))
        have one : ∀ {f' : Str}, ns = [f'] → ∃ v', vs = [v'] := fun {f'} e => by
          rw [e] at lnv
          match vs, lnv with
          | [v'], _ => exact ⟨v', rfl⟩
        have ne : ∀ {u v : Str}, u ≠ v → decide (V.str u = V.str v) = false := fun {u v} n => by simp [n]
        have eq : ∀ {u : Str}, decide (V.str u = V.str u) = true := fun {u} => by simp
        subst hkp
        rcases pick_one h1 with ⟨pk, ek⟩ | ⟨pk, ek⟩ | ⟨pk, ek⟩ | ⟨pk, ek⟩
        · rw [pk] at due
          obtain ⟨v', ev⟩ := one due.2
          exact wd k1 ek (if_yes (c := decide _) eq (told due.1 rfl due.2 ev))
        · rw [pk] at due
          obtain ⟨v', ev⟩ := one due.2
          exact wd k2 ek (if_no (c := decide _) (ne d21) (wd k2 ek (if_yes (c := decide _) eq (told due.1 rfl due.2 ev))))
        · rw [pk] at due
          obtain ⟨v', ev⟩ := one due.2
          exact wd k3 ek (if_no (c := decide _) (ne d31) (wd k3 ek (if_no (c := decide _) (ne d32) (wd k3 ek (if_yes (c := decide _) eq (told due.1 rfl due.2 ev))))))
        · rw [pk] at due
          refine wd k4 ek (if_no (c := decide _) (ne d41) (wd k4 ek (if_no (c := decide _) (ne d42) (wd k4 ek (if_no (c := decide _) (ne d43) ?_)))))
          obtain ⟨d1, rfl⟩ := due
          match vs, lnv with
          | [u1, u2], _ =>
            refine ⟨.ref a, rfl, rfl, rfl, dd, _, u1, rfl, ddW, by simp [List.lookup, g12], .ref a, rfl, rfl, rfl, dd, _, u2, rfl, ddW, by simp [List.lookup], z3, fun r hr => ?_⟩
            have UR := U9.next (o := .tup [.str "no", u1, u2]) hr
            refine q m _ UR.g UR.r _ ?_
            unfold noV
            rw [d1]
            exact .tup (.inl (.inl upd_same)) (.cons .str (rv.grow UR.g))
  · refine ⟨_, rfl, ?_⟩
    refine if_yes (c := !decide ((kp.length : Int) = 1)) (by simp; omega) ?_
    refine if_yes (c := true) rfl ?_
    rw [← hkp] at h1
    rw [pick_len h1] at due
    exact ⟨z1, other due⟩
end
end Vm

set_option Elab.async false
set_option linter.all false
set_option maxRecDepth 100000
set_option maxHeartbeats 8000000
/-! VmI: statements, defs, a whole text. -/
namespace Vm
open PySem PySem.Spec PyProof.Rows L2
variable [T : Tbs]

theorem sw_cell {elt : Expr} {gs : List Comprehension} {scope : Scope} {pos py : Pos} {y : Str} {l : Nat} {env : Env} (hy : env.scope.names.lookup y = some .cell) : swapsWith (.ListComp elt gs scope pos) (some (.Name y py)) l env = pure false := by
  have ky : env.kindOf y = some .cell := hy
  have e : (NameKind.cell == NameKind.local) = false := by decide
  unfold swapsWith
  simp only [ky]
  simp [e]
theorem sw_par {x y : Str} {px py pt pt2 : Pos} {kt k2 : Nat} {u v : Expr} {env : Env} (hk : env.scope.kind = .function) (hx : env.scope.names.lookup x = some .local) (hy : env.scope.names.lookup y = some .local)
    (hl : (py.line == px.line) = true) (hxy : (x == y) = false) (hu : notStar u = true) (hv : notStar v = true) (h1 : ([u, v].all (foldedForSure 8)) = false) (h2 : ([u, v].all (constantsAlone 8)) = false) :
    swappedStores [.Tuple [.Name x px, .Name y py] kt pt] (.Tuple [u, v] k2 pt2) env = pure (some [x, y]) := by
  have hb : env.blockKind = .function := by unfold Env.blockKind; rw [hk]; rfl
  have kx : env.kindOf x = some .local := hx
  have ky : env.kindOf y = some .local := hy
  have hl' : py.line = px.line := by simpa using hl
  have hyx : (y == x) = false := by
    cases e : y == x with
    | false => rfl
    | true => rw [eq_of_beq e] at hxy; simp at hxy
  have ed : [x, y].eraseDups = [x, y] := by
    simp [List.eraseDups_cons, hxy, hyx]
  unfold swappedStores
  simp only [h1, h2]
  simp [kx, ky, hl', Expr.pos, ed, hb, List.filterMap_cons]
  intro h
  rcases h with h | h
  · cases u <;> first | (cases h; done) | (cases hu; done)
  · cases v <;> first | (cases h; done) | (cases hv; done)
theorem sw_par3 {x y z : Str} {px py pz pt pt2 : Pos} {kt k2 : Nat} {u v w : Expr} {env : Env} (hk : env.scope.kind = .function) (hx : env.scope.names.lookup x = some .local) (hy : env.scope.names.lookup y = some .local) (hz : env.scope.names.lookup z = some .local)
    (hl : (py.line == px.line) = true) (hl2 : (pz.line == px.line) = true) (hxy : (x == y) = false) (hxz : (x == z) = false) (hyz : (y == z) = false) (hu : notStar u = true) (hv : notStar v = true) (hw : notStar w = true) (h1 : ([u, v, w].all (foldedForSure 8)) = false) (h2 : ([u, v, w].all (constantsAlone 8)) = false) :
    swappedStores [.Tuple [.Name x px, .Name y py, .Name z pz] kt pt] (.Tuple [u, v, w] k2 pt2) env = pure (some [x, y, z]) := by
  have hb : env.blockKind = .function := by unfold Env.blockKind; rw [hk]; rfl
  have kx : env.kindOf x = some .local := hx
  have ky : env.kindOf y = some .local := hy
  have kz : env.kindOf z = some .local := hz
  have hl' : py.line = px.line := by simpa using hl
  have hl2' : pz.line = px.line := by simpa using hl2
  have sy : ∀ {a b : Str}, (a == b) = false → (b == a) = false := fun {a b} h => by
    cases e : b == a with
    | false => rfl
    | true => rw [eq_of_beq e] at h; simp at h
  have ed : [x, y, z].eraseDups = [x, y, z] := by
    simp [List.eraseDups_cons, sy hxy, sy hxz, sy hyz]
  unfold swappedStores
  simp only [h1, h2]
  simp [kx, ky, kz, hl', hl2', Expr.pos, ed, hb, List.filterMap_cons]
  intro h
  rcases h with h | h | h
  · cases u <;> first | (cases h; done) | (cases hu; done)
  · cases v <;> first | (cases h; done) | (cases hv; done)
  · cases w <;> first | (cases h; done) | (cases hw; done)
def chkX (c : Tb) (sc : Scope) : Sx → Stmt → Bool
  | .set t e, st => (match st with
    | .Assign [.Name x p] y _ => (match t with
      | .one i => chkTg c.N (locB sc) t (.Name x p) && chkE e c sc y && (noComp y || (match y with
        | .ListComp elt gs scope q => decide (sc.names.lookup x = some .cell) || (decide (sc.names.lookup x = some .local) && (p.line == q.line) && !(scope.names.any fun (n, k) => n == x && (k == .local || k == .cell)))
        | _ => false))
      | _ => false)
    | .Assign [.Tuple es k p] y _ => noComp y && noTup y && chkTg c.N (locB sc) t (.Tuple es k p) && chkE e c sc y
    | _ => false)
  | .par i j a b, st => (match st with
    | .Assign [.Tuple [.Name x px, .Name y py] _ _] (.Tuple [u, v] _ _) _ => decide (c.N[i]? = some x) && decide (c.N[j]? = some y) && decide (i ≠ j) && decide (sc.names.lookup x = some .local) && decide (sc.names.lookup y = some .local) &&
        chkE a c sc u && chkE b c sc v && (py.line == px.line) && !(x == y) && !([u, v].all (foldedForSure 8)) && !([u, v].all (constantsAlone 8))
    | _ => false)
  | .par3 i j l a b d, st => (match st with
    | .Assign [.Tuple [.Name x px, .Name y py, .Name z pz] _ _] (.Tuple [u, v, w] _ _) _ => decide (c.N[i]? = some x) && decide (c.N[j]? = some y) && decide (c.N[l]? = some z) && decide (i ≠ j) && decide (i ≠ l) && decide (j ≠ l) && decide (sc.names.lookup x = some .local) && decide (sc.names.lookup y = some .local) && decide (sc.names.lookup z = some .local) &&
        chkE a c sc u && chkE b c sc v && chkE d c sc w && (py.line == px.line) && (pz.line == px.line) && !(x == y) && !(x == z) && !(y == z) && !([u, v, w].all (foldedForSure 8)) && !([u, v, w].all (constantsAlone 8))
    | _ => false)
  | .put a i v, st => (match st with
    | .Assign [.Subscript o z _] y _ => noComp y && plainIx z && chkE v c sc y && chkE a c sc o && chkE i c sc z
    | _ => false)
  | .augv i op e, st => (match st with
    | .AugAssign (.Name x _) o y _ => decide (o = bopS op) && decide (op ≠ .pow) && decide (c.N[i]? = some x) && locB sc x && chkE e c sc y
    | _ => false)
  | .augp a i op e, st => (match st with
    | .AugAssign (.Subscript o z _) q y _ => decide (q = bopS op) && decide (op ≠ .pow) && plainIx z && chkE a c sc o && chkE i c sc z && chkE e c sc y
    | _ => false)
  | .ret e, st => (match st with
    | .Return (some y) _ => chkE e c sc y
    | .Return none _ => (match e with
      | .non => true
      | _ => false)
    | _ => false)
  | .drop e, st => (match st with
    | .Expr y _ => noComp y && chkE e c sc y
    | .Pass _ => (match e with
      | .non => true
      | _ => false)
    | _ => false)
  | .app a e, st => (match st with
    | .Expr (.Call (.Attribute o f apos) [y] [] cpos) _ => decide (f = ("append" : Str)) && (apos.endLine == cpos.line) && noSuper o && chkE a c sc o && chkE e c sc y
    | _ => false)
  | .ext a e, st => (match st with
    | .Expr (.Call (.Attribute o f apos) [y] [] cpos) _ => decide (f = ("extend" : Str)) && (apos.endLine == cpos.line) && noSuper o && chkE a c sc o && chkE e c sc y
    | _ => false)
  | .dput a k v, st => (match st with
    | .Assign [.Subscript o (.Constant (.str z) _ _) _] y _ => decide (z = k) && noComp y && chkE v c sc y && chkE a c sc o
    | _ => false)
  | .dputk a k v, st => (match st with
    | .Assign [.Subscript o z _] y _ => noComp y && plainIx z && chkE v c sc y && chkE a c sc o && chkE k c sc z
    | _ => false)
  | .ins a i e, st => (match st with
    | .Expr (.Call (.Attribute o f apos) [u, y] [] cpos) _ => decide (f = ("insert" : Str)) && (apos.endLine == cpos.line) && noSuper o && chkE a c sc o && chkE i c sc u && chkE e c sc y
    | _ => false)
  | .rais x es, st => (match st with
    | .Raise (some (.Call (.Name y _) (z :: zs) [] _)) none _ => decide (y = x) && globB sc y && okName y && chkEs es c sc (z :: zs) && ((z :: zs).all notStar) && (c.X.any fun p => decide (p.1 = x) && decide (p.2.length = esLen es))
    | _ => false)
  | .tri i e cs k, st => (match st with
    | .Try [.Assign [.Name x _] y _] [.ExceptHandler (some (.Name hx _)) none [.Assign [.Name x2 _] w _] _] [] [] _ => decide (x2 = x) && decide (c.N[i]? = some x) && locB sc x && noComp y && chkE e c sc y && decide ((hx, cs) ∈ c.Hd) && globB sc hx && okName hx && (match k with
      | .str z => (match w with
        | .Constant (.str z2) _ _ => decide (z2 = z)
        | _ => false)
      | .bl z => (match w with
        | .Constant (.bool z2) _ _ => decide (z2 = z)
        | _ => false)
      | _ => false)
    | _ => false)
  | .tria i e cs yes j g, st => (match st with
    | .Try [.Assign [.Name x _] y _] [.ExceptHandler (some (.Name hx _)) (some n) [.Assign [.Name x2 _] (.Call (.Name g2 _) [.Name n2 _] [] _) _] _] [] [] _ => decide (x2 = x) && decide (n2 = n) && decide (g2 = g) && decide (c.N[i]? = some x) && decide (c.N[j]? = some n) && decide (i ≠ j) && locB sc x && decide (sc.names.lookup n = some .local) && okName n && noComp y && chkE e c sc y && decide ((hx, cs) ∈ c.Hd) && globB sc hx && okName hx && decide ((g, yes) ∈ c.Hn) && globB sc g && okName g
    | _ => false)
  | .never, _ => true
mutual
def chkS (c : Tb) (sc : Scope) : S → Stmt → Bool
  | .x s => fun st => chkX c sc s st
  | .ifs d a b => fun st => match st with
    | .If t x y _ => chkE d c sc t && chkSs c sc a x && chkSs c sc b y
    | _ => false
  | .for tg it b => fun st => match st with
    | .For t iter x [] _ => noSet iter && chkTg c.N (locB sc) tg t && (chkIt it c sc iter && tgOk it t) && chkSs c sc b x
    | _ => false
  | .whl d b => fun st => match st with
    | .While t x [] _ => chkE d c sc t && chkSs c sc b x
    | _ => false
def chkSs (c : Tb) (sc : Scope) : Ss → List Stmt → Bool
  | .nil => fun st => match st with
    | [] => true
    | _ => false
  | .cons s ss => fun st => match st with
    | x :: xs => chkS c sc s x && chkSs c sc ss xs
    | _ => false
end

/-- an except's class -/
def HdGood (K : PySem.W.Frag) (mg : Str → Option Value) (x : Str) (cs : List Str) : Prop :=
  ∃ D, mg x = some (.ref D) ∧ ∀ c ns C, (c, ns) ∈ T.cls → PySem.W.nsIn K mainGlobals c = some (some (.ref C)) → PySem.W.exmOne K (.ref C) (.ref D) = some (cs.contains c)
structure Okd (xi : XI) (c : Tb) (G B : Fns) (X : Cx) : Prop where
  ok : Okc xi c G B X
  cx : ∀ st st', xi st = xi st'
  stk : X.stack = X.env :: X.outer
  frm : X.env.frame = some X.env.locals
  r2 : Room 2 X.A
  ex : ∀ x ns, (x, ns) ∈ c.X → (x, ns) ∈ T.cls ∧ ErrOk X.prog X.w X.K X.mg X.base x ns
  hd : ∀ x cs, (x, cs) ∈ c.Hd → HdGood X.K X.mg x cs
  nh : ∀ g yes, (g, yes) ∈ c.Hn → NoOk X.prog X.w X.K X.mg X.base g yes
  kind : X.env.scope.kind = .function
  all : ∀ x, X.fn x = true
  pass : PassesOwn (model X.prog X.w) X.A X.env X.xe
theorem locB_ok {xi : XI} {c : Tb} {G B : Fns} {X : Cx} (ok : Okd xi c G B X) {x : Str} (h : locB X.env.scope x = true) : L2.Loc X.env.scope x ∧ (X.fn x = true ∨ X.env.scope.names.lookup x = some .local) := by
  refine ⟨?_, .inl (ok.all x)⟩
  unfold locB at h
  unfold L2.Loc
  split at h <;> first | (rename_i e; simp [e]; done) | cases h
section
variable {c : Tb} {G B : Fns} (hB : BiAll c B)
include hB
theorem sndX {xi : XI} {X : Cx} (ok : Okd xi c G B X) {s : Sx} {st : Stmt} (hc : chkX c X.env.scope s st = true) : PS X st (tS X.K xi (evX G B s)) := by
  have tgo : ∀ {t : Tg} {e : Expr}, chkTg c.N (locB X.env.scope) t e = true → PG X e (tG X.K t) := fun h => snd_tg ok.ok.nd ok.ok.ft.calm (fun x hx => locB_ok ok hx) (by rw [ok.ok.N]; exact h)
  cases s with
  | set t e =>
    cases st <;> try (cases hc; done)
    rename_i ts y pos
    rcases ts with _ | ⟨tg, _ | ⟨_, _⟩⟩ <;> try (first | (cases hc; done) | (cases tg <;> (cases hc; done)))
    cases tg <;> try (cases hc; done)
    · rename_i x p
      cases t with
      | many is => cases hc
      | one i =>
        simp only [chkX, Bool.and_eq_true] at hc
        obtain ⟨⟨h1, h2⟩, h3⟩ := hc
        by_cases hn : noComp y = true
        · exact ss_asg hn swapped_name rfl (sndE e _ c hB X _ ok.ok h2).e (tgo h1)
        · cases y <;> try (exact absurd rfl hn)
          · rename_i elt gs scope q
            simp only [noComp, Bool.false_or, Bool.or_eq_true, Bool.and_eq_true, decide_eq_true_eq] at h3
            have h1' := h1
            unfold chkTg at h1'
            rw [Bool.and_eq_true, decide_eq_true_eq] at h1'
            obtain ⟨hi, hl⟩ := h1'
            obtain ⟨l1, l2⟩ := locB_ok ok hl
            rcases h3 with h3 | ⟨⟨h3, h4⟩, h5⟩
            · exact ss_lcs (ps_set ok.ok.nd (by rw [ok.ok.N]; exact hi) l1 (sndE e _ c hB X _ ok.ok h2).e (sw_cell h3) l2) fun st H Q q => q
            · -- the list is stored by the comprehension's own end
              have sw : swapsWith (.ListComp elt gs scope q) (some (.Name x p)) pos.line X.env = pure true := sw_true ok.kind h3 h4 (by simpa using h5)
              cases e <;> try (cases h2; done)
              rename_i elt' tg' it cond
              rcases gs with _ | ⟨⟨t, iter, ifs, a⟩, _ | ⟨_, _⟩⟩ <;> try (cases h2; done)
              simp only [chkE, Bool.and_eq_true, decide_eq_true_eq] at h2
              obtain ⟨⟨⟨⟨⟨⟨⟨rfl, k2⟩, k3⟩, kt⟩, k4⟩, k5⟩, k6⟩, k7⟩ := h2
              have hit := sndIt it _ c hB X _ t ok.ok k3 kt
              have hb : BlkOk X.N X.env.scope scope (ownOf tg' t) := by rw [ok.ok.N]; exact blkOk_by k4
              have hg : ∀ (s : Shared) (H : Hp) (C : Addr) (cl : List (Str × Addr)) (fp : List Addr), PG (X.blk s H scope (compEnvC scope cl C X.env) fp) t (tG X.K tg') := fun s H C cl fp =>
                snd_tg (X := X.blk s H scope (compEnvC scope cl C X.env) fp) (loc := locC scope X.env.scope) ok.ok.nd ok.ok.ft.calm (fun x hx => locC_ok hx) (by rw [show (X.blk s H scope (compEnvC scope cl C X.env) fp).N = c.N from ok.ok.N]; exact k5)
              have he : ∀ (s : Shared) (H : Hp) (C : Addr) (cl : List (Str × Addr)) (fp : List Addr), PE (X.blk s H scope (compEnvC scope cl C X.env) fp) elt (tE X.K xi0 (evE G B elt')) := fun s H C cl fp => (sndE elt' _ c hB (X.blk s H scope (compEnvC scope cl C X.env) fp) elt (ok.ok.blk ..) k7).e
              have fin : ∀ (tt : TT), (∀ (s : Shared) (H : Hp) (C : Addr) (cl : List (Str × Addr)) (fp : List Addr), PTs (X.blk s H scope (compEnvC scope cl C X.env) fp) ifs tt) → (∀ st H Q, tT X.K xi0 (bF (evE G B cond)) st H Q → tt st H Q) →
                  PS X (.Assign [.Name x p] (.ListComp elt [⟨t, iter, ifs, 0⟩] scope q) pos) (tS X.K xi (evX G B (.set (.one i) (.lc elt' tg' it cond)))) := fun tt ht htt => by
                refine ss_lcs (ps_setLc ok.ok.ft.calm ok.ok.nd (by rw [ok.ok.N]; exact hi) h3 sw hit hb hg ht he (folded_of k2)) fun st H Q q => ?_
                rw [ownOf_slots k5]
                exact tLc_of htt q
              rcases ifs with _ | ⟨f, _ | ⟨_, _⟩⟩ <;> try (cases k6; done)
              · cases cond <;> try (cases k6; done)
                rename_i b
                cases b <;> try (cases k6; done)
                refine fin tYes (fun s H C cl fp => pts_nil) fun st H Q q => ?_
                obtain ⟨ev, m, h, re, rh, q⟩ := q
                exact q.now rh
              · exact fin _ (fun s H C cl fp => pts_one (sndE cond _ c hB (X.blk s H scope (compEnvC scope cl C X.env) fp) f (ok.ok.blk ..) k6).t) fun st H Q q => q
          · cases e <;> (cases h2; done)
          · cases e <;> (cases h2; done)
    · simp only [chkX, Bool.and_eq_true] at hc
      obtain ⟨⟨⟨h1, h2⟩, h3⟩, h4⟩ := hc
      exact ss_asg h1 (swapped_of h2) rfl (sndE e _ c hB X _ ok.ok h4).e (tgo h3)
  | par i j a b =>
    unfold chkX at hc
    dsimp only at hc
    split at hc
    · simp only [Bool.and_eq_true, decide_eq_true_eq, Bool.not_eq_true'] at hc
      obtain ⟨⟨⟨⟨⟨⟨⟨⟨⟨⟨h1, h2⟩, h3⟩, h4⟩, h5⟩, h6⟩, h7⟩, h8⟩, h9⟩, h10⟩, h11⟩ := hc
      have A := sndE a _ c hB X _ ok.ok h6
      have Q := sndE b _ c hB X _ ok.ok h7
      exact ss_par ok.ok.ft.calm ok.ok.nd (by rw [ok.ok.N]; exact h1) (by rw [ok.ok.N]; exact h2) h3 h4 h5 A.s Q.s A.e Q.e (sw_par ok.kind h4 h5 h8 h9 A.s Q.s h10 h11)
    · cases hc
  | par3 i j l a b d =>
    unfold chkX at hc
    dsimp only at hc
    split at hc
    · simp only [Bool.and_eq_true, decide_eq_true_eq, Bool.not_eq_true'] at hc
      obtain ⟨⟨⟨⟨⟨⟨⟨⟨⟨⟨⟨⟨⟨⟨⟨⟨⟨⟨h1, h2⟩, h3⟩, h4⟩, h5⟩, h6⟩, h7⟩, h8⟩, h9⟩, k1⟩, k2⟩, k3⟩, l1⟩, l2⟩, n1⟩, n2⟩, n3⟩, f1⟩, f2⟩ := hc
      have A := sndE a _ c hB X _ ok.ok k1
      have Q := sndE b _ c hB X _ ok.ok k2
      have R := sndE d _ c hB X _ ok.ok k3
      exact ss_par3 ok.ok.ft.calm ok.ok.nd (by rw [ok.ok.N]; exact h1) (by rw [ok.ok.N]; exact h2) (by rw [ok.ok.N]; exact h3) h4 h5 h6 h7 h8 h9 A.s Q.s R.s A.e Q.e R.e (sw_par3 ok.kind h7 h8 h9 l1 l2 n1 n2 n3 A.s Q.s R.s f1 f2)
    · cases hc
  | put a i v =>
    cases st <;> try (cases hc; done)
    rename_i ts y pos
    rcases ts with _ | ⟨tg, _ | ⟨_, _⟩⟩ <;> try (first | (cases hc; done) | (cases tg <;> (cases hc; done)))
    cases tg <;> try (cases hc; done)
    simp only [chkX, Bool.and_eq_true] at hc
    obtain ⟨⟨⟨⟨h1, h2⟩, h3⟩, h4⟩, h5⟩ := hc
    exact ss_put h1 h2 (sndE v _ c hB X _ ok.ok h3).e (sndE a _ c hB X _ ok.ok h4).e (sndE i _ c hB X _ ok.ok h5).e
  | augv i op e =>
    cases st <;> try (cases hc; done)
    rename_i tg o y pos
    cases tg <;> try (cases hc; done)
    simp only [chkX, Bool.and_eq_true, decide_eq_true_eq] at hc
    obtain ⟨⟨⟨⟨rfl, h2⟩, h3⟩, h4⟩, h5⟩ := hc
    obtain ⟨l1, l2⟩ := locB_ok ok h4
    exact ss_augv h2 ok.ok.nd (by rw [ok.ok.N]; exact h3) l1 l2 (sndE e _ c hB X _ ok.ok h5).e
  | augp a i op e =>
    cases st <;> try (cases hc; done)
    rename_i tg o y pos
    cases tg <;> try (cases hc; done)
    simp only [chkX, Bool.and_eq_true, decide_eq_true_eq] at hc
    obtain ⟨⟨⟨⟨⟨rfl, h2⟩, h3⟩, h4⟩, h5⟩, h6⟩ := hc
    exact ss_augp rfl h2 h3 (sndE a _ c hB X _ ok.ok h4).e (sndE i _ c hB X _ ok.ok h5).e (sndE e _ c hB X _ ok.ok h6).e
  | ret e =>
    cases st <;> try (cases hc; done)
    rename_i y pos
    cases y with
    | some y => exact ss_ret (sndE e _ c hB X _ ok.ok hc).e
    | none =>
      cases e <;> try (cases hc; done)
      exact ss_retn
  | drop e =>
    cases st <;> try (cases hc; done)
    · simp only [chkX, Bool.and_eq_true] at hc
      exact ss_drop hc.1 (sndE e _ c hB X _ ok.ok hc.2).e
    · cases e <;> try (cases hc; done)
      exact ss_pass
  | app a e =>
    cases st <;> try (cases hc; done)
    rename_i y pos
    cases y <;> try (cases hc; done)
    rename_i f zs kw cpos
    cases f <;> try (cases hc; done)
    rcases zs with _ | ⟨z, _ | ⟨_, _⟩⟩ <;> try (cases hc; done)
    cases kw <;> try (cases hc; done)
    simp only [chkX, Bool.and_eq_true, decide_eq_true_eq] at hc
    obtain ⟨⟨⟨⟨rfl, h2⟩, h3⟩, h4⟩, h5⟩ := hc
    have A := sndE e _ c hB X _ ok.ok h5
    exact ss_app A.s h2 (base_of h3) (sndE a _ c hB X _ ok.ok h4).e A.e rfl
  | ext a e =>
    unfold chkX at hc
    dsimp only at hc
    split at hc
    · simp only [Bool.and_eq_true, decide_eq_true_eq] at hc
      obtain ⟨⟨⟨⟨rfl, h2⟩, h3⟩, h4⟩, h5⟩ := hc
      have A := sndE e _ c hB X _ ok.ok h5
      exact ss_ext A.s h2 (base_of h3) (sndE a _ c hB X _ ok.ok h4).e A.e rfl
    · cases hc
  | ins a i e =>
    unfold chkX at hc
    dsimp only at hc
    split at hc
    · simp only [Bool.and_eq_true, decide_eq_true_eq] at hc
      obtain ⟨⟨⟨⟨⟨rfl, h2⟩, h3⟩, h4⟩, h5⟩, h6⟩ := hc
      have A := sndE e _ c hB X _ ok.ok h6
      have A2 := sndE i _ c hB X _ ok.ok h5
      exact ss_ins A2.s A.s h2 (base_of h3) (sndE a _ c hB X _ ok.ok h4).e A2.e A.e rfl
    · cases hc
  | dputk a k v =>
    unfold chkX at hc
    dsimp only at hc
    split at hc
    · simp only [Bool.and_eq_true] at hc
      obtain ⟨⟨⟨⟨h1, h2⟩, h3⟩, h4⟩, h5⟩ := hc
      exact ss_dputk (by have := ok.ok.ft.hu; omega) h1 h2 (sndE v _ c hB X _ ok.ok h3).e (sndE a _ c hB X _ ok.ok h4).e (sndE k _ c hB X _ ok.ok h5).e
    · cases hc
  | dput a k v =>
    unfold chkX at hc
    dsimp only at hc
    split at hc
    · simp only [Bool.and_eq_true, decide_eq_true_eq] at hc
      obtain ⟨⟨⟨rfl, h2⟩, h3⟩, h4⟩ := hc
      exact ss_dput (by have := ok.ok.ft.hu; omega) h2 (sndE v _ c hB X _ ok.ok h3).e (sndE a _ c hB X _ ok.ok h4).e
    · cases hc
  | rais x es =>
    unfold chkX at hc
    dsimp only at hc
    split at hc
    · simp only [Bool.and_eq_true, decide_eq_true_eq, List.any_eq_true] at hc
      obtain ⟨⟨⟨⟨⟨rfl, h2⟩, h3⟩, h4⟩, h5⟩, ⟨p, hp, rfl, hl⟩⟩ := hc
      obtain ⟨p1, p2⟩ := p
      obtain ⟨hT, ER⟩ := ok.ex _ _ hp
      exact ss_rais hT ER ok.ok.tk ok.ok.ft.calm ok.r2 (glob_ok h2) (okName_d h3).1 (sndEs es _ c hB X _ ok.ok h4).1 h5 (fun ev h xs h1 e => by rw [evEs_len es ev h xs h1 e, ← esLen_len]; exact hl.symm)
    · cases hc
  | tri i e cs k =>
    unfold chkX at hc
    dsimp only at hc
    split at hc
    · rename_i x px y py hx ph x2 px2 w pw pe pt
      simp only [Bool.and_eq_true, decide_eq_true_eq] at hc
      obtain ⟨⟨⟨⟨⟨⟨⟨⟨rfl, h2⟩, h3⟩, h4⟩, h5⟩, h6⟩, h7⟩, h8⟩, h9⟩ := hc
      obtain ⟨D, hD, hE⟩ := ok.hd _ _ h6
      obtain ⟨l1, l2⟩ := locB_ok ok h3
      have hN := show X.N[i]? = some x2 by rw [ok.ok.N]; exact h2
      have body : ∀ (W : WX) (pn : List (Addr × Obj)) (xe : Value → Shared → Prop), L2N.Takes (X.tr pn xe) W → PS (X.tr pn xe) (.Assign [.Name x2 px] y py) (tS X.K (xW X.K W) (asgF (.one i) (evE G B e))) := fun W pn xe tkx => by
        have ok' : Okc (xW X.K W) c G B (X.tr pn xe) := ⟨⟨W, tkx, fun st c fs m H z => z⟩, ⟨ok.ok.ft.calm, ok.ok.ft.hu, ok.ok.ft.hush⟩, ok.ok.N, ok.ok.nd, ok.ok.rng, ok.ok.more, ok.ok.fn, ok.ok.bi, ok.ok.cs, ok.ok.gn⟩
        refine ss_asg h4 swapped_name rfl (sndE e _ c hB (X.tr pn xe) _ ok' h5).e (snd_tg (X := X.tr pn xe) (loc := locB X.env.scope) ok.ok.nd ok.ok.ft.calm (fun x hx => locB_ok ok hx) ?_)
        unfold chkTg
        rw [Bool.and_eq_true, decide_eq_true_eq]
        exact ⟨hN, h3⟩
      cases k <;> try (cases h9; done)
      · rename_i z
        cases w <;> try (cases h9; done)
        rename_i v1 v2 v3
        cases v1 <;> try (cases h9; done)
        simp only [decide_eq_true_eq] at h9
        subst h9
        exact ss_tri (v := .str _) ok.stk ok.frm ok.ok.tk ⟨glob_ok h7, (okName_d h8).1, .inl hD⟩ hE ok.ok.nd hN l1 l2 (fun _ _ => .str) body (fun X' => pe_str) rfl
      · rename_i z
        cases w <;> try (cases h9; done)
        rename_i v1 v2 v3
        cases v1 <;> try (cases h9; done)
        simp only [decide_eq_true_eq] at h9
        subst h9
        exact ss_tri (v := .bl _) ok.stk ok.frm ok.ok.tk ⟨glob_ok h7, (okName_d h8).1, .inl hD⟩ hE ok.ok.nd hN l1 l2 (fun _ _ => .bl) body (fun X' => pe_bl) rfl
    · cases hc
  | tria i e cs yes j g =>
    unfold chkX at hc
    dsimp only at hc
    split at hc
    · rename_i x px y py hx ph n x2 px2 g2 pg n2 pn2 pc pa pe pt
      simp only [Bool.and_eq_true, decide_eq_true_eq] at hc
      obtain ⟨⟨⟨⟨⟨⟨⟨⟨⟨⟨⟨⟨⟨⟨⟨⟨rfl, rfl⟩, rfl⟩, h2⟩, hj⟩, ij⟩, h3⟩, ln⟩, on⟩, h4⟩, h5⟩, h6⟩, h7⟩, h8⟩, h9⟩, g7⟩, g8⟩ := hc
      obtain ⟨D, hD, hE⟩ := ok.hd _ _ h6
      obtain ⟨f, fd, y', hm, hk, hb, F⟩ := ok.nh _ _ h9
      obtain ⟨l1, l2⟩ := locB_ok ok h3
      have hN : X.N[i]? = some x2 := by rw [ok.ok.N]; exact h2
      refine ss_tria ok.stk ok.frm ok.ok.tk ⟨glob_ok h7, (okName_d h8).1, .inl hD⟩ hE ok.ok.nd hN l1 l2 (by rw [ok.ok.N]; exact hj) ln (okName_d on).1 (okName_d on).2 ij F ok.ok.ft.hush ok.r2 (glob_ok g7) hm hk hb (okName_d g8).1 fun W pn xe tkx => ?_
      have ok' : Okc (xW X.K W) c G B (X.tr pn xe) := ⟨⟨W, tkx, fun st c fs m H z => z⟩, ⟨ok.ok.ft.calm, ok.ok.ft.hu, ok.ok.ft.hush⟩, ok.ok.N, ok.ok.nd, ok.ok.rng, ok.ok.more, ok.ok.fn, ok.ok.bi, ok.ok.cs, ok.ok.gn⟩
      refine ss_asg h4 swapped_name rfl (sndE e _ c hB (X.tr pn xe) _ ok' h5).e (snd_tg (X := X.tr pn xe) (loc := locB X.env.scope) ok.ok.nd ok.ok.ft.calm (fun x hx => locB_ok ok hx) ?_)
      unfold chkTg
      rw [Bool.and_eq_true, decide_eq_true_eq]
      exact ⟨hN, h3⟩
    · cases hc
  | never => exact ⟨fun pins s st H D I ⟨ev, m, h, re, rh, q⟩ => q.elim⟩
mutual
theorem sndS : ∀ (s : S) (xi : XI) (X : Cx) (st : Stmt), Okd xi c G B X → chkS c X.env.scope s st = true → PS X st (tS X.K xi (evS G B s))
  | .x s, xi, X, st, ok, hc => sndX hB ok hc
  | .ifs d a b, xi, X, st, ok, hc => by
    cases st <;> try (cases hc; done)
    simp only [chkS, Bool.and_eq_true] at hc
    obtain ⟨⟨h1, h2⟩, h3⟩ := hc
    exact ss_if (sndE d _ c hB X _ ok.ok h1).t (sndSs a _ X _ ok h2) (sndSs b _ X _ ok h3)
  | .for tg it b, xi, X, st, ok, hc => by
    cases st <;> try (cases hc; done)
    rename_i t iter x el p
    cases el <;> try (cases hc; done)
    simp only [chkS, Bool.and_eq_true] at hc
    obtain ⟨⟨⟨h1, h2⟩, h3, ht⟩, h4⟩ := hc
    exact ss_for ok.cx ok.pass ok.ok.ft.calm h1 (sndIt it _ c hB X _ t ok.ok h3 ht) (snd_tg ok.ok.nd ok.ok.ft.calm (fun x hx => locB_ok ok hx) (by rw [ok.ok.N]; exact h2)) (sndSs b _ X _ ok h4)
  | .whl d b, xi, X, st, ok, hc => by
    cases st <;> try (cases hc; done)
    rename_i t x el p
    cases el <;> try (cases hc; done)
    simp only [chkS, Bool.and_eq_true] at hc
    exact ss_whl ok.cx ok.pass (sndE d _ c hB X _ ok.ok hc.1).t (sndSs b _ X _ ok hc.2) 100000
theorem sndSs : ∀ (ss : Ss) (xi : XI) (X : Cx) (st : List Stmt), Okd xi c G B X → chkSs c X.env.scope ss st = true → PSs X st (tS X.K xi (evSs G B ss))
  | .nil, xi, X, st, ok, hc => by
    cases st <;> try (cases hc; done)
    exact sss_nil
  | .cons s ss, xi, X, st, ok, hc => by
    cases st <;> try (cases hc; done)
    simp only [chkSs, Bool.and_eq_true] at hc
    exact sss_cons ok.cx (sndS s _ X _ ok hc.1) (sndSs ss _ X _ ok hc.2)
end
end

/-! ### defs -/
/-- a def as the evaluator has it -/
structure DefT where
  name : Str
  ps : List Str
  N : List Str
  body : Ss
  st : Stmt
  gn : Bool := false
def chkDx (XT HT : List (Str × List Str)) (HN : List (Str × List (Str × List Str))) (C : List (Str × Cst)) (T : List (Str × Nat)) (B : List Str) (d : DefT) : Bool :=
  (match (defScope d.st).kind with | .function => true | _ => false) && !(defScope d.st).isCoroutine && !(defScope d.st).isGenerator && decide d.N.Nodup && decide (d.N.take d.ps.length = d.ps) &&
    (d.ps.all fun x => locB (defScope d.st) x) && ((defScope d.st).names.all fun y => decide (y.2 ≠ .free)) && chkSs ⟨d.N, T, B, C, d.gn, XT, HT, HN⟩ (defScope d.st) d.body (defBody d.st)
abbrev chkDc := chkDx [] [] []
abbrev chkD := chkDc []
theorem chkD_scope {XT HT : List (Str × List Str)} {HN : List (Str × List (Str × List Str))} {C : List (Str × Cst)} {T : List (Str × Nat)} {B : List Str} {d : DefT} (h : chkDx XT HT HN C T B d = true) : FnScope d.N d.ps (defScope d.st) := by
  unfold chkDx at h
  simp only [Bool.and_eq_true, decide_eq_true_eq, List.all_eq_true, Bool.not_eq_true'] at h
  obtain ⟨⟨⟨⟨⟨⟨⟨h1, h2⟩, h3⟩, h4⟩, h5⟩, h6⟩, h7⟩, h8⟩ := h
  refine ⟨?_, h2, h3, h4, h5, fun x hx => ?_, fun y hy => h7 y hy⟩
  · split at h1
    · rename_i e; exact e
    · cases h1
  · have := h6 x hx
    unfold locB at this
    split at this <;> first | (rename_i e; simp [e]; done) | cases this
theorem chkD_body {XT HT : List (Str × List Str)} {HN : List (Str × List (Str × List Str))} {C : List (Str × Cst)} {T : List (Str × Nat)} {B : List Str} {d : DefT} (h : chkDx XT HT HN C T B d = true) : chkSs ⟨d.N, T, B, C, d.gn, XT, HT, HN⟩ (defScope d.st) d.body (defBody d.st) = true := by
  unfold chkDx at h
  rw [Bool.and_eq_true] at h
  exact h.2

section
variable {P : Program} {w : World} {K : PySem.W.Frag} {mg : Str → Option Value} {base : Heap}
/-- where the defs stand -/
structure Stand (K : PySem.W.Frag) (mg : Str → Option Value) (ds : List DefT) (Bn : List Str) (f : Nat → Addr) (fd : Nat → FuncData) : Prop where
  at' : ∀ (i : Nat) d, ds[i]? = some d → FunD K d.name d.name (defArgs d.st) (defBody d.st) (defScope d.st) [] [] (f i) (fd i)
  gl : ∀ (i : Nat) d, ds[i]? = some d → mg d.name = some (.ref (f i))
  bind : ∀ (i : Nat) d, ds[i]? = some d → Binds K (fd i) d.ps []
  bi : ∀ x ∈ Bn, mg x = none ∧ x ≠ "__name__"
  rng : mg "range" = none
  more : ∀ x ∈ coreN, mg x = none

def tab (ds : List DefT) : List (Str × Nat) := ds.map fun d => (d.name, d.ps.length)
def sem (B : Fns) (ds : List DefT) : Nat → Fns
  | 0 => fun _ _ _ => .stuck
  | n + 1 => fun i xs h => match ds[i]? with
    | some d => evF (sem B ds n) B d.N.length d.body xs h
    | none => .stuck
theorem start_env {m : List Addr} {H : Hp} {N : List Str} {vs : List V} {xs : List PV} (r : Reps K m H vs xs) : REnv K m H (L2.start N vs) (xs.map some ++ List.replicate (N.length - xs.length) none) := by
  have hl := r.length
  refine ⟨by simp [L2.start, hl], fun i x e => ?_⟩
  unfold L2.start
  by_cases hi : i < xs.length
  · rw [List.getElem?_append_left (by simpa using hi), List.getElem?_map] at e
    cases ex : xs[i]? with
    | none => rw [ex] at e; cases e
    | some y =>
      rw [ex] at e
      cases e
      obtain ⟨v, h1, h2⟩ := r.get ex
      exact ⟨v, by rw [List.getElem?_append_left (by simp; omega), List.getElem?_map, h1]; rfl, h2⟩
  · rw [List.getElem?_append_right (by simpa using hi)] at e
    obtain ⟨_, z⟩ := List.getElem?_eq_some_iff.mp e
    simp at z
/-- the module's names are so -/
abbrev ConAll (K : PySem.W.Frag) (mg : Str → Option Value) (C : List (Str × Cst)) : Prop := ∀ x k, (x, k) ∈ C → ∃ u v, mg x = some u ∧ RelV v u ∧ ∀ m H, Rep K m H v k.pv
/-- the tables of the defs that have generator expressions -/
abbrev TabsOk (mg : Str → Option Value) (base : Heap) (ds : List DefT) (fd : Nat → FuncData) : Prop := ∀ (i : Nat) d, ds[i]? = some d → d.gn = true → ∃ cc P, (fd i).code = .ref cc ∧ GxR.TabB base mg cc P ∧ P ∈ T.at'
theorem def_ok {XT HT : List (Str × List Str)} {HN : List (Str × List (Str × List Str))} (hNo : ∀ g yes, (g, yes) ∈ HN → NoOk P w K mg base g yes) (hX : ∀ x ns, (x, ns) ∈ XT → (x, ns) ∈ T.cls ∧ ErrOk P w K mg base x ns) (hH : ∀ x cs, (x, cs) ∈ HT → HdGood K mg x cs) {C : List (Str × Cst)} (hC : ConAll K mg C) {ds : List DefT} {Bn : List Str} {B : Fns} {f : Nat → Addr} {fd : Nat → FuncData} (S : Stand K mg ds Bn f fd) (hT : TabsOk mg base ds fd) (hB : ∀ c : Tb, c.B = Bn → BiAll c B) {i : Nat} {d : DefT} (hd : ds[i]? = some d) (hc : chkDx XT HT HN C (tab ds) Bn d = true) {n : Nat} {G : Fns}
    (hG : ∀ (j : Nat) e, ds[j]? = some e → FnG P w K mg base n (f j) (fd j) e.ps.length e.ps (spOf K e.ps.length (G j))) : FnG P w K mg base (n + 3) (f i) (fd i) d.ps.length d.ps (spOf K d.ps.length fun xs h => evF G B d.N.length d.body xs h) := by
  refine FnG.of (S.at' i d hd) (chkD_scope hc) (fun vs H Q E h => h.1) fun cdv A outer s H vs Q E hcd hh hr h => ?_
  obtain ⟨hl, m, h, xs, rh, rxs, p⟩ := h
  refine ⟨tS K (fun _ => xE K E) (evSs G B d.body), ?_, (xs.map some ++ List.replicate (d.N.length - xs.length) none), m, h, start_env rxs, rh, ?_⟩
  · have ok : Okd (fun _ => xE K E) ⟨d.N, tab ds, Bn, C, d.gn, XT, HT, HN⟩ G B (cxOf (L2N.CX P w) P w K mg base d.N d.name (defScope d.st) (f i) cdv A outer s H E) := by
      refine ⟨⟨⟨fun cls d _ H => E cls d H, L2N.takes_of rfl rfl rfl rfl, fun _ _ _ _ _ z => z⟩, ⟨rfl, ?_, hh⟩, rfl, (chkD_scope hc).nd, S.rng, S.more, fun j x k e => ?_, fun j x e => S.bi x (List.mem_of_getElem? e), hC, fun z => ?_⟩, fun _ _ => rfl, rfl, rfl, hr.mono (Nat.le_add_left _ _), hX, hH, hNo, (chkD_scope hc).kind, fun _ => rfl, PassesOwn.leaving⟩
      · have := hr.un
        show (A.deeper _).units + 100 < cLine
        omega
      · have e' : (ds.map fun d => (d.name, d.ps.length))[j]? = some (x, k) := e
        rw [List.getElem?_map] at e'
        cases ej : ds[j]? with
        | none => rw [ej] at e'; cases e'
        | some u =>
          rw [ej] at e'
          cases e'
          exact ⟨f j, fd j, u.ps, n, S.gl j u ej, (S.at' j u ej).kp, S.bind j u ej, hr.mono (by cases d.gn <;> simp [Bool.toNat]), hG j u ej⟩
      · obtain ⟨cc, P, h1, h2, h3⟩ := hT i d hd z
        exact ⟨cc, P, hcd.symm.trans h1, h2, h3, hr.mono (Nat.le_add_left _ _)⟩
    exact sndSs (hB _ rfl) d.body _ _ _ ok (chkD_body hc)
  · unfold evF at p
    refine p.bind fun o h1 m1 H1 g1 rh1 p1 => ?_
    cases o with
    | nx ev => exact fun st' _ => p1.now rh1 _ .non
    | rt x => exact fun v rv => p1.now rh1 v rv
theorem sem_okX {XT HT : List (Str × List Str)} {HN : List (Str × List (Str × List Str))} (hNo : ∀ g yes, (g, yes) ∈ HN → NoOk P w K mg base g yes) (hX : ∀ x ns, (x, ns) ∈ XT → (x, ns) ∈ T.cls ∧ ErrOk P w K mg base x ns) (hH : ∀ x cs, (x, cs) ∈ HT → HdGood K mg x cs) {C : List (Str × Cst)} (hC : ConAll K mg C) {ds : List DefT} {Bn : List Str} {B : Fns} {f : Nat → Addr} {fd : Nat → FuncData} (S : Stand K mg ds Bn f fd) (hT : TabsOk mg base ds fd) (hB : ∀ c : Tb, c.B = Bn → BiAll c B) (hc : ds.all (chkDx XT HT HN C (tab ds) Bn) = true) :
    ∀ (n i : Nat) d, ds[i]? = some d → FnG P w K mg base (3 * n) (f i) (fd i) d.ps.length d.ps (spOf K d.ps.length (sem B ds n i))
  | 0, i, d, _ => ⟨rfl, fun vs H Q E h => h.1, fun _ _ _ _ _ h => by
      obtain ⟨_, m, h, xs, rh, rxs, p⟩ := h
      exact p.elim⟩
  | n + 1, i, d, hd => by
    have q := def_ok (P := P) (w := w) (base := base) hNo hX hH hC S hT hB hd (List.all_eq_true.mp hc d (List.mem_of_getElem? hd)) (sem_okX hNo hX hH hC S hT hB hc n)
    have e : sem B ds (n + 1) i = fun xs h => evF (sem B ds n) B d.N.length d.body xs h := by
      funext xs h
      show (match ds[i]? with
        | some d => evF (sem B ds n) B d.N.length d.body xs h
        | none => .stuck) = _
      rw [hd]
    rw [e]
    exact q
end
end Vm

set_option Elab.async false
set_option linter.all false
set_option maxRecDepth 100000
set_option maxHeartbeats 4000000
/-! VmJ: built-ins. -/
namespace Vm
open PySem PySem.Spec PyProof.Rows L2
variable [Tbs]

def minL : List Int → Int
  | [] => 0
  | [x] => x
  | x :: y :: r => let m := minL (y :: r); if m < x then m else x
def maxL : List Int → Int
  | [] => 0
  | [x] => x
  | x :: y :: r => let m := maxL (y :: r); if m > x then m else x
theorem minL_mem : ∀ {ns : List Int}, ns ≠ [] → minL ns ∈ ns ∧ ∀ y ∈ ns, minL ns ≤ y
  | [], h => absurd rfl h
  | [x], _ => ⟨by simp [minL], by simp [minL]⟩
  | x :: y :: r, _ => by
    obtain ⟨h1, h2⟩ := minL_mem (ns := y :: r) (by simp)
    unfold minL
    dsimp only
    by_cases h : minL (y :: r) < x
    · rw [if_pos h]
      refine ⟨List.mem_cons_of_mem _ h1, fun z hz => ?_⟩
      rcases List.mem_cons.mp hz with rfl | hz
      · omega
      · exact h2 z hz
    · rw [if_neg h]
      refine ⟨List.mem_cons_self, fun z hz => ?_⟩
      rcases List.mem_cons.mp hz with rfl | hz
      · omega
      · have := h2 z hz; omega
theorem maxL_mem : ∀ {ns : List Int}, ns ≠ [] → maxL ns ∈ ns ∧ ∀ y ∈ ns, y ≤ maxL ns
  | [], h => absurd rfl h
  | [x], _ => ⟨by simp [maxL], by simp [maxL]⟩
  | x :: y :: r, _ => by
    obtain ⟨h1, h2⟩ := maxL_mem (ns := y :: r) (by simp)
    unfold maxL
    dsimp only
    by_cases h : maxL (y :: r) > x
    · rw [if_pos h]
      refine ⟨List.mem_cons_of_mem _ h1, fun z hz => ?_⟩
      rcases List.mem_cons.mp hz with rfl | hz
      · omega
      · exact h2 z hz
    · rw [if_neg h]
      refine ⟨List.mem_cons_self, fun z hz => ?_⟩
      rcases List.mem_cons.mp hz with rfl | hz
      · omega
      · have := h2 z hz; omega

def biLen : List PV → IH → Res PV
  | [.str z], h => if z.length ≤ sizeLine then .ok (.int z.length) h else .stuck
  | [x], h => match rd h x with
    | some xs => .ok (.int xs.length) h
    | none => .stuck
  | _, _ => .stuck
def biSum : List PV → IH → Res PV
  | [x], h => match (rd h x).bind intsOf with
    | some ns => .ok (.int ns.sum) h
    | none => .stuck
  | _, _ => .stuck
def biTuple : List PV → IH → Res PV
  | [.str z], h => if z.length ≤ sizeLine then .ok (.tup (signs z)) h else .stuck
  | [x], h => match rd h x with
    | some xs => .ok (.tup xs) h
    | none => .stuck
  | _, _ => .stuck
def biList : List PV → IH → Res PV
  | [x], h => match rd h x with
    | some xs => new h xs
    | none => .stuck
  | _, _ => .stuck
def biDivmod : List PV → IH → Res PV
  | [.int i, .int j], h => if 0 < j ∧ j < 1073741824 then .ok (.tup [.int (i / j), .int (i % j)]) h else .stuck
  | _, _ => .stuck
def biAbs : List PV → IH → Res PV
  | [.int i], h => .ok (.int (if i < 0 then -i else i)) h
  | _, _ => .stuck

def biInt : List PV → IH → Res PV
  | [.int i], h => .ok (.int i) h
  | [.bl b], h => .ok (.int (if b then 1 else 0)) h
  | _, _ => .stuck

theorem Reps.one {K : PySem.W.Frag} {m : List Addr} {H : Hp} {vs : List V} {x : PV} (r : Reps K m H vs [x]) : ∃ v, vs = [v] ∧ Rep K m H v x := by
  cases r with
  | cons r t => cases t; exact ⟨_, rfl, r⟩
theorem Reps.two {K : PySem.W.Frag} {m : List Addr} {H : Hp} {vs : List V} {x y : PV} (r : Reps K m H vs [x, y]) : ∃ v w, vs = [v, w] ∧ Rep K m H v x ∧ Rep K m H w y := by
  cases r with
  | cons r t =>
    obtain ⟨w, rfl, q⟩ := t.one
    exact ⟨_, w, rfl, r, q⟩
section
variable {K : PySem.W.Frag}
theorem bk_len : BiOk K biLen (fun xs H Q => (∃ p ys, xs = [.ref p] ∧ (SqL K H p ys ∨ SqT K H p ys) ∧ Q (.int ys.length) H) ∨ (∃ z, xs = [.str z] ∧ z.length ≤ sizeLine ∧ Q (.int z.length) H)) := by
  intro xi m H h xs vs Q rh rx p
  rcases xs with _ | ⟨x, _ | ⟨_, _⟩⟩
  · exact p.elim
  · obtain ⟨v, rfl, r⟩ := rx.one
    have gen : (Post K xi m H (match rd h x with
      | some xs => .ok (.int xs.length) h
      | none => .stuck) fun z m' H' => ∀ v, Rep K m' H' v z → Q v H') → ∃ p ys, [v] = [V.ref p] ∧ (SqL K H p ys ∨ SqT K H p ys) ∧ Q (.int ys.length) H := fun p' => by
      clear p
      cases e : rd h x with
      | none => rw [e] at p'; exact p'.elim
      | some xs =>
        rw [e] at p'
        obtain ⟨a, vs, rfl, hs, rv⟩ := rd_ok rh r e
        exact ⟨a, vs, rfl, hs, by rw [rv.length]; exact p'.now rh _ .int⟩
    cases x <;> try exact .inl (gen p)
    cases r
    obtain ⟨hl, p⟩ := Post.ite p
    exact .inr ⟨_, rfl, hl, p.now rh _ .int⟩
  · cases x <;> exact p.elim
theorem bk_sum : BiOk K biSum (fun vs H Q => rSum K vs H Q ∨ ∃ (a : Addr) (ns : List Int), vs = [V.ref a] ∧ SqT K H a (ns.map V.int) ∧ Q (.int ns.sum) H) := by
  intro xi m H h xs vs Q rh rx p
  rcases xs with _ | ⟨x, _ | ⟨_, _⟩⟩ <;> try exact p.elim
  obtain ⟨v, rfl, r⟩ := rx.one
  unfold biSum at p
  dsimp only at p
  cases e : (rd h x).bind intsOf with
  | none => rw [e] at p; exact p.elim
  | some ns =>
    rw [e] at p
    obtain ⟨a, rfl, hs | hs⟩ := ints_at rh r e
    · exact .inl ⟨a, ns, rfl, hs, p.now rh _ .int⟩
    · exact .inr ⟨a, ns, rfl, hs, p.now rh _ .int⟩
def rTupS : List V → Hp → VK → Prop := fun xs H Q => ∃ z : Str, xs = [.str z] ∧ z.length ≤ sizeLine ∧ ∀ l : Addr, H l = none → Q (.ref l) (upd H l (.tup ((z.cps.toList.map fun c => (⟨#[c]⟩ : Str)).map V.str)))
theorem vals_signs : ∀ (cs : List Nat) (acc : List Value), acc.length = cs.length → (∀ (j : Nat) v, acc[j]? = some v → ∃ c u, cs[j]? = some c ∧ v = Value.str ⟨#[c]⟩ u) → Vals ((cs.map fun c => (⟨#[c]⟩ : Str)).map V.str) acc
  | [], [], _, _ => .nil
  | [], _ :: _, l, _ => by cases l
  | _ :: _, [], l, _ => by cases l
  | c :: cs, v :: acc, l, h => by
    obtain ⟨c', u, e, rfl⟩ := h 0 v rfl
    cases e
    refine .cons ⟨u, rfl⟩ (vals_signs cs acc (by simpa using l) fun j w hw => ?_)
    have := h (j + 1) w (by simpa using hw)
    simpa using this
theorem cr_tupS {X : Cx} (hc : X.calm = true) : CallR X (.type "tuple") rTupS := by
  intro pins s st H vs us Q I r h
  obtain ⟨z, rfl, hl, q⟩ := h
  obtain ⟨u, rfl, ru⟩ := L2.vals1 r
  obtain ⟨t, rfl⟩ := ru
  refine call_tuple_str (I.ok.hd hc) z t (fun h' tk acc hk ha => ?_) hl
  have I1 := I.kept (h' := h') (t' := tk) hk
  have vv := vals_signs z.cps.toList acc.toList (by rw [Array.length_toList, Array.length_toList]; exact ha.1) fun j v hv => by
    obtain ⟨c, u, e1, e2⟩ := ha.2 j v (by simpa using hv)
    exact ⟨c, u, by simpa using e1, e2⟩
  refine ⟨.ref h'.objs.size, upd H h'.objs.size (.tup ((z.cps.toList.map fun c => (⟨#[c]⟩ : Str)).map V.str)), ?_, rfl, q _ (I1.hok.fresh (Nat.le_refl _))⟩
  exact I1.laid (t' := tk) (fun b ob e => Heap.get?_push_of_some _ e) (Nat.le_refl _) ⟨by rw [List.length_map, List.length_map, Array.length_toList]; exact hl, acc.toList, vv, _, Heap.get?_push_size h' rfl, rfl, 0, rfl⟩
theorem bk_tuple : BiOk K biTuple (fun xs H Q => (∃ p ys, xs = [.ref p] ∧ ((SqL K H p ys ∧ ∀ l, H l = none → Q (.ref l) (upd H l (.tup ys))) ∨ (SqT K H p ys ∧ Q (.ref p) H))) ∨ rTupS xs H Q) := by
  intro xi m H h xs vs Q rh rx p
  rcases xs with _ | ⟨x, _ | ⟨_, _⟩⟩ <;> try (first | exact p.elim | (cases x <;> exact p.elim))
  obtain ⟨v, rfl, r⟩ := rx.one
  by_cases hx : ∃ z, x = .str z
  · obtain ⟨z, rfl⟩ := hx
    unfold biTuple at p
    dsimp only at p
    cases r
    obtain ⟨hl, p⟩ := Post.ite p
    refine .inr ⟨z, rfl, hl, ?_⟩
    have rs : Reps K m H ((z.cps.toList.map fun c => (⟨#[c]⟩ : Str)).map V.str) (signs z) := by
      have := Reps.ofStrs (K := K) (m := m) (H := H) (z.cps.toList.map fun c => (⟨#[c]⟩ : Str))
      rw [List.map_map (f := fun c => (⟨#[c]⟩ : Str)) (g := PV.str)] at this
      exact this
    exact newT_at rh rs p
  · have e0 : biTuple [x] h = match rd h x with
      | some xs => .ok (.tup xs) h
      | none => .stuck := by
      cases x <;> first | rfl | exact absurd ⟨_, rfl⟩ hx
    rw [e0] at p
    cases e : rd h x with
    | none => rw [e] at p; exact p.elim
    | some xs =>
      rw [e] at p
      obtain ⟨a, vs, rfl, hs | hs, rv⟩ := rd_ok rh r e
      · exact .inl ⟨a, vs, rfl, .inl ⟨hs, newT_at rh rv p⟩⟩
      · exact .inl ⟨a, vs, rfl, .inr ⟨hs, p.now rh _ (.tup hs rv)⟩⟩
theorem bk_list : BiOk K biList (fun xs H Q => ∃ p ys, xs = [.ref p] ∧ (SqL K H p ys ∨ SqT K H p ys) ∧ ∀ l, H l = none → Q (.ref l) (upd H l (.lst ys))) := by
  intro xi m H h xs vs Q rh rx p
  rcases xs with _ | ⟨x, _ | ⟨_, _⟩⟩ <;> try exact p.elim
  obtain ⟨v, rfl, r⟩ := rx.one
  unfold biList at p
  dsimp only at p
  cases e : rd h x with
  | none => rw [e] at p; exact p.elim
  | some xs =>
    rw [e] at p
    obtain ⟨a, vs, rfl, hs, rv⟩ := rd_ok rh r e
    exact ⟨a, vs, rfl, hs, (new_at rh rv p).2⟩
theorem bk_divmod : BiOk K biDivmod (fun xs H Q => ∃ i j, xs = [.int i, .int j] ∧ CDiv i j ∧ ∀ p, H p = none → Q (.ref p) (upd H p (.tup [.int (i / j), .int (i % j)]))) := by
  intro xi m H h xs vs Q rh rx p
  rcases xs with _ | ⟨x, _ | ⟨y, _ | ⟨_, _⟩⟩⟩ <;> try (first | exact p.elim | (cases x <;> exact p.elim) | (cases x <;> cases y <;> exact p.elim))
  cases x <;> cases y <;> try exact p.elim
  obtain ⟨v, w, rfl, r1, r2⟩ := rx.two
  cases r1
  cases r2
  obtain ⟨hc, p⟩ := Post.ite p
  exact ⟨_, _, rfl, hc, newT_at rh (.cons .int (.cons .int .nil)) p⟩
theorem bk_int : BiOk K biInt (fun xs H Q => (∃ i, xs = [.int i] ∧ Q (.int i) H) ∨ ∃ k, xs = [.bl k] ∧ Q (.int (if k then 1 else 0)) H) := by
  intro xi m H h xs vs Q rh rx p
  rcases xs with _ | ⟨x, _ | ⟨_, _⟩⟩ <;> try (first | exact p.elim | (cases x <;> exact p.elim))
  cases x <;> try exact p.elim
  · obtain ⟨v, rfl, r⟩ := rx.one
    cases r
    exact .inr ⟨_, rfl, p.now rh _ .int⟩
  · obtain ⟨v, rfl, r⟩ := rx.one
    cases r
    exact .inl ⟨_, rfl, p.now rh _ .int⟩
theorem bk_abs : BiOk K biAbs (fun xs H Q => ∃ i, xs = [.int i] ∧ Q (.int (if i < 0 then -i else i)) H) := by
  intro xi m H h xs vs Q rh rx p
  rcases xs with _ | ⟨x, _ | ⟨_, _⟩⟩ <;> try (first | exact p.elim | (cases x <;> exact p.elim))
  cases x <;> try exact p.elim
  obtain ⟨v, rfl, r⟩ := rx.one
  cases r
  exact ⟨_, rfl, p.now rh _ .int⟩
end

/-! ### sum of a tuple -/
section
variable {prog : Program} {w : World} {A : Around} {E : Value → Shared → Prop} {s : Shared} {l : Addr}
theorem iter_tup {xs : Array (Int × Tok)} {Q : Value → Shared → Prop} (ht : s.heap.IsTuple l (intItems xs))
    (h : ∀ s2 : Shared, s2 = { s with heap := s.heap.push { cls := .type "tuple_iterator", data := .fields #[.ref l, .int 0 0] } } → (s2.heap.IsTupleIter s.heap.objs.size l 0 ∧ s2.heap.IsTuple l (intItems xs)) → (∀ b ∈ [s.heap.objs.size, l], b < s2.heap.objs.size) → l ≠ s.heap.objs.size → Q (.ref s.heap.objs.size) s2) :
    wpAny (model prog w) A (pyIter (.ref l)) Q E s := by
  have lt : l < s.heap.objs.size := by obtain ⟨o, e, _⟩ := ht; exact Heap.lt_size e
  refine wpAny_pyIter_tuple ht (h _ rfl ⟨⟨_, Heap.get?_push_size _ rfl, rfl, rfl⟩, ?_⟩ (fun b hb => ?_) (Nat.ne_of_lt lt))
  · obtain ⟨o, e, c, n, d⟩ := ht
    exact ⟨o, Heap.get?_push_of_some _ e, c, n, d⟩
  · show b < (s.heap.push _).objs.size
    rw [Heap.size_push]
    rcases List.mem_cons.mp hb with rfl | hb
    · exact Nat.lt_succ_self _
    · have : b = l := by simpa using hb
      subst this
      exact Nat.lt_succ_of_lt lt
theorem sum_tup {its : List Value} {ns : List Int} {Q : Value → Shared → Prop} (hh : A.handled = none) (ht : s.heap.IsTuple l its.toArray) (hi : IntsAre its ns)
    (h : ∀ h' tk t', (∀ b o, s.heap.get? b = some o → h'.get? b = some o) → Q (.int ns.sum t') { s with heap := h', toks := tk }) : wpAny (model prog w) A (call (.builtin "sum") [.ref l]) Q E s := by
  obtain ⟨xs, e⟩ := hi.allInts.items
  have hn : numsOf (intItems xs).toList = ns := by rw [← e]; exact hi.numsOf
  rw [nums_intItems] at hn
  rw [e] at ht
  refine PySem.call_sum_walkG (iter_tup ht fun s2 e2 st hfp hl => ?_)
  subst e2
  refine ⟨_, _, _, _, _, _, numAt xs, rfl, Walks.tuple (A := A.in1) hh _ l hl (intItems xs), st, hfp, (fun _ _ => intItems_at), fun h' tk t' hk => ?_⟩
  have q := h h' tk t' fun b o eb => hk b o (fun hm => by
    have : b = s.heap.objs.size := by simpa using hm
    subst this
    exact absurd (Heap.lt_size eb) (Nat.lt_irrefl _)) (Heap.get?_push_of_some _ eb)
  have e3 : preSum (numAt xs) xs.size = ns.sum := by
    rw [preSum_eq, List.take_of_length_le (by simp), hn]
  rw [← e3] at q
  simpa [intItems] using q
end
theorem cr_sumT {X : Cx} (hc : X.calm = true) : CallR X (.builtin "sum") (fun vs H Q => ∃ (a : Addr) (ns : List Int), vs = [V.ref a] ∧ SqT X.K H a (ns.map V.int) ∧ Q (.int ns.sum) H) := by
  intro pins s st H vs us Q I r h
  obtain ⟨a, ns, rfl, hs, q⟩ := h
  obtain ⟨its, rv, ht, _⟩ := I.tuple hs
  rw [Vals.ref1 r]
  exact sum_tup (I.ok.hd hc) ht rv.ints fun h' tk t' hk => ⟨.int _, H, I.kept hk, ⟨_, rfl⟩, q⟩
end Vm

set_option Elab.async false
set_option linter.all false
set_option maxRecDepth 100000
set_option maxHeartbeats 8000000
/-! VmQ: the least of a list of pairs of ints. -/
namespace Vm
open PySem PySem.Spec PyProof.Rows L2

/-- what stood there stands there still, but wr and S -/
abbrev Still (wr : List Addr) (S : Addr) (g g' : Heap) : Prop := ∀ b o, b ∉ wr → b ≠ S → g.get? b = some o → g'.get? b = some o
theorem Still.trans {wr : List Addr} {S : Addr} {g g1 g2 : Heap} (a : Still wr S g g1) (b : Still wr S g1 g2) : Still wr S g g2 := fun c o h1 h2 e => b c o h1 h2 (a c o h1 h2 e)
section
variable {prog : Program} {w : World} {A : Around} {R : Result → Shared → Prop} {I S : Addr} {fp wr : List Addr} {n : Nat} {P : Nat → Value → Prop} {St : Nat → Heap → Prop} {Gd : Heap → Prop}
/-- a compare that rests on what stands in the heap -/
abbrev CmpG (prog : Program) (w : World) (A : Around) (Gd : Heap → Prop) (P : Nat → Value → Prop) (bt : Nat → Nat → Bool) : Prop :=
  ∀ i j x y (s : Shared) (Q E : Value → Shared → Prop), Gd s.heap → P i x → P j y → Q (.bool (bt i j)) s → wpAny (model prog w) A (richCompare .Lt x y) Q E s
theorem least_loop (W : Walks prog w A.in1 I fp wr n P St) (bt : Nat → Nat → Bool) (hG : ∀ g g', Gd g → Still wr S g g' → Gd g') (hcmp : CmpG prog w A.in1 Gd P bt) (nS : S ∉ fp) :
    ∀ (k j : Nat) (s : Shared) (x : Value) (c : Nat), n = k + (j + 1) → St (j + 1) s.heap → Gd s.heap → P (argBest bt j) x → s.heap.get? S = some { cls := .type "list", dict := none, data := .seq #[x, x] c, slots := #[] } →
    (∀ y g tk, P (argBest bt (n - 1)) y → Still wr S s.heap g → R (.ok (.ret y)) { s with heap := g, toks := tk }) → codeAny (model prog w) A (.builtin "min.loop" ⟨[.ref I, .none, .ref S], []⟩) R s
  | 0, j, s, x, c, hn, st, gd, px, oS, fin => by
    refine codeAny_builtin PySem.F.entry_min_loop ?_
    rw [Around.under_plainId PySem.F.plain_min_loop _]
    show wpAny _ A.in1 (seqItems? (.ref S) >>= _) _ _ s
    refine wpAny_bind (wpAny_seqItems oS rfl ?_)
    show wpAny _ A.in1 (tryCatch (pyNext (.ref I)) _ >>= _) _ _ s
    have ej : n = j + 1 := by omega
    refine wpAny_bind (wpAny_tryCatch (W.done s _ _ (by rw [ej]; exact st) fun g tk kp => ?_))
    have oS' := kp S _ (fun z => nS (W.sub _ z)) oS
    show wpAny _ A.in1 (updateSeq S (fun _ => #[]) >>= _) _ _ _
    refine wpAny_bind (wpAny_updateSeq oS' rfl (wpAny_bind (wpAny_letGo (wpAny_pure (fin x _ tk (by rw [ej]; exact px) fun b o h1 h2 e => ?_)))))
    exact (Heap.get?_update_other _ _ (Ne.symm h2)).trans (kp b o h1 e)
  | k + 1, j, s, x, c, hn, st, gd, px, oS, fin => by
    refine codeAny_builtin PySem.F.entry_min_loop ?_
    rw [Around.under_plainId PySem.F.plain_min_loop _]
    show wpAny _ A.in1 (seqItems? (.ref S) >>= _) _ _ s
    refine wpAny_bind (wpAny_seqItems oS rfl ?_)
    show wpAny _ A.in1 (tryCatch (pyNext (.ref I)) _ >>= _) _ _ s
    have lj : j + 1 < n := by omega
    refine wpAny_bind (wpAny_tryCatch (W.item (j + 1) s _ _ lj st fun v g tk pv st' kp => ?_))
    have oS' := kp S _ (fun z => nS (W.sub _ z)) oS
    have k1 : Still wr S s.heap g := fun b o h1 _ e => kp b o h1 e
    show wpAny _ A.in1 (tryCatch (holding [v, v] (richCompare .Lt v x >>= _)) _ >>= _) _ _ _
    refine wpAny_bind (wpAny_tryCatch (wpAny_holding (wpAny_bind (hcmp (j + 1) (argBest bt j) v x _ _ _ (hG _ _ gd k1) pv px ?_))))
    refine wpAny_bind (wpAny_holding (wpAny_truthy_bool (wpAny_bind (wpAny_letGo (wpAny_pure ?_)))))
    have hname : (toString "min" ++ toString ".loop" : String) = "min.loop" := by decide
    cases hb : bt (j + 1) (argBest bt j) with
    | true =>
      simp only [if_true]
      refine wpAny_bind (wpAny_updateSeq oS' rfl (wpAny_bind (wpAny_letGo ?_)))
      rw [hname]
      have k2 : ∀ f, Still wr S g (g.update S f) := fun f b o _ h2 e => (Heap.get?_update_other _ _ (Ne.symm h2)).trans e
      refine wpAny_pure ⟨plainId_quiet PySem.F.plain_min_loop _, least_loop W bt hG hcmp nS k (j + 1) _ v _ (by omega) (W.frame _ _ _ st' fun b hbf o e => ?_) (hG _ _ gd (k1.trans (k2 _))) (by simp only [argBest, hb, if_true]; exact pv) (Heap.get?_update_self _ oS' rfl)
        fun y g2 tk2 py k3 => fin y g2 tk2 py ((k1.trans (k2 _)).trans k3)⟩
      exact (Heap.get?_update_other _ _ (fun z : S = b => nS (by rw [z]; exact hbf))).trans e
    | false =>
      simp only [Bool.false_eq_true, if_false]
      refine wpAny_bind (wpAny_letGo ?_)
      rw [hname]
      exact wpAny_pure ⟨plainId_quiet PySem.F.plain_min_loop _, least_loop W bt hG hcmp nS k (j + 1) _ x c (by omega) st' (hG _ _ gd k1) (by simp only [argBest, hb, Bool.false_eq_true, if_false]; exact px) oS' fun y g2 tk2 py k3 => fin y g2 tk2 py (k1.trans k3)⟩
theorem least_first (W : Walks prog w A.in1 I fp wr n P St) (bt : Nat → Nat → Bool) (hG : ∀ g g', Gd g → Still wr S g g' → Gd g') (hcmp : CmpG prog w A.in1 Gd P bt) (nS : S ∉ fp) (hn : 0 < n) {s : Shared} {c : Nat} (st : St 0 s.heap) (gd : Gd s.heap)
    (oS : s.heap.get? S = some { cls := .type "list", dict := none, data := .seq #[] c, slots := #[] }) (fin : ∀ y g tk, P (argBest bt (n - 1)) y → Still wr S s.heap g → R (.ok (.ret y)) { s with heap := g, toks := tk }) :
    codeAny (model prog w) A (.builtin "min.loop" ⟨[.ref I, .none, .ref S], []⟩) R s := by
  refine codeAny_builtin PySem.F.entry_min_loop ?_
  rw [Around.under_plainId PySem.F.plain_min_loop _]
  show wpAny _ A.in1 (seqItems? (.ref S) >>= _) _ _ s
  refine wpAny_bind (wpAny_seqItems oS rfl ?_)
  show wpAny _ A.in1 (tryCatch (pyNext (.ref I)) _ >>= _) _ _ s
  refine wpAny_bind (wpAny_tryCatch (W.item 0 s _ _ hn st fun v g tk pv st' kp => ?_))
  have oS' := kp S _ (fun z => nS (W.sub _ z)) oS
  have hname : (toString "min" ++ toString ".loop" : String) = "min.loop" := by decide
  show wpAny _ A.in1 (updateSeq S (fun _ => #[v, v]) >>= _) _ _ _
  refine wpAny_bind (wpAny_updateSeq oS' rfl ?_)
  rw [hname]
  have k2 : ∀ f, Still wr S s.heap (g.update S f) := fun f b o h1 h2 e => (Heap.get?_update_other _ _ (Ne.symm h2)).trans (kp b o h1 e)
  refine wpAny_pure ⟨plainId_quiet PySem.F.plain_min_loop _, least_loop W bt hG hcmp nS (n - 1) 0 _ v _ (by omega) (W.frame _ _ _ st' fun b hbf o e => ?_) (hG _ _ gd (k2 _)) pv (Heap.get?_update_self _ oS' rfl) fun y g2 tk2 py k3 => fin y g2 tk2 py ((k2 _).trans k3)⟩
  exact (Heap.get?_update_other _ _ (fun z : S = b => nS (by rw [z]; exact hbf))).trans e
end
section
variable {prog : Program} {w : World} {A : Around} {E : Value → Shared → Prop} {s : Shared}
/-- min(xs) of a list, by a compare that rests on the heap -/
theorem least_list {l : Addr} {us : Array Value} {bt : Nat → Nat → Bool} {Gd : Heap → Prop} {Q : Value → Shared → Prop} (hh : A.handled = none) (hl : s.heap.IsList l us) (hn : 0 < us.size)
    (gd : Gd s.heap) (hG : ∀ g g', Gd g → (∀ b o, b < s.heap.objs.size → g.get? b = some o → g'.get? b = some o) → Gd g') (hcmp : CmpG prog w A.in1 Gd (fun i v => us[i]? = some v) bt)
    (fin : ∀ y g tk, us[argBest bt (us.size - 1)]? = some y → (∀ b o, s.heap.get? b = some o → g.get? b = some o) → Q y { s with heap := g, toks := tk }) : wpAny (model prog w) A (call (.builtin "min") [.ref l]) Q E s := by
  have hname : (toString "min" ++ toString ".loop" : String) = "min.loop" := by decide
  refine call_function_tree PySem.F.kind_min PySem.F.plain_min PySem.F.entry_min (PySem.F.args_min1 _) ?_
  show wpAny _ A.in1 (Builtin.Builtins.bindParams "min" ["key", "default"] 0 ⟨[], []⟩ >>= _) _ _ s
  refine wpAny_bind (wpAny_of_eq (show Builtin.Builtins.bindParams "min" ["key", "default"] 0 ⟨[], []⟩ = pure [none, none] from rfl) ?_)
  refine wpAny_bind (wpAny_pure (wpAny_bind (wpAny_pyIter_list hl (wpAny_bind (wpAny_newObj_type ?_)))))
  have lt : l < s.heap.objs.size := by obtain ⟨o, e, _⟩ := hl; exact Heap.lt_size e
  have nI : l ≠ s.heap.objs.size := Nat.ne_of_lt lt
  generalize hg1 : s.heap.push { cls := .type "list_iterator", data := .fields #[.ref l, .int 0 0] } = g1
  have z1 : g1.objs.size = s.heap.objs.size + 1 := by rw [← hg1]; exact Heap.size_push ..
  have k1 : ∀ b o, s.heap.get? b = some o → g1.get? b = some o := fun b o e => by rw [← hg1]; exact Heap.get?_push_of_some _ e
  have st1 : g1.IsListIter s.heap.objs.size l 0 ∧ g1.IsList l us := by
    rw [← hg1]
    exact ⟨⟨_, Heap.get?_push_size _ rfl, rfl, rfl⟩, hl.push _⟩
  have nS : g1.objs.size ∉ [s.heap.objs.size, l] := by
    rw [z1]
    intro z
    rcases List.mem_cons.mp z with z | z
    · exact Nat.ne_of_gt (Nat.lt_succ_self _) z
    · exact Nat.ne_of_gt (Nat.lt_succ_of_lt lt) (List.mem_singleton.mp z)
  have W := Walks.list (prog := prog) (w := w) (A := A.in1) hh s.heap.objs.size l nI us
  rw [hname]
  refine wpAny_pure ⟨plainId_quiet PySem.F.plain_min_loop _, least_first (Gd := Gd) W bt (fun g g' gg kk => hG g g' gg fun b o hb e => kk b o (fun z => ?_) (fun z => ?_) e) hcmp nS hn (W.frame _ _ _ st1 fun b _ o e => Heap.get?_push_of_some _ e)
    (hG _ _ gd fun b o _ e => Heap.get?_push_of_some _ (k1 b o e)) (Heap.get?_push_size _ rfl) fun y g tk py kk => fin y g tk py fun b o e => kk b o (fun z => ?_) (fun z => ?_) (Heap.get?_push_of_some _ (k1 b o e))⟩
  · exact Nat.ne_of_lt hb (List.mem_singleton.mp z)
  · rw [z] at hb
    exact Nat.not_lt.mpr (by rw [z1]; exact Nat.le_succ _) hb
  · exact Nat.ne_of_lt (Heap.lt_size e) (List.mem_singleton.mp z)
  · have hb := Heap.lt_size e
    rw [z] at hb
    exact Nat.not_lt.mpr (by rw [z1]; exact Nat.le_succ _) hb
end
end Vm

set_option Elab.async false
set_option linter.all false
set_option maxRecDepth 100000
set_option maxHeartbeats 4000000
/-! VmV: what things are shown as. -/
namespace Vm
open PySem PySem.Spec PyProof.Rows L2
variable [Tbs]
def rShow (K : PySem.W.Frag) : List V → Hp → VK → Prop := fun xs H Q => ∃ (a : Addr) (d : PyData), xs = [.ref a] ∧ Dp K H (.ref a) d ∧ d.showable = true ∧ d.hasDict = false ∧ d.depth ≤ 40 ∧ d.shown.length ≤ sizeLine ∧ Q (.str d.shown) H
theorem cr_show {X : Cx} (ft : Fit X) : CallR X (.builtin "repr") (rShow X.K) := by
  intro pins s σ H xs us Q I r h
  obtain ⟨a, d, rfl, dp, hs, hd, hz, hl, q⟩ := h
  obtain ⟨u, rfl, ru⟩ := vals1 r
  cases ru
  obtain ⟨as, rd⟩ := Dp.reads I d _ _ dp rfl
  have hu := ft.hu
  exact repr_of_reads' rd hs (fun z => absurd (hd.symm.trans z) (by decide)) ft.hush (by omega) (fun _ _ e => e) (fun h' u tk k => ⟨.str d.shown, H, I.kept (t' := tk) k, ⟨u, rfl⟩, q⟩) hl
def bsOf : List PV → Option (List Bool)
  | [] => some []
  | .bl b :: xs => (bsOf xs).map (b :: ·)
  | _ => none
theorem bsOf_eq : ∀ {xs : List PV} {bs : List Bool}, bsOf xs = some bs → xs = bs.map PV.bl
  | [], bs, h => by cases h; rfl
  | x :: xs, bs, h => by
    cases x <;> try (cases h; done)
    unfold bsOf at h
    cases e : bsOf xs with
    | none => rw [e] at h; cases h
    | some ms =>
      rw [e] at h
      cases h
      rw [bsOf_eq e]
      rfl
@[simp] theorem bsOf_map : ∀ bs : List Bool, bsOf (bs.map PV.bl) = some bs
  | [] => rfl
  | b :: bs => by
    show (bsOf (bs.map PV.bl)).map (b :: ·) = _
    rw [bsOf_map bs]
    rfl
theorem Reps.bls {K : PySem.W.Frag} {m : List Addr} {H : Hp} : ∀ {vs : List V} {bs : List Bool}, Reps K m H vs (bs.map PV.bl) → vs = bs.map V.bl
  | _, [], .nil => rfl
  | _, b :: bs, .cons r t => by cases r; rw [Reps.bls t]; rfl
def seqB : PV → Bool
  | .tup _ => true
  | .fl _ => true
  | .ref _ => true
  | _ => false
def showF (x : PV) (h : IH) : Res PV := match dataOf h 40 x with
  | some d => if d.showable = true ∧ d.hasDict = false ∧ d.depth ≤ 40 ∧ d.shown.length ≤ sizeLine then .ok (.str d.shown) h else .stuck
  | none => .stuck
def rShow0 : List V → Hp → VK → Prop := fun xs H Q => (xs = [.non] ∧ Q (.str "None") H) ∨ (∃ b, xs = [.bl b] ∧ Q (.str (if b then "True" else "False")) H) ∨ ∃ z : Str, xs = [.str z] ∧ (reprText z).length ≤ sizeLine ∧ Q (.str (reprText z)) H
theorem cr_show0 {X : Cx} : CallR X (.builtin "repr") rShow0 := by
  intro pins s σ H xs us Q I r h
  rcases h with ⟨rfl, q⟩ | ⟨b, rfl, q⟩ | ⟨z, rfl, hl, q⟩
  · obtain ⟨u, rfl, rfl⟩ := vals1 r
    exact PySem.P.repr_of_none ⟨.str _, H, I.tok _, ⟨_, rfl⟩, q⟩
  · obtain ⟨u, rfl, rfl⟩ := vals1 r
    exact PySem.P.repr_of_bool ⟨.str _, H, I.tok _, ⟨_, rfl⟩, q⟩
  · obtain ⟨u, rfl, t, rfl⟩ := vals1 r
    exact PySem.P.repr_of_str ⟨.str _, H, I.tok _, ⟨_, rfl⟩, q⟩ hl
def biAny : List PV → IH → Res PV
  | [.ref a], h => match h[a]? with
    | some (.lst xs) => (match bsOf xs with
      | some bs => .ok (.bl (bs.any id)) h
      | none => .stuck)
    | _ => .stuck
  | _, _ => .stuck
def biAll : List PV → IH → Res PV
  | [.ref a], h => match h[a]? with
    | some (.lst xs) => (match bsOf xs with
      | some bs => .ok (.bl (bs.all id)) h
      | none => .stuck)
    | _ => .stuck
  | _, _ => .stuck
def biRepr : List PV → IH → Res PV
  | [.non], h => .ok (.str "None") h
  | [.bl b], h => .ok (.str (if b then "True" else "False")) h
  | [.str z], h => if (reprText z).length ≤ sizeLine then .ok (.str (reprText z)) h else .stuck
  | [.int i], h => if i.natAbs.log2 < 1920 then .ok (.str (toString i)) h else .stuck
  | [.tup xs], h => showF (.tup xs) h
  | [.fl xs], h => showF (.fl xs) h
  | [.ref a], h => showF (.ref a) h
  | _, _ => .stuck
section
variable {K : PySem.W.Frag} {xj : XJ} {xi : XI} {m : List Addr} {H : Hp} {h : IH}
theorem show_at {x : PV} {v : V} {Q : VK} (rh : RelH K m H h) (r : Rep K m H v x) (hv : ∃ a, v = .ref a) (p : Post K xj m H (showF x h) fun z m' H' => ∀ v, Rep K m' H' v z → Q v H') : rShow K [v] H Q := by
  obtain ⟨a, rfl⟩ := hv
  unfold showF at p
  cases e : dataOf h 40 x with
  | none => rw [e] at p; exact p.elim
  | some d =>
    rw [e] at p
    obtain ⟨⟨h1, h2, h3, h4⟩, p⟩ := Post.ite p
    exact ⟨a, d, rfl, data_ok rh 40 x _ d r e, h1, h2, h3, h4, p.now rh _ .str⟩
theorem bk_repr : BiOk K biRepr (fun vs H Q => rShow0 vs H Q ∨ ((∃ i, vs = [.int i] ∧ i.natAbs.log2 < 1920 ∧ Q (.str (toString i)) H) ∨ rShow K vs H Q)) := by
  intro xi m H h xs vs Q rh rx p
  rcases xs with _ | ⟨x, _ | ⟨_, _⟩⟩
  · exact p.elim
  · obtain ⟨v, rfl, r⟩ := rx.one
    cases x <;> try exact p.elim
    · cases r
      exact .inl (.inl ⟨rfl, p.now rh _ .str⟩)
    · cases r
      exact .inl (.inr (.inl ⟨_, rfl, p.now rh _ .str⟩))
    · cases r
      obtain ⟨hl, p⟩ := Post.ite p
      exact .inr (.inl ⟨_, rfl, hl, p.now rh _ .str⟩)
    · cases r
      obtain ⟨hl, p⟩ := Post.ite p
      exact .inl (.inr (.inr ⟨_, rfl, hl, p.now rh _ .str⟩))
    · refine .inr (.inr (show_at rh r ?_ p))
      cases r; exact ⟨_, rfl⟩
    · refine .inr (.inr (show_at rh r ?_ p))
      cases r; exact ⟨_, rfl⟩
    · refine .inr (.inr (show_at rh r ?_ p))
      cases r; exact ⟨_, rfl⟩
  · cases x <;> exact p.elim
theorem bls_at {a : Nat} {v : V} {xs : List PV} {bs : List Bool} (rh : RelH K m H h) (r : Rep K m H v (.ref a)) (e : h[a]? = some (.lst xs)) (e2 : bsOf xs = some bs) : ∃ l, v = .ref l ∧ SqL K H l (bs.map V.bl) := by
  obtain ⟨l, vs, rfl, _, hl, rv⟩ := lst_at rh r e
  have e3 := bsOf_eq e2
  subst e3
  rw [rv.bls] at hl
  exact ⟨l, rfl, .inl (.inl hl)⟩
theorem bk_any : BiOk K biAny (rAny K) := by
  intro xi m H h xs vs Q rh rx p
  rcases xs with _ | ⟨x, _ | ⟨_, _⟩⟩
  · exact p.elim
  · obtain ⟨v, rfl, r⟩ := rx.one
    cases x <;> try exact p.elim
    rename_i a
    unfold biAny at p
    dsimp only at p
    cases e : h[a]? with
    | none => rw [e] at p; exact p.elim
    | some o =>
      cases o with
      | dct _ => rw [e] at p; exact p.elim
      | lst ys =>
        rw [e] at p
        dsimp only at p
        cases e2 : bsOf ys with
        | none => rw [e2] at p; exact p.elim
        | some bs =>
          rw [e2] at p
          obtain ⟨l, rfl, hs⟩ := bls_at rh r e e2
          exact ⟨l, bs, rfl, hs, p.now rh _ .bl⟩
  · cases x <;> exact p.elim
theorem bk_all : BiOk K biAll (rAll K) := by
  intro xi m H h xs vs Q rh rx p
  rcases xs with _ | ⟨x, _ | ⟨_, _⟩⟩
  · exact p.elim
  · obtain ⟨v, rfl, r⟩ := rx.one
    cases x <;> try exact p.elim
    rename_i a
    unfold biAll at p
    dsimp only at p
    cases e : h[a]? with
    | none => rw [e] at p; exact p.elim
    | some o =>
      cases o with
      | dct _ => rw [e] at p; exact p.elim
      | lst ys =>
        rw [e] at p
        dsimp only at p
        cases e2 : bsOf ys with
        | none => rw [e2] at p; exact p.elim
        | some bs =>
          rw [e2] at p
          obtain ⟨l, rfl, hs⟩ := bls_at rh r e e2
          exact ⟨l, bs, rfl, hs, p.now rh _ .bl⟩
  · cases x <;> exact p.elim
end
end Vm

set_option Elab.async false
set_option linter.all false
set_option maxRecDepth 100000
set_option maxHeartbeats 8000000
/-! VmR: min, max. -/
namespace Vm
open PySem PySem.Spec PyProof.Rows L2
variable [Tbs]

def rowsOf : List PV → Option (List (List Int))
  | [] => some []
  | .tup xs :: r => (intsOf xs).bind fun ns => (rowsOf r).map (ns :: ·)
  | _ => none
theorem rowsOf_eq : ∀ {xs : List PV} {rs : List (List Int)}, rowsOf xs = some rs → xs = rs.map fun ns => .tup (ns.map PV.int)
  | [], rs, h => by cases h; rfl
  | x :: xs, rs, h => by
    cases x <;> try (cases h; done)
    unfold rowsOf at h
    rename_i ys
    cases e : intsOf ys with
    | none => rw [e] at h; cases h
    | some ns =>
      rw [e] at h
      cases e2 : rowsOf xs with
      | none => rw [e2] at h; cases h
      | some ms =>
        rw [e2] at h
        cases h
        rw [rowsOf_eq e2, intsOf_eq e]
        rfl
@[simp] theorem rowsOf_map : ∀ rs : List (List Int), rowsOf (rs.map fun ns => .tup (ns.map PV.int)) = some rs
  | [] => rfl
  | n :: ns => by
    show (intsOf (n.map PV.int)).bind _ = _
    rw [intsOf_map]
    show (rowsOf (ns.map fun ns => .tup (ns.map PV.int))).map (n :: ·) = _
    rw [rowsOf_map ns]
    rfl
def leastI (rs : List (List Int)) : Nat := argBest (fun i j => HT.lexLt (rs.getD i []) (rs.getD j [])) (rs.length - 1)
def leastR (rs : List (List Int)) : List Int := rs.getD (leastI rs) []
theorem argBest_le (bt : Nat → Nat → Bool) : ∀ k, argBest bt k ≤ k
  | 0 => Nat.le_refl 0
  | k + 1 => by
    unfold argBest
    split
    · exact Nat.le_refl _
    · exact Nat.le_succ_of_le (argBest_le bt k)
theorem leastI_lt {rs : List (List Int)} (h : 0 < rs.length) : leastI rs < rs.length := by
  have := argBest_le (fun i j => HT.lexLt (rs.getD i []) (rs.getD j [])) (rs.length - 1)
  unfold leastI
  omega
theorem leastR_mem {rs : List (List Int)} (h : 0 < rs.length) : leastR rs ∈ rs := by
  unfold leastR
  rw [List.getD_eq_getElem?_getD, List.getElem?_eq_getElem (leastI_lt h)]
  exact List.getElem_mem _
def biMin : List PV → IH → Res PV
  | [.int i, .int j], h => .ok (.int (if j < i then j else i)) h
  | [.tup _], _ => .stuck
  | [x], h => match rd h x with
    | some xs => (match intsOf xs with
      | some ns => if 0 < ns.length then .ok (.int (minL ns)) h else .stuck
      | none => match rowsOf xs with
        | some rs => if 0 < rs.length then .ok (.tup ((leastR rs).map PV.int)) h else .stuck
        | none => .stuck)
    | none => .stuck
  | _, _ => .stuck
def biMax : List PV → IH → Res PV
  | [.int i, .int j], h => .ok (.int (if j > i then j else i)) h
  | [.tup _], _ => .stuck
  | [x], h => match (rd h x).bind intsOf with
    | some ns => if 0 < ns.length then .ok (.int (maxL ns)) h else .stuck
    | none => .stuck
  | _, _ => .stuck
theorem valsR : ∀ {ps : List V} {us : List Value} {i : Nat} {v : Value}, Vals ps us → us[i]? = some v → ∃ p, ps[i]? = some p ∧ L2.RelV p v
  | _, _, i, v, .nil, e => by simp at e
  | _, _, 0, v, .cons r t, e => by cases e; exact ⟨_, rfl, r⟩
  | p :: ps, u :: us, i + 1, v, .cons r t, e => by
    have q := valsR (ps := ps) (us := us) (i := i) t (by simpa using e)
    simpa using q
section
variable {X : Cx}
def rMinR (K : PySem.W.Frag) : List V → Hp → VK → Prop := fun vs H Q => ∃ (a : Addr) (ps : List V) (rs : List (List Int)), vs = [V.ref a] ∧ SqL K H a ps ∧ ps.length = rs.length ∧ 0 < rs.length ∧
  (∀ (i : Nat) p, ps[i]? = some p → ∃ b, p = .ref b ∧ SqT K H b ((rs.getD i []).map V.int)) ∧ ∀ p, ps[leastI rs]? = some p → Q p H
theorem cr_minR (ft : Fit X) : CallR X (.builtin "min") (rMinR X.K) := by
  intro pins s st H vs us Q I r h
  obtain ⟨a, ps, rs, rfl, hs, hlen, h0, hr, q⟩ := h
  obtain ⟨its, rv, hl, _⟩ := I.list hs
  rw [Vals.ref1 r]
  have zl : its.toArray.size = rs.length := by rw [List.size_toArray, ← rv.length, hlen]
  have at1 : ∀ (i : Nat) v, its.toArray[i]? = some v → ∃ b, v = .ref b ∧ SqT X.K H b ((rs.getD i []).map V.int) := fun i v e => by
    have e' : its[i]? = some v := by simpa using e
    obtain ⟨p, e1, e2⟩ := valsR rv e'
    obtain ⟨b, rfl, hb⟩ := hr i p e1
    cases e2
    exact ⟨b, rfl, hb⟩
  refine least_list (bt := fun i j => HT.lexLt (rs.getD i []) (rs.getD j [])) (Gd := fun g => ∀ (i : Nat) b, its.toArray[i]? = some (.ref b) → b < s.heap.objs.size ∧ ∃ zs : List Value, IsTup g b zs.toArray ∧ IntsAre zs (rs.getD i []))
    (I.ok.hd ft.calm) hl.isList (by rw [zl]; exact h0) (fun i b e => ?_) (fun g g' gg kk i b e => ?_) (fun i j x y s2 Q2 E2 gd ex ey q2 => ?_) fun y g tk ey kk => ?_
  · obtain ⟨b', e1, hb⟩ := at1 i _ e
    cases e1
    obtain ⟨zs, r1, p1, _⟩ := I.tuple hb
    refine ⟨?_, zs, p1, r1.ints⟩
    obtain ⟨o, e2, _⟩ := p1
    exact Heap.lt_size e2
  · obtain ⟨lt, zs, ⟨o, e1, e2⟩, z⟩ := gg i b e
    exact ⟨lt, zs, ⟨o, kk b o lt e1, e2⟩, z⟩
  · obtain ⟨b, rfl, _⟩ := at1 i _ ex
    obtain ⟨d, rfl, _⟩ := at1 j _ ey
    obtain ⟨_, zs, p1, i1⟩ := gd i b ex
    obtain ⟨_, ws, p2, i2⟩ := gd j d ey
    have hu := ft.hu
    exact HT.lt_tupInts p1 p2 (by simpa using i1) (by simpa using i2) (by show X.A.units + 1 < cLine; omega) q2
  · rw [zl] at ey
    have e' : its[leastI rs]? = some y := by simpa [leastI] using ey
    obtain ⟨p, e1, e2⟩ := valsR rv e'
    exact ⟨p, H, I.kept kk, e2, q p e1⟩
theorem CallR.or {f : Value} {r1 r2 : List V → Hp → VK → Prop} (h1 : CallR X f r1) (h2 : CallR X f r2) : CallR X f fun vs H Q => r1 vs H Q ∨ r2 vs H Q := by
  intro pins s st H vs us Q I r h
  rcases h with h | h
  · exact h1 pins s st H vs us Q I r h
  · exact h2 pins s st H vs us Q I r h
end
section
variable {K : PySem.W.Frag}
theorem seqL_at {m : List Addr} {H : Hp} {h : IH} {x : PV} {v : V} {xs : List PV} (rh : RelH K m H h) (r : Rep K m H v x) (nt : ∀ ys, x ≠ .tup ys) (e : rd h x = some xs) : ∃ p vs, v = .ref p ∧ SqL K H p vs ∧ Reps K m H vs xs := by
  cases x with
  | tup ys => exact absurd rfl (nt ys)
  | fl ys => cases r with | fl h1 h2 => cases e; exact ⟨_, _, rfl, h1.sq, h2⟩
  | ref a =>
    cases r with
    | ref hp =>
      cases hy : h[a]? with
      | none => simp [rd, hy] at e
      | some o =>
        cases o with
        | lst ys =>
          simp [rd, hy] at e
          subst e
          obtain ⟨vs, h1, h2⟩ := rh.at' a _ _ hy hp
          exact ⟨_, vs, rfl, .inl (.inl h1), h2⟩
        | dct ys => simp [rd, hy] at e
  | _ => cases e
theorem bk_min : BiOk K biMin (fun vs H Q => (∃ i j, vs = [.int i, .int j] ∧ Q (.int (if j < i then j else i)) H) ∨ (rMin K vs H Q ∨ rMinR K vs H Q)) := by
  intro xi m H h xs vs Q rh rx p
  rcases xs with _ | ⟨x, _ | ⟨y, _ | ⟨_, _⟩⟩⟩
  · exact p.elim
  · obtain ⟨v, rfl, r⟩ := rx.one
    have gen : (∀ ys, x ≠ .tup ys) → (Post K xi m H (match rd h x with
      | some xs => (match intsOf xs with
        | some ns => if 0 < ns.length then .ok (.int (minL ns)) h else .stuck
        | none => match rowsOf xs with
          | some rs => if 0 < rs.length then .ok (.tup ((leastR rs).map PV.int)) h else .stuck
          | none => .stuck)
      | none => .stuck) fun z m' H' => ∀ v, Rep K m' H' v z → Q v H') → rMin K [v] H Q ∨ rMinR K [v] H Q := fun nt p' => by
      clear p
      cases e : rd h x with
      | none => rw [e] at p'; exact p'.elim
      | some xs =>
        rw [e] at p'
        dsimp only at p'
        obtain ⟨a, vs, rfl, hs, rv⟩ := seqL_at rh r nt e
        cases e1 : intsOf xs with
        | some ns =>
          have e2 := intsOf_eq e1
          rw [e1] at p'
          obtain ⟨h0, p2⟩ := Post.ite p'
          clear e1 p'
          subst e2
          rw [rv.ints] at hs
          refine .inl ⟨a, ns, rfl, hs, h0, fun k hk hm => ?_⟩
          have ne : ns ≠ [] := fun z => by rw [z] at h0; exact absurd h0 (by simp)
          obtain ⟨g1, g2⟩ := minL_mem ne
          have ek : k = minL ns := by
            have := hm _ g1
            have := g2 _ hk
            omega
          rw [ek]
          exact p2.now rh _ .int
        | none =>
          rw [e1] at p'
          dsimp only at p'
          cases e2 : rowsOf xs with
          | none => rw [e2] at p'; exact p'.elim
          | some rs =>
            rw [e2] at p'
            obtain ⟨h0, p'⟩ := Post.ite p'
            have e3 := rowsOf_eq e2
            subst e3
            have hl := rv.length
            rw [List.length_map] at hl
            have atp : ∀ (i : Nat) p, vs[i]? = some p → ∃ b ws, p = .ref b ∧ SqT K H b ws ∧ Reps K m H ws ((rs.getD i []).map PV.int) ∧ Rep K m H p (.tup ((rs.getD i []).map PV.int)) := fun i p e => by
              have li : i < rs.length := by rw [← hl]; exact (List.getElem?_eq_some_iff.mp e).1
              have ex : (rs.map fun ns => PV.tup (ns.map PV.int))[i]? = some (.tup ((rs.getD i []).map PV.int)) := by
                rw [List.getElem?_map, List.getElem?_eq_getElem li, List.getD_eq_getElem?_getD, List.getElem?_eq_getElem li]
                rfl
              obtain ⟨p2, e1, e2⟩ := rv.get ex
              rw [e] at e1
              cases e1
              obtain ⟨b, ws, rfl, h1, h2⟩ := tup_at e2
              exact ⟨b, ws, rfl, h1, h2, e2⟩
            refine .inr ⟨a, vs, rs, rfl, hs, hl, h0, fun i p e => ?_, fun p e => ?_⟩
            · obtain ⟨b, ws, rfl, h1, h2, _⟩ := atp i p e
              rw [h2.ints] at h1
              exact ⟨b, rfl, h1⟩
            · obtain ⟨b, ws, _, _, _, h3⟩ := atp _ p e
              exact p'.now rh _ h3
    cases x <;> first | exact .inr (gen (fun ys z => nomatch z) p) | exact p.elim
  · cases x <;> cases y <;> try exact p.elim
    obtain ⟨v, w, rfl, r1, r2⟩ := rx.two
    cases r1
    cases r2
    exact .inl ⟨_, _, rfl, p.now rh _ .int⟩
  · cases x <;> cases y <;> exact p.elim
theorem bk_max : BiOk K biMax (fun vs H Q => (∃ i j, vs = [.int i, .int j] ∧ Q (.int (if j > i then j else i)) H) ∨ rMax K vs H Q) := by
  intro xi m H h xs vs Q rh rx p
  rcases xs with _ | ⟨x, _ | ⟨y, _ | ⟨_, _⟩⟩⟩
  · exact p.elim
  · obtain ⟨v, rfl, r⟩ := rx.one
    have gen : (∀ ys, x ≠ .tup ys) → (Post K xi m H (match (rd h x).bind intsOf with
      | some ns => if 0 < ns.length then .ok (.int (maxL ns)) h else .stuck
      | none => .stuck) fun z m' H' => ∀ v, Rep K m' H' v z → Q v H') → rMax K [v] H Q := fun nt p' => by
      clear p
      cases e : rd h x with
      | none => rw [e] at p'; exact p'.elim
      | some xs =>
        rw [e] at p'
        obtain ⟨a, vs, rfl, hs, rv⟩ := seqL_at rh r nt e
        rw [Option.bind_some] at p'
        cases e1 : intsOf xs with
        | none => rw [e1] at p'; exact p'.elim
        | some ns =>
          rw [e1] at p'
          obtain ⟨h0, p'⟩ := Post.ite p'
          have e2 := intsOf_eq e1
          subst e2
          rw [rv.ints] at hs
          refine ⟨a, ns, rfl, hs, h0, fun k hk hm => ?_⟩
          have ne : ns ≠ [] := fun z => by rw [z] at h0; exact absurd h0 (by simp)
          obtain ⟨g1, g2⟩ := maxL_mem ne
          have ek : k = maxL ns := by
            have := hm _ g1
            have := g2 _ hk
            omega
          rw [ek]
          exact p'.now rh _ .int
    cases x <;> first | exact .inr (gen (fun ys z => nomatch z) p) | exact p.elim
  · cases x <;> cases y <;> try exact p.elim
    obtain ⟨v, w, rfl, r1, r2⟩ := rx.two
    cases r1
    cases r2
    exact .inl ⟨_, _, rfl, p.now rh _ .int⟩
  · cases x <;> cases y <;> exact p.elim
end

/-! ### the table -/
def Bn : List Str := ["len", "sum", "tuple", "list", "divmod", "abs", "min", "max", "int", "repr", "any", "all"]
def Bf : Fns := fun i => match i with
  | 0 => biLen
  | 1 => biSum
  | 2 => biTuple
  | 3 => biList
  | 4 => biDivmod
  | 5 => biAbs
  | 6 => biMin
  | 7 => biMax
  | 8 => biInt
  | 9 => biRepr
  | 10 => biAny
  | 11 => biAll
  | _ => fun _ _ => .stuck
theorem hBi : ∀ c : Tb, c.B = Bn → BiAll c Bf := by
  intro c hc X ft i x hx
  rw [hc] at hx
  rcases i with _ | _ | _ | _ | _ | _ | _ | _ | _ | _ | _ | _ | i
  · cases hx; exact .inl ⟨"len", _, rfl, call_len_seq.or call_len_str, bk_len⟩
  · cases hx; exact .inl ⟨"sum", _, rfl, (cr_sum ft.calm).or (cr_sumT ft.calm), bk_sum⟩
  · cases hx; exact .inr ⟨"tuple", _, rfl, call_tuple_of.or (cr_tupS ft.calm), bk_tuple⟩
  · cases hx; exact .inr ⟨"list", _, rfl, call_list_of, bk_list⟩
  · cases hx; exact .inl ⟨"divmod", _, rfl, call_divmod, bk_divmod⟩
  · cases hx; exact .inl ⟨"abs", _, rfl, call_abs, bk_abs⟩
  · cases hx; exact .inl ⟨"min", _, rfl, (call_min2 ft.calm).or ((cr_min ft.calm).or (cr_minR ft)), bk_min⟩
  · cases hx; exact .inl ⟨"max", _, rfl, (call_max2 ft.calm).or (cr_max ft.calm), bk_max⟩
  · cases hx; exact .inr ⟨"int", _, rfl, call_int1, bk_int⟩
  · cases hx; exact .inl ⟨"repr", _, rfl, cr_show0.or (SkE.call_repr_int.or (cr_show ft)), bk_repr⟩
  · cases hx; exact .inl ⟨"any", _, rfl, cr_any ft.calm, bk_any⟩
  · cases hx; exact .inl ⟨"all", _, rfl, cr_all ft.calm, bk_all⟩
  · simp [Bn] at hx
end Vm

set_option Elab.async false
set_option linter.all false
set_option maxRecDepth 100000
set_option maxHeartbeats 4000000
/-! VmS: from the head to the evaluator. -/
namespace Vm
open PySem PySem.Spec PyProof.Rows L2
variable [T : Tbs]

def ddOf (d : DefT) : He.DefD := ⟨(d.name, none), d.name, d.name, defArgs d.st, defBody d.st, defScope d.st, [], []⟩
def Bfree : List Str := ["len", "sum", "tuple", "list", "divmod", "abs", "min", "max", "range", "sorted", "set", "enumerate", "zip", "isinstance", "int", "bool", "str", "repr", "any", "all"]
def faOf (ds : List DefT) : List He.Fa := (ds.map fun d => He.Fa.glo d.name) ++ Bfree.map He.Fa.free
theorem facts_in {fa : List He.Fa} {fn : List He.DefD} {K : PySem.W.Frag} (c : He.SaysD fa fn K) {f : He.Fa} (h : f ∈ fa) : f.ok K = true := by
  obtain ⟨i, hi, e⟩ := List.mem_iff_getElem.mp h
  exact c.fact i (f := f) (by rw [List.getElem?_eq_getElem hi, e])
/-- a def's call binds its parameters -/
abbrev BindsD (K : PySem.W.Frag) (ds : List DefT) : Prop := ∀ (i : Nat) d f fd, ds[i]? = some d → FunD K d.name d.name (defArgs d.st) (defBody d.st) (defScope d.st) [] [] f fd → Binds K fd d.ps []
theorem stand_of {ds : List DefT} {fn : List He.DefD} (hfn : ∀ (i : Nat) d, ds[i]? = some d → fn[i]? = some (ddOf d)) {K : PySem.W.Frag} {h : Heap} {mg : Str → Option Value} (X : K.In h) (G : h.Ns mainGlobals mg) (c : He.SaysD (faOf ds) fn K) (hb : BindsD K ds) :
    ∃ f fd, Stand K mg ds Bn f fd := by
  have one : ∀ i : Nat, ∃ p : Addr × FuncData, ∀ d, ds[i]? = some d → FunD K d.name d.name (defArgs d.st) (defBody d.st) (defScope d.st) [] [] p.1 p.2 ∧ mg d.name = some (.ref p.1) := fun i => by
    cases e : ds[i]? with
    | none => exact ⟨(0, default), fun d z => nomatch z⟩
    | some d =>
      obtain ⟨fd, F⟩ := c.def_ i (d := ddOf d) (hfn i d e)
      refine ⟨(He.ga K d.name, fd), fun d' z => ?_⟩
      cases z
      exact ⟨F, He.glo_ok X G (facts_in c (List.mem_append_left _ (List.mem_map.mpr ⟨d, List.mem_of_getElem? e, rfl⟩)))⟩
  have fr : ∀ x, x ∈ Bfree → mg x = none := fun x hx => He.free_ok X G (facts_in c (List.mem_append_right _ (List.mem_map.mpr ⟨x, hx, rfl⟩)))
  obtain ⟨p, hp⟩ := Classical.axiomOfChoice one
  refine ⟨fun i => (p i).1, fun i => (p i).2, ⟨fun i d e => (hp i d e).1, fun i d e => (hp i d e).2, fun i d e => hb i d _ _ e (hp i d e).1, fun x hx => ⟨fr x ?_, ?_⟩, fr _ (by decide), fun x hx => fr x ?_⟩⟩
  rotate_left 2
  · revert x
    decide
  · revert x
    decide
  · revert x
    decide
/-- the law's end, by the evaluator's -/
theorem end_of [T : Tbs] {K : PySem.W.Frag} {F : List PV → IH → Res PV} {ns : List Int} {H : Hp} {a : Addr} {E : XK} (hO : Only H) (hT : ∀ P ∈ T.at', GxR.TabG H P) (hS : SqL K H a (ns.map V.int)) (he : ∃ h', F [.fl (ns.map PV.int)] [] = .ok (.bl true) h') :
    spOf K 1 F [.ref a] H (fun v _ => v = .bl true) E := by
  obtain ⟨h', e⟩ := he
  have sf : SqF K H a (ns.map V.int) := by
    rcases hS with (hl | ⟨o, hl⟩) | hl
    · rcases hO a with z | ⟨o, xs, z⟩
      · rw [z] at hl; cases hl
      · rw [z] at hl; cases hl
    · exact .inl ⟨o, hl⟩
    · exact .inr hl
  refine ⟨rfl, [], [], [.fl (ns.map PV.int)], ⟨rfl, List.nodup_nil, hT, fun i o p z => by simp at z⟩, .cons (.fl sf (Reps.ofInts ns)) .nil, ?_⟩
  rw [e]
  intro m' H' _ _ v r
  cases r
  rfl
/-- no tables -/
instance (priority := low) noTbs : Tbs := ⟨[], []⟩
end Vm

set_option Elab.async false
set_option linter.all false
set_option maxRecDepth 100000
set_option maxHeartbeats 4000000
/-! VmT: going through the evaluator. -/
namespace Vm
open PySem PySem.Spec PyProof.Rows L2
theorem Res.bind_assoc {α β γ : Type} (r : Res α) (f : α → IH → Res β) (g : β → IH → Res γ) : (r.bind f).bind g = r.bind fun a h => (f a h).bind g := by
  cases r <;> rfl
theorem Res.calm_of {α : Type} {r : Res α} {Q : α → IH → Prop} (h : r.Ok Q) : r.calm.Ok Q := by
  cases r with
  | ok a h1 => exact h
  | exc => exact h.elim
  | stuck => exact h.elim
/-- more was made -/
def Ext (h h' : IH) : Prop := ∃ z, h' = h ++ z
theorem Ext.refl (h : IH) : Ext h h := ⟨[], by simp⟩
theorem Ext.trans {a b c : IH} (x : Ext a b) (y : Ext b c) : Ext a c := by
  obtain ⟨u, rfl⟩ := x
  obtain ⟨v, rfl⟩ := y
  exact ⟨u ++ v, by simp⟩
theorem Ext.app (h z : IH) : Ext h (h ++ z) := ⟨z, rfl⟩
theorem Ext.get {h h' : IH} (x : Ext h h') {i : Nat} {o : HV} (q : h[i]? = some o) : h'[i]? = some o := by
  obtain ⟨z, rfl⟩ := x
  rw [List.getElem?_append_left (List.getElem?_eq_some_iff.mp q).1]
  exact q
theorem Ext.len {h h' : IH} (x : Ext h h') : h.length ≤ h'.length := by
  obtain ⟨z, rfl⟩ := x
  simp
@[simp] theorem at_end (h : IH) (o : HV) : (h ++ [o])[h.length]? = some o := by simp
/-- what stood there stands there, but f -/
def But (f : Nat) (h h' : IH) : Prop := h.length ≤ h'.length ∧ ∀ i : Nat, i < h.length → i ≠ f → h'[i]? = h[i]?
theorem But.refl (f : Nat) (h : IH) : But f h h := ⟨Nat.le_refl _, fun _ _ _ => rfl⟩
theorem But.trans {f : Nat} {a b c : IH} (x : But f a b) (y : But f b c) : But f a c := ⟨Nat.le_trans x.1 y.1, fun i hi hf => (y.2 i (Nat.lt_of_lt_of_le hi x.1) hf).trans (x.2 i hi hf)⟩
theorem But.of {f : Nat} {h h' : IH} (x : Ext h h') : But f h h' := by
  obtain ⟨z, rfl⟩ := x
  exact ⟨by simp, fun i hi _ => List.getElem?_append_left hi⟩
theorem But.get {f : Nat} {h h' : IH} (x : But f h h') {i : Nat} {o : HV} (n : i ≠ f) (q : h[i]? = some o) : h'[i]? = some o := by
  rw [x.2 i (List.getElem?_eq_some_iff.mp q).1 n]
  exact q
theorem But.set {f : Nat} {h : IH} {o : HV} : But f h (h.set f o) := ⟨by simp, fun i hi n => by rw [List.getElem?_set]; simp [Ne.symm n]⟩

theorem size_ok {n : Nat} (h : n ≤ 1000000) : n ≤ sizeLine := by
  rw [sizeLine_eq]
  omega
theorem new_ok {h : IH} {xs : List PV} (l : xs.length ≤ 1000000) : new h xs = .ok (.ref h.length) (h ++ [.lst xs]) := if_pos (size_ok l)
theorem newT_ok {h : IH} {xs : List PV} (l : xs.length ≤ 1000000) : newT h xs = .ok (.tup xs) h := if_pos (size_ok l)
theorem atI_ok {xs : List PV} {s : Int} {v : PV} (h0 : 0 ≤ s) (e : xs[s.toNat]? = some v) : atI xs s = some v := by
  have lt := (List.getElem?_eq_some_iff.mp e).1
  unfold atI ixN
  rw [if_pos h0, if_pos (by omega)]
  exact e
theorem ixF_rd {h : IH} {x : PV} {xs : List PV} {s : Int} {v : PV} (e : rd h x = some xs) (h0 : 0 ≤ s) (k : xs[s.toNat]? = some v) : ixF x (.int s) h = .ok v h := by
  have q := atI_ok h0 k
  cases x <;> first | (cases e; done) | (simp only [ixF, e, q])
theorem ints_at_i {ws : List Int} {s : Int} (h0 : 0 ≤ s) (h1 : s < ws.length) : (ws.map PV.int)[s.toNat]? = some (.int (ws.getD s.toNat 0)) := by
  have lt : s.toNat < ws.length := by omega
  rw [List.getElem?_map, List.getElem?_eq_getElem lt, List.getD_eq_getElem?_getD, List.getElem?_eq_getElem lt]
  rfl
theorem ixF_tup {ws : List Int} {s : Int} {h : IH} (h0 : 0 ≤ s) (h1 : s < ws.length) : ixF (.tup (ws.map PV.int)) (.int s) h = .ok (.int (ws.getD s.toNat 0)) h := ixF_rd rfl h0 (ints_at_i h0 h1)
theorem rd_ref {h : IH} {a : Nat} {xs : List PV} (e : h[a]? = some (.lst xs)) : rd h (.ref a) = some xs := by simp [rd, e]
theorem ixF_ref {ws : List Int} {s : Int} {h : IH} {a : Nat} (e : h[a]? = some (.lst (ws.map PV.int))) (h0 : 0 ≤ s) (h1 : s < ws.length) : ixF (.ref a) (.int s) h = .ok (.int (ws.getD s.toNat 0)) h := ixF_rd (rd_ref e) h0 (ints_at_i h0 h1)
@[simp] theorem Bf_len {ws : List PV} {h : IH} : Bf 0 [.tup ws] h = .ok (.int ws.length) h := rfl
theorem Bf_len_ref {xs : List PV} {h : IH} {a : Nat} (e : h[a]? = some (.lst xs)) : Bf 0 [.ref a] h = .ok (.int xs.length) h := by
  show biLen [.ref a] h = _
  simp [biLen, rd_ref e]
@[simp] theorem Bf_sum {ws : List Int} {h : IH} : Bf 1 [.tup (ws.map PV.int)] h = .ok (.int ws.sum) h := by
  show biSum [.tup (ws.map PV.int)] h = _
  simp [biSum, rd]
@[simp] theorem Bf_divmod {i j : Int} {h : IH} : Bf 4 [.int i, .int j] h = if 0 < j ∧ j < 1073741824 then .ok (.tup [.int (i / j), .int (i % j)]) h else .stuck := rfl
theorem Bf_tuple {xs : List PV} {h : IH} {a : Nat} (e : h[a]? = some (.lst xs)) : Bf 2 [.ref a] h = .ok (.tup xs) h := by
  show biTuple [.ref a] h = _
  simp [biTuple, rd_ref e]
@[simp] theorem Bf_min2 {i j : Int} {h : IH} : Bf 6 [.int i, .int j] h = .ok (.int (if j < i then j else i)) h := rfl
theorem Bf_min_rows {rs : List (List Int)} {h : IH} {a : Nat} (e : h[a]? = some (.lst (rs.map fun ns => .tup (ns.map PV.int)))) (h0 : 0 < rs.length) : Bf 6 [.ref a] h = .ok (.tup ((leastR rs).map PV.int)) h := by
  show biMin [.ref a] h = _
  have n : intsOf (rs.map fun ns => PV.tup (ns.map PV.int)) = none := by
    cases rs with
    | nil => simp at h0
    | cons r rs => rfl
  simp only [biMin, rd_ref e, n, rowsOf_map, h0, if_true]
/-! ### loops -/
theorem lc_inv {xs : List PV} {src : Src} {f : PV → IH → Res (Option PV)} (J : Nat → List PV → IH → Prop) (hsrc : ∀ (k : Nat) acc h, J k acc h → src.get h k = some xs[k]?) (hl : xs.length ≤ 1000000)
    (hf : ∀ (k : Nat) x acc h, xs[k]? = some x → J k acc h → (f x h).Ok fun o h1 => match o with
      | some y => J (k + 1) (acc ++ [y]) h1
      | none => J (k + 1) acc h1) : ∀ n k acc h, n = xs.length + 1 - k → k ≤ xs.length → acc.length ≤ k → J k acc h → (lcLoop src f n k acc h).Ok fun acc h1 => J xs.length acc h1
  | 0, k, acc, h, hn, hk, _, _ => by omega
  | n + 1, k, acc, h, hn, hk, ha, j => by
    unfold lcLoop
    rw [hsrc k acc h j]
    by_cases lt : k < xs.length
    · rw [List.getElem?_eq_getElem lt]
      dsimp only
      refine Res.ok_bind ((hf k _ acc h (List.getElem?_eq_getElem lt) j).mono fun o h1 q => ?_)
      cases o with
      | some y =>
        dsimp only at q ⊢
        rw [if_pos (by rw [sizeLine_eq]; omega)]
        exact lc_inv J hsrc hl hf n (k + 1) _ h1 (by omega) (by omega) (by simp; omega) q
      | none => exact lc_inv J hsrc hl hf n (k + 1) _ h1 (by omega) (by omega) (by omega) q
    · have : k = xs.length := by omega
      subst this
      rw [List.getElem?_eq_none (Nat.le_refl _)]
      exact j
theorem for_inv {xs : List PV} {src : Src} {f : PV → Ev → IH → Res Fl} (J : Nat → Ev → IH → Prop) {Q : Fl → IH → Prop} (hsrc : ∀ (k : Nat) ev h, J k ev h → src.get h k = some xs[k]?)
    (hf : ∀ (k : Nat) x ev h, xs[k]? = some x → J k ev h → (f x ev h).Ok fun o h1 => match o with
      | .nx ev' => J (k + 1) ev' h1
      | .rt y => Q (.rt y) h1) (hend : ∀ ev h, J xs.length ev h → Q (.nx ev) h) : ∀ n k ev h, n = xs.length + 1 - k → k ≤ xs.length → J k ev h → (forLoop src f n k ev h).Ok Q
  | 0, k, ev, h, hn, hk, _ => by omega
  | n + 1, k, ev, h, hn, hk, j => by
    unfold forLoop
    rw [hsrc k ev h j]
    by_cases lt : k < xs.length
    · rw [List.getElem?_eq_getElem lt]
      dsimp only
      refine Res.ok_bind ((hf k _ ev h (List.getElem?_eq_getElem lt) j).mono fun o h1 q => ?_)
      cases o with
      | nx ev' => exact for_inv J hsrc hf hend n (k + 1) _ h1 (by omega) (by omega) q
      | rt y => exact q
    · have : k = xs.length := by omega
      subst this
      rw [List.getElem?_eq_none (Nat.le_refl _)]
      exact hend _ _ j
/-- a comprehension whose turns make nothing but more -/
theorem lc_pure {src : Src} {xs : List PV} {f : PV → IH → Res (Option PV)} {h0 : IH} {n : Nat} (g : PV → Option PV) (hsrc : ∀ (k : Nat) h, Ext h0 h → src.get h k = some xs[k]?) (hn : n = xs.length + 1) (hl : xs.length ≤ 1000000)
    (hf : ∀ (k : Nat) x h, xs[k]? = some x → Ext h0 h → (f x h).Ok fun o h1 => o = g x ∧ Ext h0 h1) : (lcLoop src f n 0 [] h0).Ok fun acc h1 => acc = xs.filterMap g ∧ Ext h0 h1 := by
  subst hn
  refine (lc_inv (src := src) (fun k acc h => acc = (xs.take k).filterMap g ∧ Ext h0 h) (fun k _ h j => hsrc k h j.2) hl (fun k x acc h e j => ?_) _ 0 [] h0 rfl (Nat.zero_le _) (Nat.le_refl _) ⟨rfl, Ext.refl _⟩).mono fun acc h1 q => ?_
  · refine (hf k x h e j.2).mono fun o h1 q => ?_
    have e2 : (xs.take (k + 1)).filterMap g = (xs.take k).filterMap g ++ (match g x with | some y => [y] | none => []) := by
      rw [List.take_add_one, e, List.filterMap_append]
      congr 1
      show [x].filterMap g = _
      cases hg : g x <;> simp [List.filterMap_cons, hg]
    cases o with
    | some y =>
      dsimp only
      rw [e2, ← q.1, j.1]
      exact ⟨rfl, q.2⟩
    | none =>
      dsimp only
      rw [e2, ← q.1, j.1]
      exact ⟨by simp, q.2⟩
  · rw [List.take_of_length_le (Nat.le_refl _)] at q
    exact q
theorem get_items {xs : List PV} {h0 : IH} : ∀ (k : Nat) h, Ext h0 h → (Src.items xs).get h k = some xs[k]? := fun _ _ _ => rfl
theorem get_heap {xs : List PV} {h0 : IH} {a : Nat} (e : h0[a]? = some (.lst xs)) : ∀ (k : Nat) h, Ext h0 h → (Src.heap a).get h k = some xs[k]? := fun k h x => by
  have q := x.get e
  simp only [Src.get, q]
theorem fuel_heap {xs : List PV} {h : IH} {a : Nat} (e : h[a]? = some (.lst xs)) : (Src.heap a).fuel h = xs.length + 1 := by
  simp only [Src.fuel, e]
theorem fm_filter {p : Int → Bool} {e : Int → PV} {g : PV → Option PV} : ∀ {l : List Int}, (∀ s ∈ l, g (.int s) = if p s then some (e s) else none) → (l.map PV.int).filterMap g = (l.filter p).map e
  | [], _ => rfl
  | s :: l, h => by
    have ih := fm_filter (p := p) (e := e) (g := g) (l := l) fun s hs => h s (List.mem_cons_of_mem _ hs)
    have h1 := h s List.mem_cons_self
    rw [List.map_cons, List.filterMap_cons, h1, ih, List.filter_cons]
    cases p s <;> rfl
theorem rngs_len (i : Int) (n : Nat) : (rngs i n).length = n := by simp [rngs]
theorem rngs_at {i : Int} {n k : Nat} {x : PV} (e : (rngs i n)[k]? = some x) : k < n ∧ x = .int (i + k) := by
  obtain ⟨h1, h2⟩ := List.getElem?_eq_some_iff.mp e
  rw [rngs_len] at h1
  refine ⟨h1, ?_⟩
  rw [← h2]
  simp [rngs]
theorem rngs0_at {n k : Nat} {x : PV} (e : (rngs 0 n)[k]? = some x) : k < n ∧ x = .int k := by
  obtain ⟨h1, h2⟩ := rngs_at e
  exact ⟨h1, by rw [h2, Int.zero_add]⟩
theorem mul_one {h : IH} {a : Nat} {x : PV} {k : Int} (e : h[a]? = some (.lst [x])) (k0 : 0 ≤ k) (k1 : k ≤ 1000) : binF .mul (.ref a) (.int k) h = .ok (.ref h.length) (h ++ [.lst (List.replicate k.toNat x)]) := by
  have c : -(2 ^ 63) ≤ k ∧ k < 2 ^ 63 := by omega
  have f : (List.replicate k.toNat [x]).flatten = List.replicate k.toNat x := by
    generalize k.toNat = n
    induction n with
    | zero => rfl
    | succ n ih => rw [List.replicate_succ, List.flatten_cons, ih]; rfl
  have n := new_ok (h := h) (xs := List.replicate k.toNat x) (by rw [List.length_replicate]; omega)
  simp only [binF, e, f, n]
  rw [if_pos c]
theorem Ext.set {h h' : IH} (x : Ext h h') {i : Nat} {o : HV} (l : h.length ≤ i) : Ext h (h'.set i o) := by
  obtain ⟨z, rfl⟩ := x
  exact ⟨z.set (i - h.length) o, by rw [List.set_append_right _ _ l]⟩
theorem set_same {h : IH} {i : Nat} {o p : HV} (e : h[i]? = some p) : (h.set i o)[i]? = some o := by
  rw [List.getElem?_set]
  simp [(List.getElem?_eq_some_iff.mp e).1]
theorem set_other {h : IH} {i j : Nat} {o : HV} (n : i ≠ j) : (h.set i o)[j]? = h[j]? := by
  rw [List.getElem?_set]
  simp [n]
theorem map_set {xs : List Int} {i : Nat} {v : Int} : (xs.map PV.int).set i (.int v) = (xs.set i v).map PV.int := by
  rw [List.map_set]
theorem lrng_ok {h : IH} {n : Int} (l : 0 ≤ n) (u : n ≤ 1000) : lrngF (.int n) h = .ok (.ref h.length) (h ++ [.lst (rngs 0 n.toNat)]) := by
  have c : -(2 ^ 62) ≤ n ∧ n < 2 ^ 62 ∧ n.toNat ≤ 2 ^ 24 := by omega
  have e := new_ok (h := h) (xs := rngs 0 n.toNat) (by rw [rngs_len]; omega)
  simp only [lrngF, e]
  rw [if_pos c]
theorem insS_len {k : Int} : ∀ {xs : List Int}, (insS k xs).length ≤ xs.length + 1
  | [] => by simp [insS]
  | x :: xs => by
    unfold insS
    split
    · simp
    · split
      · simp
      · have := insS_len (k := k) (xs := xs)
        simp only [List.length_cons]
        omega
theorem ssetL_len : ∀ {ns : List Int}, (ssetL ns).length ≤ ns.length
  | [] => by simp [ssetL]
  | n :: ns => by
    have a := ssetL_len (ns := ns)
    have b := insS_len (k := n) (xs := ssetL ns)
    show (insS n (ssetL ns)).length ≤ _
    simp only [List.length_cons]
    omega
theorem sset_ok {h : IH} {a : Nat} {ns : List Int} (e : h[a]? = some (.lst (ns.map PV.int))) (l : ns.length < 1000) : ssetF (.ref a) h = .ok (.ref h.length) (h ++ [.lst ((ssetL ns).map PV.int)]) := by
  have n := new_ok (h := h) (xs := (ssetL ns).map PV.int) (by rw [List.length_map]; have := ssetL_len (ns := ns); omega)
  simp only [ssetF, rd_ref e, Option.bind_some, intsOf_map, n]
  rw [if_pos l]
theorem putF_ok' {h : IH} {a : Nat} {xs : List PV} {j : Int} {v : PV} (e : h[a]? = some (.lst xs)) (h0 : 0 ≤ j) (h1 : j < xs.length) : putF (.ref a) (.int j) v h = .ok () (h.set a (.lst (xs.set j.toNat v))) := by
  have : ixN xs.length j = some j.toNat := by unfold ixN; rw [if_pos h0, if_pos h1]
  simp only [putF, e, this]
theorem appF_ok {h : IH} {a : Nat} {xs : List PV} {v : PV} (e : h[a]? = some (.lst xs)) (l : xs.length < 1000000) : appF (.ref a) v h = .ok () (h.set a (.lst (xs ++ [v]))) := by
  have : xs.length < sizeLine := by rw [sizeLine_eq]; omega
  simp only [appF, e, this, if_true]
/-! ### one operation -/
section
variable {i j : Int} {h : IH}
@[simp] theorem b_add : binF .add (.int i) (.int j) h = .ok (.int (i + j)) h := rfl
@[simp] theorem b_sub : binF .sub (.int i) (.int j) h = .ok (.int (i - j)) h := rfl
theorem mul_r (l : -1000000000 < j) (u : j < 1000000000) : binF .mul (.int i) (.int j) h = .ok (.int (i * j)) h := by
  have : big j = true := by unfold big; exact decide_eq_true (by omega)
  simp only [binF, this, Bool.or_true, if_true]
theorem mul_l (l : -1000000000 < i) (u : i < 1000000000) : binF .mul (.int i) (.int j) h = .ok (.int (i * j)) h := by
  have : big i = true := by unfold big; exact decide_eq_true (by omega)
  simp only [binF, this, Bool.true_or, if_true]
theorem fdiv_ok (l : 0 < j) (u : j < 1073741824) : binF .fdiv (.int i) (.int j) h = .ok (.int (i / j)) h := if_pos ⟨l, .inl u⟩
theorem mod_ok (l : 0 < j) : binF .mod (.int i) (.int j) h = .ok (.int (i % j)) h := if_pos l
theorem pow_ok (l : 0 ≤ j) (u : j ≤ 1000) (b : 0 ≤ i) (t : i < 18446744073709551616) : binF .pow (.int i) (.int j) h = .ok (.int (i ^ j.toNat)) h := if_pos ⟨l, by omega, by omega⟩
@[simp] theorem a_add : augF .add (.int i) (.int j) h = .ok (.int (i + j)) h := rfl
@[simp] theorem c_eq : cmpF .eq (.int i) (.int j) h = .ok (.bl (decide (i = j))) h := rfl
@[simp] theorem c_ne : cmpF .ne (.int i) (.int j) h = .ok (.bl (!decide (i = j))) h := rfl
@[simp] theorem c_lt : cmpF .lt (.int i) (.int j) h = .ok (.bl (decide (i < j))) h := rfl
@[simp] theorem c_le : cmpF .le (.int i) (.int j) h = .ok (.bl (decide (i ≤ j))) h := rfl
@[simp] theorem c_gt : cmpF .gt (.int i) (.int j) h = .ok (.bl (decide (j < i))) h := rfl
@[simp] theorem c_ge : cmpF .ge (.int i) (.int j) h = .ok (.bl (decide (j ≤ i))) h := rfl
end
theorem sem_at {B : Fns} {ds : List DefT} {n i L : Nat} {d : DefT} {b : Ss} {xs : List PV} {h : IH} (e : ds[i]? = some d) (hN : d.N.length = L) (hb : d.body = b) : sem B ds (n + 1) i xs h = evF (sem B ds n) B L b xs h := by
  subst hN hb
  show (match ds[i]? with
    | some d => evF (sem B ds n) B d.N.length d.body xs h
    | none => .stuck) = _
  rw [e]
theorem rng_if {α : Type} {j : Int} {A B : α} (l : 0 ≤ j) (u : j ≤ 1000000) : (if -(2 ^ 62) ≤ j ∧ j < 2 ^ 62 then A else B) = A := if_pos (by omega)
end Vm

set_option Elab.async false
set_option linter.all false
set_option maxRecDepth 100000
set_option maxHeartbeats 1000000
/-! VmU: more of going through the evaluator: kinds, pairs, lists as wholes. -/
namespace Vm
open PySem PySem.Spec PyProof.Rows L2
@[simp] theorem isF_int {i : Int} {h : IH} : isF .int (.int i) h = .ok (.bl true) h := by simp [isF, tyOf, Ty.word]
@[simp] theorem isF_bool {i : Int} {h : IH} : isF .bool (.int i) h = .ok (.bl false) h := by simp [isF, tyOf, Ty.word]
@[simp] theorem isF_tuple {xs : List PV} {h : IH} : isF .tuple (.tup xs) h = .ok (.bl true) h := by simp [isF, tyOf, Ty.word]
theorem Bf_sum_ref {ws : List Int} {h : IH} {a : Nat} (e : h[a]? = some (.lst (ws.map PV.int))) : Bf 1 [.ref a] h = .ok (.int ws.sum) h := by
  show biSum [.ref a] h = _
  simp [biSum, rd_ref e]
theorem Bf_list {xs : List PV} {h : IH} (l : xs.length ≤ 1000000) : Bf 3 [.tup xs] h = .ok (.ref h.length) (h ++ [.lst xs]) := by
  show biList [.tup xs] h = _
  simp only [biList, rd, new_ok l]
@[simp] theorem Bf_int_bl {b : Bool} {h : IH} : Bf 8 [.bl b] h = .ok (.int (if b then 1 else 0)) h := rfl
/-! ### pairs -/
def pairsE (cs : List Int) : List PV := (List.range cs.length).map fun (i : Nat) => PV.tup [.int i, .int (cs.getD i 0)]
def pairsZ (cs es : List Int) : List PV := (List.range cs.length).map fun (i : Nat) => PV.tup [.int (cs.getD i 0), .int (es.getD i 0)]
theorem pairsE_at {cs : List Int} {k : Nat} {x : PV} (e : (pairsE cs)[k]? = some x) : k < cs.length ∧ x = .tup [.int k, .int (cs.getD k 0)] := by
  unfold pairsE at e
  rw [List.getElem?_map] at e
  by_cases l : k < cs.length
  · rw [List.getElem?_range l] at e
    cases e
    exact ⟨l, rfl⟩
  · rw [List.getElem?_eq_none (by simp; omega)] at e
    cases e
theorem pairsZ_at {cs es : List Int} {k : Nat} {x : PV} (e : (pairsZ cs es)[k]? = some x) : k < cs.length ∧ x = .tup [.int (cs.getD k 0), .int (es.getD k 0)] := by
  unfold pairsZ at e
  rw [List.getElem?_map] at e
  by_cases l : k < cs.length
  · rw [List.getElem?_range l] at e
    cases e
    exact ⟨l, rfl⟩
  · rw [List.getElem?_eq_none (by simp; omega)] at e
    cases e
theorem get_enum {cs : List Int} {h : IH} {a : Nat} (e : h[a]? = some (.lst (cs.map PV.int))) (k : Nat) : (Src.enum a).get h k = some (pairsE cs)[k]? := by
  simp only [Src.get, e]
  unfold pairsE
  congr 1
  rw [List.getElem?_map, List.getElem?_map]
  by_cases l : k < cs.length
  · rw [List.getElem?_range l, List.getElem?_eq_getElem l]
    simp [List.getElem?_eq_getElem l]
  · rw [List.getElem?_eq_none (by omega), List.getElem?_eq_none (by simp; omega)]
    rfl
theorem get_zip {cs es : List Int} {h : IH} {a b : Nat} (hl : es.length = cs.length) (e : h[a]? = some (.lst (cs.map PV.int))) (e2 : h[b]? = some (.lst (es.map PV.int))) (k : Nat) : (Src.zip a b).get h k = some (pairsZ cs es)[k]? := by
  simp only [Src.get, e, e2]
  unfold pairsZ
  congr 1
  rw [List.getElem?_map, List.getElem?_map, List.getElem?_map]
  by_cases l : k < cs.length
  · rw [List.getElem?_range l, List.getElem?_eq_getElem l, List.getElem?_eq_getElem (by omega : k < es.length)]
    simp [List.getElem?_eq_getElem l, List.getElem?_eq_getElem (by omega : k < es.length)]
  · rw [List.getElem?_eq_none (by omega : cs.length ≤ k), List.getElem?_eq_none (by omega : es.length ≤ k), List.getElem?_eq_none (show (List.range cs.length).length ≤ k by simp; omega)]
    rfl
theorem fuel_enum {xs : List PV} {h : IH} {a : Nat} (e : h[a]? = some (.lst xs)) : (Src.enum a).fuel h = xs.length + 1 := by simp only [Src.fuel, e]
theorem fuel_zip {xs : List PV} {h : IH} {a b : Nat} (e : h[a]? = some (.lst xs)) : (Src.zip a b).fuel h = xs.length + 1 := by simp only [Src.fuel, e]
theorem pairsE_len {cs : List Int} : (pairsE cs).length = cs.length := by simp [pairsE]
theorem pairsZ_len {cs es : List Int} : (pairsZ cs es).length = cs.length := by simp [pairsZ]
theorem enumF_ok {xs : List PV} {h : IH} {a : Nat} (e : h[a]? = some (.lst xs)) : enumF (.ref a) h = .ok (.enum a) h := by simp only [enumF, e]
theorem zipF_ok {xs ys : List PV} {h : IH} {a b : Nat} (e : h[a]? = some (.lst xs)) (e2 : h[b]? = some (.lst ys)) : zipF (.ref a) (.ref b) h = .ok (.zip a b) h := by simp only [zipF, e, e2]
/-! ### lists of ints as wholes -/
theorem seqO_ints {h : IH} {n : Nat} : ∀ cs : List Int, seqO ((cs.map PV.int).map (dataOf h (n + 1))) = some (cs.map PyData.int)
  | [] => rfl
  | c :: cs => by
    show (seqO ((cs.map PV.int).map (dataOf h (n + 1)))).map _ = _
    rw [seqO_ints cs]
    rfl
theorem data_ints {h : IH} {a : Nat} {cs : List Int} (e : h[a]? = some (.lst (cs.map PV.int))) : dataOf h 40 (.ref a) = some (.list (cs.map PyData.int)) := by
  have q := seqO_ints (h := h) (n := 38) cs
  show (match h[a]? with
    | some (.lst xs) => (seqO (xs.map (dataOf h 39))).map PyData.list
    | _ => none) = _
  rw [e]
  show (seqO ((cs.map PV.int).map (dataOf h 39))).map PyData.list = _
  rw [q]
  rfl
theorem lay_ints : ∀ cs : List Int, PyData.canLayAll0 (cs.map PyData.int) = true
  | [] => by simp [PyData.canLayAll0]
  | c :: cs => by
    have := lay_ints cs
    simp [PyData.canLayAll0, PyData.canLay0] at this ⊢
    exact this
theorem deep_ints : ∀ cs : List Int, PyData.depthAll (cs.map PyData.int) ≤ 1
  | [] => by simp [PyData.depthAll]
  | c :: cs => by
    have := deep_ints cs
    simp [PyData.depthAll, PyData.depth] at this ⊢
    omega
theorem shaped_ints (cs : List Int) : SeqAt.shaped (.list (cs.map PyData.int)) = true := by
  have a := lay_ints cs
  have b := deep_ints cs
  have d : PyData.depth (.list (cs.map PyData.int)) ≤ 64 := by
    simp only [PyData.depth]
    omega
  unfold SeqAt.shaped
  rw [Bool.and_eq_true]
  exact ⟨by simpa [PyData.canLay0] using a, decide_eq_true d⟩
theorem eqv_ints : ∀ cs : List Int, PyData.eqvAll (cs.map PyData.int) (cs.map PyData.int) = true
  | [] => by simp [PyData.eqvAll]
  | c :: cs => by
    have := eqv_ints cs
    simp [PyData.eqvAll, PyData.eqv] at this ⊢
    exact this
theorem eq_lists {h : IH} {a b : Nat} {cs : List Int} (e : h[a]? = some (.lst (cs.map PV.int))) (e2 : h[b]? = some (.lst (cs.map PV.int))) : cmpF .eq (.ref a) (.ref b) h = .ok (.bl true) h ∧ cmpF .ne (.ref a) (.ref b) h = .ok (.bl false) h := by
  have q : PyData.eqv (.list (cs.map PyData.int)) (.list (cs.map PyData.int)) = true := by simpa [PyData.eqv] using eqv_ints cs
  have s := shaped_ints cs
  constructor
  · show eqD false (.ref a) (.ref b) h = _
    simp only [eqD, data_ints e, data_ints e2, s, q]
    simp
  · show eqD true (.ref a) (.ref b) h = _
    simp only [eqD, data_ints e, data_ints e2, s, q]
    simp
end Vm

set_option Elab.async false
set_option linter.all false
set_option maxRecDepth 100000
set_option maxHeartbeats 1000000
/-! VnP: ends that may be errors. -/
namespace Vm
open PySem PySem.Spec PyProof.Rows L2
/-- it ends with Q, or with an error of which E holds -/
def Res.OkX {α : Type} (r : Res α) (Q : α → IH → Prop) (E : Str → List PV → IH → Prop) : Prop := match r with
  | .ok a h => Q a h
  | .exc c fs h => E c fs h
  | .stuck => False
@[simp] theorem Res.OkX_ok {α : Type} (a : α) (h : IH) (Q : α → IH → Prop) (E : Str → List PV → IH → Prop) : (Res.ok a h).OkX Q E = Q a h := rfl
@[simp] theorem Res.OkX_exc {α : Type} (c : Str) (fs : List PV) (h : IH) (Q : α → IH → Prop) (E : Str → List PV → IH → Prop) : (Res.exc c fs h : Res α).OkX Q E = E c fs h := rfl
theorem Res.ok_bindX {α β : Type} {r : Res α} {f : α → IH → Res β} {Q : β → IH → Prop} {E : Str → List PV → IH → Prop} (h : r.OkX (fun a h1 => (f a h1).OkX Q E) E) : (r.bind f).OkX Q E := by
  cases r with
  | ok a h1 => exact h
  | exc c fs h1 => exact h
  | stuck => exact h.elim
theorem Res.OkX.mono {α : Type} {r : Res α} {Q Q' : α → IH → Prop} {E E' : Str → List PV → IH → Prop} (h : r.OkX Q E) (k : ∀ a h1, Q a h1 → Q' a h1) (e : ∀ c fs h1, E c fs h1 → E' c fs h1) : r.OkX Q' E' := by
  cases r with
  | ok a h1 => exact k a h1 h
  | exc c fs h1 => exact e c fs h1 h
  | stuck => exact h.elim
theorem Res.Ok.x {α : Type} {r : Res α} {Q : α → IH → Prop} {E : Str → List PV → IH → Prop} (h : r.Ok Q) : r.OkX Q E := by
  cases r with
  | ok a h1 => exact h
  | exc c fs h1 => exact h.elim
  | stuck => exact h.elim
theorem for_invX {xs : List PV} {src : Src} {f : PV → Ev → IH → Res Fl} {E : Str → List PV → IH → Prop} (J : Nat → Ev → IH → Prop) {Q : Fl → IH → Prop} (hsrc : ∀ (k : Nat) ev h, J k ev h → src.get h k = some xs[k]?)
    (hf : ∀ (k : Nat) x ev h, xs[k]? = some x → J k ev h → (f x ev h).OkX (fun o h1 => match o with
      | .nx ev' => J (k + 1) ev' h1
      | .rt y => Q (.rt y) h1) E) (hend : ∀ ev h, J xs.length ev h → Q (.nx ev) h) : ∀ n k ev h, n = xs.length + 1 - k → k ≤ xs.length → J k ev h → (forLoop src f n k ev h).OkX Q E
  | 0, k, ev, h, hn, hk, _ => by omega
  | n + 1, k, ev, h, hn, hk, j => by
    unfold forLoop
    rw [hsrc k ev h j]
    by_cases lt : k < xs.length
    · rw [List.getElem?_eq_getElem lt]
      dsimp only
      refine Res.ok_bindX ((hf k _ ev h (List.getElem?_eq_getElem lt) j).mono (fun o h1 q => ?_) fun _ _ _ z => z)
      cases o with
      | nx ev' => exact for_invX J hsrc hf hend n (k + 1) _ h1 (by omega) (by omega) q
      | rt y => exact q
    · have : k = xs.length := by omega
      subst this
      rw [List.getElem?_eq_none (Nat.le_refl _)]
      exact hend _ _ j
/-- try .. except .. -/
theorem triF_ok {r : Res PV} {cs : List Str} {k : IH → Res PV} {f : PV → IH → Res Fl} {P : Fl → IH → Prop} {Q : PV → IH → Prop} {E : Str → List PV → IH → Prop} (h : r.OkX Q E) (h1 : ∀ x g, Q x g → (f x g).Ok P) (h2 : ∀ c fs g, E c fs g → cs.contains c = true ∧ ((k g).bind f).Ok P) : (triF r cs k f).Ok P := by
  cases r with
  | ok x g => exact h1 x g h
  | exc c fs g =>
    obtain ⟨a, b⟩ := h2 c fs g h
    unfold triF
    dsimp only
    rw [if_pos a]
    exact b
  | stuck => exact h.elim
end Vm

set_option Elab.async false
set_option linter.all false
set_option maxRecDepth 100000
set_option maxHeartbeats 4000000
/-! VmZ: the law's call, where nothing is being shown. -/
namespace Vm
open PySem PySem.Spec PyProof.Rows L2
variable [Tbs]
section
variable {P : Program} {w : World} {K : PySem.W.Frag} {mg mb : Str → Option Value} {s₁ : Shared} {vs : List Value} {ns : List Int} {a : Addr}
/-- the script's list as it stands -/
abbrev scrO (vs : List Value) : Obj := { cls := .type "list", data := .seq vs.toArray }
/-- the script alone, if the module hasn't it -/
def scrH (K : PySem.W.Frag) (a : Addr) (vs : List Value) (ns : List Int) : Hp := fun b => if b = a ∧ K.lookup a = none then some (.frz (scrO vs) (.lst (ns.map V.int))) else none
theorem scrH_cases (K : PySem.W.Frag) (a : Addr) (vs : List Value) (ns : List Int) (b : Addr) : (scrH K a vs ns b = none) ∨ (b = a ∧ K.lookup a = none ∧ scrH K a vs ns b = some (.frz (scrO vs) (.lst (ns.map V.int)))) := by
  unfold scrH
  by_cases h : b = a ∧ K.lookup a = none
  · exact .inr ⟨h.1, h.2, if_pos h⟩
  · exact .inl (if_neg h)
theorem scr_only : Only (scrH K a vs ns) := fun b => (scrH_cases K a vs ns b).imp id fun h => ⟨_, _, h.2.2⟩
theorem scr_sq (KX : K.In s₁.heap) (ha : s₁.heap.get? a = some (scrO vs)) (hi : IntsAre vs ns) (hl : ns.length ≤ sizeLine) : SqL K (scrH K a vs ns) a (ns.map V.int) := by
  cases q : K.lookup a with
  | none => exact .inl (.inr ⟨scrO vs, if_pos ⟨rfl, q⟩⟩)
  | some o =>
    have e := (KX a o q).symm.trans ha
    cases e
    exact .inr ⟨_, vs.toArray, _, q, rfl, rfl, rfl, by rw [List.size_toArray, hi.length]; exact hl, by simpa using vals_ints hi⟩
theorem scr_hok (ha : s₁.heap.get? a = some (scrO vs)) (hi : IntsAre vs ns) (hl : ns.length ≤ sizeLine) : HOk P w (scrH K a vs ns) s₁.heap := fun b u e => by
  rcases scrH_cases K a vs ns b with z | ⟨rfl, _, z⟩
  · rw [z] at e; cases e
  · rw [z] at e
    cases e
    exact ⟨ha, by rw [List.length_map]; exact hl, vs, _, vals_ints hi, ha⟩
/-- what is in the heap and isn't the script is ground -/
theorem scr_base {b : Addr} {o : Obj} (e : s₁.heap.get? b = some o) (n : b = a → K.lookup a = none → False) : (hidT s₁.heap (scrH K a vs ns)).get? b = some o :=
  hidT_get e ((scrH_cases K a vs ns b).elim id fun h => (n h.1 h.2.1).elim)
theorem scr_ns (ha : s₁.heap.get? a = some (scrO vs)) {b : Addr} {m : Str → Option Value} (h : s₁.heap.Ns b m) : (hidT s₁.heap (scrH K a vs ns)).Ns b m := by
  obtain ⟨o, es, ep, e, d, r⟩ := h
  refine ⟨o, es, ep, scr_base e fun z _ => ?_, d, r⟩
  subst z
  rw [ha] at e
  cases e
  cases d
theorem scr_env (KX : K.In s₁.heap) (hns : s₁.heap.Ns mainGlobals mg) (hb : s₁.heap.Ns builtinsNs mb) (hbb : ∀ x : Str, x ≠ "__name__" → mb x = bootBuiltins x) (hlim : s₁.heap.NoLimit) (hg : s₁.gens = #[]) (ha : s₁.heap.get? a = some (scrO vs)) (hi : IntsAre vs ns) (hl : ns.length ≤ sizeLine) :
    Env0 P w K mg (hidT s₁.heap (scrH K a vs ns)) callerA [] s₁ (scrH K a vs ns) where
  frames := rfl
  mod := {
    kin := fun b o e => scr_base (KX b o e) fun z n => by
      subst z
      rw [n] at e
      cases e
    glob := scr_ns ha hns
    blt := ⟨mb, scr_ns ha hb, hbb⟩
    nolimit := match hlim with
      | ⟨m, p, q⟩ => ⟨m, scr_ns ha p, q⟩ }
  bs := fun b o e => of_hidT e
  bsz := Nat.le_of_eq (hidT_size _ _)
  funs := trivial
  frf := fun b hb => by cases hb
  hok := scr_hok ha hi hl
  bare := .of_eq hg
theorem law_goG {k : Nat} {fa : Addr} {fd : FuncData} {x : Str} {sp : Sp}
    (KX : K.In s₁.heap) (hns : s₁.heap.Ns mainGlobals mg) (hb : s₁.heap.Ns builtinsNs mb) (hbb : ∀ x : Str, x ≠ "__name__" → mb x = bootBuiltins x) (hlim : s₁.heap.NoLimit) (hg : s₁.gens = #[])
    (ha : s₁.heap.get? a = some (scrO vs)) (hi : IntsAre vs ns) (hl : ns.length ≤ sizeLine) (hr : Room k callerA)
    (F : ∀ base : Heap, K.In base → base.Ns mainGlobals mg → FnG P w K mg base k fa fd 1 [x] sp) (hbind : ∀ (s : Shared) (u : Value), BindsTo s fd ⟨[u], []⟩ [(x, u)])
    (hsp : ∀ H : Hp, Only H → SqL K H a (ns.map V.int) → sp [.ref a] H (fun v _ => v = .bl true) fun _ _ _ => False) :
    codeAny (model P w) callerA (.call (.ref fa) ⟨[.ref a], []⟩) (fun r s' => r = .ok (.ret (.bool true)) ∧ OldK s₁.heap s'.heap ∧ s'.os = s₁.os ∧ AllBare s'.gens) s₁ := by
  have e0 := scr_env (P := P) (w := w) KX hns hb hbb hlim hg ha hi hl
  have hH := hsp (scrH K a vs ns) scr_only (scr_sq KX ha hi hl)
  refine codeAny_mono ((F _ e0.mod.kin (scr_ns ha hns)).go (us := [.ref a]) (vs := [.ref a]) rfl hr e0 (hbind s₁ (.ref a)) (.cons rfl .nil) hH) fun r s' h => ?_
  match r with
  | .error _ =>
    obtain ⟨_, _, _, _, _, _, _, _, _, _, _, _, z⟩ := h
    exact z.elim
  | .ok .next => exact h.elim
  | .ok .brk => exact h.elim
  | .ok .cont => exact h.elim
  | .ok (.ret u) =>
    obtain ⟨v, H', os, bare, un, hok', r', q⟩ := h
    have q' : v = .bl true := q
    subst q'
    obtain rfl : u = Value.bool true := r'
    refine ⟨rfl, OldK.of_keep fun b o e => ?_, os, bare⟩
    rcases scrH_cases K a vs ns b with z | ⟨rfl, _, z⟩
    · exact un.keep b o e z (fun hm => by cases hm) (fun hm => by cases hm)
    · have e2 := (hok' b _ (un.frzs b _ _ z)).1
      rw [ha] at e
      cases e
      exact e2
end
theorem walkG {l : PySem.W.OpenLaw} {n k : Nat} {q : Program} {loose : List Str} {XP : (Str → Option Value) → Heap → Prop} {YP : World → Heap → Prop} {d : DefRec} {x : Str}
    (hn : l.most = some n) (hn2 : n ≤ sizeLine) (hdf : d.params.defaults = []) (hr : Room k callerA)
    (F : ∀ (w : World) (mg : Str → Option Value) (fa : Addr) (h : Heap), YP w h → h.Ns mainGlobals mg → mg d.name = some (.ref fa) →
      ∃ (K : PySem.W.Frag) (fd : FuncData) (sp : Sp), K.In h ∧ (∀ (s : Shared) (u : Value), BindsTo s fd ⟨[u], []⟩ [(x, u)]) ∧
        (∀ (H : Hp) (a : Addr) (ns : List Int), ns.length ≤ n → Only H → SqL K H a (ns.map V.int) → sp [.ref a] H (fun v _ => v = .bl true) fun _ _ _ => False) ∧
        ∀ base : Heap, K.In base → base.Ns mainGlobals mg → FnG l.prog w K mg base k fa fd 1 [x] sp) :
    PySem.W.WalkO q loose XP YP l.row.toRowW d [] (fun f vs => PySem.call f vs) := by
  refine Att.attach_call hn hdf fun w s₀ s₁ mg mb fa o pm cd doc a vs ns G Y ho hd hcd hmg hobj hints hlen hg => ?_
  obtain ⟨K, fd, sp, KX, hb, hsp, hF⟩ := F w mg fa _ Y G.T.g hmg
  exact law_goG KX G.T.g G.T.b G.T.builtins G.T.nolimit hg hobj hints (Nat.le_trans hlen hn2) hr hF hb fun H hO hS => hsp H a ns hlen hO hS
end Vm

set_option Elab.async false
set_option linter.all false
set_option maxRecDepth 100000
set_option maxHeartbeats 4000000
/-! VmX: a module's names that stand for numbers, texts, rows of texts. -/
namespace Vm
open PySem PySem.Spec PyProof.Rows L2
def strsB : List Value → List Str → Bool
  | [], [] => true
  | .str z _ :: us, s :: l => decide (z = s) && strsB us l
  | _, _ => false
theorem strsB_ok : ∀ {us : List Value} {l : List Str}, strsB us l = true → Vals (l.map V.str) us
  | [], [], _ => .nil
  | [], _ :: _, h => by cases h
  | u :: us, [], h => by cases u <;> cases h
  | u :: us, s :: l, h => by
    cases u <;> try (cases h; done)
    rename_i z t
    have q : (decide (z = s) && strsB us l) = true := h
    rw [Bool.and_eq_true, decide_eq_true_eq] at q
    obtain ⟨rfl, q⟩ := q
    exact .cons ⟨t, rfl⟩ (strsB_ok q)
def rowsB (K : PySem.W.Frag) : List Value → List (List Str) → Bool
  | [], [] => true
  | .ref a :: us, r :: l => (match K.lookup a with
    | some ⟨.type c, _, .seq its _, _⟩ => decide (c = "tuple") && (decide (its.size ≤ 1000) && strsB its.toList r)
    | _ => false) && rowsB K us l
  | _, _ => false
theorem rowsB_ok [T : Tbs] {K : PySem.W.Frag} {m : List Addr} {H : Hp} : ∀ {us : List Value} {l : List (List Str)}, rowsB K us l = true → ∃ vs, Vals vs us ∧ Reps K m H vs (l.map fun r => .tup (r.map PV.str))
  | [], [], _ => ⟨[], .nil, .nil⟩
  | [], _ :: _, h => by cases h
  | u :: us, [], h => by cases u <;> cases h
  | u :: us, r :: l, h => by
    cases u <;> try (cases h; done)
    rename_i a
    unfold rowsB at h
    rw [Bool.and_eq_true] at h
    obtain ⟨h1, h2⟩ := h
    split at h1
    · rename_i cn od its n sl e2
      rw [Bool.and_eq_true, Bool.and_eq_true, decide_eq_true_eq, decide_eq_true_eq] at h1
      obtain ⟨rfl, hz, hs⟩ := h1
      obtain ⟨vs, q1, q2⟩ := rowsB_ok h2
      refine ⟨.ref a :: vs, .cons rfl q1, .cons (.tup (vs := r.map V.str) (.inr ⟨_, its, n, e2, rfl, rfl, ?_, strsB_ok hs⟩) (Reps.ofStrs r)) q2⟩
      have : sizeLine = 2 ^ 24 := rfl
      omega
    · cases h1
/-- so it stands in K -/
def conK (K : PySem.W.Frag) (p : Str × Cst) : Bool := match p.2 with
  | .int i => (match PySem.W.nsIn K mainGlobals p.1 with
    | some (some (.int j _)) => decide (j = i)
    | _ => false)
  | .str s => (match PySem.W.nsIn K mainGlobals p.1 with
    | some (some (.str z _)) => decide (z = s)
    | _ => false)
  | .strs l => (match PySem.W.nsIn K mainGlobals p.1 with
    | some (some (.ref a)) => (match K.lookup a with
      | some ⟨.type c, _, .seq its _, _⟩ => decide (c = "tuple") && (decide (its.size ≤ 1000) && strsB its.toList l)
      | _ => false)
    | _ => false)
  | .rows l => (match PySem.W.nsIn K mainGlobals p.1 with
    | some (some (.ref a)) => (match K.lookup a with
      | some ⟨.type c, _, .seq its _, _⟩ => decide (c = "tuple") && (decide (its.size ≤ 1000) && rowsB K its.toList l)
      | _ => false)
    | _ => false)
theorem conK_ok {K : PySem.W.Frag} {h : Heap} {mg : Str → Option Value} {x : Str} {k : Cst} (X : K.In h) (G : h.Ns mainGlobals mg) (c : conK K (x, k) = true) : ∃ u v, mg x = some u ∧ RelV v u ∧ ∀ m H, Rep K m H v k.pv := by
  unfold conK at c
  cases k
  · rename_i i
    dsimp only at c
    split at c
    · rename_i j t e
      rw [decide_eq_true_eq] at c
      subst c
      exact ⟨_, .int j, PySem.W.mg_of X G e, ⟨t, rfl⟩, fun _ _ => .int⟩
    · cases c
  · rename_i s
    dsimp only at c
    split at c
    · rename_i j t e
      rw [decide_eq_true_eq] at c
      subst c
      exact ⟨_, .str j, PySem.W.mg_of X G e, ⟨t, rfl⟩, fun _ _ => .str⟩
    · cases c
  · rename_i l
    dsimp only at c
    split at c
    · rename_i a e
      split at c
      · rename_i cn od its n sl e2
        rw [Bool.and_eq_true, Bool.and_eq_true, decide_eq_true_eq, decide_eq_true_eq] at c
        obtain ⟨rfl, hz, hs⟩ := c
        refine ⟨_, .ref a, PySem.W.mg_of X G e, rfl, fun m H => .tup (vs := l.map V.str) (.inr ⟨_, its, n, e2, rfl, rfl, ?_, strsB_ok hs⟩) (Reps.ofStrs l)⟩
        have : sizeLine = 2 ^ 24 := rfl
        omega
      · cases c
    · cases c
  · rename_i l
    dsimp only at c
    split at c
    · rename_i a e
      split at c
      · rename_i cn od its n sl e2
        rw [Bool.and_eq_true, Bool.and_eq_true, decide_eq_true_eq, decide_eq_true_eq] at c
        obtain ⟨rfl, hz, hs⟩ := c
        refine ⟨_, .ref a, PySem.W.mg_of X G e, rfl, fun m H => ?_⟩
        obtain ⟨vs, q1, q2⟩ := rowsB_ok (m := m) (H := H) hs
        refine .tup (vs := vs) (.inr ⟨_, its, n, e2, rfl, rfl, ?_, q1⟩) q2
        have : sizeLine = 2 ^ 24 := rfl
        omega
      · cases c
    · cases c
theorem conK_all {K : PySem.W.Frag} {h : Heap} {mg : Str → Option Value} {C : List (Str × Cst)} (X : K.In h) (G : h.Ns mainGlobals mg) (c : C.all (conK K) = true) : ConAll K mg C :=
  fun x k hx => conK_ok X G (List.all_eq_true.mp c (x, k) hx)
/-- the hook with a module's names -/
abbrev hookC (n : Nat) (ds : List DefT) (C : List (Str × Cst)) : PySem.W.Hook := He.hookX n (faOf ds) (ds.map ddOf) [] [] fun K => C.all (conK K)
def obC (n : Nat) (ds : List DefT) (C : List (Str × Cst)) (s : PySem.W.SharedT) : He.AlX := He.obsX n (faOf ds) (ds.map ddOf) [] [] (fun K => C.all (conK K)) (HandSHeadRun.getT s)
theorem obC_eq {n : Nat} {ds : List DefT} {C : List (Str × Cst)} (s : PySem.W.SharedT) : obC n ds C s = (hookC n ds C).obs s.abs := He.obsX_eq (HandSHeadRun.getT_eq s)
end Vm

set_option Elab.async false
set_option linter.all false
set_option maxRecDepth 100000
set_option maxHeartbeats 1000000
/-! VmO: what rows of ints are shown as. -/
namespace Vm
open PySem PySem.Spec PyProof.Rows L2
theorem ints_showable : ∀ ws : List Int, (∀ w ∈ ws, w.natAbs < 10 ^ 100) → PyData.showableAll (ws.map PyData.int) = true
  | [], _ => by simp [PyData.showableAll]
  | w :: ws, k => by
    have a := ints_showable ws fun x hx => k x (List.mem_cons_of_mem _ hx)
    have b : w.natAbs.log2 < 1920 := by
      have h := k w List.mem_cons_self
      by_cases z : w.natAbs = 0
      · rw [z]; decide
      · have h2 : w.natAbs < 2 ^ 400 := Nat.lt_of_lt_of_le h (by decide +kernel)
        have := (Nat.log2_lt z).mpr h2
        omega
    simp [PyData.showableAll, PyData.showable, a, b]
theorem ints_nodict : ∀ ws : List Int, PyData.hasDictAll (ws.map PyData.int) = false
  | [] => by simp [PyData.hasDictAll]
  | w :: ws => by simp [PyData.hasDictAll, PyData.hasDict, ints_nodict ws]
theorem ints_sum : ∀ ws : List Int, (∀ w ∈ ws, w.natAbs < 10 ^ 100) → ((PyData.shownAll (ws.map PyData.int)).map (·.length)).sum ≤ 101 * ws.length ∧ (PyData.shownAll (ws.map PyData.int)).length = ws.length
  | [], _ => by simp [PyData.shownAll]
  | w :: ws, k => by
    obtain ⟨a, b⟩ := ints_sum ws fun x hx => k x (List.mem_cons_of_mem _ hx)
    have c : (PyData.shown (.int w)).length ≤ 101 := by
      have := int_text_length_le10 (a := w) (k := 100) (by decide) (k w List.mem_cons_self)
      show (Str.ofString (toString w)).length ≤ 101
      rw [PySem.ofString_length]
      exact this
    simp only [List.map_cons, PyData.shownAll, List.sum_cons, List.length_cons]
    omega
theorem show_ints {ws : List Int} {h : IH} (l : ws.length ≤ 1000) (k : ∀ w ∈ ws, w.natAbs < 10 ^ 100) : Bf 9 [.tup (ws.map PV.int)] h = .ok (.str (PyData.shown (.tuple (ws.map PyData.int)))) h := by
  show showF (.tup (ws.map PV.int)) h = _
  have q : dataOf h 40 (.tup (ws.map PV.int)) = some (.tuple (ws.map PyData.int)) := by
    have q := seqO_ints (h := h) (n := 38) ws
    show (seqO ((ws.map PV.int).map (dataOf h 39))).map PyData.tuple = _
    rw [q]
    rfl
  have h1 : PyData.showable (.tuple (ws.map PyData.int)) = true := by simp [PyData.showable, ints_showable ws k]
  have h2 : PyData.hasDict (.tuple (ws.map PyData.int)) = false := by simp [PyData.hasDict, ints_nodict ws]
  have h3 : PyData.depth (.tuple (ws.map PyData.int)) ≤ 40 := by
    have := deep_ints ws
    simp only [PyData.depth]
    omega
  have h4 : (PyData.shown (.tuple (ws.map PyData.int))).length ≤ sizeLine := by
    obtain ⟨a, b⟩ := ints_sum ws k
    have c := tupleText_len_le (PyData.shownAll (ws.map PyData.int))
    simp only [PyData.shown]
    rw [sizeLine_eq]
    omega
  simp only [showF, q, h1, h2, h3, h4, and_self, if_true]
theorem c_eqt {x y : Str} {h : IH} : cmpF .eq (.str x) (.str y) h = .ok (.bl (decide (x = y))) h := rfl
theorem c_net {x y : Str} {h : IH} : cmpF .ne (.str x) (.str y) h = .ok (.bl (!decide (x = y))) h := rfl
end Vm

set_option Elab.async false
set_option linter.all false
set_option maxRecDepth 100000
set_option maxHeartbeats 1000000
/-! VnH: small data: what is shown of them, what is equal to the empty list. -/
namespace Vm
open PySem PySem.Spec PyProof.Rows L2
mutual
def dt : PV → PyData
  | .non => .none
  | .bl b => .bool b
  | .int i => .int i
  | .str s => .str s
  | .tup xs => .tuple (dts xs)
  | .fl xs => .list (dts xs)
  | .ref _ => .none
def dts : List PV → List PyData
  | [] => []
  | x :: xs => dt x :: dts xs
end
/-- n deep, L signs long at most -/
structure Sm (n L : Nat) (x : PV) : Prop where
  dat : ∀ (h : IH) (m : Nat), n < m → dataOf h m x = some (dt x)
  shw : (dt x).showable = true
  nod : (dt x).hasDict = false
  dep : (dt x).depth ≤ n
  len : (dt x).shown.length ≤ L
  lay : (dt x).canLay0 = true
theorem Sm.mono {n L n' L' : Nat} {x : PV} (s : Sm n L x) (h1 : n ≤ n') (h2 : L ≤ L') : Sm n' L' x :=
  ⟨fun h m hm => s.dat h m (by omega), s.shw, s.nod, Nat.le_trans s.dep h1, Nat.le_trans s.len h2, s.lay⟩
theorem dat1 {m : Nat} (h : 0 < m) : ∃ k, m = k + 1 := ⟨m - 1, by omega⟩
theorem Sm.non : Sm 0 4 .non := ⟨fun h m hm => by obtain ⟨k, rfl⟩ := dat1 hm; rfl, by simp [dt, PyData.showable], by simp [dt, PyData.hasDict], by simp [dt, PyData.depth], by unfold dt; decide +kernel, by simp [dt, PyData.canLay0]⟩
theorem Sm.int {i : Int} (h : i.natAbs < 10 ^ 100) : Sm 0 101 (.int i) := by
  have a := ints_showable [i] fun w hw => by have : w = i := by simpa using hw
                                             subst this; exact h
  have c : (PyData.shown (.int i)).length ≤ 101 := by
    have := int_text_length_le10 (a := i) (k := 100) (by decide) h
    show (Str.ofString (toString i)).length ≤ 101
    rw [PySem.ofString_length]
    exact this
  exact ⟨fun h m hm => by obtain ⟨k, rfl⟩ := dat1 hm; rfl, by simpa [dt, PyData.showableAll] using a, by simp [dt, PyData.hasDict], by simp [dt, PyData.depth], c, by simp [dt, PyData.canLay0]⟩
theorem Sm.str {z : Str} (h : ∀ c ∈ z.cps.toList, c < 1114112) : Sm 0 (10 * z.length + 2) (.str z) := by
  refine ⟨fun h m hm => by obtain ⟨k, rfl⟩ := dat1 hm; rfl, by simp [dt, PyData.showable], by simp [dt, PyData.hasDict], by simp [dt, PyData.depth], ?_, ?_⟩
  · show (reprText z).length ≤ _
    exact StrLaws.reprText_len z fun c hc => Nat.lt_trans (h c hc) (by decide)
  · have : PyData.strOk z = true := by
      unfold PyData.strOk
      rw [Array.all_eq_true']
      intro c hc
      exact decide_eq_true (h c (Array.mem_toList_iff.mpr hc))
    simpa [dt, PyData.canLay0] using this
theorem sms_all {n L : Nat} : ∀ xs : List PV, (∀ x ∈ xs, Sm n L x) → PyData.showableAll (dts xs) = true ∧ PyData.hasDictAll (dts xs) = false ∧ PyData.depthAll (dts xs) ≤ n ∧ ((PyData.shownAll (dts xs)).map (·.length)).sum ≤ xs.length * L ∧ (PyData.shownAll (dts xs)).length = xs.length ∧ PyData.canLayAll0 (dts xs) = true
  | [], _ => by simp [dts, PyData.showableAll, PyData.hasDictAll, PyData.depthAll, PyData.shownAll, PyData.canLayAll0]
  | x :: xs, h => by
    obtain ⟨a, b, c, d, e, f⟩ := sms_all xs fun y hy => h y (List.mem_cons_of_mem _ hy)
    have s := h x List.mem_cons_self
    have s3 := s.dep
    have s4 := s.len
    refine ⟨by simp [dts, PyData.showableAll, a, s.shw], by simp [dts, PyData.hasDictAll, b, s.nod], ?_, ?_, ?_, by simp [dts, PyData.canLayAll0, f, s.lay]⟩
    · simp only [dts, PyData.depthAll]
      omega
    · simp only [dts, PyData.shownAll, List.map_cons, List.sum_cons, List.length_cons]
      rw [Nat.add_mul]
      omega
    · simp only [dts, PyData.shownAll, List.length_cons, e]
theorem sms_seq {n L : Nat} {h : IH} {m : Nat} (hm : n < m) : ∀ xs : List PV, (∀ x ∈ xs, Sm n L x) → seqO (xs.map (dataOf h m)) = some (dts xs)
  | [], _ => rfl
  | x :: xs, k => by
    have e := (k x List.mem_cons_self).dat h m hm
    have r := sms_seq (h := h) hm xs fun y hy => k y (List.mem_cons_of_mem _ hy)
    rw [List.map_cons, e]
    show (seqO (xs.map (dataOf h m))).map (dt x :: ·) = _
    rw [r]
    rfl
theorem Sm.tup {n L c : Nat} {xs : List PV} (k : ∀ x ∈ xs, Sm n L x) (l : xs.length ≤ c) : Sm (n + 1) (c * (L + 2) + 3) (.tup xs) := by
  obtain ⟨a1, a2, a3, a4, a5, a6⟩ := sms_all xs k
  refine ⟨fun h m hm => ?_, by simpa [dt, PyData.showable] using a1, by simpa [dt, PyData.hasDict] using a2, by simp only [dt, PyData.depth]; omega, ?_, by simpa [dt, PyData.canLay0] using a6⟩
  · obtain ⟨j, rfl⟩ := dat1 (m := m) (by omega)
    show (seqO (xs.map (dataOf h j))).map PyData.tuple = _
    rw [sms_seq (by omega) xs k]
    rfl
  · have t := tupleText_len_le (PyData.shownAll (dts xs))
    simp only [dt, PyData.shown]
    have m1 : xs.length * L ≤ c * L := Nat.mul_le_mul_right L l
    rw [Nat.mul_add]
    omega
section
variable {h : IH} {n L c a d : Nat} {xs : List PV}
theorem dat_ref (e : h[a]? = some (.lst xs)) (k : ∀ x ∈ xs, Sm n L x) (hn : n < 39) : dataOf h 40 (.ref a) = some (.list (dts xs)) := by
  show (match h[a]? with
    | some (.lst xs) => (seqO (xs.map (dataOf h 39))).map PyData.list
    | _ => none) = _
  rw [e]
  show (seqO (xs.map (dataOf h 39))).map PyData.list = _
  rw [sms_seq hn xs k]
  rfl
def shL (xs : List PV) : Str := (PyData.list (dts xs)).shown
theorem show_ref (e : h[a]? = some (.lst xs)) (k : ∀ x ∈ xs, Sm n L x) (hn : n < 39) (l : xs.length ≤ c) (hL : c * (L + 2) + 3 ≤ 10000000) : Bf 9 [.ref a] h = .ok (.str (shL xs)) h := by
  obtain ⟨a1, a2, a3, a4, a5, a6⟩ := sms_all xs k
  show showF (.ref a) h = _
  have q := dat_ref e k hn
  have h1 : PyData.showable (.list (dts xs)) = true := by simpa [PyData.showable] using a1
  have h2 : PyData.hasDict (.list (dts xs)) = false := by simpa [PyData.hasDict] using a2
  have h3 : PyData.depth (.list (dts xs)) ≤ 40 := by simp only [PyData.depth]; omega
  have h4 : (PyData.shown (.list (dts xs))).length ≤ sizeLine := by
    have t := listText_len_le (PyData.shownAll (dts xs))
    have m1 : xs.length * L ≤ c * L := Nat.mul_le_mul_right L l
    rw [Nat.mul_add] at hL
    simp only [PyData.shown]
    rw [sizeLine_eq]
    omega
  simp only [showF, q, h1, h2, h3, h4, and_self, if_true]
  rfl
theorem shaped_list (k : ∀ x ∈ xs, Sm n L x) (hn : n < 39) : SeqAt.shaped (.list (dts xs)) = true ∧ SeqAt.shaped (.tuple (dts xs)) = true := by
  obtain ⟨a1, a2, a3, a4, a5, a6⟩ := sms_all xs k
  constructor
  · unfold SeqAt.shaped
    rw [Bool.and_eq_true]
    exact ⟨by simpa [PyData.canLay0] using a6, decide_eq_true (by simp only [PyData.depth]; omega)⟩
  · unfold SeqAt.shaped
    rw [Bool.and_eq_true]
    exact ⟨by simpa [PyData.canLay0] using a6, decide_eq_true (by simp only [PyData.depth]; omega)⟩
theorem no_sms : ∀ x ∈ ([] : List PV), Sm 0 0 x := fun x h => nomatch h
theorem eqv_nil : PyData.eqv (.list (dts xs)) (.list []) = decide (xs = []) ∧ PyData.eqv (.tuple (dts xs)) (.tuple []) = decide (xs = []) := by
  cases xs with
  | nil => simp [dts, PyData.eqv, PyData.eqvAll]
  | cons z zs => simp [dts, PyData.eqv, PyData.eqvAll]
theorem eq_refnil (e : h[a]? = some (.lst xs)) (k : ∀ x ∈ xs, Sm n L x) (hn : n < 39) (e2 : h[d]? = some (.lst [])) : cmpF .eq (.ref a) (.ref d) h = .ok (.bl (decide (xs = []))) h ∧ cmpF .ne (.ref a) (.ref d) h = .ok (.bl (!decide (xs = []))) h := by
  have q1 := dat_ref e k hn
  have q2 := dat_ref e2 no_sms (by decide)
  have s1 := (shaped_list k hn).1
  have s2 := (shaped_list no_sms (by decide)).1
  have e3 : PyData.eqv (.list (dts xs)) (.list (dts [])) = decide (xs = []) := eqv_nil.1
  constructor
  · show eqD false _ _ h = _
    simp only [eqD, q1, q2, s1, s2, e3, and_self, if_true]
    rfl
  · show eqD true _ _ h = _
    simp only [eqD, q1, q2, s1, s2, e3, and_self, if_true]
theorem eq_tupnil (k : ∀ x ∈ xs, Sm n L x) (hn : n < 39) : cmpF .eq (.tup xs) (.tup []) h = .ok (.bl (decide (xs = []))) h ∧ cmpF .ne (.tup xs) (.tup []) h = .ok (.bl (!decide (xs = []))) h := by
  have q1 := (Sm.tup k (Nat.le_refl _)).dat h 40 (by omega)
  have q2 := (Sm.tup no_sms (Nat.le_refl _)).dat h 40 (by omega)
  have s1 := (shaped_list k hn).2
  have s2 := (shaped_list no_sms (by decide)).2
  have e3 : PyData.eqv (.tuple (dts xs)) (.tuple (dts [])) = decide (xs = []) := eqv_nil.2
  unfold dt at q1 q2
  constructor
  · show eqD false _ _ h = _
    simp only [eqD, q1, q2, s1, s2, e3, and_self, if_true]
    rfl
  · show eqD true _ _ h = _
    simp only [eqD, q1, q2, s1, s2, e3, and_self, if_true]
end
end Vm

set_option Elab.async false
set_option linter.all false
set_option maxRecDepth 100000
set_option maxHeartbeats 1000000
/-! VnX: small data with lists in it, at any depth. -/
namespace Vm
open PySem PySem.Spec PyProof.Rows L2
theorem But.refl' (f : Nat) (h : IH) : But f h h := ⟨Nat.le_refl _, fun _ _ _ => rfl⟩
structure Gd (n L : Nat) (d : PyData) : Prop where
  shw : d.showable = true
  nod : d.hasDict = false
  dep : d.depth ≤ n
  len : d.shown.length ≤ L
  lay : d.canLay0 = true
theorem Gd.mono {n L n' L' : Nat} {d : PyData} (s : Gd n L d) (h1 : n ≤ n') (h2 : L ≤ L') : Gd n' L' d := ⟨s.shw, s.nod, Nat.le_trans s.dep h1, Nat.le_trans s.len h2, s.lay⟩
theorem Gd.sm {n L : Nat} {x : PV} (s : Sm n L x) : Gd n L (dt x) := ⟨s.shw, s.nod, s.dep, s.len, s.lay⟩
/-- how long what is shown of such data may be -/
def Lb (c t : Nat) : Nat → Nat
  | 0 => 10 * t + 210
  | n + 1 => (c + 1) * (Lb c t n + 2) + 3
theorem Lb_up {c t n : Nat} : Lb c t n ≤ Lb c t (n + 1) := by
  show Lb c t n ≤ (c + 1) * (Lb c t n + 2) + 3
  rw [Nat.add_mul, Nat.one_mul]
  omega
theorem Lb_le {c t n : Nat} : 10 * t + 210 ≤ Lb c t n := by
  induction n with
  | zero => exact Nat.le_refl _
  | succ n ih => exact Nat.le_trans ih Lb_up
/-- data: n deep, rows of c things at most, no list of it at f -/
inductive Dd (f : Nat) (h : IH) (c t : Nat) : Nat → PV → Prop
  | non {n : Nat} : Dd f h c t n .non
  | bl {n : Nat} {b : Bool} : Dd f h c t n (.bl b)
  | int {n : Nat} {i : Int} (l : i.natAbs ≤ 10 ^ 60 + c) (l2 : i.natAbs < 10 ^ 100) : Dd f h c t n (.int i)
  | str {n : Nat} {z : Str} (l : z.length ≤ t) (k : ∀ x ∈ z.cps.toList, x < 1114112) : Dd f h c t n (.str z)
  | tup {n : Nat} {xs : List PV} (l : xs.length ≤ c) (k : ∀ x ∈ xs, Dd f h c t n x) : Dd f h c t (n + 1) (.tup xs)
  | ref {n a : Nat} {xs : List PV} (af : a ≠ f) (e : h[a]? = some (.lst xs)) (l : xs.length ≤ c) (k : ∀ x ∈ xs, Dd f h c t n x) : Dd f h c t (n + 1) (.ref a)
theorem Dd.up {f : Nat} {h : IH} {c t n : Nat} {x : PV} (d : Dd f h c t n x) : ∀ {c' t' n' : Nat}, c ≤ c' → t ≤ t' → n ≤ n' → Dd f h c' t' n' x := by
  induction d with
  | non => exact fun _ _ _ => .non
  | bl => exact fun _ _ _ => .bl
  | int l l2 => exact fun h1 _ _ => .int (Nat.le_trans l (Nat.add_le_add_left h1 _)) l2
  | str l k => exact fun _ h1 _ => .str (by omega) k
  | tup l k ih =>
    intro c' t' n' h1 ht h2
    obtain ⟨m, rfl⟩ : ∃ m, n' = m + 1 := ⟨n' - 1, by omega⟩
    exact .tup (by omega) fun x hx => ih x hx h1 ht (by omega)
  | ref af e l k ih =>
    intro c' t' n' h1 ht h2
    obtain ⟨m, rfl⟩ : ∃ m, n' = m + 1 := ⟨n' - 1, by omega⟩
    exact .ref af e (by omega) fun x hx => ih x hx h1 ht (by omega)
theorem Dd.but {f : Nat} {h h' : IH} (tb : But f h h') {c t n : Nat} {x : PV} (d : Dd f h c t n x) : Dd f h' c t n x := by
  induction d with
  | non => exact .non
  | bl => exact .bl
  | int l l2 => exact .int l l2
  | str l k => exact .str l k
  | tup l k ih => exact .tup l ih
  | ref af e l k ih => exact .ref af (by rw [tb.2 _ (List.getElem?_eq_some_iff.mp e).1 af]; exact e) l ih
/-- rows of data -/
theorem rows_gd {n L : Nat} {P : PV → PyData → Prop} : ∀ xs : List PV, (∀ x ∈ xs, ∃ d, Gd n L d ∧ P x d) →
    ∃ ds, (PyData.showableAll ds = true ∧ PyData.hasDictAll ds = false ∧ PyData.depthAll ds ≤ n ∧ ((PyData.shownAll ds).map (·.length)).sum ≤ xs.length * L ∧ (PyData.shownAll ds).length = xs.length ∧ PyData.canLayAll0 ds = true) ∧ ds.length = xs.length ∧ ∀ F : PV → Option PyData, (∀ x ∈ xs, ∀ d, P x d → F x = some d) → seqO (xs.map F) = some ds
  | [], _ => ⟨[], by simp [PyData.showableAll, PyData.hasDictAll, PyData.depthAll, PyData.shownAll, PyData.canLayAll0], rfl, fun F _ => rfl⟩
  | x :: xs, h => by
    obtain ⟨ds, ⟨a, b, c, d, e, f⟩, l, k⟩ := rows_gd xs fun y hy => h y (List.mem_cons_of_mem _ hy)
    obtain ⟨d0, s, p⟩ := h x List.mem_cons_self
    have s3 := s.dep
    have s4 := s.len
    refine ⟨d0 :: ds, ⟨by simp [PyData.showableAll, a, s.shw], by simp [PyData.hasDictAll, b, s.nod], ?_, ?_, ?_, by simp [PyData.canLayAll0, f, s.lay]⟩, by rw [List.length_cons, List.length_cons, l], fun F hF => ?_⟩
    · simp only [PyData.depthAll]
      omega
    · simp only [PyData.shownAll, List.map_cons, List.sum_cons, List.length_cons]
      rw [Nat.add_mul]
      omega
    · simp only [PyData.shownAll, List.length_cons, e]
    · rw [List.map_cons, hF x List.mem_cons_self d0 p]
      show (seqO (xs.map F)).map (d0 :: ·) = _
      rw [k F fun y hy => hF y (List.mem_cons_of_mem _ hy)]
      rfl
/-- what the data are, wherever the feed goes on -/
def Dat (f : Nat) (h : IH) (n : Nat) (x : PV) (d : PyData) : Prop := ∀ h', But f h h' → ∀ m, n < m → dataOf h' m x = some d
theorem Dd.dat {f : Nat} {h : IH} {c t n : Nat} {x : PV} (s : Dd f h c t n x) : ∃ d, Gd n (Lb c t n) d ∧ Dat f h n x d := by
  induction s with
  | non => exact ⟨_, (Gd.sm Sm.non).mono (Nat.zero_le _) (Nat.le_trans (by omega) Lb_le), fun h' _ m hm => by obtain ⟨k, rfl⟩ := dat1 (m := m) (by omega); rfl⟩
  | @bl n b =>
    refine ⟨.bool b, ⟨by simp [PyData.showable], by simp [PyData.hasDict], by simp [PyData.depth], Nat.le_trans (m := 10 * t + 210) ?_ Lb_le, by simp [PyData.canLay0]⟩, fun h' _ m hm => by obtain ⟨k, rfl⟩ := dat1 (m := m) (by omega); rfl⟩
    have : (PyData.shown (.bool b)).length ≤ 10 := by cases b <;> decide +kernel
    omega
  | int l l2 => exact ⟨_, (Gd.sm (Sm.int l2)).mono (Nat.zero_le _) (Nat.le_trans (by omega) Lb_le), fun h' _ m hm => by obtain ⟨k, rfl⟩ := dat1 (m := m) (by omega); rfl⟩
  | str l k => exact ⟨_, (Gd.sm (Sm.str k)).mono (Nat.zero_le _) (Nat.le_trans (by omega) Lb_le), fun h' _ m hm => by obtain ⟨k, rfl⟩ := dat1 (m := m) (by omega); rfl⟩
  | @tup n xs l k ih =>
    obtain ⟨ds, ⟨a1, a2, a3, a4, a5, a6⟩, le, sq⟩ := rows_gd xs ih
    refine ⟨.tuple ds, ⟨by simpa [PyData.showable] using a1, by simpa [PyData.hasDict] using a2, by simp only [PyData.depth]; omega, ?_, by simpa [PyData.canLay0] using a6⟩, fun h' tb m hm => ?_⟩
    · have tl := tupleText_len_le (PyData.shownAll ds)
      simp only [PyData.shown]
      have m1 : xs.length * Lb c t n ≤ c * Lb c t n := Nat.mul_le_mul_right _ l
      show _ ≤ (c + 1) * (Lb c t n + 2) + 3
      rw [Nat.add_mul, Nat.mul_add]
      omega
    · obtain ⟨j, rfl⟩ := dat1 (m := m) (by omega)
      show (seqO (xs.map (dataOf h' j))).map PyData.tuple = _
      rw [sq _ fun x _ d q => q h' tb j (by omega)]
      rfl
  | @ref n a xs af e l k ih =>
    obtain ⟨ds, ⟨a1, a2, a3, a4, a5, a6⟩, le, sq⟩ := rows_gd xs ih
    refine ⟨.list ds, ⟨by simpa [PyData.showable] using a1, by simpa [PyData.hasDict] using a2, by simp only [PyData.depth]; omega, ?_, by simpa [PyData.canLay0] using a6⟩, fun h' tb m hm => ?_⟩
    · have tl := listText_len_le (PyData.shownAll ds)
      simp only [PyData.shown]
      have m1 : xs.length * Lb c t n ≤ c * Lb c t n := Nat.mul_le_mul_right _ l
      show _ ≤ (c + 1) * (Lb c t n + 2) + 3
      rw [Nat.add_mul, Nat.mul_add]
      omega
    · obtain ⟨j, rfl⟩ := dat1 (m := m) (by omega)
      have e' : h'[a]? = some (.lst xs) := by rw [tb.2 _ (List.getElem?_eq_some_iff.mp e).1 af]; exact e
      show (match h'[a]? with
        | some (.lst xs) => (seqO (xs.map (dataOf h' j))).map PyData.list
        | _ => none) = _
      rw [e']
      show (seqO (xs.map (dataOf h' j))).map PyData.list = _
      rw [sq _ fun x _ d q => q h' tb j (by omega)]
      rfl
/-- shown the same ever after -/
theorem Dd.show_ {f : Nat} {h : IH} {c t n : Nat} {x : PV} (s : Dd f h c t n x) (hn : n < 40) (hL : Lb c t n ≤ 10000000) : ∃ z, ∀ h', But f h h' → Bf 9 [x] h' = .ok (.str z) h' := by
  obtain ⟨d, g, q⟩ := s.dat
  have sh : ∀ h', But f h h' → showF x h' = .ok (.str d.shown) h' := fun h' tb => by
    have h3 : d.depth ≤ 40 := Nat.le_trans g.dep (by omega)
    have h4 : d.shown.length ≤ sizeLine := Nat.le_trans g.len (by rw [sizeLine_eq]; omega)
    simp only [showF, q h' tb 40 (by omega), g.shw, g.nod, h3, h4, and_self, if_true]
  cases s with
  | non => exact ⟨"None", fun h' _ => rfl⟩
  | @bl _ b => exact ⟨if b then "True" else "False", fun h' _ => rfl⟩
  | @int _ i _ l =>
    refine ⟨Str.ofString (toString i), fun h' _ => ?_⟩
    show (if i.natAbs.log2 < 1920 then (Res.ok (PV.str (Str.ofString (toString i))) h' : Res PV) else .stuck) = _
    refine if_pos ?_
    by_cases z : i.natAbs = 0
    · rw [z]; decide
    · refine (Nat.log2_lt z).mpr (Nat.lt_trans l ?_)
      decide +kernel
  | @str _ z l k =>
    refine ⟨reprText z, fun h' _ => ?_⟩
    have := StrLaws.reprText_len z fun c hc => Nat.lt_trans (k c hc) (by decide)
    have b := Lb_le (c := c) (t := t) (n := n)
    exact if_pos (by rw [sizeLine_eq]; omega)
  | tup l k => exact ⟨_, sh⟩
  | ref af e l k => exact ⟨_, sh⟩
/-- empty or not -/
theorem Dd.eq_nil {f : Nat} {h : IH} {c t n a d : Nat} {xs : List PV} (k : ∀ x ∈ xs, Dd f h c t n x) (hn : n < 38) (e : h[a]? = some (.lst xs)) (e2 : h[d]? = some (.lst [])) : cmpF .eq (.ref a) (.ref d) h = .ok (.bl (decide (xs = []))) h := by
  obtain ⟨ds, ⟨a1, a2, a3, a4, a5, a6⟩, le, sq⟩ := rows_gd (n := n) (L := Lb c t n) (P := Dat f h n) xs fun x hx => (k x hx).dat
  have q1 : dataOf h 40 (.ref a) = some (.list ds) := by
    show (match h[a]? with
      | some (.lst xs) => (seqO (xs.map (dataOf h 39))).map PyData.list
      | _ => none) = _
    rw [e]
    show (seqO (xs.map (dataOf h 39))).map PyData.list = _
    rw [sq _ fun x _ d q => q h (But.refl' f h) 39 (by omega)]
    rfl
  have q2 := dat_ref e2 no_sms (by decide)
  have s1 : SeqAt.shaped (.list ds) = true := by
    unfold SeqAt.shaped
    rw [Bool.and_eq_true]
    exact ⟨by simpa [PyData.canLay0] using a6, decide_eq_true (by simp only [PyData.depth]; omega)⟩
  have s2 := (shaped_list no_sms (by decide)).1
  have e3 : PyData.eqv (.list ds) (.list (dts [])) = decide (xs = []) := by
    cases xs with
    | nil =>
      have : ds = [] := List.length_eq_zero_iff.mp le
      subst this
      simp [dts, PyData.eqv, PyData.eqvAll]
    | cons z zs =>
      cases ds with
      | nil => cases le
      | cons d ds => simp [dts, PyData.eqv, PyData.eqvAll]
  show eqD false _ _ h = _
  simp only [eqD, q1, q2, s1, s2, e3, and_self, if_true]
  rfl
/-- its kind is known -/
def kdP : PV → String
  | .non => "NoneType"
  | .bl _ => "bool"
  | .int _ => "int"
  | .str _ => "str"
  | .tup _ => "tuple"
  | .fl _ => "list"
  | .ref _ => "list"
theorem Dd.ty {f : Nat} {h : IH} {c t n : Nat} {x : PV} (s : Dd f h c t n x) : tyOf h x = some (kdP x) := by
  cases s with
  | ref af e l k => simp [tyOf, e, kdP]
  | _ => rfl
theorem Dd.isF {f : Nat} {h : IH} {c t n : Nat} {x : PV} (s : Dd f h c t n x) {ty : Ty} : Vm.isF ty x h = .ok (.bl (decide (kdP x = ty.word) || (decide (kdP x = "bool") && decide (ty = .int)))) h := by
  unfold Vm.isF
  rw [s.ty]
theorem g60 : (100000000 : Nat) ≤ 10 ^ 60 ∧ (10 : Nat) ^ 60 + 100000000 < 10 ^ 100 := by decide
theorem Dd.small {f c t n : Nat} {h : IH} {i : Int} (l : i.natAbs ≤ 100000000) : Dd f h c t n (.int i) := by
  have a := g60.1
  have b := g60.2
  refine .int ?_ ?_
  · exact Nat.le_trans l (Nat.le_trans a (Nat.le_add_right _ _))
  · generalize (10 : Nat) ^ 60 = x at a b
    generalize (10 : Nat) ^ 100 = y at b
    omega
theorem Dd.near {f c t n t' n' : Nat} {h h' : IH} {i j : Int} (d : i.natAbs ≤ 10 ^ 60 + c) (hc : c ≤ 1000000) (e : j.natAbs ≤ i.natAbs + 1) : Dd f h' (c + 1) t' n' (.int j) := by
  have b := g60.2
  refine .int ?_ ?_
  · generalize (10 : Nat) ^ 60 = x at d b
    omega
  · generalize (10 : Nat) ^ 60 = x at d b
    generalize (10 : Nat) ^ 100 = y at b
    omega
theorem Dd.ten50 {f c t n : Nat} {h : IH} : Dd f h c t n (.int (10 ^ (50 : Int).toNat)) := by
  have a : ((10 : Int) ^ (50 : Int).toNat).natAbs ≤ 10 ^ 60 := by decide
  have a2 : ((10 : Int) ^ (50 : Int).toNat).natAbs < 10 ^ 100 := by decide
  exact .int (Nat.le_trans a (Nat.le_add_right _ _)) a2
/-! ### pieces -/
theorem cut_mem {xs : List PV} {lo hi : Option Int} {y : PV} (h : y ∈ cutP xs lo hi) : y ∈ xs := List.mem_of_mem_drop (List.mem_of_mem_take h)
theorem cut_len {xs : List PV} {lo hi : Option Int} : (cutP xs lo hi).length ≤ HT.sIx xs.length xs.length hi - HT.sIx xs.length 0 lo ∧ (cutP xs lo hi).length ≤ xs.length - HT.sIx xs.length 0 lo := by
  unfold cutP
  rw [List.length_take, List.length_drop]
  omega
theorem sIx_pos {n d : Nat} {t : Int} (h : 0 ≤ t) : HT.sIx n d (some t) = min t.toNat n := by
  show (if t < 0 then _ else min t.toNat n) = _
  rw [if_neg (by omega)]
theorem tup_add {h : IH} {xs ys : List PV} (l : xs.length + ys.length ≤ 1000000) : binF .add (.tup xs) (.tup ys) h = .ok (.tup (xs ++ ys)) h := by
  show newT h (xs ++ ys) = _
  exact newT_ok (by rw [List.length_append]; exact l)
theorem lst_add {h : IH} {a b : Nat} {xs ys : List PV} (e : h[a]? = some (.lst xs)) (e2 : h[b]? = some (.lst ys)) (l : xs.length + ys.length ≤ 1000000) : binF .add (.ref a) (.ref b) h = .ok (.ref h.length) (h ++ [.lst (xs ++ ys)]) := by
  simp only [binF, e, e2]
  exact new_ok (by rw [List.length_append]; exact l)
theorem str_add {h : IH} {x y : Str} (l : x.length + y.length ≤ 1000000) : binF .add (.str x) (.str y) h = .ok (.str (x ++ y)) h := if_pos (by rw [sizeLine_eq]; omega)
theorem slc_str {h : IH} {z : Str} {lo hi : Option Int} (l : z.length ≤ 1000000) : slcF (.str z) lo hi h = .ok (.str (Txt.slice z lo hi)) h := if_pos (by rw [sizeLine_eq]; omega)
/-- a text of known signs -/
def Tk (t : Nat) (z : Str) : Prop := z.length ≤ t ∧ ∀ x ∈ z.cps.toList, x < 1114112
theorem Tk.cut {t : Nat} {z : Str} {lo hi : Option Int} (k : Tk t z) : Tk t (Txt.slice z lo hi) := by
  refine ⟨Nat.le_trans (Txt.slice_le z lo hi) k.1, fun x hx => ?_⟩
  unfold Txt.slice at hx
  split at hx
  · exact k.2 x hx
  · simp only [List.mem_filterMap] at hx
    obtain ⟨i, _, e⟩ := hx
    exact k.2 x (Array.mem_toList_iff.mpr (Array.mem_of_getElem? e))
theorem Tk.cat {t u : Nat} {z y : Str} (k : Tk t z) (k2 : Tk u y) : Tk (t + u) (z ++ y) := by
  have e : (z ++ y).cps = z.cps ++ y.cps := rfl
  refine ⟨?_, fun x hx => ?_⟩
  · have := size_cat z y
    have := k.1
    have := k2.1
    omega
  · rw [e, Array.toList_append] at hx
    rcases List.mem_append.mp hx with hx | hx
    · exact k.2 x hx
    · exact k2.2 x hx
end Vm

set_option Elab.async false
set_option linter.all false
set_option maxRecDepth 100000
set_option maxHeartbeats 1000000
/-! VnI: while. -/
namespace Vm
open PySem PySem.Spec PyProof.Rows L2
theorem whl_inv {c : Ev → IH → Res PV} {f : Ev → IH → Res Fl} (J : Nat → Ev → IH → Prop) {Q : Fl → IH → Prop} (st : ∀ m ev h, J m ev h → (c ev h).Ok fun x h1 => (x = .bl false ∧ Q (.nx ev) h1) ∨ (x = .bl true ∧ (f ev h1).Ok fun o h2 => match o with
    | .nx ev' => ∃ m', m' < m ∧ J m' ev' h2
    | .rt y => Q (.rt y) h2)) : ∀ n m ev h, m < n → J m ev h → (whlLoop c f n ev h).Ok Q
  | 0, m, ev, h, l, _ => by omega
  | n + 1, m, ev, h, l, j => by
    unfold whlLoop
    refine Res.ok_bind ((st m ev h j).mono fun x h1 q => ?_)
    rcases q with ⟨rfl, q⟩ | ⟨rfl, q⟩
    · exact q
    · refine Res.ok_bind (q.mono fun o h2 q => ?_)
      cases o with
      | nx ev' =>
        obtain ⟨m', l', j'⟩ := q
        exact whl_inv J st n m' ev' h2 (by omega) j'
      | rt y => exact q
theorem nodup_sub {α : Type} [DecidableEq α] : ∀ {l m : List α}, l.Nodup → (∀ x ∈ l, x ∈ m) → l.length ≤ m.length
  | [], m, _, _ => by simp
  | x :: l, m, nd, h => by
    obtain ⟨n1, n2⟩ := List.nodup_cons.mp nd
    have mx := h x List.mem_cons_self
    have ih := nodup_sub (l := l) (m := m.erase x) n2 fun y hy => by
      have ne : y ≠ x := fun e => n1 (e ▸ hy)
      exact (List.mem_erase_of_ne ne).mpr (h y (List.mem_cons_of_mem _ hy))
    have := List.length_erase_of_mem mx
    have := List.length_pos_of_mem mx
    simp only [List.length_cons]
    omega
end Vm

set_option Elab.async false
set_option linter.all false
set_option maxRecDepth 100000
set_option maxHeartbeats 4000000
/-! VnO: own errors' classes as they stand. -/
namespace Vm
open PySem PySem.Spec PyProof.Rows L2
variable [T : Tbs]
/-- an error's class: its name, its fields, its __init__ -/
structure ErrT where
  name : Str
  ns : List Str
  ps : List Str
  st : Stmt
def deOf (e : ErrT) : He.DefD := ⟨(e.name, some "__init__"), "__init__", e.name ++ ".__init__", defArgs e.st, defBody e.st, defScope e.st, [], []⟩
/-- __init__'s body: a field by each parameter -/
def initC (ps : List Str) (sc : Scope) : Nat → List Str → List Stmt → Bool
  | _, [], [] => true
  | i, f :: fs, st :: r => (match st with
    | .Assign [.Attribute (.Name s _) g _] (.Name y _) _ => decide (ps[0]? = some s) && decide (g = f) && decide (ps[i]? = some y) && visB sc s && visB sc y && okName s && okName y
    | _ => false) && initC ps sc (i + 1) fs r
  | _, _, _ => false
def errC (e : ErrT) : Bool :=
  (match (defScope e.st).kind with | .function => true | _ => false) && !(defScope e.st).isCoroutine && !(defScope e.st).isGenerator && decide e.ps.Nodup &&
    (e.ps.all fun x => locB (defScope e.st) x) && ((defScope e.st).names.all fun y => decide (y.2 ≠ .free)) && initC e.ps (defScope e.st) 1 e.ns (defBody e.st) && decide (e.ps.length = e.ns.length + 1) && decide (e.ns ≠ []) && decide (e.ns.length ≤ 900)
theorem errC_scope {e : ErrT} (h : errC e = true) : FnScope e.ps e.ps (defScope e.st) ∧ initC e.ps (defScope e.st) 1 e.ns (defBody e.st) = true ∧ e.ps.length = e.ns.length + 1 ∧ e.ns ≠ [] ∧ e.ns.length ≤ 900 := by
  unfold errC at h
  simp only [Bool.and_eq_true, decide_eq_true_eq, List.all_eq_true, Bool.not_eq_true'] at h
  obtain ⟨⟨⟨⟨⟨⟨⟨⟨⟨h1, h2⟩, h3⟩, h4⟩, h5⟩, h6⟩, h7⟩, h8⟩, h9⟩, h10⟩ := h
  refine ⟨⟨?_, h2, h3, h4, List.take_length, fun x hx => ?_, fun y hy => h6 y hy⟩, h7, h8, h9, h10⟩
  · split at h1
    · rename_i e; exact e
    · cases h1
  · have := h5 x hx
    unfold locB at this
    split at this <;> first | (rename_i e; simp [e]; done) | cases this
def tIn (K : PySem.W.Frag) : Nat → List Str → TS
  | _, [] => tNext
  | i, f :: fs => tSeq (tOst K f (tVar 0) (tVar i)) (tIn K (i + 1) fs)
theorem init_ps {X : Cx} {ps : List Str} (hN : X.N = ps) : ∀ (fs : List Str) (i : Nat) (b : List Stmt), initC ps X.env.scope i fs b = true → PSs X b (tIn X.K i fs)
  | [], i, [], _ => pss_nil
  | [], i, _ :: _, h => by cases h
  | f :: fs, i, [], h => by cases h
  | f :: fs, i, st :: r, h => by
    unfold initC at h
    rw [Bool.and_eq_true] at h
    obtain ⟨h1, h2⟩ := h
    refine pss_cons ?_ (init_ps hN fs (i + 1) r h2)
    split at h1
    · simp only [Bool.and_eq_true, decide_eq_true_eq] at h1
      obtain ⟨⟨⟨⟨⟨⟨k1, rfl⟩, k3⟩, k4⟩, k5⟩, k6⟩, k7⟩ := h1
      exact ps_ost (pe_var (by rw [hN]; exact k1) (visB_ok k4) (okName_d k6).1 (okName_d k6).2) (pe_var (by rw [hN]; exact k3) (visB_ok k5) (okName_d k7).1 (okName_d k7).2) rfl
    · cases h1
theorem tIn_more {K : PySem.W.Frag} {C a d : Addr} (oex : OexC K C) (hda : d ≠ a) {σ : L2.St} (h0 : σ[0]? = some (some (.ref a))) : ∀ (fs : List Str) (ws : List V) (i : Nat) (H2 : Hp) (fs0 : List (Str × V)) (D : Ends), fs.length = ws.length → (∀ f ∈ fs, PySem.W.findIn K (.ref C) f = some none) →
    (∀ k w, ws[k]? = some w → σ[i + k]? = some (some w)) → H2 a = some (exo a C (some d)) → H2 d = some (exd d fs0) → fs0.length + fs.length ≤ 900 →
    (∀ H3, H3 a = some (exo a C (some d)) → H3 d = some (exd d ((fs.zip ws).reverse ++ fs0)) → (∀ b, b ≠ d → H3 b = H2 b) → D.nx σ H3) → tIn K i fs D σ H2
  | [], ws, i, H2, fs0, D, hl, hf, hw, ha, hd, hn, k => k H2 ha hd fun _ _ => rfl
  | f :: fs, [], i, H2, fs0, D, hl, hf, hw, ha, hd, hn, k => by cases hl
  | f :: fs, w :: ws, i, H2, fs0, D, hl, hf, hw, ha, hd, hn, k => by
    have hl' : fs.length = ws.length := by simpa using hl
    have hn' : fs0.length + (fs.length + 1) ≤ 900 := by simpa using hn
    refine ⟨w, hw 0 w rfl, .ref a, h0, a, C, rfl, oex, hf f List.mem_cons_self, .inr ⟨d, fs0, ha, hd, by omega, ?_⟩⟩
    refine tIn_more oex hda h0 fs ws (i + 1) _ ((f, w) :: fs0) D hl' (fun g hg => hf g (List.mem_cons_of_mem _ hg)) (fun k w' e => ?_) (by rw [upd_ne (Ne.symm hda)]; exact ha) upd_same (by simp; omega) fun H3 e1 e2 e3 => ?_
    · rw [show i + 1 + k = i + (k + 1) by omega]
      exact hw (k + 1) w' (by simpa using e)
    · refine k H3 e1 ?_ fun b hb => ?_
      · rw [e2, List.zip_cons_cons, List.reverse_cons, List.append_assoc]
        rfl
      · rw [e3 b hb, upd_ne hb]
theorem init_ok {P : Program} {w : World} {K : PySem.W.Frag} {mg : Str → Option Value} {base : Heap} {e : ErrT} {C f : Addr} {fd : FuncData} (h : errC e = true) (F : FunD K "__init__" (e.name ++ ".__init__") (defArgs e.st) (defBody e.st) (defScope e.st) [] [] f fd) (oex : OexC K C)
    (hf : ∀ g ∈ e.ns, PySem.W.findIn K (.ref C) g = some none) : FnOk P w K mg base (L2.CX P w) 1 f fd e.ps (spInit C e.ns) := by
  obtain ⟨S, hb, hl, hne, h9⟩ := errC_scope h
  refine F.ok S (fun vs H Q E q => ?_) fun cdv A outer s H vs Q E hr q => ⟨tIn K 1 e.ns, init_ps (X := cxOf (L2.CX P w) P w K mg base e.ps (e.name ++ ".__init__") (defScope e.st) f cdv A outer s H E) rfl e.ns 1 _ hb, ?_⟩
  · obtain ⟨a, ws, rfl, hw, _⟩ := q
    rw [List.length_cons, hw, hl]
  · obtain ⟨a, ws, rfl, hw, ha, k⟩ := q
    have hs : L2.start e.ps (.ref a :: ws) = some (.ref a) :: ws.map some := by
      unfold L2.start
      rw [List.map_cons, List.length_cons, hw, hl, Nat.sub_self, List.replicate_zero, List.append_nil]
    cases e1 : e.ns with
    | nil => exact absurd e1 hne
    | cons f1 fs =>
      cases ws with
      | nil => rw [e1] at hw; cases hw
      | cons w1 ws =>
        rw [hs]
        rw [e1] at hw hf h9 k
        have hw' : fs.length = ws.length := by simpa using hw.symm
        refine ⟨w1, rfl, .ref a, rfl, a, C, rfl, oex, hf f1 List.mem_cons_self, .inl ⟨ha, fun dx hdx hda => ?_⟩⟩
        refine tIn_more oex hda rfl fs ws 2 _ [(f1, w1)] _ hw' (fun g hg => hf g (List.mem_cons_of_mem _ hg)) (fun j w' e => ?_) upd_same (by rw [upd_ne hda]; exact upd_same) (by simp at h9 ⊢; omega) fun H3 a1 a2 a3 => ?_
        · rw [show 2 + j = j + 1 + 1 by omega]
          show (List.map some ws)[j]? = some (some w')
          rw [List.getElem?_map, e]
          rfl
        · refine k dx H3 hdx hda a1 ?_ fun b hb hbd => ?_
          · rw [a2, List.zip_cons_cons, List.reverse_cons]
          · rw [a3 b hbd, upd_ne hb, upd_ne hbd]
/-! ### the checks of the written part -/
def oexB (K : PySem.W.Frag) (C : Addr) : Bool := (match K.lookup C with
  | some ⟨.type t, _, .cls ⟨_, _, .ref C' :: bm, _, _, hd, _, _, _, _, del⟩, ⟨[_, _, _, _, some (.builtin n), _]⟩⟩ => decide (t = "type") && decide (C' = C) && decide (n = "ValueError.__new__") && hd && !del && HandSPX.refsVE bm
  | _ => false) && He.eqO (PySem.W.findIn K (.ref C) "__setattr__") (some (some (.builtin "object.__setattr__"))) && decide (PySem.W.subIn K (.ref C) (.type "BaseException") = some true) && decide (PySem.W.typeIn K (.ref C) = some (.type "type")) && PySem.W.keepIn K (.ref C)
theorem oexB_ok {K : PySem.W.Frag} {C : Addr} (h : oexB K C = true) : OexC K C := by
  unfold oexB at h
  simp only [Bool.and_eq_true, decide_eq_true_eq] at h
  obtain ⟨⟨⟨⟨h1, h2⟩, h3⟩, h4⟩, h5⟩ := h
  refine ⟨?_, He.eqO_ok h2, h3, h4, h5⟩
  split at h1
  · rename_i t dd nm bs C' bm N q hd sn sub ab col del k0 k1 k2 k3 n k5 el
    simp only [Bool.and_eq_true, decide_eq_true_eq, Bool.not_eq_true'] at h1
    obtain ⟨⟨⟨⟨⟨rfl, rfl⟩, rfl⟩, rfl⟩, rfl⟩, hr⟩ := h1
    exact ⟨nm, q, N, bs, bm, sn, sub, ab, col, dd, k0, k1, k2, k3, k5, el, hr⟩
  · cases h1
/-- the errors' classes, the excepts' classes -/
def errsB (K : PySem.W.Frag) (es : List ErrT) (HT : List (Str × List Str)) : Bool :=
  (es.all fun e => errC e && He.eqO (PySem.W.nsIn K mainGlobals e.name) (some (some (.ref (He.ga K e.name)))) && oexB K (He.ga K e.name) && He.eqO (PySem.W.findIn K (.ref (He.ga K e.name)) "__init__") (some (some (.ref (He.ma K (He.ga K e.name) "__init__")))) &&
    decide (PySem.W.typeIn K (.ref (He.ma K (He.ga K e.name) "__init__")) = some (.type "function")) && e.ns.all fun g => He.eqO (PySem.W.findIn K (.ref (He.ga K e.name)) g) (some none)) &&
  HT.all fun p => He.eqO (PySem.W.nsIn K mainGlobals p.1) (some (some (.ref (He.ga K p.1)))) && es.all fun e => decide (PySem.W.exmOne K (.ref (He.ga K e.name)) (.ref (He.ga K p.1)) = some (p.2.contains e.name))
def xtOf (es : List ErrT) : List (Str × List Str) := es.map fun e => (e.name, e.ns)
/-- an __init__'s call binds its parameters -/
abbrev BindsE (K : PySem.W.Frag) (es : List ErrT) : Prop := ∀ e ∈ es, ∀ f fd, FunD K "__init__" (e.name ++ ".__init__") (defArgs e.st) (defBody e.st) (defScope e.st) [] [] f fd → Binds K fd e.ps []
theorem errs_ok {P : Program} {w : World} {K : PySem.W.Frag} {mg : Str → Option Value} {base h : Heap} {fa : List He.Fa} {fn : List He.DefD} {es : List ErrT} {HT : List (Str × List Str)} (X : K.In h) (G : h.Ns mainGlobals mg) (c : He.SaysD fa fn K) (hfn : ∀ e ∈ es, ∃ i : Nat, fn[i]? = some (deOf e)) (hb : BindsE K es) (b : errsB K es HT = true) :
    (∀ x ns, (x, ns) ∈ xtOf es → ErrOk P w K mg base x ns) ∧ ((∀ p ∈ T.cls, p ∈ xtOf es) → ∀ x cs, (x, cs) ∈ HT → HdGood K mg x cs) := by
  unfold errsB at b
  simp only [Bool.and_eq_true, List.all_eq_true, decide_eq_true_eq] at b
  obtain ⟨b1, b2⟩ := b
  refine ⟨fun x ns hx => ?_, fun hT x cs hx => ?_⟩
  · obtain ⟨e, he, q⟩ := List.mem_map.mp hx
    cases q
    obtain ⟨⟨⟨⟨⟨k1, k2⟩, k3⟩, k4⟩, k5⟩, k6⟩ := b1 e he
    obtain ⟨i, hi⟩ := hfn e he
    obtain ⟨fd, F⟩ := c.def_ i (d := deOf e) hi
    obtain ⟨_, _, hl, _, h9⟩ := errC_scope k1
    exact ⟨He.ga K e.name, He.ma K (He.ga K e.name) "__init__", fd, e.ps, PySem.W.mg_of X G (He.eqO_ok k2), He.eqO_ok k2, oexB_ok k3, He.eqO_ok k4, k5, hb e he _ fd F, hl, h9, init_ok k1 F (oexB_ok k3) fun g hg => He.eqO_ok (k6 g hg)⟩
  · obtain ⟨q1, q2⟩ := b2 (x, cs) hx
    refine ⟨He.ga K x, PySem.W.mg_of X G (He.eqO_ok q1), fun cc ns C hc hn => ?_⟩
    obtain ⟨e, he, q⟩ := List.mem_map.mp (hT _ hc)
    cases q
    obtain ⟨⟨⟨⟨⟨k1, k2⟩, k3⟩, k4⟩, k5⟩, k6⟩ := b1 e he
    have z := (He.eqO_ok k2).symm.trans hn
    cases z
    exact q2 e he
end Vm

set_option Elab.async false
set_option linter.all false
set_option maxRecDepth 100000
set_option maxHeartbeats 4000000
/-! VnT: the defs that tell of a caught error, as they stand. -/
namespace Vm
open PySem PySem.Spec PyProof.Rows L2
variable [T : Tbs]
/-- .. by its kind, two of its fields -/
structure NoA where
  o : Str
  pc : Str
  f1 : Str
  f2 : Str
  oth : List Str
/-- .. by a list of words -/
structure NoR where
  o1 : Str
  o2 : Str
  o3 : Str
  wd : Str
  tr : Str
  c1 : Str
  c2 : Str
  c3 : Str
  c4 : Str
  k1 : Str
  k2 : Str
  k3 : Str
  k4 : Str
  f1 : Str
  f2 : Str
  f3 : Str
  g1 : Str
  g2 : Str
  oth : List Str
inductive NoV where
  | a (n : NoA)
  | r (n : NoR)
structure NoT where
  name : Str
  y : Str
  yes : List (Str × List Str)
  st : Stmt
  v : NoV
def dnOf (n : NoT) : He.DefD := ⟨(n.name, none), n.name, n.name, defArgs n.st, defBody n.st, defScope n.st, [], []⟩
def fnOf (ds : List DefT) (es : List ErrT) (nts : List NoT) : List He.DefD := ds.map ddOf ++ es.map deOf ++ nts.map dnOf
/-- names of classes -/
def namesB (sc : Scope) : List Str → List Expr → Bool
  | [], [] => true
  | x :: xs, e :: es => (match e with
    | .Name z _ => decide (z = x) && globB sc x && okName x
    | _ => false) && namesB sc xs es
  | _, _ => false
def noB (y : Str) (n : NoA) (sc : Scope) (b : List Stmt) : Bool := match b with
  | [.Assign [.Name o1 _] (.Call (.Name i1 _) [.Name y1 _, .Tuple es _ _] [] _) _,
      .If (.BoolOp .Or [.UnaryOp .Not (.Call (.Name i2 _) [.Name y2 _, .Name pc _] [] _) _, .Name o2 _, .UnaryOp .Not (.Call (.Name i3 _) [.Name y3 _, .Name ve _] [] _) _] _) [.Return (some (.Tuple [.Constant (.str s1) _ _] _ _)) _] [] _,
      .Return (some (.Tuple [.Constant (.str s2) _ _, .Attribute (.Name y4 _) f1 _, .Attribute (.Name y5 _) f2 _] _ _)) _] =>
    decide (o1 = n.o) && decide (o2 = n.o) && decide (i1 = ("isinstance" : Str)) && decide (i2 = ("isinstance" : Str)) && decide (i3 = ("isinstance" : Str)) && decide (y1 = y) && decide (y2 = y) && decide (y3 = y) && decide (y4 = y) && decide (y5 = y) && decide (pc = n.pc) && decide (ve = ("ValueError" : Str)) && decide (s1 = ("other" : Str)) && decide (s2 = ("no" : Str)) && decide (f1 = n.f1) && decide (f2 = n.f2) && namesB sc n.oth es
  | _ => false
def funB (sc : Scope) : Bool := (match sc.kind with | .function => true | _ => false) && !sc.isCoroutine && !sc.isGenerator && sc.names.all fun y => decide (y.2 ≠ .free)
theorem funB_ok {sc : Scope} {N : List Str} {y : Str} (h : funB sc = true) (nd : N.Nodup) (hN : N.take 1 = [y]) (ly : sc.names.lookup y = some .local) : FnScope N [y] sc := by
  unfold funB at h
  simp only [Bool.and_eq_true, decide_eq_true_eq, Bool.not_eq_true', List.all_eq_true] at h
  obtain ⟨⟨⟨a1, a2⟩, a3⟩, a4⟩ := h
  refine ⟨?_, a2, a3, nd, hN, fun x hx => ?_, fun y hy => a4 y hy⟩
  · split at a1
    · rename_i e
      exact e
    · cases a1
  · have : x = y := by simpa using hx
    subst this
    exact .inl ly
def noCA (n : NoT) (v : NoA) : Bool :=
  funB (defScope n.st) && decide ([n.y, v.o].Nodup) && decide ((defScope n.st).names.lookup n.y = some .local) && decide ((defScope n.st).names.lookup v.o = some .local) && okName n.y && okName v.o && okName v.pc &&
    globB (defScope n.st) "isinstance" && globB (defScope n.st) "ValueError" && globB (defScope n.st) v.pc && !(v.f1 == v.f2) && decide (v.oth.length ≤ 100) && noB n.y v (defScope n.st) (defBody n.st)
/-! ### the other shape, statement by statement -/
def isC (y c : Str) (e : Expr) : Bool := match e with
  | .Call (.Name i _) [.Name z _, .Name d _] [] _ => decide (i = ("isinstance" : Str)) && decide (z = y) && decide (d = c)
  | _ => false
theorem isC_ok {y c : Str} {e : Expr} (h : isC y c e = true) : ∃ p1 p2 p3 p4, e = .Call (.Name "isinstance" p1) [.Name y p2, .Name c p3] [] p4 := by
  unfold isC at h
  split at h
  · simp only [Bool.and_eq_true, decide_eq_true_eq] at h
    obtain ⟨⟨rfl, rfl⟩, rfl⟩ := h
    exact ⟨_, _, _, _, rfl⟩
  · cases h
def isP (y k c : Str) (e : Expr) : Bool := match e with
  | .Tuple [.Constant (.str s) _ _, d] _ _ => decide (s = k) && isC y c d
  | _ => false
theorem isP_ok {y k c : Str} {e : Expr} (h : isP y k c e = true) : ∃ j1 j2 p1 p2 p3 p4 p5 p6, e = .Tuple [.Constant (.str k) j1 p1, .Call (.Name "isinstance" p2) [.Name y p3, .Name c p4] [] p5] j2 p6 := by
  unfold isP at h
  split at h
  · simp only [Bool.and_eq_true, decide_eq_true_eq] at h
    obtain ⟨rfl, h⟩ := h
    obtain ⟨p1, p2, p3, p4, rfl⟩ := isC_ok h
    exact ⟨_, _, _, _, _, _, _, _, rfl⟩
  · cases h
def s1B (y : Str) (n : NoR) (s : Stmt) : Bool := match s with
  | .Assign [.Name o _] (.List [a, b, c] _) _ => decide (o = n.o1) && isP y n.k1 n.c1 a && isP y n.k2 n.c2 b && isP y n.k3 n.c3 c
  | _ => false
def s2B (y : Str) (n : NoR) (s : Stmt) : Bool := match s with
  | .Assign [.Name o _] (.BinOp (.Name o2 _) .Add (.List [a] _) _) _ => decide (o = n.o1) && decide (o2 = n.o1) && isP y n.k4 n.c4 a
  | _ => false
def s3B (y : Str) (n : NoR) (sc : Scope) (s : Stmt) : Bool := match s with
  | .Assign [.Name o py] (.ListComp (.Name w1 _) [⟨.Tuple [.Name w2 _, .Name t1 _] _ _, .Name z _, [.Name t2 _], a⟩] sc2 pos) _ => decide (o = n.o2) && decide (w1 = n.wd) && decide (w2 = n.wd) && decide (t1 = n.tr) && decide (t2 = n.tr) && decide (z = n.o1) && decide (a = 0) &&
      (py.line == pos.line) && !(sc2.names.any fun (m, k) => m == o && (k == .local || k == .cell)) && blkC [y, n.o1, n.o2, n.o3, n.wd, n.tr] sc sc2 [(n.wd, 4), (n.tr, 5)] && decide ((relS sc2 sc).names.lookup n.wd = some .local) && decide ((relS sc2 sc).names.lookup n.tr = some .local)
  | _ => false
def s4B (y : Str) (n : NoR) (sc : Scope) (s : Stmt) : Bool := match s with
  | .Assign [.Name o _] (.Call (.Name i _) [.Name z _, .Tuple es _ _] [] _) _ => decide (o = n.o3) && decide (i = ("isinstance" : Str)) && decide (z = y) && namesB sc n.oth es
  | _ => false
def s5B (y : Str) (n : NoR) (s : Stmt) : Bool := match s with
  | .If (.BoolOp .Or [.Compare (.Call (.Name l _) [.Name o2 _] [] _) [.NotEq] [.Constant (.int one) _ _] _, .Name o3 _, .UnaryOp .Not c _] _) [.Return (some (.Tuple [.Constant (.str s1) _ _] _ _)) _] [] _ => decide (l = ("len" : Str)) && decide (o2 = n.o2) && decide (one = 1) && decide (o3 = n.o3) && decide (s1 = ("other" : Str)) && isC y "ValueError" c
  | _ => false
def s6B (y o k f : Str) (s : Stmt) : Bool := match s with
  | .If (.Compare (.Subscript (.Name o2 _) (.Constant (.int nought) _ _) _) [.Eq] [.Constant (.str k1) _ _] _) [.Return (some (.Tuple [.Constant (.str s1) _ _, .Constant (.str k2) _ _, .Attribute (.Name z _) g _] _ _)) _] [] _ => decide (o2 = o) && decide (nought = 0) && decide (k1 = k) && decide (s1 = ("no" : Str)) && decide (k2 = k) && decide (z = y) && decide (g = f)
  | _ => false
def s7B (y f g : Str) (s : Stmt) : Bool := match s with
  | .Return (some (.Tuple [.Constant (.str s1) _ _, .Attribute (.Name z1 _) f1 _, .Attribute (.Name z2 _) f2 _] _ _)) _ => decide (s1 = ("no" : Str)) && decide (z1 = y) && decide (z2 = y) && decide (f1 = f) && decide (f2 = g)
  | _ => false
def refB (y : Str) (n : NoR) (sc : Scope) (b : List Stmt) : Bool := match b with
  | [a1, a2, a3, a4, a5, a6, a7, a8, a9] => s1B y n a1 && s2B y n a2 && s3B y n sc a3 && s4B y n sc a4 && s5B y n a5 && s6B y n.o2 n.k1 n.f1 a6 && s6B y n.o2 n.k2 n.f2 a7 && s6B y n.o2 n.k3 n.f3 a8 && s7B y n.g1 n.g2 a9
  | _ => false
def noCR (n : NoT) (v : NoR) : Bool :=
  funB (defScope n.st) && decide ([n.y, v.o1, v.o2, v.o3, v.wd, v.tr].Nodup) && ([n.y, v.o1, v.o2, v.o3].all fun z => decide ((defScope n.st).names.lookup z = some .local)) && ([n.y, v.o1, v.o2, v.o3, v.wd, v.tr, v.c1, v.c2, v.c3, v.c4].all okName) &&
    ([("isinstance" : Str), "len", "ValueError", v.c1, v.c2, v.c3, v.c4].all fun z => globB (defScope n.st) z) && decide (v.k2 ≠ v.k1) && decide (v.k3 ≠ v.k1) && decide (v.k4 ≠ v.k1) && decide (v.k3 ≠ v.k2) && decide (v.k4 ≠ v.k2) && decide (v.k4 ≠ v.k3) && !(v.g1 == v.g2) && decide (v.oth.length ≤ 100) && refB n.y v (defScope n.st) (defBody n.st)
def noC (n : NoT) : Bool := match n.v with
  | .a v => noCA n v
  | .r v => noCR n v
def excB (K : PySem.W.Frag) (C : Addr) : Bool := He.eqO (PySem.W.findIn K (.ref C) "__getattribute__") (some (some (.builtin "BaseException.__getattribute__"))) && He.eqO (PySem.W.findIn K (.ref C) "__getattr__") (some none) && decide (PySem.W.subIn K (.ref C) (.type "BaseException") = some true) && PySem.W.hasDictIn K C && He.eqO (PySem.W.findIn K (.ref C) "__class__") (some (some (.builtin "object.__class__"))) &&
  He.eqO (PySem.W.specialIn K (.builtin "object.__class__") "__get__") (some (some (.builtin "getset_descriptor.__get__"))) && decide (PySem.W.takesIn K (.builtin "object.__class__") = some true) && decide (PySem.W.mroIn K C (.type "object") = some true)
theorem excB_ok {K : PySem.W.Frag} {C : Addr} (h : excB K C = true) : ExcC K C ∧ L2.XfC K C := by
  unfold excB at h
  simp only [Bool.and_eq_true, decide_eq_true_eq] at h
  obtain ⟨⟨⟨⟨⟨⟨⟨h1, h2⟩, h3⟩, h4⟩, h5⟩, h6⟩, h7⟩, h8⟩ := h
  exact ⟨⟨He.eqO_ok h1, He.eqO_ok h2, h3, h4, He.eqO_ok h5, He.eqO_ok h6, h7, h8⟩, ⟨He.eqO_ok h1, He.eqO_ok h2, h3, h4⟩⟩
def kindsB (yes : List (Str × List Str)) (f1 f2 : Str) (e : ErrT) : Option Bool → Option Bool → Option Bool → Bool
  | some b1, some b2, some b3 => match yes.lookup e.name with
    | some ws => decide (ws = [("no" : Str)]) && b1 && !b2 && b3 && decide (e.ns = [f1, f2])
    | none => !b1 || b2 || !b3
  | _, _, _ => false
def dueB (yes : List (Str × List Str)) (v : NoR) (c : Str) (ns : List Str) : Option Nat → Bool
  | some 0 => decide (yes.lookup c = some [("no" : Str), v.k1]) && decide (ns = [v.f1])
  | some 1 => decide (yes.lookup c = some [("no" : Str), v.k2]) && decide (ns = [v.f2])
  | some 2 => decide (yes.lookup c = some [("no" : Str), v.k3]) && decide (ns = [v.f3])
  | some 3 => decide (yes.lookup c = some [("no" : Str)]) && decide (ns = [v.g1, v.g2])
  | _ => decide (yes.lookup c = none)
theorem dueB_ok {yes : List (Str × List Str)} {v : NoR} {c : Str} {ns : List Str} {o : Option Nat} (h : dueB yes v c ns o = true) : dueW yes v.k1 v.k2 v.k3 v.f1 v.f2 v.f3 v.g1 v.g2 c ns o := by
  unfold dueB at h
  unfold dueW
  split at h <;> simpa using h
def wordsB (yes : List (Str × List Str)) (v : NoR) (e : ErrT) : Option Bool → Option Bool → Option Bool → Option Bool → Option Bool → Option Bool → Bool
  | some b1, some b2, some b3, some b4, some b5, some b6 => dueB yes v e.name e.ns (pick b1 b2 b3 b4 b5 b6)
  | _, _, _, _, _, _ => false
def oneK (K : PySem.W.Frag) (e : ErrT) (c : Str) : Option Bool := PySem.W.kitOne K (.ref (He.ga K e.name)) (.ref (He.ga K c))
def anyK (K : PySem.W.Frag) (e : ErrT) (cs : List Str) : Option Bool := PySem.W.kitAny K (.ref (He.ga K e.name)) (cs.map fun c => .ref (He.ga K c))
def valK (K : PySem.W.Frag) (e : ErrT) : Option Bool := PySem.W.kitOne K (.ref (He.ga K e.name)) (.type "ValueError")
def noKA (K : PySem.W.Frag) (es : List ErrT) (n : NoT) (v : NoA) : Bool :=
  (es.all fun e => excB K (He.ga K e.name) && ([v.f1, v.f2].all fun f => He.eqO (PySem.W.findIn K (.ref (He.ga K e.name)) f) (some none)) && kindsB n.yes v.f1 v.f2 e (oneK K e v.pc) (anyK K e v.oth) (valK K e)) &&
  ((n.name :: v.pc :: v.oth).all fun c => He.eqO (PySem.W.nsIn K mainGlobals c) (some (some (.ref (He.ga K c))))) && ([("isinstance" : Str), "ValueError"].all fun z => He.eqO (PySem.W.nsIn K mainGlobals z) (some none))
def noKR (K : PySem.W.Frag) (es : List ErrT) (n : NoT) (v : NoR) : Bool :=
  (es.all fun e => excB K (He.ga K e.name) && ([v.f1, v.f2, v.f3, v.g1, v.g2].all fun f => He.eqO (PySem.W.findIn K (.ref (He.ga K e.name)) f) (some none)) && wordsB n.yes v e (oneK K e v.c1) (oneK K e v.c2) (oneK K e v.c3) (oneK K e v.c4) (anyK K e v.oth) (valK K e)) &&
  ((n.name :: v.c1 :: v.c2 :: v.c3 :: v.c4 :: v.oth).all fun c => He.eqO (PySem.W.nsIn K mainGlobals c) (some (some (.ref (He.ga K c))))) && ([("isinstance" : Str), "len", "ValueError"].all fun z => He.eqO (PySem.W.nsIn K mainGlobals z) (some none))
def noKB (K : PySem.W.Frag) (es : List ErrT) (n : NoT) : Bool := match n.v with
  | .a v => noKA K es n v
  | .r v => noKR K es n v
/-- their calls bind their parameter -/
abbrev BindsN (K : PySem.W.Frag) (nts : List NoT) : Prop := ∀ n ∈ nts, ∀ f fd, FunD K n.name n.name (defArgs n.st) (defBody n.st) (defScope n.st) [] [] f fd → Binds K fd [n.y] []
theorem names_pa {K : PySem.W.Frag} {mg : Str → Option Value} {sc : Scope} : ∀ {xs : List Str} {es : List Expr}, namesB sc xs es = true → (∀ c ∈ xs, mg c = some (.ref (He.ga K c))) → ∀ {X : Cx} {a : Addr} {oe : Obj} {pn : List (Addr × Obj)}, X.mg = mg → X.env.scope = sc → PA (X.suite a ((a, oe) :: pn)) es (fun σ H Q => Q (xs.map fun c => V.ref (He.ga K c)) H)
  | [], [], _, _, X, a, oe, pn, _, _ => pa_nil
  | [], _ :: _, h, _, _, _, _, _, _, _ => by cases h
  | _ :: _, [], h, _, _, _, _, _, _, _ => by cases h
  | x :: xs, e :: es, h, hm, X, a, oe, pn, e1, e2 => by
    unfold namesB at h
    rw [Bool.and_eq_true] at h
    obtain ⟨h1, h2⟩ := h
    cases e <;> try (cases h1; done)
    simp only [Bool.and_eq_true, decide_eq_true_eq] at h1
    obtain ⟨⟨rfl, g⟩, ok⟩ := h1
    subst e1 e2
    exact pa_cons (pe_glob (X := X.suite a ((a, oe) :: pn)) (glob_ok (X := X) g) (hm _ List.mem_cons_self) (v := .ref (He.ga K _)) rfl (okName_d ok).1) (names_pa h2 (fun c hc => hm c (List.mem_cons_of_mem _ hc)) rfl rfl) (star_cons rfl)
theorem refs_vals {K : PySem.W.Frag} : ∀ (xs : List Str) (us : List Value), Vals (xs.map fun c => V.ref (He.ga K c)) us → us = xs.map fun c => Value.ref (He.ga K c)
  | [], _, .nil => rfl
  | x :: xs, _, .cons r t => by
    cases r
    rw [refs_vals xs _ t]
    rfl
section
variable {P : Program} {w : World} {K : PySem.W.Frag} {mg : Str → Option Value} {base h : Heap} {fa : List He.Fa} {fn : List He.DefD} {es : List ErrT} {n : NoT}
theorem no_allA {v : NoA} (X : K.In h) (G : h.Ns mainGlobals mg) (c : He.SaysD fa fn K) {i : Nat} (hfn : fn[i]? = some (dnOf n)) (hb : ∀ f fd, FunD K n.name n.name (defArgs n.st) (defBody n.st) (defScope n.st) [] [] f fd → Binds K fd [n.y] [])
    (h1 : noCA n v = true) (h2 : noKA K es n v = true) (hT : ∀ p ∈ T.cls, p ∈ xtOf es) (hE : ∀ e ∈ es, PySem.W.nsIn K mainGlobals e.name = some (some (.ref (He.ga K e.name)))) : NoOk P w K mg base n.name n.yes := by
  obtain ⟨fd, F⟩ := c.def_ i (d := dnOf n) hfn
  unfold noKA at h2
  simp only [Bool.and_eq_true, List.all_eq_true] at h2
  obtain ⟨⟨k1, k2⟩, k3⟩ := h2
  have mgs : ∀ c ∈ n.name :: v.pc :: v.oth, mg c = some (.ref (He.ga K c)) := fun c hc => PySem.W.mg_of X G (He.eqO_ok (k2 c hc))
  refine ⟨He.ga K n.name, fd, n.y, mgs _ List.mem_cons_self, F.kp, hb _ fd F, ?_⟩
  unfold noCA at h1
  simp only [Bool.and_eq_true, decide_eq_true_eq, Bool.not_eq_true'] at h1
  obtain ⟨⟨⟨⟨⟨⟨⟨⟨⟨⟨⟨⟨a1, a4⟩, a5⟩, a6⟩, a8⟩, a9⟩, a10⟩, a11⟩, a12⟩, a13⟩, a14⟩, a15⟩, a16⟩ := h1
  have S : FnScope [n.y, v.o] [n.y] (defScope n.st) := funB_ok a1 a4 rfl a5
  have F2 : FunD K n.name n.name (defArgs n.st) (defBody n.st) (defScope n.st) [] [] (He.ga K n.name) fd := F
  have nk : NoK K n.yes (.ref (He.ga K v.pc)) (v.oth.map fun c => .ref (He.ga K c)) v.f1 v.f2 := ⟨fun c ns C hc hn => by
    obtain ⟨e, he, q⟩ := List.mem_map.mp (hT _ hc)
    cases q
    have z := (hE e he).symm.trans hn
    cases z
    obtain ⟨⟨q1, q2⟩, q4⟩ := k1 e he
    obtain ⟨eC, xC⟩ := excB_ok q1
    refine ⟨eC, xC, He.eqO_ok (q2 v.f1 (by simp)), He.eqO_ok (q2 v.f2 (by simp)), ?_⟩
    unfold oneK anyK valK at q4
    revert q4
    generalize PySem.W.kitOne K (.ref (He.ga K e.name)) (.ref (He.ga K v.pc)) = r1
    generalize PySem.W.kitAny K (.ref (He.ga K e.name)) (v.oth.map fun c => .ref (He.ga K c)) = r2
    generalize PySem.W.kitOne K (.ref (He.ga K e.name)) (.type "ValueError") = r3
    intro q4
    cases r1 <;> cases r2 <;> cases r3 <;> try (cases q4; done)
    rename_i b1 b2 b3
    refine ⟨b1, b2, b3, rfl, rfl, rfl, fun ws y => ?_, fun y => ?_⟩
    · unfold kindsB at q4
      dsimp only at q4
      rw [y] at q4
      simp only [Bool.and_eq_true, decide_eq_true_eq, Bool.not_eq_true'] at q4
      exact ⟨q4.1.1.1.1, q4.1.1.1.2, q4.1.1.2, q4.1.2, q4.2⟩
    · unfold kindsB at q4
      dsimp only at q4
      rw [y] at q4
      exact q4⟩
  have mi : mg "isinstance" = none := He.free_ok X G (x := "isinstance") (k3 _ (by simp))
  have mv : mg "ValueError" = none := He.free_ok X G (x := "ValueError") (k3 _ (by simp))
  unfold noB at a16
  split at a16
  · rename_i heq
    simp only [Bool.and_eq_true, decide_eq_true_eq] at a16
    obtain ⟨⟨⟨⟨⟨⟨⟨⟨⟨⟨⟨⟨⟨⟨⟨⟨rfl, rfl⟩, rfl⟩, rfl⟩, rfl⟩, rfl⟩, rfl⟩, rfl⟩, rfl⟩, rfl⟩, rfl⟩, rfl⟩, rfl⟩, rfl⟩, rfl⟩, rfl⟩, b17⟩ := a16
    rw [heq] at F2
    exact no_ok (k := 1) F2 S a5 a6 (okName_d a8).1 (okName_d a8).2 (okName_d a9).1 (okName_d a9).2 a11 mi a12 mv a13 (mgs _ (List.mem_cons_of_mem _ List.mem_cons_self)) (okName_d a10).1
      (fun {X' a oe pn} e1 e2 e3 => names_pa b17 (fun c hc => mgs c (List.mem_cons_of_mem _ (List.mem_cons_of_mem _ hc))) e2 e3) (by rw [List.length_map]; exact a15) (refs_vals v.oth) nk a14 (Nat.le_refl _)
  · cases a16
theorem no_allR {v : NoR} (X : K.In h) (G : h.Ns mainGlobals mg) (c : He.SaysD fa fn K) {i : Nat} (hfn : fn[i]? = some (dnOf n)) (hb : ∀ f fd, FunD K n.name n.name (defArgs n.st) (defBody n.st) (defScope n.st) [] [] f fd → Binds K fd [n.y] [])
    (h1 : noCR n v = true) (h2 : noKR K es n v = true) (hT : ∀ p ∈ T.cls, p ∈ xtOf es) (hE : ∀ e ∈ es, PySem.W.nsIn K mainGlobals e.name = some (some (.ref (He.ga K e.name)))) : NoOk P w K mg base n.name n.yes := by
  obtain ⟨fd, F⟩ := c.def_ i (d := dnOf n) hfn
  unfold noKR at h2
  simp only [Bool.and_eq_true, List.all_eq_true] at h2
  obtain ⟨⟨k1, k2⟩, k3⟩ := h2
  have mgs : ∀ c ∈ n.name :: v.c1 :: v.c2 :: v.c3 :: v.c4 :: v.oth, mg c = some (.ref (He.ga K c)) := fun c hc => PySem.W.mg_of X G (He.eqO_ok (k2 c hc))
  refine ⟨He.ga K n.name, fd, n.y, mgs _ List.mem_cons_self, F.kp, hb _ fd F, ?_⟩
  unfold noCR at h1
  simp only [Bool.and_eq_true, decide_eq_true_eq, Bool.not_eq_true', List.all_eq_true] at h1
  obtain ⟨⟨⟨⟨⟨⟨⟨⟨⟨⟨⟨⟨⟨a1, a2⟩, a3⟩, a4⟩, a5⟩, d21⟩, d31⟩, d41⟩, d32⟩, d42⟩, d43⟩, g12⟩, hl⟩, hB⟩ := h1
  have ly := a3 n.y (by simp)
  have S : FnScope [n.y, v.o1, v.o2, v.o3, v.wd, v.tr] [n.y] (defScope n.st) := funB_ok a1 a2 rfl ly
  have F2 : FunD K n.name n.name (defArgs n.st) (defBody n.st) (defScope n.st) [] [] (He.ga K n.name) fd := F
  have nk : RfK K n.yes v.k1 v.k2 v.k3 v.f1 v.f2 v.f3 v.g1 v.g2 (.ref (He.ga K v.c1)) (.ref (He.ga K v.c2)) (.ref (He.ga K v.c3)) (.ref (He.ga K v.c4)) (v.oth.map fun c => .ref (He.ga K c)) := ⟨fun c ns C hc hn => by
    obtain ⟨e, he, q⟩ := List.mem_map.mp (hT _ hc)
    cases q
    have z := (hE e he).symm.trans hn
    cases z
    obtain ⟨⟨q1, q2⟩, q4⟩ := k1 e he
    obtain ⟨eC, xC⟩ := excB_ok q1
    refine ⟨eC, xC, fun f hf => He.eqO_ok (q2 f hf), ?_⟩
    unfold oneK anyK valK at q4
    revert q4
    generalize PySem.W.kitOne K (.ref (He.ga K e.name)) (.ref (He.ga K v.c1)) = r1
    generalize PySem.W.kitOne K (.ref (He.ga K e.name)) (.ref (He.ga K v.c2)) = r2
    generalize PySem.W.kitOne K (.ref (He.ga K e.name)) (.ref (He.ga K v.c3)) = r3
    generalize PySem.W.kitOne K (.ref (He.ga K e.name)) (.ref (He.ga K v.c4)) = r4
    generalize PySem.W.kitAny K (.ref (He.ga K e.name)) (v.oth.map fun c => .ref (He.ga K c)) = r5
    generalize PySem.W.kitOne K (.ref (He.ga K e.name)) (.type "ValueError") = r6
    intro q4
    cases r1 <;> try (cases q4; done)
    cases r2 <;> try (cases q4; done)
    cases r3 <;> try (cases q4; done)
    cases r4 <;> try (cases q4; done)
    cases r5 <;> try (cases q4; done)
    cases r6 <;> try (cases q4; done)
    exact ⟨_, _, _, _, _, _, rfl, rfl, rfl, rfl, rfl, rfl, dueB_ok q4⟩⟩
  have mi : mg "isinstance" = none := He.free_ok X G (x := "isinstance") (k3 _ (by simp))
  have ml : mg "len" = none := He.free_ok X G (x := "len") (k3 _ (by simp))
  have mv : mg "ValueError" = none := He.free_ok X G (x := "ValueError") (k3 _ (by simp))
  unfold refB at hB
  split at hB
  · rename_i s1 s2 s3 s4 s5 s6 s7 s8 s9 heq
    simp only [Bool.and_eq_true] at hB
    obtain ⟨⟨⟨⟨⟨⟨⟨⟨b1, b2⟩, b3⟩, b4⟩, b5⟩, b6⟩, b7⟩, b8⟩, b9⟩ := hB
    rw [heq] at F2
    unfold s1B at b1
    split at b1 <;> try (cases b1; done)
    simp only [Bool.and_eq_true, decide_eq_true_eq] at b1
    obtain ⟨⟨⟨rfl, x1⟩, x2⟩, x3⟩ := b1
    obtain ⟨_, _, _, _, _, _, _, _, rfl⟩ := isP_ok x1
    obtain ⟨_, _, _, _, _, _, _, _, rfl⟩ := isP_ok x2
    obtain ⟨_, _, _, _, _, _, _, _, rfl⟩ := isP_ok x3
    unfold s2B at b2
    split at b2 <;> try (cases b2; done)
    simp only [Bool.and_eq_true, decide_eq_true_eq] at b2
    obtain ⟨⟨rfl, rfl⟩, x4⟩ := b2
    obtain ⟨_, _, _, _, _, _, _, _, rfl⟩ := isP_ok x4
    unfold s3B at b3
    split at b3 <;> try (cases b3; done)
    simp only [Bool.and_eq_true, decide_eq_true_eq, Bool.not_eq_true'] at b3
    obtain ⟨⟨⟨⟨⟨⟨⟨⟨⟨⟨⟨rfl, rfl⟩, rfl⟩, rfl⟩, rfl⟩, rfl⟩, rfl⟩, hline⟩, hany⟩, hblk⟩, lw⟩, lt⟩ := b3
    unfold s4B at b4
    split at b4 <;> try (cases b4; done)
    simp only [Bool.and_eq_true, decide_eq_true_eq] at b4
    obtain ⟨⟨⟨rfl, rfl⟩, rfl⟩, x5⟩ := b4
    unfold s5B at b5
    split at b5 <;> try (cases b5; done)
    simp only [Bool.and_eq_true, decide_eq_true_eq] at b5
    obtain ⟨⟨⟨⟨⟨rfl, rfl⟩, rfl⟩, rfl⟩, rfl⟩, x6⟩ := b5
    obtain ⟨_, _, _, _, rfl⟩ := isC_ok x6
    unfold s6B at b6 b7 b8
    split at b6 <;> try (cases b6; done)
    split at b7 <;> try (cases b7; done)
    split at b8 <;> try (cases b8; done)
    simp only [Bool.and_eq_true, decide_eq_true_eq] at b6 b7 b8
    obtain ⟨⟨⟨⟨⟨⟨rfl, rfl⟩, rfl⟩, rfl⟩, rfl⟩, rfl⟩, rfl⟩ := b6
    obtain ⟨⟨⟨⟨⟨⟨rfl, rfl⟩, rfl⟩, rfl⟩, rfl⟩, rfl⟩, rfl⟩ := b7
    obtain ⟨⟨⟨⟨⟨⟨rfl, rfl⟩, rfl⟩, rfl⟩, rfl⟩, rfl⟩, rfl⟩ := b8
    unfold s7B at b9
    split at b9 <;> try (cases b9; done)
    simp only [Bool.and_eq_true, decide_eq_true_eq] at b9
    obtain ⟨⟨⟨⟨rfl, rfl⟩, rfl⟩, rfl⟩, rfl⟩ := b9
    exact ref_ok (k := 1) F2 S ly (a3 _ (by simp)) (a3 _ (by simp)) (a3 _ (by simp)) (a4 _ (by simp)) (a4 _ (by simp)) (a4 _ (by simp)) (a4 _ (by simp)) (a4 _ (by simp)) (a4 _ (by simp))
      (a5 _ (by simp)) mi (a5 _ (by simp)) ml (a5 _ (by simp)) mv (a5 _ (by simp)) (mgs _ (by simp)) (a4 _ (by simp)) (a5 _ (by simp)) (mgs _ (by simp)) (a4 _ (by simp)) (a5 _ (by simp)) (mgs _ (by simp)) (a4 _ (by simp)) (a5 _ (by simp)) (mgs _ (by simp)) (a4 _ (by simp))
      hblk lw lt (fun env e => sw_true (by rw [e]; exact S.kind) (by rw [e]; exact a3 _ (by simp)) hline hany)
      (fun {X' a oe pn} e1 e2 e3 => names_pa x5 (fun c hc => mgs c (by simp [hc])) e2 e3) (by rw [List.length_map]; exact hl) (refs_vals v.oth) nk d21 d31 d41 d32 d42 d43 g12 (Nat.le_refl _)
  · cases hB
theorem no_all (X : K.In h) (G : h.Ns mainGlobals mg) (c : He.SaysD fa fn K) {i : Nat} (hfn : fn[i]? = some (dnOf n)) (hb : ∀ f fd, FunD K n.name n.name (defArgs n.st) (defBody n.st) (defScope n.st) [] [] f fd → Binds K fd [n.y] [])
    (h1 : noC n = true) (h2 : noKB K es n = true) (hT : ∀ p ∈ T.cls, p ∈ xtOf es) (hE : ∀ e ∈ es, PySem.W.nsIn K mainGlobals e.name = some (some (.ref (He.ga K e.name)))) : NoOk P w K mg base n.name n.yes := by
  unfold noC at h1
  unfold noKB at h2
  split at h1
  · rename_i v e
    rw [e] at h2
    exact no_allA X G c hfn hb h1 h2 hT hE
  · rename_i v e
    rw [e] at h2
    exact no_allR X G c hfn hb h1 h2 hT hE
end
end Vm

set_option Elab.async false
set_option linter.all false
set_option maxRecDepth 100000
set_option maxHeartbeats 4000000
/-! VnF: the head with tables of code objects. -/
namespace Vm
open PySem PySem.Spec PyProof.Rows L2
/-- the defs with generator expressions -/
def tfOf (ds : List DefT) : List He.Defn := (ds.filter (·.gn)).map fun d => (d.name, none)
/-- what is asked of the written part -/
def moreB (C : List (Str × Cst)) (es : List ErrT) (HT : List (Str × List Str)) (nts : List NoT) (K : PySem.W.Frag) : Bool := C.all (conK K) && errsB K es HT && nts.all fun n => noC n && noKB K es n
abbrev hookG (n : Nat) (ds : List DefT) (C : List (Str × Cst)) (es : List ErrT) (HT : List (Str × List Str)) (nts : List NoT) : PySem.W.Hook := He.hookX n (faOf ds) (fnOf ds es nts) [] (tfOf ds) (moreB C es HT nts)
def obG (n : Nat) (ds : List DefT) (C : List (Str × Cst)) (es : List ErrT) (HT : List (Str × List Str)) (nts : List NoT) (s : PySem.W.SharedT) : He.AlX := He.obsX n (faOf ds) (fnOf ds es nts) [] (tfOf ds) (moreB C es HT nts) (HandSHeadRun.getT s)
theorem obG_eq {n : Nat} {ds : List DefT} {C : List (Str × Cst)} {es : List ErrT} {HT : List (Str × List Str)} {nts : List NoT} (s : PySem.W.SharedT) : obG n ds C es HT nts s = (hookG n ds C es HT nts).obs s.abs := He.obsX_eq (HandSHeadRun.getT_eq s)
/-- the tables -/
def csOf (K : PySem.W.Frag) (ds : List DefT) : List (Addr × Addr) := (tfOf ds).map (He.cT K)
abbrev tbsOf (K : PySem.W.Frag) (ds : List DefT) (es : List ErrT) : Tbs := ⟨(csOf K ds).map (·.2), xtOf es⟩
theorem code_of {ds : List DefT} {fn : List He.DefD} {K : PySem.W.Frag} {h : Heap} {mg : Str → Option Value} {f : Nat → Addr} {fd : Nat → FuncData} (X : K.In h) (G : h.Ns mainGlobals mg) (c : He.SaysD (faOf ds) fn K) (S : Stand K mg ds Bn f fd) {i : Nat} {d : DefT} (hd : ds[i]? = some d) :
    (fd i).code = .ref (He.codeOf K (d.name, none)) := by
  have e1 := S.gl i d hd
  have e2 := He.glo_ok X G (facts_in c (List.mem_append_left _ (List.mem_map.mpr ⟨d, List.mem_of_getElem? hd, rfl⟩)))
  have ef : f i = He.ga K d.name := by
    have z := e1.symm.trans e2
    injection z with z
    injection z with z
  obtain ⟨oc, od, dV, kV, doc, pm, an, cd, ct, osl, e3, lk, hcd, _, _⟩ := (S.at' i d hd).ex
  obtain ⟨cc, rfl⟩ := He.codeIn_ref hcd
  rw [ef] at lk
  have ec : (fd i).code = .ref cc := by rw [e3] <;> rfl
  rw [He.codeOf_eq (p := (d.name, none)) lk ec, ec]
theorem tabs_ok {ds : List DefT} {es : List ErrT} {fn : List He.DefD} {K : PySem.W.Frag} {h base : Heap} {mg : Str → Option Value} {f : Nat → Addr} {fd : Nat → FuncData} (X : K.In h) (G : h.Ns mainGlobals mg) (c : He.SaysD (faOf ds) fn K) (S : Stand K mg ds Bn f fd) (tb : ∀ p ∈ csOf K ds, GxR.TabB base mg p.1 p.2) :
    @TabsOk (tbsOf K ds es) mg base ds fd := fun i d hd hg => by
  have hm : He.cT K (d.name, none) ∈ csOf K ds := List.mem_map.mpr ⟨(d.name, none), List.mem_map.mpr ⟨d, List.mem_filter.mpr ⟨List.mem_of_getElem? hd, hg⟩, rfl⟩, rfl⟩
  have t := tb _ hm
  exact ⟨_, _, code_of X G c S hd, t, List.mem_map.mpr ⟨_, hm, rfl⟩⟩
def NoLst (H : Hp) : Prop := ∀ b vs, H b ≠ some (.lst vs)
/-- the law's end, by the evaluator's -/
theorem end_ofG [T : Tbs] {K : PySem.W.Frag} {F : List PV → IH → Res PV} {ns : List Int} {H : Hp} {a : Addr} {E : XK} (hO : NoLst H) (hT : ∀ P ∈ T.at', H P = some (.tbl #[])) (hS : SqL K H a (ns.map V.int)) (he : ∃ h', F [.fl (ns.map PV.int)] [] = .ok (.bl true) h') :
    spOf K 1 F [.ref a] H (fun v _ => v = .bl true) E := by
  obtain ⟨h', e⟩ := he
  have sf : SqF K H a (ns.map V.int) := by
    rcases hS with (hl | ⟨o, hl⟩) | hl
    · exact absurd hl (hO a _)
    · exact .inl ⟨o, hl⟩
    · exact .inr hl
  refine ⟨rfl, [], [], [.fl (ns.map PV.int)], ⟨rfl, List.nodup_nil, fun P hP => ⟨#[], hT P hP, True.intro⟩, fun i o p z => by simp at z⟩, .cons (.fl sf (Reps.ofInts ns)) .nil, ?_⟩
  rw [e]
  intro m' H' _ _ v r
  cases r
  rfl
section
variable {P : Program} {w : World} {K : PySem.W.Frag} {mg mb : Str → Option Value} {s₁ : Shared} {vs : List Value} {ns : List Int} {a : Addr} {ts : List Addr}
/-- a table without an entry -/
abbrev voidO : Obj := { cls := .none, data := .fields #[] }
/-- the script, and the tables -/
def scrT (K : PySem.W.Frag) (a : Addr) (vs : List Value) (ns : List Int) (ts : List Addr) : Hp := fun b => if b = a ∧ K.lookup a = none then some (.frz (scrO vs) (.lst (ns.map V.int))) else if b ∈ ts then some (.tbl #[]) else none
theorem scrT_cases (K : PySem.W.Frag) (a : Addr) (vs : List Value) (ns : List Int) (ts : List Addr) (b : Addr) :
    (b ∉ ts ∧ (b = a → K.lookup a ≠ none) ∧ scrT K a vs ns ts b = none) ∨ (b = a ∧ K.lookup a = none ∧ scrT K a vs ns ts b = some (.frz (scrO vs) (.lst (ns.map V.int)))) ∨ (b ∈ ts ∧ (b = a → K.lookup a ≠ none) ∧ scrT K a vs ns ts b = some (.tbl #[])) := by
  unfold scrT
  by_cases h : b = a ∧ K.lookup a = none
  · exact .inr (.inl ⟨h.1, h.2, if_pos h⟩)
  · have h' : b = a → K.lookup a ≠ none := fun z n => h ⟨z, n⟩
    by_cases q : b ∈ ts
    · exact .inr (.inr ⟨q, h', by rw [if_neg h, if_pos q]⟩)
    · exact .inl ⟨q, h', by rw [if_neg h, if_neg q]⟩
theorem scrT_nolst : NoLst (scrT K a vs ns ts) := fun b us z => by
  rcases scrT_cases K a vs ns ts b with ⟨_, _, e⟩ | ⟨_, _, e⟩ | ⟨_, _, e⟩ <;> (rw [e] at z; cases z)
theorem not_tab (hT : ∀ p ∈ ts, s₁.heap.get? p = some voidO) {b : Addr} {o : Obj} (e : s₁.heap.get? b = some o) (h : o ≠ voidO) : b ∉ ts := fun z => by
  have q := hT b z
  rw [e] at q
  exact h (Option.some.inj q)
theorem scrT_tab (hT : ∀ p ∈ ts, s₁.heap.get? p = some voidO) (ha : s₁.heap.get? a = some (scrO vs)) {p : Addr} (hp : p ∈ ts) : scrT K a vs ns ts p = some (.tbl #[]) := by
  have na : p ≠ a := fun z => not_tab hT ha (fun q => by cases q) (by rw [← z]; exact hp)
  unfold scrT
  rw [if_neg fun z => na z.1, if_pos hp]
theorem scrT_sq (hT : ∀ p ∈ ts, s₁.heap.get? p = some voidO) (KX : K.In s₁.heap) (ha : s₁.heap.get? a = some (scrO vs)) (hi : IntsAre vs ns) (hl : ns.length ≤ sizeLine) : SqL K (scrT K a vs ns ts) a (ns.map V.int) := by
  cases q : K.lookup a with
  | none => exact .inl (.inr ⟨scrO vs, if_pos ⟨rfl, q⟩⟩)
  | some o =>
    obtain rfl : o = scrO vs := Option.some.inj ((KX a o q).symm.trans ha)
    exact .inr ⟨_, vs.toArray, _, q, rfl, rfl, rfl, by rw [List.size_toArray, hi.length]; exact hl, by simpa using vals_ints hi⟩
theorem scrT_hok (hT : ∀ p ∈ ts, s₁.heap.get? p = some voidO) (ha : s₁.heap.get? a = some (scrO vs)) (hi : IntsAre vs ns) (hl : ns.length ≤ sizeLine) : HOk P w (scrT K a vs ns ts) s₁.heap := fun b u e => by
  rcases scrT_cases K a vs ns ts b with ⟨_, _, z⟩ | ⟨rfl, _, z⟩ | ⟨q, _, z⟩
  · rw [z] at e; cases e
  · rw [z] at e
    cases e
    exact ⟨ha, by rw [List.length_map]; exact hl, vs, _, vals_ints hi, ha⟩
  · rw [z] at e
    cases e
    exact hT b q
theorem scrT_base {b : Addr} {o : Obj} (e : s₁.heap.get? b = some o) (n : b = a → K.lookup a ≠ none) (t : b ∉ ts) : (hidT s₁.heap (scrT K a vs ns ts)).get? b = some o :=
  hidT_get e (by
    rcases scrT_cases K a vs ns ts b with z | z | z
    · exact z.2.2
    · exact (n z.1 z.2.1).elim
    · exact (t z.1).elim)
/-- what is neither a list nor a table is ground -/
theorem scrT_other (hT : ∀ p ∈ ts, s₁.heap.get? p = some voidO) (ha : s₁.heap.get? a = some (scrO vs)) {b : Addr} {o : Obj} (e : s₁.heap.get? b = some o) (h1 : o ≠ voidO) (h2 : o ≠ scrO vs) : (hidT s₁.heap (scrT K a vs ns ts)).get? b = some o :=
  scrT_base e (fun z _ => by rw [z, ha] at e; exact h2 (Option.some.inj e).symm) (not_tab hT e h1)
theorem scrT_ns (hT : ∀ p ∈ ts, s₁.heap.get? p = some voidO) (ha : s₁.heap.get? a = some (scrO vs)) {b : Addr} {m : Str → Option Value} (h : s₁.heap.Ns b m) : (hidT s₁.heap (scrT K a vs ns ts)).Ns b m := by
  obtain ⟨o, es, ep, e, d, r⟩ := h
  exact ⟨o, es, ep, scrT_other hT ha e (fun z => by rw [z] at d; cases d) (fun z => by rw [z] at d; cases d), d, r⟩
theorem scrT_env (hT : ∀ p ∈ ts, s₁.heap.get? p = some voidO) (nT : ∀ p ∈ ts, K.lookup p = none) (KX : K.In s₁.heap) (hns : s₁.heap.Ns mainGlobals mg) (hb : s₁.heap.Ns builtinsNs mb) (hbb : ∀ x : Str, x ≠ "__name__" → mb x = bootBuiltins x) (hlim : s₁.heap.NoLimit) (hg : s₁.gens = #[])
    (ha : s₁.heap.get? a = some (scrO vs)) (hi : IntsAre vs ns) (hl : ns.length ≤ sizeLine) : Env0 P w K mg (hidT s₁.heap (scrT K a vs ns ts)) callerA [] s₁ (scrT K a vs ns ts) where
  frames := rfl
  mod := {
    kin := fun b o e => scrT_base (KX b o e) (fun z n => by rw [z, n] at e; cases e) fun z => by rw [nT b z] at e; cases e
    glob := scrT_ns hT ha hns
    blt := ⟨mb, scrT_ns hT ha hb, hbb⟩
    nolimit := match hlim with
      | ⟨m, p, q⟩ => ⟨m, scrT_ns hT ha p, q⟩ }
  bs := fun b o e => of_hidT e
  bsz := Nat.le_of_eq (hidT_size _ _)
  funs := trivial
  frf := fun b hb => by cases hb
  hok := scrT_hok hT ha hi hl
  bare := .of_eq hg
theorem law_goGT {k : Nat} {fa : Addr} {fd : FuncData} {x : Str} {sp : Sp} {cs : List (Addr × Addr)}
    (KX : K.In s₁.heap) (hns : s₁.heap.Ns mainGlobals mg) (hb : s₁.heap.Ns builtinsNs mb) (hbb : ∀ x : Str, x ≠ "__name__" → mb x = bootBuiltins x) (hlim : s₁.heap.NoLimit) (hg : s₁.gens = #[])
    (hT : ∀ p ∈ cs, s₁.heap.get? p.2 = some voidO) (nT : ∀ p ∈ cs, K.lookup p.2 = none) (hd : ∀ p ∈ cs, PySem.W.codeHdIn K p.1 p.2 = true)
    (hbm : ∃ (bm : Addr) (ob : Obj), mg "__builtins__" = some (.ref bm) ∧ bm ≠ builtinsNs ∧ s₁.heap.get? bm = some ob ∧ ob.cls = .type "module" ∧ ob.dict = some builtinsNs ∧ ob.data = .plain)
    (ha : s₁.heap.get? a = some (scrO vs)) (hi : IntsAre vs ns) (hl : ns.length ≤ sizeLine) (hr : Room k callerA)
    (F : ∀ base : Heap, K.In base → base.Ns mainGlobals mg → (∀ p ∈ cs, GxR.TabB base mg p.1 p.2) → FnG P w K mg base k fa fd 1 [x] sp) (hbind : ∀ (s : Shared) (u : Value), BindsTo s fd ⟨[u], []⟩ [(x, u)])
    (hsp : ∀ H : Hp, (∀ p ∈ cs, H p.2 = some (.tbl #[])) → NoLst H → SqL K H a (ns.map V.int) → sp [.ref a] H (fun v _ => v = .bl true) fun _ _ _ => False) :
    codeAny (model P w) callerA (.call (.ref fa) ⟨[.ref a], []⟩) (fun r s' => r = .ok (.ret (.bool true)) ∧ OldK s₁.heap s'.heap ∧ s'.os = s₁.os ∧ AllBare s'.gens) s₁ := by
  have hT' : ∀ p ∈ cs.map (·.2), s₁.heap.get? p = some voidO := fun p hp => by
    obtain ⟨q, hq, rfl⟩ := List.mem_map.mp hp
    exact hT q hq
  have nT' : ∀ p ∈ cs.map (·.2), K.lookup p = none := fun p hp => by
    obtain ⟨q, hq, rfl⟩ := List.mem_map.mp hp
    exact nT q hq
  have m2 : ∀ p ∈ cs, p.2 ∈ cs.map (·.2) := fun p hp => List.mem_map.mpr ⟨p, hp, rfl⟩
  have e0 := scrT_env (P := P) (w := w) hT' nT' KX hns hb hbb hlim hg ha hi hl
  have hH := hsp (scrT K a vs ns (cs.map (·.2))) (fun p hp => scrT_tab hT' ha (m2 p hp)) scrT_nolst (scrT_sq hT' KX ha hi hl)
  have TB : ∀ p ∈ cs, GxR.TabB (hidT s₁.heap (scrT K a vs ns (cs.map (·.2)))) mg p.1 p.2 := fun p hp => by
    obtain ⟨bm, ob, b1, b2, b3, b4, b5, b6⟩ := hbm
    obtain ⟨om, em, ep, c1, c2, _⟩ := hns
    refine ⟨PySem.W.codeHd_of_K e0.mod.kin (hd p hp), ⟨bm, ob, b1, b2, fun z => ?_, fun z => ?_, scrT_other hT' ha b3 (fun z => ?_) (fun z => ?_), b4, b5, b6⟩, fun z => ?_⟩
    · rw [z, c1] at b3
      cases b3
      rw [c2] at b6
      cases b6
    · rw [z, hT p hp] at b3
      cases b3
      cases b6
    · rw [z] at b6
      cases b6
    · rw [z] at b6
      cases b6
    · rw [z, hT p hp] at c1
      cases c1
      cases c2
  refine codeAny_mono ((F _ e0.mod.kin (scrT_ns hT' ha hns) TB).go (us := [.ref a]) (vs := [.ref a]) rfl hr e0 (hbind s₁ (.ref a)) (.cons rfl .nil) hH) fun r s' h => ?_
  match r with
  | .error _ =>
    obtain ⟨_, _, _, _, _, _, _, _, _, _, _, _, z⟩ := h
    exact z.elim
  | .ok .next => exact h.elim
  | .ok .brk => exact h.elim
  | .ok .cont => exact h.elim
  | .ok (.ret u) =>
    obtain ⟨v, H', os, bare, un, hok', r', q⟩ := h
    have q' : v = .bl true := q
    subst q'
    obtain rfl : u = Value.bool true := r'
    have kept : ∀ b o, b ∉ cs.map (·.2) → s₁.heap.get? b = some o → s'.heap.get? b = some o := fun b o nb e => by
      rcases scrT_cases K a vs ns (cs.map (·.2)) b with ⟨_, _, z⟩ | ⟨rfl, _, z⟩ | ⟨z, _⟩
      · exact un.keep b o e z (fun hm => by cases hm) (fun hm => by cases hm)
      · have e2 := (hok' b _ (un.frzs b _ _ z)).1
        rw [ha] at e
        cases e
        exact e2
      · exact (nb z).elim
    have grown : ∀ p ∈ cs, ∃ more : Array Value, s'.heap.get? p.2 = some { cls := .none, data := .fields more } := fun p hp => by
      obtain ⟨more, z⟩ := un.tbls p.2 #[] (scrT_tab hT' ha (m2 p hp))
      exact ⟨_, hok' p.2 _ z⟩
    refine ⟨rfl, ⟨fun b o e => ?_, fun b o e => ?_⟩, os, bare⟩
    · by_cases z : b ∈ cs.map (·.2)
      · obtain ⟨p, hp, rfl⟩ := List.mem_map.mp z
        obtain ⟨more, hm⟩ := grown p hp
        obtain rfl : voidO = o := Option.some.inj ((hT p hp).symm.trans e)
        exact .inr (.inl ⟨((PySem.W.codeHd_of_K KX (hd p hp)).tab (hT p hp)).isCodeTable, rfl, #[], more, rfl, by rw [Array.empty_append]; exact hm⟩)
      · exact .inl (kept b o z e)
    · by_cases z : b ∈ cs.map (·.2)
      · obtain ⟨p, hp, rfl⟩ := List.mem_map.mp z
        obtain ⟨more, hm⟩ := grown p hp
        exact ⟨_, hm⟩
      · exact ⟨o, kept b o z e⟩
end
theorem walkGT {l : PySem.W.OpenLaw} {n k : Nat} {q : Program} {loose : List Str} {XP : (Str → Option Value) → Heap → Prop} {YP : World → Heap → Prop} {d : DefRec} {x : Str}
    (hn : l.most = some n) (hn2 : n ≤ sizeLine) (hdf : d.params.defaults = []) (hr : Room k callerA)
    (F : ∀ (w : World) (mg : Str → Option Value) (fa : Addr) (h : Heap), YP w h → h.Ns mainGlobals mg → mg d.name = some (.ref fa) →
      ∃ (K : PySem.W.Frag) (fd : FuncData) (cs : List (Addr × Addr)) (sp : Sp), K.In h ∧ (∀ p ∈ cs, h.get? p.2 = some voidO) ∧ (∀ p ∈ cs, K.lookup p.2 = none) ∧ (∀ p ∈ cs, PySem.W.codeHdIn K p.1 p.2 = true) ∧ (∀ (s : Shared) (u : Value), BindsTo s fd ⟨[u], []⟩ [(x, u)]) ∧
        (∀ (H : Hp) (a : Addr) (ns : List Int), ns.length ≤ n → (∀ p ∈ cs, H p.2 = some (.tbl #[])) → NoLst H → SqL K H a (ns.map V.int) → sp [.ref a] H (fun v _ => v = .bl true) fun _ _ _ => False) ∧
        ∀ base : Heap, K.In base → base.Ns mainGlobals mg → (∀ p ∈ cs, GxR.TabB base mg p.1 p.2) → FnG l.prog w K mg base k fa fd 1 [x] sp) :
    PySem.W.WalkO q loose XP YP l.row.toRowW d [] (fun f vs => PySem.call f vs) := by
  refine Att.attach_call hn hdf fun w s₀ s₁ mg mb fa o pm cd doc a vs ns G Y ho hd hcd hmg hobj hints hlen hg => ?_
  obtain ⟨K, fd, cs, sp, KX, hT, nT, hh, hb, hsp, hF⟩ := F w mg fa _ Y G.T.g hmg
  exact law_goGT KX G.T.g G.T.b G.T.builtins G.T.nolimit hg hT nT hh G.T.bmain hobj hints (Nat.le_trans hlen hn2) hr hF hb fun H hH hO hS => hsp H a ns hlen hH hO hS
/-- the law, by the evaluator's -/
theorem law_byG {ds : List DefT} {es : List ErrT} {HT : List (Str × List Str)} {nts : List NoT} {C : List (Str × Cst)} {l : PySem.W.OpenLaw} {N : Nat} {w : World} {mg : Str → Option Value} {fa : Addr} {h : Heap} {x : Str} {d0 : DefT} (Y : ∃ K : PySem.W.Frag, K.In h ∧ He.SaysX (faOf ds) (fnOf ds es nts) [] (tfOf ds) (moreB C es HT nts) w h K) (G : h.Ns mainGlobals mg) (hmg : mg d0.name = some (.ref fa))
    (e0 : ds[0]? = some d0) (hp : d0.ps = [x]) (hbd : ∀ (K : PySem.W.Frag) (f : Addr) (fd : FuncData), FunD K d0.name d0.name (defArgs d0.st) (defBody d0.st) (defScope d0.st) [] [] f fd → ∀ (s : Shared) (u : Value), BindsTo s fd ⟨[u], []⟩ [(x, u)]) (bds : ∀ K, BindsD K ds) (bes : ∀ K, BindsE K es) (bns : ∀ K, BindsN K nts) (chk : ds.all (chkDx (xtOf es) HT (nts.map fun n => (n.name, n.yes)) C (tab ds) Bn) = true) (main : ∀ ns : List Int, ns.length ≤ 63 → ∃ h', sem Bf ds N 0 [.fl (ns.map PV.int)] [] = .ok (.bl true) h') :
      ∃ (K : PySem.W.Frag) (fd : FuncData) (cs : List (Addr × Addr)) (sp : Sp), K.In h ∧ (∀ p ∈ cs, h.get? p.2 = some voidO) ∧ (∀ p ∈ cs, K.lookup p.2 = none) ∧ (∀ p ∈ cs, PySem.W.codeHdIn K p.1 p.2 = true) ∧ (∀ (s : Shared) (u : Value), BindsTo s fd ⟨[u], []⟩ [(x, u)]) ∧
        (∀ (H : Hp) (a : Addr) (ns : List Int), ns.length ≤ 63 → (∀ p ∈ cs, H p.2 = some (.tbl #[])) → NoLst H → SqL K H a (ns.map V.int) → sp [.ref a] H (fun v _ => v = .bl true) fun _ _ _ => False) ∧
        ∀ base : Heap, K.In base → base.Ns mainGlobals mg → (∀ p ∈ cs, GxR.TabB base mg p.1 p.2) → FnG l.prog w K mg base (3 * N) fa fd 1 [x] sp := by
  obtain ⟨K, KX, cx⟩ := Y
  have c := cx.t.d
  have hfn : ∀ (i : Nat) d, ds[i]? = some d → (fnOf ds es nts)[i]? = some (ddOf d) := fun i d e => by
    unfold fnOf
    have il := (List.getElem?_eq_some_iff.mp e).1
    rw [List.getElem?_append_left (by rw [List.length_append, List.length_map]; omega), List.getElem?_append_left (by rw [List.length_map]; exact il), List.getElem?_map, e]
    rfl
  obtain ⟨f, fd, S⟩ := stand_of hfn KX G c (bds K)
  have ef := hmg.symm.trans (S.gl 0 d0 e0)
  injection ef with ef
  injection ef with ef
  letI : Tbs := tbsOf K ds es
  have hcs : ∀ p ∈ csOf K ds, ∃ q ∈ tfOf ds, p = He.cT K q := fun p hp => by
    obtain ⟨q, hq, e⟩ := List.mem_map.mp hp
    exact ⟨q, hq, e.symm⟩
  refine ⟨K, fd 0, csOf K ds, spOf K 1 (sem Bf ds N 0), KX, fun p hp => ?_, fun p hp => ?_, fun p hp => ?_, fun s u => ?_, fun H a ns hl hH hO hS => end_ofG hO (fun P hP => ?_) hS (main ns hl), fun base kb nb tb => ?_⟩
  · obtain ⟨q, hq, rfl⟩ := hcs p hp
    exact cx.empty q hq
  · obtain ⟨q, hq, rfl⟩ := hcs p hp
    exact cx.out q hq
  · obtain ⟨q, hq, rfl⟩ := hcs p hp
    exact cx.hd q hq
  · exact hbd K (f 0) (fd 0) (S.at' 0 d0 e0) s u
  · obtain ⟨p, hp, rfl⟩ := List.mem_map.mp hP
    exact hH p hp
  · have cm := cx.more
    unfold moreB at cm
    rw [Bool.and_eq_true, Bool.and_eq_true] at cm
    obtain ⟨⟨cm1, cm2⟩, cm3⟩ := cm
    obtain ⟨E1, E2⟩ := errs_ok (P := l.prog) (w := w) (base := base) KX G c (fun e he => by
      obtain ⟨i, hi⟩ := List.mem_iff_getElem?.mp he
      refine ⟨(ds.map ddOf).length + i, ?_⟩
      unfold fnOf
      have il := (List.getElem?_eq_some_iff.mp hi).1
      rw [List.getElem?_append_left (by rw [List.length_append, List.length_map, List.length_map]; omega), List.getElem?_append_right (Nat.le_add_right _ _), Nat.add_sub_cancel_left, List.getElem?_map, hi]
      rfl) (bes K) cm2
    have hE : ∀ e ∈ es, PySem.W.nsIn K mainGlobals e.name = some (some (.ref (He.ga K e.name))) := fun e he => by
      unfold errsB at cm2
      simp only [Bool.and_eq_true, List.all_eq_true] at cm2
      exact He.eqO_ok (cm2.1 e he).1.1.1.1.2
    have hNo : ∀ g yes, (g, yes) ∈ (nts.map fun n => (n.name, n.yes)) → NoOk l.prog w K mg base g yes := fun g yes hg => by
      obtain ⟨n, hn, q⟩ := List.mem_map.mp hg
      cases q
      have z := List.all_eq_true.mp cm3 n hn
      rw [Bool.and_eq_true] at z
      obtain ⟨i, hi⟩ := List.mem_iff_getElem?.mp hn
      refine no_all KX G c (i := ((ds.map ddOf) ++ es.map deOf).length + i) ?_ (bns K n hn) z.1 z.2 (fun p hp => hp) hE
      unfold fnOf
      rw [List.getElem?_append_right (Nat.le_add_right _ _), Nat.add_sub_cancel_left, List.getElem?_map, hi]
      rfl
    have q := sem_okX (P := l.prog) (w := w) (base := base) (XT := xtOf es) (HT := HT) hNo (fun x ns hx => ⟨hx, E1 x ns hx⟩) (E2 fun p hp => hp) (conK_all KX G cm1) S (tabs_ok (es := es) KX G c S tb) hBi chk N 0 d0 e0
    rw [hp] at q
    rw [ef]
    exact q
end Vm

set_option Elab.async false
set_option linter.all false
set_option maxRecDepth 100000
set_option maxHeartbeats 4000000
/-! M26: rounds by their windows, in numbers alone. -/
namespace Rd
open Vm
/-! ### sums of lists -/
theorem sum_mul {c C : Int} : ∀ {hs ws : List Int}, hs.length = ws.length → (∀ i : Nat, i < ws.length → c * ws.getD i 0 ≤ hs.getD i 0 * C) → c * ws.sum ≤ hs.sum * C
  | [], [], _, _ => by simp
  | [], _ :: _, h, _ => by cases h
  | _ :: _, [], h, _ => by cases h
  | x :: hs, y :: ws, h, k => by
    have h0 := k 0 (by simp)
    have hr := sum_mul (hs := hs) (ws := ws) (c := c) (C := C) (by simpa using h) (fun i hi => by have := k (i + 1) (by simpa using hi); simpa using this)
    simp only [List.sum_cons, Int.mul_add, Int.add_mul]
    simp only [List.getD_cons_zero] at h0
    omega
theorem sum_le : ∀ {hs ws : List Int}, hs.length = ws.length → (∀ i : Nat, i < ws.length → hs.getD i 0 ≤ ws.getD i 0) → hs.sum ≤ ws.sum
  | [], [], _, _ => by simp
  | [], _ :: _, h, _ => by cases h
  | _ :: _, [], h, _ => by cases h
  | x :: hs, y :: ws, h, k => by
    have h0 := k 0 (by simp)
    have hr := sum_le (hs := hs) (ws := ws) (by simpa using h) (fun i hi => by have := k (i + 1) (by simpa using hi); simpa using this)
    simp only [List.sum_cons]
    simp only [List.getD_cons_zero] at h0
    omega
theorem sum_eq : ∀ {hs ws : List Int}, hs.length = ws.length → (∀ i : Nat, i < ws.length → hs.getD i 0 ≤ ws.getD i 0) → hs.sum = ws.sum → ∀ i : Nat, hs.getD i 0 = ws.getD i 0
  | [], [], _, _, _, _ => by simp
  | [], _ :: _, h, _, _, _ => by cases h
  | _ :: _, [], h, _, _, _ => by cases h
  | x :: hs, y :: ws, h, k, e, i => by
    have h0 := k 0 (by simp)
    have kr : ∀ i : Nat, i < ws.length → hs.getD i 0 ≤ ws.getD i 0 := fun i hi => by have := k (i + 1) (by simpa using hi); simpa using this
    have hr := sum_le (hs := hs) (ws := ws) (by simpa using h) kr
    simp only [List.sum_cons] at e
    simp only [List.getD_cons_zero] at h0
    cases i with
    | zero => simp only [List.getD_cons_zero]; omega
    | succ i =>
      have := sum_eq (hs := hs) (ws := ws) (by simpa using h) kr (by omega) i
      simpa using this
theorem sum_set {v : Int} : ∀ {hs : List Int} {i : Nat}, i < hs.length → (hs.set i v).sum = hs.sum - hs.getD i 0 + v
  | [], i, h => by simp at h
  | x :: hs, 0, h => by simp only [List.set_cons_zero, List.sum_cons, List.getD_cons_zero]; omega
  | x :: hs, i + 1, h => by
    have := sum_set (v := v) (hs := hs) (i := i) (by simpa using h)
    simp only [List.set_cons_succ, List.sum_cons, List.getD_cons_succ, this]
    omega
theorem getD_set {hs : List Int} {i j : Nat} {v : Int} (h : i < hs.length) : (hs.set i v).getD j 0 = if i = j then v else hs.getD j 0 := by
  rw [List.getD_eq_getElem?_getD, List.getElem?_set, List.getD_eq_getElem?_getD]
  by_cases e : i = j
  · subst e; simp [h]
  · simp [e]
theorem sum_pos : ∀ {ws : List Int}, (∀ x ∈ ws, 1 ≤ x) → (ws.length : Int) ≤ ws.sum
  | [], _ => by simp
  | x :: ws, h => by
    have := sum_pos (ws := ws) (fun y hy => h y (List.mem_cons_of_mem _ hy))
    have := h x List.mem_cons_self
    simp only [List.length_cons, List.sum_cons]
    omega
theorem sum_top {b : Int} : ∀ {ws : List Int}, (∀ x ∈ ws, x ≤ b) → ws.sum ≤ b * ws.length
  | [], _ => by simp
  | x :: ws, h => by
    have := sum_top (ws := ws) (b := b) (fun y hy => h y (List.mem_cons_of_mem _ hy))
    have := h x List.mem_cons_self
    simp only [List.length_cons, List.sum_cons, Int.natCast_add, Int.mul_add]
    simp only [Int.natCast_one, Int.mul_one]
    omega

/-! ### weights -/
structure Good (ws : List Int) : Prop where
  some : 1 ≤ ws.length
  few : ws.length ≤ 6
  each : ∀ x ∈ ws, 1 ≤ x ∧ x ≤ 20
def wt (ws : List Int) (s : Int) : Int := ws.getD s.toNat 0
theorem Good.at {ws : List Int} (g : Good ws) {i : Nat} (h : i < ws.length) : 1 ≤ ws.getD i 0 ∧ ws.getD i 0 ≤ 20 := by
  rw [List.getD_eq_getElem?_getD, List.getElem?_eq_getElem h]
  exact g.each _ (List.getElem_mem h)
theorem Good.sum {ws : List Int} (g : Good ws) : 1 ≤ ws.sum ∧ ws.sum ≤ 120 := by
  have h1 := sum_pos (ws := ws) (fun x h => (g.each x h).1)
  have h2 := sum_top (ws := ws) (b := 20) (fun x h => (g.each x h).2)
  have := g.some
  have := g.few
  omega
theorem Good.wt {ws : List Int} (g : Good ws) {s : Int} (h0 : 0 ≤ s) (h : s < ws.length) : 1 ≤ wt ws s ∧ wt ws s ≤ 20 := g.at (i := s.toNat) (by omega)

/-! ### the round -/
def fstT (ws hs : List Int) (s : Int) : Int := hs.getD s.toNat 0 * ws.sum / wt ws s
def lstT (ws hs : List Int) (s : Int) : Int := -(-((hs.getD s.toNat 0 + 1) * ws.sum) / wt ws s) - 1
def seats (m : Nat) : List Int := (List.range m).map fun (i : Nat) => (i : Int)
def begun (ws hs : List Int) (t : Int) : List Int := (seats ws.length).filter fun s => decide (fstT ws hs s ≤ t)
def due (ws hs : List Int) (t : Int) : Int := (leastR ((begun ws hs t).map fun s => [lstT ws hs s, s])).getD 1 0
def rnd (ws : List Int) : Nat → List Int × List Int
  | 0 => (List.replicate ws.length 0, [])
  | k + 1 => ((rnd ws k).1.set (due ws (rnd ws k).1 k).toNat ((rnd ws k).1.getD (due ws (rnd ws k).1 k).toNat 0 + 1), (rnd ws k).2 ++ [due ws (rnd ws k).1 k])
def roundL (ws : List Int) : List Int := (rnd ws ws.sum.toNat).2
theorem seats_mem {m : Nat} {s : Int} : s ∈ seats m ↔ 0 ≤ s ∧ s < m := by
  unfold seats
  rw [List.mem_map]
  constructor
  · rintro ⟨i, hi, rfl⟩
    rw [List.mem_range] at hi
    omega
  · rintro ⟨h1, h2⟩
    exact ⟨s.toNat, List.mem_range.mpr (by omega), by omega⟩
theorem begun_mem {ws hs : List Int} {t s : Int} : s ∈ begun ws hs t ↔ (0 ≤ s ∧ s < ws.length) ∧ fstT ws hs s ≤ t := by
  unfold begun
  rw [List.mem_filter, seats_mem, decide_eq_true_eq]
theorem due_mem {ws hs : List Int} {t : Int} (h : begun ws hs t ≠ []) : due ws hs t ∈ begun ws hs t := by
  have hp : 0 < ((begun ws hs t).map fun s => [lstT ws hs s, s]).length := by
    rw [List.length_map]
    exact List.length_pos_iff.mpr h
  obtain ⟨s, hs, e⟩ := List.mem_map.mp (leastR_mem hp)
  unfold due
  rw [← e]
  simpa using hs
theorem begun_ne {ws hs : List Int} {k : Int} (g : Good ws) (hl : hs.length = ws.length) (hk : hs.sum = k) : begun ws hs k ≠ [] := by
  intro z
  have hs0 := g.sum
  have q : (k + 1) * ws.sum ≤ hs.sum * ws.sum := sum_mul hl fun i hi => by
    have n : ¬ (i : Int) ∈ begun ws hs k := by rw [z]; simp
    rw [begun_mem] at n
    have n2 : k + 1 ≤ fstT ws hs i := by
      have : ¬ fstT ws hs i ≤ k := fun h => n ⟨⟨by omega, by omega⟩, h⟩
      omega
    have p := (g.at hi).1
    unfold fstT wt at n2
    rw [Int.toNat_natCast] at n2
    exact (Int.le_ediv_iff_mul_le (by omega)).mp n2
  rw [hk] at q
  have : (k + 1) * ws.sum = k * ws.sum + ws.sum := by rw [Int.add_mul, Int.one_mul]
  omega
structure RInv (ws : List Int) (k : Nat) (hs made : List Int) : Prop where
  hl : hs.length = ws.length
  ml : made.length = k
  sum : hs.sum = k
  top : ∀ i : Nat, i < ws.length → 0 ≤ hs.getD i 0 ∧ hs.getD i 0 ≤ ws.getD i 0
  cnt : ∀ i : Nat, i < ws.length → (made.count (i : Int) : Int) = hs.getD i 0
  mem : ∀ x ∈ made, 0 ≤ x ∧ x < ws.length
theorem rep_sum (n : Nat) : (List.replicate n (0 : Int)).sum = 0 := by
  induction n with
  | zero => rfl
  | succ n ih => rw [List.replicate_succ, List.sum_cons, ih]; rfl
theorem rnd_inv {ws : List Int} (g : Good ws) : ∀ k : Nat, (k : Int) ≤ ws.sum → RInv ws k (rnd ws k).1 (rnd ws k).2
  | 0, _ => by
    have z : ∀ i : Nat, (List.replicate ws.length (0 : Int)).getD i 0 = 0 := fun i => by
      rw [List.getD_eq_getElem?_getD, List.getElem?_replicate]
      split <;> rfl
    refine ⟨by simp [rnd], rfl, rep_sum _, fun i hi => ?_, fun i hi => ?_, fun x hx => by cases hx⟩
    · show 0 ≤ (List.replicate ws.length (0 : Int)).getD i 0 ∧ _
      have e := z i
      have := (g.at hi).1
      constructor
      · show 0 ≤ (List.replicate ws.length (0 : Int)).getD i 0
        rw [e]; exact Int.le_refl 0
      · show (List.replicate ws.length (0 : Int)).getD i 0 ≤ _
        rw [e]; omega
    · exact (z i).symm
  | k + 1, h => by
    have I := rnd_inv g k (by omega)
    have hm := due_mem (begun_ne g I.hl I.sum)
    have hd := begun_mem.mp hm
    generalize hD : due ws (rnd ws k).1 k = s at hm hd
    obtain ⟨⟨s0, s1⟩, hf⟩ := hd
    have e1 : (rnd ws (k + 1)).1 = (rnd ws k).1.set s.toNat ((rnd ws k).1.getD s.toNat 0 + 1) := by
      show (rnd ws k).1.set (due ws (rnd ws k).1 k).toNat _ = _
      rw [hD]
    have e2 : (rnd ws (k + 1)).2 = (rnd ws k).2 ++ [s] := by
      show (rnd ws k).2 ++ [due ws (rnd ws k).1 k] = _
      rw [hD]
    have sl : s.toNat < (rnd ws k).1.length := by rw [I.hl]; omega
    have slw : s.toNat < ws.length := by omega
    have w0 := (g.at slw)
    have lt : (rnd ws k).1.getD s.toNat 0 < ws.getD s.toNat 0 := by
      -- a seat that had all its turns begins anew only behind the round
      have t0 := (I.top _ slw).2
      rcases Int.lt_or_eq_of_le t0 with a | a
      · exact a
      · exfalso
        unfold fstT wt at hf
        rw [a, Int.mul_ediv_cancel_left _ (by omega)] at hf
        omega
    refine ⟨by rw [e1, List.length_set]; exact I.hl, by rw [e2]; simp [I.ml], ?_, fun i hi => ?_, fun i hi => ?_, fun x hx => ?_⟩
    · rw [e1, sum_set sl, I.sum]
      omega
    · rw [e1, getD_set sl]
      have := I.top i hi
      split
      · rename_i e
        subst e
        omega
      · exact this
    · rw [e1, e2, getD_set sl, List.count_append, Int.natCast_add, I.cnt i hi]
      split
      · rename_i e
        subst e
        have e3 : ((s.toNat : Nat) : Int) = s := by omega
        rw [e3]
        simp
      · rename_i e
        have : ([s].count (i : Int)) = 0 := by
          rw [List.count_eq_zero]
          intro z
          have := List.mem_singleton.mp z
          omega
        rw [this]
        simp
    · rw [e2] at hx
      rcases List.mem_append.mp hx with hx | hx
      · exact I.mem x hx
      · have := List.mem_singleton.mp hx
        subst this
        exact ⟨s0, s1⟩
structure Whole (ws R : List Int) : Prop where
  len : (R.length : Int) = ws.sum
  mem : ∀ x ∈ R, 0 ≤ x ∧ x < ws.length
  cnt : ∀ s : Int, 0 ≤ s → s < ws.length → (R.count s : Int) = wt ws s
theorem round_whole {ws : List Int} (g : Good ws) : Whole ws (roundL ws) := by
  have hs := g.sum
  have I := rnd_inv g ws.sum.toNat (by omega)
  have e := sum_eq I.hl (fun i hi => (I.top i hi).2) (by rw [I.sum]; omega)
  refine ⟨by show ((rnd ws ws.sum.toNat).2.length : Int) = _; rw [I.ml]; omega, I.mem, fun s h0 h1 => ?_⟩
  have c := I.cnt s.toNat (by omega)
  have e3 : ((s.toNat : Nat) : Int) = s := by omega
  rw [e3, e] at c
  exact c

/-! ### places -/
def placesN (s : Int) (R : List Int) (n : Nat) : List Nat := (List.range n).filter fun t => decide (R[t]? = some s)
theorem take_cnt {s : Int} {R : List Int} {n : Nat} (h : n < R.length) : (R.take (n + 1)).count s = (R.take n).count s + if R[n]? = some s then 1 else 0 := by
  rw [List.take_add_one, List.getElem?_eq_getElem h, List.count_append]
  congr 1
  show [R[n]].count s = _
  rw [List.count_singleton]
  by_cases e : R[n] = s
  · rw [if_pos (beq_iff_eq.mpr e), if_pos (congrArg some e)]
  · rw [if_neg (fun z => e (beq_iff_eq.mp z)), if_neg (fun z => e (Option.some.inj z))]
theorem places_all {s : Int} {R : List Int} : ∀ n : Nat, n ≤ R.length → (placesN s R n).length = (R.take n).count s ∧
    (∀ r p : Nat, (placesN s R n)[r]? = some p → p < n ∧ R[p]? = some s ∧ (R.take p).count s = r) ∧ (∀ t : Nat, t < n → R[t]? = some s → (placesN s R n)[(R.take t).count s]? = some t)
  | 0, _ => by simp [placesN]
  | n + 1, h => by
    obtain ⟨h1, h2, h3⟩ := places_all (s := s) (R := R) n (by omega)
    have e : placesN s R (n + 1) = placesN s R n ++ if R[n]? = some s then [n] else [] := by
      unfold placesN
      rw [List.range_succ, List.filter_append]
      congr 1
      by_cases z : R[n]? = some s <;> simp [z]
    have tc := take_cnt (s := s) (R := R) (n := n) (by omega)
    rw [e]
    by_cases z : R[n]? = some s
    · rw [if_pos z] at tc ⊢
      refine ⟨by rw [List.length_append, h1, tc]; rfl, fun r p hp => ?_, fun t ht hs => ?_⟩
      · by_cases hr : r < (placesN s R n).length
        · rw [List.getElem?_append_left hr] at hp
          obtain ⟨a, b, c⟩ := h2 r p hp
          exact ⟨by omega, b, c⟩
        · rw [List.getElem?_append_right (by omega)] at hp
          obtain ⟨hl, hv⟩ := List.getElem?_eq_some_iff.mp hp
          have hl' : r - (placesN s R n).length = 0 := by simpa using hl
          have : p = n := by simpa [hl'] using hv.symm
          subst this
          exact ⟨by omega, z, by omega⟩
      · by_cases hn : t = n
        · subst hn
          rw [← h1, List.getElem?_append_right (Nat.le_refl _), Nat.sub_self]
          rfl
        · have q := h3 t (by omega) hs
          rw [List.getElem?_append_left (List.getElem?_eq_some_iff.mp q).1]
          exact q
    · rw [if_neg z] at tc ⊢
      rw [List.append_nil]
      refine ⟨by rw [h1, tc]; rfl, fun r p hp => ?_, fun t ht hs => ?_⟩
      · obtain ⟨a, b, c⟩ := h2 r p hp
        exact ⟨by omega, b, c⟩
      · have : t ≠ n := fun y => z (by rw [← y]; exact hs)
        exact h3 t (by omega) hs
/-! ### turns -/
def how (ws : List Int) (s k : Int) : Int := k / ws.sum * wt ws s + (((roundL ws).take (k % ws.sum).toNat).count s : Nat)
def places (ws : List Int) (s : Int) : List Nat := placesN s (roundL ws) (roundL ws).length
def nth (ws : List Int) (s j : Int) : Int := (j - 1) / wt ws s * ws.sum + ((places ws s).getD ((j - 1) % wt ws s).toNat 0 : Nat)
section
variable {ws : List Int} (g : Good ws) {s : Int} (s0 : 0 ≤ s) (s1 : s < ws.length)
include g s0 s1
theorem places_len : ((places ws s).length : Int) = wt ws s := by
  have w := round_whole g
  unfold places
  rw [(places_all _ (Nat.le_refl _)).1, List.take_length]
  exact w.cnt s s0 s1
theorem place_at {r : Nat} (h : (r : Int) < wt ws s) : ∃ p : Nat, (places ws s).getD r 0 = p ∧ (p : Int) < ws.sum ∧ (roundL ws)[p]? = some s ∧ ((roundL ws).take p).count s = r := by
  have w := round_whole g
  have hl := places_len g s0 s1
  have lt : r < (places ws s).length := by omega
  obtain ⟨a, b, c⟩ := (places_all (s := s) (R := roundL ws) _ (Nat.le_refl _)).2.1 r _ (List.getElem?_eq_getElem lt)
  refine ⟨(places ws s)[r], ?_, ?_, b, c⟩
  · rw [List.getD_eq_getElem?_getD, List.getElem?_eq_getElem lt]
    rfl
  · have := w.len
    have a' : (places ws s)[r] < (roundL ws).length := a
    omega
theorem how_at {q : Int} {p : Nat} (h : (p : Int) ≤ ws.sum) : how ws s (q * ws.sum + p) = q * wt ws s + ((roundL ws).take p).count s := by
  have hs := g.sum
  unfold how
  rcases Int.lt_or_eq_of_le h with a | a
  · have e1 : (q * ws.sum + p) / ws.sum = q := by
      rw [Int.add_comm, Int.add_mul_ediv_right _ _ (by omega), Int.ediv_eq_zero_of_lt (by omega) a]
      omega
    have e2 : (q * ws.sum + p) % ws.sum = p := by
      rw [Int.add_comm, Int.add_mul_emod_self_right, Int.emod_eq_of_lt (by omega) a]
    rw [e1, e2, Int.toNat_natCast]
  · have e1 : (q * ws.sum + p) / ws.sum = q + 1 := by
      rw [a, show q * ws.sum + ws.sum = (q + 1) * ws.sum by rw [Int.add_mul, Int.one_mul], Int.mul_ediv_cancel _ (by omega)]
    have e2 : (q * ws.sum + p) % ws.sum = 0 := by
      rw [a, show q * ws.sum + ws.sum = (q + 1) * ws.sum by rw [Int.add_mul, Int.one_mul], Int.mul_emod_left]
    have w := round_whole g
    have e3 : (roundL ws).take p = roundL ws := List.take_of_length_le (by have := w.len; omega)
    rw [e1, e2, e3, w.cnt s s0 s1, Int.add_mul]
    simp
theorem nth_facts {j : Int} (hj : 1 ≤ j) : ∃ (q : Int) (p : Nat), nth ws s j = q * ws.sum + p ∧ 0 ≤ q ∧ (p : Int) < ws.sum ∧ (roundL ws)[p]? = some s ∧ q * wt ws s + ((roundL ws).take p).count s = j - 1 := by
  have w := g.wt s0 s1
  have r0 := Int.emod_nonneg (j - 1) (show wt ws s ≠ 0 by omega)
  have r1 := Int.emod_lt_of_pos (j - 1) (show 0 < wt ws s by omega)
  obtain ⟨p, e1, e2, e3, e4⟩ := place_at g s0 s1 (r := ((j - 1) % wt ws s).toNat) (by omega)
  refine ⟨(j - 1) / wt ws s, p, ?_, Int.ediv_nonneg (by omega) (by omega), e2, e3, ?_⟩
  · unfold nth
    rw [e1]
  · rw [e4]
    have := Int.mul_ediv_add_emod (j - 1) (wt ws s)
    rw [Int.mul_comm] at this
    omega
theorem nth_nonneg {j : Int} (hj : 1 ≤ j) : 0 ≤ nth ws s j := by
  obtain ⟨q, p, e, q0, _⟩ := nth_facts g s0 s1 hj
  have := Int.mul_nonneg q0 (show 0 ≤ ws.sum by have := g.sum; omega)
  omega
theorem nth_seat {j : Int} (hj : 1 ≤ j) : (roundL ws)[(nth ws s j % ws.sum).toNat]? = some s := by
  obtain ⟨q, p, e, q0, h1, h2, _⟩ := nth_facts g s0 s1 hj
  rw [e, Int.add_comm, Int.add_mul_emod_self_right, Int.emod_eq_of_lt (by omega) h1, Int.toNat_natCast]
  exact h2
theorem how_nth {j : Int} (hj : 1 ≤ j) : how ws s (nth ws s j) = j - 1 := by
  obtain ⟨q, p, e, q0, h1, h2, h3⟩ := nth_facts g s0 s1 hj
  rw [e, how_at g s0 s1 (by omega)]
  exact h3
theorem how_nth1 {j : Int} (hj : 1 ≤ j) : how ws s (nth ws s j + 1) = j := by
  obtain ⟨q, p, e, q0, h1, h2, h3⟩ := nth_facts g s0 s1 hj
  have e2 : q * ws.sum + (p : Int) + 1 = q * ws.sum + ((p + 1 : Nat) : Int) := by omega
  rw [e, e2, how_at g s0 s1 (by omega), take_cnt (List.getElem?_eq_some_iff.mp h2).1, if_pos h2]
  omega
theorem how_zero : how ws s 0 = 0 := by
  have := how_at g s0 s1 (q := 0) (p := 0) (by have := g.sum; omega)
  simpa using this
theorem nth_small {t : Nat} (ht : (roundL ws)[t]? = some s) : nth ws s (((roundL ws).take (t + 1)).count s) = t := by
  have lt := (List.getElem?_eq_some_iff.mp ht).1
  have w := round_whole g
  have wc := w.cnt s s0 s1
  have wp := g.wt s0 s1
  have e1 : (((roundL ws).take (t + 1)).count s : Int) - 1 = (((roundL ws).take t).count s : Nat) := by
    rw [take_cnt lt, if_pos ht]
    omega
  have b : (((roundL ws).take t).count s : Int) < wt ws s := by
    have le : ((roundL ws).take (t + 1)).count s ≤ (roundL ws).count s := List.Sublist.count_le s (List.take_sublist ..)
    rw [take_cnt lt, if_pos ht] at le
    omega
  unfold nth
  rw [e1, Int.ediv_eq_zero_of_lt (by omega) b, Int.emod_eq_of_lt (by omega) b, Int.toNat_natCast]
  have q := (places_all (s := s) (R := roundL ws) _ (Nat.le_refl _)).2.2 t lt ht
  have q' : (places ws s)[((roundL ws).take t).count s]? = some t := q
  rw [List.getD_eq_getElem?_getD, q']
  simp
end
end Rd

set_option Elab.async false
set_option linter.all false
set_option maxRecDepth 100000
set_option maxHeartbeats 1000000
/-! M22: each turn in time: by the earliest end none is late. -/
namespace Rd
open Vm L2
theorem best_min {bt : Nat → Nat → Bool} {key : Nat → Int} {m : Nat} (h1 : ∀ i j, i ≤ m → j ≤ m → bt i j = true → key i ≤ key j) (h2 : ∀ i j, i ≤ m → j ≤ m → bt i j = false → key j ≤ key i) : ∀ k, k ≤ m → ∀ i, i ≤ k → key (PySem.argBest bt k) ≤ key i
  | 0, _, i, hi => by
    have : i = 0 := by omega
    subst this
    exact Int.le_refl _
  | k + 1, hk, i, hi => by
    have ih := best_min h1 h2 k (by omega)
    have bl := argBest_le bt k
    unfold PySem.argBest
    by_cases hb : bt (k + 1) (PySem.argBest bt k) = true
    · rw [if_pos hb]
      have a := h1 (k + 1) (PySem.argBest bt k) hk (by omega) hb
      by_cases e : i = k + 1
      · subst e; exact Int.le_refl _
      · have := ih i (by omega)
        omega
    · rw [if_neg hb]
      have a := h2 (k + 1) (PySem.argBest bt k) hk (by omega) (by simpa using hb)
      by_cases e : i = k + 1
      · subst e; exact a
      · exact ih i (by omega)
theorem lex_pair {a x b y : Int} : (HT.lexLt [a, x] [b, y] = true → a ≤ b) ∧ (HT.lexLt [a, x] [b, y] = false → b ≤ a) := by
  rw [HT.lexLt_cons]
  by_cases e : a = b
  · rw [if_pos e]
    exact ⟨fun _ => by omega, fun _ => by omega⟩
  · rw [if_neg e]
    constructor
    · intro h
      have := of_decide_eq_true h
      omega
    · intro h
      have := of_decide_eq_false h
      omega
theorem due_min {ws hs : List Int} {t s : Int} (h : s ∈ begun ws hs t) : lstT ws hs (due ws hs t) ≤ lstT ws hs s := by
  generalize hl : begun ws hs t = l at h
  have l0 : 0 < l.length := List.length_pos_of_mem h
  generalize hr : l.map (fun s => [lstT ws hs s, s]) = rs
  have rl : rs.length = l.length := by rw [← hr, List.length_map]
  have at1 : ∀ i : Nat, i < l.length → rs.getD i [] = [lstT ws hs (l.getD i 0), l.getD i 0] := fun i hi => by
    rw [← hr, List.getD_eq_getElem?_getD, List.getElem?_map, List.getElem?_eq_getElem hi, List.getD_eq_getElem?_getD, List.getElem?_eq_getElem hi]
    rfl
  obtain ⟨i, hi, e⟩ := List.mem_iff_getElem.mp h
  have bi := leastI_lt (rs := rs) (by omega)
  have ed : due ws hs t = l.getD (leastI rs) 0 := by
    unfold due leastR
    rw [hl, hr, at1 _ (by omega)]
    rfl
  have m := best_min (bt := fun i j => HT.lexLt (rs.getD i []) (rs.getD j [])) (key := fun i => lstT ws hs (l.getD i 0)) (m := rs.length - 1)
    (fun i j h1 h2 hb => by
      rw [at1 i (by omega), at1 j (by omega)] at hb
      exact lex_pair.1 hb)
    (fun i j h1 h2 hb => by
      rw [at1 i (by omega), at1 j (by omega)] at hb
      exact lex_pair.2 hb) (rs.length - 1) (Nat.le_refl _) i (by omega)
  have es : l.getD i 0 = s := by rw [List.getD_eq_getElem?_getD, List.getElem?_eq_getElem hi, ← e]; rfl
  rw [ed]
  rw [es] at m
  exact m
/-- three lists -/
theorem sum_three {W c : Int} : ∀ {B A ws : List Int}, B.length = ws.length → A.length = ws.length → (∀ i : Nat, i < ws.length → B.getD i 0 * W ≤ A.getD i 0 * W + c * ws.getD i 0) → B.sum * W ≤ A.sum * W + c * ws.sum
  | [], [], [], _, _, _ => by simp
  | [], _, _ :: _, h, _, _ => by cases h
  | _ :: _, _, [], h, _, _ => by cases h
  | _, [], _ :: _, _, h, _ => by cases h
  | _, _ :: _, [], _, h, _ => by cases h
  | b :: B, a :: A, w :: ws, h1, h2, k => by
    have h0 := k 0 (by simp)
    have hr := sum_three (B := B) (A := A) (ws := ws) (W := W) (c := c) (by simpa using h1) (by simpa using h2) (fun i hi => by have := k (i + 1) (by simpa using hi); simpa using this)
    simp only [List.sum_cons, Int.mul_add, Int.add_mul]
    simp only [List.getD_cons_zero] at h0
    omega
/-- what seat i had ahead of slot u -/
def hadAt (ws : List Int) (u i : Nat) : Int := (rnd ws u).1.getD i 0
/-- the end of the turn that is given at slot u -/
def endAt (ws : List Int) (u : Nat) : Int := lstT ws (rnd ws u).1 (due ws (rnd ws u).1 u)
section
variable {ws : List Int} (g : Good ws)
include g
theorem step_at {u : Nat} (hu : (u : Int) < ws.sum) : ∃ d : Int, 0 ≤ d ∧ d < ws.length ∧ due ws (rnd ws u).1 u = d ∧ fstT ws (rnd ws u).1 d ≤ u ∧ ∀ i : Nat, hadAt ws (u + 1) i = if d.toNat = i then hadAt ws u i + 1 else hadAt ws u i := by
  have I := rnd_inv g u (by omega)
  have hb := begun_ne g I.hl I.sum
  have ⟨⟨d0, d1⟩, df⟩ := begun_mem.mp (due_mem hb)
  refine ⟨_, d0, d1, rfl, df, fun i => ?_⟩
  have dl : (due ws (rnd ws u).1 u).toNat < (rnd ws u).1.length := by rw [I.hl]; omega
  show ((rnd ws u).1.set (due ws (rnd ws u).1 u).toNat ((rnd ws u).1.getD (due ws (rnd ws u).1 u).toNat 0 + 1)).getD i 0 = _
  rw [getD_set dl]
  split
  · rename_i e
    rw [e]
    rfl
  · rfl
theorem had_mono {u i : Nat} : ∀ {v : Nat}, u ≤ v → (v : Int) ≤ ws.sum → hadAt ws u i ≤ hadAt ws v i
  | 0, h, _ => by
    have : u = 0 := by omega
    subst this
    exact Int.le_refl _
  | v + 1, h, hv => by
    by_cases e : u = v + 1
    · subst e; exact Int.le_refl _
    · have ih := had_mono (u := u) (i := i) (v := v) (by omega) (by omega)
      obtain ⟨d, _, _, _, _, hs⟩ := step_at g (u := v) (by omega)
      rw [hs i]
      split <;> omega
/-- y's end lies by D just where y whole turns fit -/
theorem end_le {y w D : Int} (hw : 0 < w) : -(-(y * ws.sum) / w) - 1 ≤ D ↔ y * ws.sum ≤ (D + 1) * w := by
  have e : -(-(y * ws.sum) / w) - 1 ≤ D ↔ -(D + 1) ≤ -(y * ws.sum) / w := by omega
  rw [e, Int.le_ediv_iff_mul_le hw, Int.neg_mul]
  omega
theorem fst_gt {x w t : Int} (hw : 0 < w) : ¬ x * ws.sum / w ≤ t ↔ (t + 1) * w ≤ x * ws.sum := by
  rw [← Int.le_ediv_iff_mul_le hw]
  omega
/-- where the slots from t0 to D are given to ends by D -/
theorem done_by {i t0 : Nat} {D : Int} (hi : i < ws.length) : ∀ {n : Nat}, t0 ≤ n → (n : Int) ≤ ws.sum → (∀ u : Nat, t0 ≤ u → u < n → endAt ws u ≤ D) → hadAt ws t0 i < hadAt ws n i → hadAt ws n i * ws.sum ≤ (D + 1) * ws.getD i 0
  | 0, h, _, _, lt => by
    have : t0 = 0 := by omega
    subst this
    omega
  | n + 1, h, hn, hd, lt => by
    by_cases e : t0 = n + 1
    · subst e; omega
    · obtain ⟨d, d0, d1, de, df, hs⟩ := step_at g (u := n) (by omega)
      have hsi := hs i
      by_cases ed : d.toNat = i
      · rw [if_pos ed] at hsi
        have he := hd n (by omega) (by omega)
        unfold endAt at he
        rw [de] at he
        unfold lstT wt at he
        rw [ed] at he
        rw [hsi]
        exact (end_le g (g.at hi).1).mp he
      · rw [if_neg ed] at hsi
        rw [hsi] at lt ⊢
        exact done_by hi (by omega) (by omega) (fun u h1 h2 => hd u h1 (by omega)) lt
/-- a seat that has a turn with an end by D behind t0 begins that turn at t0 or later -/
theorem begun_by {i t0 : Nat} {D b : Int} (hi : i < ws.length) (h0 : t0 = 0 ∨ ∃ u : Nat, t0 = u + 1 ∧ D < endAt ws u) (ht : (t0 : Int) ≤ ws.sum) (hb : hadAt ws t0 i < b) (he : b * ws.sum ≤ (D + 1) * ws.getD i 0) : (t0 : Int) * ws.getD i 0 ≤ hadAt ws t0 i * ws.sum := by
  have hs := g.sum
  have wi := (g.at hi).1
  rcases h0 with rfl | ⟨u, rfl, hu⟩
  · have I := rnd_inv g 0 (by omega)
    have := (I.top i hi).1
    have := Int.mul_nonneg this (show 0 ≤ ws.sum by omega)
    unfold hadAt
    simpa using this
  · obtain ⟨d, d0, d1, de, df, hst⟩ := step_at g (u := u) (by omega)
    have hsi := hst i
    unfold endAt at hu
    rw [de] at hu
    by_cases ed : d.toNat = i
    · exfalso
      rw [if_pos ed] at hsi
      unfold lstT wt at hu
      rw [ed] at hu
      have n : ¬ (-(-((hadAt ws u i + 1) * ws.sum) / ws.getD i 0) - 1 ≤ D) := by
        unfold hadAt
        omega
      rw [end_le g wi, ← hsi] at n
      have : hadAt ws (u + 1) i * ws.sum ≤ b * ws.sum := Int.mul_le_mul_of_nonneg_right (by omega) (by omega)
      omega
    · rw [if_neg ed] at hsi
      have nb : ¬ ((i : Int) ∈ begun ws (rnd ws u).1 u) := fun z => by
        have m := due_min z
        rw [de] at m
        have q : lstT ws (rnd ws u).1 (i : Int) ≤ D := by
          unfold lstT wt
          rw [Int.toNat_natCast]
          refine (end_le g wi).mpr ?_
          have : (hadAt ws u i + 1) * ws.sum ≤ b * ws.sum := Int.mul_le_mul_of_nonneg_right (by omega) (by omega)
          exact Int.le_trans this he
        omega
      rw [begun_mem] at nb
      have nf : ¬ fstT ws (rnd ws u).1 (i : Int) ≤ u := fun z => nb ⟨⟨by omega, by omega⟩, z⟩
      unfold fstT wt at nf
      rw [Int.toNat_natCast, fst_gt g wi] at nf
      rw [hsi]
      exact nf
theorem turn_back : ∀ (D : Int) (n : Nat), ∃ t0 : Nat, t0 ≤ n ∧ (∀ u : Nat, t0 ≤ u → u < n → endAt ws u ≤ D) ∧ (t0 = 0 ∨ ∃ u : Nat, t0 = u + 1 ∧ D < endAt ws u)
  | D, 0 => ⟨0, Nat.le_refl 0, fun u _ h => absurd h (by omega), .inl rfl⟩
  | D, n + 1 => by
    obtain ⟨t0, h1, h2, h3⟩ := turn_back D n
    by_cases e : endAt ws n ≤ D
    · refine ⟨t0, by omega, fun u a b => ?_, h3⟩
      by_cases eu : u = n
      · subst eu; exact e
      · exact h2 u a (by omega)
    · exact ⟨n + 1, Nat.le_refl _, fun u a b => absurd b (by omega), .inr ⟨n, rfl, by omega⟩⟩
/-- none is late -/
theorem not_late {t i : Nat} (ht : (t : Int) ≤ ws.sum) (hi : i < ws.length) : ¬ (hadAt ws t i + 1) * ws.sum ≤ (t : Int) * ws.getD i 0 := by
  intro late
  have hs := g.sum
  obtain ⟨t0, h1, h2, h3⟩ := turn_back g ((t : Int) - 1) t
  have It := rnd_inv g t ht
  have I0 := rnd_inv g t0 (by omega)
  have il : i < (rnd ws t).1.length := by rw [It.hl]; exact hi
  have tt : ((t : Int) - 1 + 1) = t := by omega
  have q := sum_three (W := ws.sum) (c := (t : Int) - t0) (B := (rnd ws t).1.set i (hadAt ws t i + 1)) (A := (rnd ws t0).1) (ws := ws) (by rw [List.length_set]; exact It.hl) I0.hl fun j hj => by
    rw [getD_set il, Int.sub_mul]
    have hm := had_mono g (u := t0) (v := t) (i := j) h1 ht
    by_cases e : i = j
    · subst e
      rw [if_pos rfl]
      have := begun_by g (i := i) (t0 := t0) (D := (t : Int) - 1) (b := hadAt ws t i + 1) hi h3 (by omega) (by omega) (by rw [tt]; exact late)
      show _ ≤ hadAt ws t0 i * ws.sum + _
      omega
    · rw [if_neg e]
      show hadAt ws t j * ws.sum ≤ hadAt ws t0 j * ws.sum + _
      rcases Int.lt_or_eq_of_le hm with a | a
      · have db := done_by g (i := j) (t0 := t0) (D := (t : Int) - 1) hj h1 ht h2 a
        have := begun_by g (i := j) (t0 := t0) (D := (t : Int) - 1) (b := hadAt ws t j) hj h3 (by omega) a db
        rw [tt] at db
        omega
      · rw [a]
        have := Int.mul_nonneg (show 0 ≤ (t : Int) - t0 by omega) (show 0 ≤ ws.getD j 0 by have := (g.at hj).1; omega)
        rw [Int.sub_mul] at this
        omega
  rw [sum_set il, It.sum, I0.sum] at q
  have e1 : ((t : Int) - (rnd ws t).1.getD i 0 + (hadAt ws t i + 1)) = t + 1 := by
    unfold hadAt
    omega
  rw [e1, Int.sub_mul, Int.add_mul] at q
  omega
theorem rnd_len {k : Nat} (hk : (k : Int) ≤ ws.sum) : (rnd ws k).2.length = k := (rnd_inv g k hk).ml
theorem rnd_take {k : Nat} : ∀ {n : Nat}, k ≤ n → (n : Int) ≤ ws.sum → (rnd ws n).2.take k = (rnd ws k).2
  | 0, h, _ => by
    have : k = 0 := by omega
    subst this
    rfl
  | n + 1, h, hn => by
    have l := rnd_len g (k := n + 1) hn
    by_cases e : k = n + 1
    · subst e
      exact List.take_of_length_le (by omega)
    · have ln := rnd_len g (k := n) (by omega)
      show ((rnd ws n).2 ++ [_]).take k = _
      rw [List.take_append_of_le_length (by omega)]
      exact rnd_take (by omega) (by omega)
theorem round_take {k : Nat} (hk : (k : Int) ≤ ws.sum) : (roundL ws).take k = (rnd ws k).2 := rnd_take g (n := ws.sum.toNat) (by omega) (by omega)
theorem cnt_had {p i : Nat} (hp : (p : Int) ≤ ws.sum) (hi : i < ws.length) : (((roundL ws).take p).count (i : Int) : Int) = hadAt ws p i := by
  rw [round_take g hp]
  exact (rnd_inv g p hp).cnt i hi
theorem cnt_had' {p : Nat} {s : Int} (hp : (p : Int) ≤ ws.sum) (s0 : 0 ≤ s) (s1 : s < ws.length) : (((roundL ws).take p).count s : Int) = hadAt ws p s.toNat := by
  have := cnt_had g (i := s.toNat) hp (by omega)
  rwa [Int.toNat_of_nonneg s0] at this
theorem slot_due {p : Nat} (hp : (p : Int) < ws.sum) : (roundL ws)[p]? = some (due ws (rnd ws p).1 p) := by
  have e := round_take g (k := p + 1) (by omega)
  have l := rnd_len g (k := p) (by omega)
  have e2 : ((roundL ws).take (p + 1))[p]? = (roundL ws)[p]? := by rw [List.getElem?_take]; simp
  rw [← e2, e]
  show ((rnd ws p).2 ++ [_])[p]? = _
  rw [List.getElem?_append_right (by omega), l, Nat.sub_self]
  rfl
/-- none is early -/
theorem not_early {i : Nat} (hi : i < ws.length) : ∀ {t : Nat}, (t : Int) ≤ ws.sum → hadAt ws t i * ws.sum < (t : Int) * ws.getD i 0 + ws.sum
  | 0, _ => by
    have hs := g.sum
    have e := sum_eq (hs := (rnd ws 0).1) (ws := (rnd ws 0).1) rfl (fun _ _ => Int.le_refl _) rfl
    have z : hadAt ws 0 i = 0 := by
      show (List.replicate ws.length (0 : Int)).getD i 0 = 0
      rw [List.getD_eq_getElem?_getD, List.getElem?_replicate]
      split <;> rfl
    rw [z]
    simp
    omega
  | t + 1, ht => by
    have ih := not_early hi (t := t) (by omega)
    have wi := g.at hi
    obtain ⟨d, d0, d1, de, df, hst⟩ := step_at g (u := t) (by omega)
    have hsi := hst i
    have e : ((t + 1 : Nat) : Int) * ws.getD i 0 = (t : Int) * ws.getD i 0 + ws.getD i 0 := by rw [Int.natCast_add, Int.add_mul]; simp
    rw [e]
    by_cases ed : d.toNat = i
    · rw [if_pos ed] at hsi
      rw [hsi, Int.add_mul, Int.one_mul]
      have n : ¬ ((t : Int) + 1) * ws.getD i 0 ≤ hadAt ws t i * ws.sum := by
        rw [← fst_gt g wi.1]
        intro z
        apply z
        unfold fstT wt at df
        rw [ed] at df
        exact df
      rw [Int.add_mul, Int.one_mul] at n
      omega
    · rw [if_neg ed] at hsi
      rw [hsi]
      omega
/-- the least and the most of k turns -/
def leastT (ws : List Int) (s k : Int) : Int := k * wt ws s / ws.sum
def mostT (ws : List Int) (s k : Int) : Int := -(-(k * wt ws s) / ws.sum)
omit g in
theorem near {a W : Int} (hW : 0 < W) : -(-a / W) - a / W ≤ 1 ∧ a / W ≤ -(-a / W) := by
  have e1 := Int.mul_ediv_add_emod a W
  have e2 := Int.emod_nonneg a (show W ≠ 0 by omega)
  have e3 := Int.emod_lt_of_pos a hW
  constructor
  · have : -(a / W + 1) ≤ -a / W := (Int.le_ediv_iff_mul_le hW).mpr (by rw [Int.neg_mul, Int.add_mul, Int.one_mul, Int.mul_comm]; omega)
    omega
  · have : -a / W ≤ -(a / W) := Int.ediv_le_of_le_mul hW (by rw [Int.neg_mul, Int.mul_comm]; omega)
    omega
theorem split_k {k : Int} (k0 : 0 ≤ k) : ∃ (q : Int) (p : Nat), k = q * ws.sum + p ∧ 0 ≤ q ∧ (p : Int) < ws.sum ∧ k % ws.sum = p := by
  have hs := g.sum
  have e1 := Int.mul_ediv_add_emod k ws.sum
  have e2 := Int.emod_nonneg k (show ws.sum ≠ 0 by omega)
  have e3 := Int.emod_lt_of_pos k (show 0 < ws.sum by omega)
  refine ⟨k / ws.sum, (k % ws.sum).toNat, ?_, Int.ediv_nonneg k0 (by omega), by omega, by omega⟩
  rw [Int.mul_comm] at e1
  omega
section
variable {s : Int} (s0 : 0 ≤ s) (s1 : s < ws.length)
include s0 s1
theorem how_split {q : Int} {p : Nat} (hp : (p : Int) ≤ ws.sum) : how ws s (q * ws.sum + p) = q * wt ws s + hadAt ws p s.toNat := by
  rw [how_at g s0 s1 hp, cnt_had' g hp s0 s1]
theorem how_bounds {k : Int} (k0 : 0 ≤ k) : leastT ws s k ≤ how ws s k ∧ how ws s k ≤ mostT ws s k := by
  have hs := g.sum
  obtain ⟨q, p, rfl, q0, hp, _⟩ := split_k g k0
  rw [how_split g s0 s1 (by omega)]
  have si : s.toNat < ws.length := by omega
  have a := not_late g (t := p) (i := s.toNat) (by omega) si
  have b := not_early g (i := s.toNat) si (t := p) (by omega)
  have e : (q * ws.sum + p) * wt ws s = (p : Int) * wt ws s + (q * wt ws s) * ws.sum := by
    rw [Int.add_mul, Int.mul_assoc, Int.mul_comm ws.sum, ← Int.mul_assoc]
    omega
  unfold leastT mostT
  rw [e]
  change ¬ (hadAt ws p s.toNat + 1) * ws.sum ≤ (p : Int) * wt ws s at a
  change hadAt ws p s.toNat * ws.sum < (p : Int) * wt ws s + ws.sum at b
  generalize (p : Int) * wt ws s = x at a b
  generalize q * wt ws s = y
  generalize hadAt ws p s.toNat = c at a b
  constructor
  · rw [Int.add_mul_ediv_right _ _ (by omega)]
    have : x / ws.sum < c + 1 := Int.ediv_lt_of_lt_mul (by omega) (by omega)
    omega
  · have e2 : -(x + y * ws.sum) = -x + (-y) * ws.sum := by rw [Int.neg_mul]; omega
    rw [e2, Int.add_mul_ediv_right _ _ (by omega)]
    have : -x / ws.sum < -c + 1 := Int.ediv_lt_of_lt_mul (by omega) (by rw [Int.add_mul, Int.neg_mul, Int.one_mul]; omega)
    omega
theorem how_whole {k : Int} (k0 : 0 ≤ k) : how ws s (k + ws.sum) = how ws s k + wt ws s := by
  obtain ⟨q, p, rfl, q0, hp, _⟩ := split_k g k0
  have e : q * ws.sum + p + ws.sum = (q + 1) * ws.sum + p := by rw [Int.add_mul, Int.one_mul]; omega
  rw [e, how_split g s0 s1 (by omega), how_split g s0 s1 (by omega), Int.add_mul, Int.one_mul]
  omega
theorem how_step {k own : Int} (k0 : 0 ≤ k) (ho : (roundL ws)[(k % ws.sum).toNat]? = some own) : how ws s (k + 1) = how ws s k + if s = own then 1 else 0 := by
  obtain ⟨q, p, rfl, q0, hp, em⟩ := split_k g k0
  rw [em, Int.toNat_natCast] at ho
  have e : q * ws.sum + p + 1 = q * ws.sum + ((p + 1 : Nat) : Int) := by omega
  rw [e, how_at g s0 s1 (by omega), how_at g s0 s1 (by omega), take_cnt (List.getElem?_eq_some_iff.mp ho).1, ho]
  by_cases z : s = own
  · rw [if_pos (by rw [z]), if_pos z]
    omega
  · rw [if_neg (fun y => z (Option.some.inj y).symm), if_neg z]
    omega
theorem nth_window {j : Int} (hj : 1 ≤ j) : (j - 1) * ws.sum / wt ws s ≤ nth ws s j ∧ nth ws s j ≤ -(-(j * ws.sum) / wt ws s) - 1 := by
  have w := g.wt s0 s1
  obtain ⟨q, p, e, q0, hp, hr, hc⟩ := nth_facts g s0 s1 hj
  have hd := slot_due g hp
  rw [hr] at hd
  have hd := Option.some.inj hd
  obtain ⟨d, d0, d1, de, df, _⟩ := step_at g (u := p) hp
  rw [← hd] at de
  subst de
  have si : s.toNat < ws.length := by omega
  have a := not_late g (t := p) (i := s.toNat) (by omega) si
  rw [cnt_had' g (by omega) s0 s1] at hc
  rw [e]
  change hadAt ws p s.toNat * ws.sum / wt ws s ≤ p at df
  change ¬ (hadAt ws p s.toNat + 1) * ws.sum ≤ (p : Int) * wt ws s at a
  generalize hadAt ws p s.toNat = c at hc df a
  have ej : j = q * wt ws s + c + 1 := by omega
  subst ej
  constructor
  · have e2 : (q * wt ws s + c + 1 - 1) * ws.sum = c * ws.sum + (q * ws.sum) * wt ws s := by
      rw [Int.add_sub_cancel, Int.add_mul, Int.mul_assoc, Int.mul_comm (wt ws s), ← Int.mul_assoc]
      omega
    rw [e2, Int.add_mul_ediv_right _ _ (by omega)]
    omega
  · have e2 : -((q * wt ws s + c + 1) * ws.sum) = -((c + 1) * ws.sum) + (-(q * ws.sum)) * wt ws s := by
      rw [Int.add_assoc, Int.add_mul, Int.mul_assoc, Int.mul_comm (wt ws s), ← Int.mul_assoc, Int.neg_mul]
      omega
    rw [e2, Int.add_mul_ediv_right _ _ (by omega)]
    have : -((c + 1) * ws.sum) / wt ws s < -(p : Int) := Int.ediv_lt_of_lt_mul (by omega) (by rw [Int.neg_mul]; omega)
    omega
end
/-- all seats' turns of the first k are k -/
theorem how_sum {k : Int} (k0 : 0 ≤ k) : ((seats ws.length).map fun s => how ws s k).sum = k := by
  obtain ⟨q, p, rfl, q0, hp, _⟩ := split_k g k0
  have I := rnd_inv g p (by omega)
  have e : (seats ws.length).map (fun s => how ws s (q * ws.sum + p)) = (seats ws.length).map fun s => q * wt ws s + (rnd ws p).1.getD s.toNat 0 := by
    apply List.map_congr_left
    intro s hs
    obtain ⟨a, b⟩ := seats_mem.mp hs
    exact how_split g a b (by omega)
  rw [e]
  have gen : ∀ (ws hs : List Int), hs.length = ws.length → ((List.range ws.length).map fun i => q * ws.getD i 0 + hs.getD i 0).sum = q * ws.sum + hs.sum := by
    intro ws
    induction ws with
    | nil => intro hs h; cases hs <;> simp at h ⊢
    | cons w ws ih =>
      intro hs h
      cases hs with
      | nil => cases h
      | cons x hs =>
        have := ih hs (by simpa using h)
        rw [List.length_cons, List.range_succ_eq_map, List.map_cons, List.sum_cons, List.map_map]
        have e2 : ((List.range ws.length).map ((fun i => q * (w :: ws).getD i 0 + (x :: hs).getD i 0) ∘ Nat.succ)) = (List.range ws.length).map fun i => q * ws.getD i 0 + hs.getD i 0 := List.map_congr_left fun i _ => rfl
        rw [e2, this]
        simp only [List.getD_cons_zero, List.sum_cons, Int.mul_add]
        omega
  have := gen ws (rnd ws p).1 I.hl
  rw [I.sum] at this
  rw [← this]
  unfold seats
  rw [List.map_map]
  rfl
end
end Rd

set_option Elab.async false
set_option linter.all false
set_option maxRecDepth 100000
set_option maxHeartbeats 0
namespace K19
open PySem PySem.Spec PyProof.Rows L2 Vm
/-! ### the text -/
abbrev prog : Program := PySem.Challenge.pw_almsrow_k19_weights_and_windows
def topS (i : Nat) : Stmt := prog.main.body.getD i (.Pass ⟨0, 0, 0, 0⟩)
def b_law : Ss := .cons (.x (.set (.one 1) (.call 9 (.cons (.var 0) .nil)))) (.cons (.x (.set (.one 2) (.lst (.cons (.call 11 (.cons (.var 1) .nil)) (.cons (.call 11 (.cons (.var 1) .nil)) .nil))))) (.cons (.x (.set (.one 3) (.bi 9 (.cons (.var 2) .nil)))) (.cons (.for (.one 4) (.seq (.bin .add (.var 2) (.slc (.var 2) .no (.yes (.int 1))))) (.cons (.for (.one 6) (.rng (.bi 0 (.cons (.var 4) .nil))) (.cons (.for (.one 9) (.seq (.tup (.cons (.int 1) (.cons (.int 2) (.cons (.bin .add (.int 1) (.call 10 (.cons (.var 1) (.cons (.int 9) .nil)))) (.cons (.ix (.var 4) (.var 6)) (.cons (.bin .add (.ix (.var 4) (.var 6)) (.int 1)) (.cons (.bin .add (.int 1) (.call 12 (.cons (.var 1) .nil))) .nil)))))))) (.cons (.ifs (.not (.call 18 (.cons (.var 4) (.cons (.var 6) (.cons (.var 9) .nil))))) (.cons (.x (.ret (.bl false))) .nil) (.nil)) .nil)) .nil)) (.cons (.x (.set (.one 7) (.bi 0 (.cons (.var 4) .nil)))) (.cons (.for (.many [6, 9]) (.seq (.tup (.cons (.tup (.cons (.var 7) (.cons (.int 1) .nil))) (.cons (.tup (.cons (.neg (.int 1)) (.cons (.int 2) .nil))) (.cons (.tup (.cons (.var 7) (.cons (.int 0) .nil))) (.cons (.tup (.cons (.bin .pow (.int 10) (.int 50)) (.cons (.neg (.int 1)) .nil))) (.cons (.tup (.cons (.int 0) (.cons (.int 0) .nil))) (.cons (.tup (.cons (.bin .sub (.var 7) (.int 1)) (.cons (.bin .sub (.neg (.int 1)) (.call 12 (.cons (.var 1) .nil))) .nil))) .nil)))))))) (.cons (.ifs (.not (.call 19 (.cons (.var 4) (.cons (.var 6) (.cons (.var 9) .nil))))) (.cons (.x (.ret (.bl false))) .nil) (.nil)) .nil)) .nil)))) (.cons (.for (.one 5) (.seq (.call 20 (.cons (.var 1) (.cons (.ix (.var 2) (.int 0)) .nil)))) (.cons (.x (.set (.one 8) (.bi 9 (.cons (.var 5) .nil)))) (.cons (.ifs (.bor (.not (.call 13 (.cons (.call 2 (.cons (.var 5) .nil)) (.cons (.call 16 (.cons (.var 5) .nil)) .nil)))) (.cmp .ne (.bi 9 (.cons (.var 5) .nil)) (.var 8))) (.cons (.x (.ret (.bl false))) .nil) (.nil)) .nil))) (.cons (.x (.ret (.cmp .eq (.bi 9 (.cons (.var 2) .nil)) (.var 3)))) .nil)))))
abbrev d_law : DefT := ⟨"law", ["_law_script"], ["_law_script", "_law_feed_here", "_law_some", "_law_kept", "_law_weights_here", "_law_thing", "_law_seat", "_law_many", "_law_seen", "_law_j"], b_law, topS 36, false⟩
def b_is_number : Ss := .cons (.x (.ret (.band (.isin .int (.var 0)) (.not (.isin .bool (.var 0)))))) .nil
abbrev d_is_number : DefT := ⟨"is_number", ["thing"], ["thing"], b_is_number, topS 13, false⟩
def b_is_weights : Ss := .cons (.ifs (.bor (.not (.isin .tuple (.var 0))) (.cmp .eq (.bi 0 (.cons (.var 0) .nil)) (.int 0))) (.cons (.x (.ret (.bl false))) .nil) (.nil)) (.cons (.x (.ret (.anyg true (.band (.call 1 (.cons (.var 1) .nil)) (.cmp .ge (.var 1) (.int 1))) (.one 1) (.seq (.var 0))))) .nil)
abbrev d_is_weights : DefT := ⟨"is_weights", ["thing"], ["thing", "part"], b_is_weights, topS 15, true⟩
def b_first_of : Ss := .cons (.x (.drop (.call 6 (.cons (.var 0) (.cons (.var 1) .nil))))) (.cons (.x (.drop (.call 7 (.cons (.var 2) (.cons (.int 1) .nil))))) (.cons (.x (.ret (.bin .fdiv (.bin .mul (.bin .sub (.var 2) (.int 1)) (.bi 1 (.cons (.var 0) .nil))) (.ix (.var 0) (.var 1))))) .nil))
abbrev d_first_of : DefT := ⟨"first_of", ["weights", "seat", "j"], ["weights", "seat", "j"], b_first_of, topS 16, false⟩
def b_last_of : Ss := .cons (.x (.drop (.call 6 (.cons (.var 0) (.cons (.var 1) .nil))))) (.cons (.x (.drop (.call 7 (.cons (.var 2) (.cons (.int 1) .nil))))) (.cons (.x (.ret (.bin .sub (.call 8 (.cons (.bin .mul (.var 2) (.bi 1 (.cons (.var 0) .nil))) (.cons (.ix (.var 0) (.var 1)) .nil))) (.int 1)))) .nil))
abbrev d_last_of : DefT := ⟨"last_of", ["weights", "seat", "j"], ["weights", "seat", "j"], b_last_of, topS 17, false⟩
def b_is_seat : Ss := .cons (.x (.ret (.chain .le .lt (.int 0) (.var 1) (.bi 0 (.cons (.var 0) .nil))))) .nil
abbrev d_is_seat : DefT := ⟨"is_seat", ["weights", "seat"], ["weights", "seat"], b_is_seat, topS 18, false⟩
def b_need_seat : Ss := .cons (.ifs (.not (.call 5 (.cons (.var 0) (.cons (.var 1) .nil)))) (.cons (.x (.rais "NoSeat" (.cons (.var 1) .nil))) .nil) (.nil)) .nil
abbrev d_need_seat : DefT := ⟨"need_seat", ["weights", "seat"], ["weights", "seat"], b_need_seat, topS 19, false⟩
def b_need_number : Ss := .cons (.ifs (.cmp .lt (.var 0) (.var 1)) (.cons (.x (.rais "NoTurn" (.cons (.var 0) .nil))) .nil) (.nil)) .nil
abbrev d_need_number : DefT := ⟨"need_number", ["number", "least"], ["number", "least"], b_need_number, topS 20, false⟩
def b_rounded_up : Ss := .cons (.x (.ret (.neg (.bin .fdiv (.neg (.var 0)) (.var 1))))) .nil
abbrev d_rounded_up : DefT := ⟨"rounded_up", ["number", "by"], ["number", "by"], b_rounded_up, topS 21, false⟩
def b__law_feed : Ss := .cons (.x (.ret (.lst (.cons (.slc (.var 0) .no (.yes (.int 63))) (.cons (.int 0) (.cons (.int 0) (.cons (.int 0) .nil))))))) .nil
abbrev d__law_feed : DefT := ⟨"_law_feed", ["_law_script"], ["_law_script"], b__law_feed, topS 23, false⟩
def b__law_draw : Ss := .cons (.x (.set (.many [4, 5, 6, 7]) (.var 0))) (.cons (.x (.put (.var 0) (.int 3) (.bin .add (.var 7) (.int 1)))) (.cons (.ifs (.cmp .gt (.var 6) (.int 0)) (.cons (.x (.put (.var 0) (.int 2) (.bin .fdiv (.var 6) (.var 1)))) (.cons (.x (.ret (.bin .mod (.var 6) (.var 1)))) .nil)) (.nil)) (.cons (.x (.put (.var 0) (.int 1) (.bin .add (.var 5) (.int 1)))) (.cons (.x (.set (.one 2) (.ite (.cmp .gt (.bi 0 (.cons (.var 4) .nil)) (.int 0)) (.ix (.var 4) (.bin .mod (.var 5) (.bi 0 (.cons (.var 4) .nil)))) (.int 11)))) (.cons (.ifs (.band (.cmp .ge (.var 2) (.bin .pow (.int 10) (.int 18))) (.cmp .lt (.var 5) (.bi 0 (.cons (.var 4) .nil)))) (.cons (.x (.put (.var 0) (.int 2) (.bin .fdiv (.var 2) (.var 1)))) (.cons (.x (.ret (.bin .mod (.var 2) (.var 1)))) .nil)) (.nil)) (.cons (.x (.set (.one 3) (.bin .mod (.bin .pow (.bin .add (.bin .add (.bin .mod (.var 2) (.int 2147483629)) (.bin .mul (.int 6151) (.var 7))) (.int 389)) (.int 5)) (.int 2147483647)))) (.cons (.x (.set (.one 3) (.bin .mod (.bin .pow (.bin .add (.bin .add (.var 3) (.bin .mul (.int 24593) (.var 7))) (.int 53)) (.int 5)) (.int 2147483587)))) (.cons (.x (.ret (.bin .mod (.bin .fdiv (.var 3) (.int 64)) (.var 1)))) .nil))))))))
abbrev d__law_draw : DefT := ⟨"_law_draw", ["_law_feed_here", "_law_many"], ["_law_feed_here", "_law_many", "_law_cell", "_law_mixed", "_law_cells", "_law_at", "_law_rest", "_law_turn"], b__law_draw, topS 24, false⟩
def b__law_weights : Ss := .cons (.x (.par 3 4 (.call 10 (.cons (.var 0) (.cons (.int 8) .nil))) (.bin .add (.int 1) (.call 10 (.cons (.var 0) (.cons (.int 6) .nil)))))) (.cons (.x (.set (.one 1) (.ix (.lst (.cons (.int 3) (.cons (.int 3) (.cons (.int 3) (.cons (.int 6) (.cons (.int 6) (.cons (.int 20) (.cons (.int 1) (.cons (.int 1) .nil))))))))) (.var 3)))) (.cons (.x (.set (.one 2) (.lc (.bin .add (.int 1) (.call 10 (.cons (.var 0) (.cons (.var 1) .nil)))) (.one 5) (.rng (.var 4)) (.bl true)))) (.cons (.ifs (.cmp .eq (.var 3) (.int 6)) (.cons (.x (.set (.one 2) (.bin .mul (.lst (.cons (.bin .add (.int 1) (.call 10 (.cons (.var 0) (.cons (.int 20) .nil)))) .nil)) (.var 4)))) .nil) (.nil)) (.cons (.ifs (.cmp .eq (.var 3) (.int 7)) (.cons (.x (.put (.var 2) (.call 10 (.cons (.var 0) (.cons (.var 4) .nil))) (.bin .add (.int 2) (.call 10 (.cons (.var 0) (.cons (.int 19) .nil)))))) .nil) (.nil)) (.cons (.x (.ret (.bi 2 (.cons (.var 2) .nil)))) .nil)))))
abbrev d__law_weights : DefT := ⟨"_law_weights", ["_law_feed_here"], ["_law_feed_here", "_law_wide", "_law_found", "_law_way", "_law_many", "_law_k"], b__law_weights, topS 25, false⟩
def b__law_great : Ss := .cons (.x (.set (.one 1) (.int 0))) (.cons (.for (.one 2) (.rng (.bin .add (.int 1) (.call 10 (.cons (.var 0) (.cons (.int 5) .nil))))) (.cons (.x (.set (.one 1) (.bin .add (.bin .mul (.var 1) (.bin .pow (.int 10) (.int 6))) (.call 10 (.cons (.var 0) (.cons (.bin .pow (.int 10) (.int 6)) .nil)))))) .nil)) (.cons (.x (.ret (.var 1))) .nil))
abbrev d__law_great : DefT := ⟨"_law_great", ["_law_feed_here"], ["_law_feed_here", "_law_found", "_law_k"], b__law_great, topS 26, false⟩
def b__law_alike : Ss := .cons (.ifs (.isan [.tuple, .list] (.var 1)) (.cons (.ifs (.bor (.cmp .ne (.isin .tuple (.var 0)) (.isin .tuple (.var 1))) (.cmp .ne (.isin .list (.var 0)) (.isin .list (.var 1)))) (.cons (.x (.ret (.bl false))) .nil) (.nil)) (.cons (.x (.ret (.band (.cmp .eq (.bi 0 (.cons (.var 0) .nil)) (.bi 0 (.cons (.var 1) .nil))) (.bi 11 (.cons (.lc (.call 13 (.cons (.var 2) (.cons (.var 3) .nil))) (.many [2, 3]) (.zip (.var 0) (.var 1)) (.bl true)) .nil))))) .nil)) (.nil)) (.cons (.ifs (.isn (.var 1)) (.cons (.x (.ret (.isn (.var 0)))) .nil) (.nil)) (.cons (.ifs (.bor (.isin .bool (.var 1)) (.isin .str (.var 1))) (.cons (.x (.ret (.band (.cmp .eq (.isin .bool (.var 0)) (.isin .bool (.var 1))) (.band (.isan [.bool, .str] (.var 0)) (.cmp .eq (.var 0) (.var 1)))))) .nil) (.nil)) (.cons (.x (.ret (.band (.isin .int (.var 0)) (.band (.not (.isin .bool (.var 0))) (.cmp .eq (.var 0) (.var 1)))))) .nil)))
abbrev d__law_alike : DefT := ⟨"_law_alike", ["_law_found", "_law_due"], ["_law_found", "_law_due", "_law_one", "_law_other"], b__law_alike, topS 27, false⟩
def b__law_odd : Ss := .cons (.x (.set (.one 2) (.call 10 (.cons (.var 0) (.cons (.int 8) .nil))))) (.cons (.ifs (.isin .list (.var 1)) (.cons (.x (.ret (.bi 2 (.cons (.var 1) .nil)))) .nil) (.nil)) (.cons (.ifs (.isin .tuple (.var 1)) (.cons (.x (.par 6 7 (.call 10 (.cons (.var 0) (.cons (.bin .add (.bi 0 (.cons (.var 1) .nil)) (.int 1)) .nil))) (.call 10 (.cons (.var 0) (.cons (.bin .add (.bi 0 (.cons (.var 1) .nil)) (.int 1)) .nil))))) (.cons (.x (.set (.one 3) (.bin .add (.bin .add (.slc (.var 1) .no (.yes (.var 6))) (.slc (.var 1) (.yes (.var 6)) (.yes (.bin .add (.var 6) (.int 1))))) (.slc (.var 1) (.yes (.var 6)) .no)))) (.cons (.x (.set (.one 4) (.lst (.cons (.bi 3 (.cons (.var 1) .nil)) (.cons (.bin .add (.slc (.var 1) .no (.yes (.var 6))) (.slc (.var 1) (.yes (.bin .add (.var 6) (.int 1))) .no)) (.cons (.var 3) (.cons (.rev (.var 1)) (.cons (.bin .add (.var 1) (.tup (.cons (.non) .nil))) (.cons (.bin .add (.slc (.var 1) (.yes (.var 7)) .no) (.slc (.var 1) .no (.yes (.var 7)))) .nil))))))))) (.cons (.x (.ret (.ix (.bin .add (.var 4) (.lst (.cons (.non) (.cons (.bin .add (.bin .add (.slc (.var 1) .no (.yes (.var 6))) (.tup (.cons (.tup (.nil)) .nil))) (.slc (.var 1) (.yes (.var 6)) .no)) .nil)))) (.var 2)))) .nil)))) (.nil)) (.cons (.ifs (.isin .str (.var 1)) (.cons (.x (.set (.one 5) (.ix (.str "abmyz A0-_`{~") (.call 10 (.cons (.var 0) (.cons (.int 13) .nil)))))) (.cons (.x (.set (.one 6) (.call 10 (.cons (.var 0) (.cons (.bin .add (.bi 0 (.cons (.var 1) .nil)) (.int 1)) .nil))))) (.cons (.x (.set (.one 4) (.lst (.cons (.bin .add (.var 1) (.var 5)) (.cons (.bin .add (.bin .add (.slc (.var 1) .no (.yes (.var 6))) (.var 5)) (.slc (.var 1) (.yes (.var 6)) .no)) (.cons (.slc (.var 1) (.yes (.int 1)) .no) (.cons (.bin .add (.bin .add (.slc (.var 1) .no (.yes (.var 6))) (.var 5)) (.slc (.var 1) (.yes (.bin .add (.var 6) (.int 1))) .no)) (.cons (.str "") (.cons (.var 5) .nil))))))))) (.cons (.x (.ret (.ix (.bin .add (.var 4) (.lst (.cons (.int 7) (.cons (.tup (.cons (.var 1) .nil)) .nil)))) (.var 2)))) .nil)))) (.nil)) (.cons (.ifs (.bor (.isn (.var 1)) (.isin .bool (.var 1))) (.cons (.x (.ret (.ix (.lst (.cons (.non) (.cons (.int 0) (.cons (.int 1) (.cons (.str "a") (.cons (.tup (.nil)) (.cons (.bl true) (.cons (.bl false) (.cons (.neg (.int 1)) .nil))))))))) (.var 2)))) .nil) (.nil)) (.cons (.x (.ret (.ix (.lst (.cons (.bin .add (.var 1) (.int 1)) (.cons (.bin .sub (.var 1) (.int 1)) (.cons (.int 0) (.cons (.neg (.int 1)) (.cons (.bin .pow (.int 10) (.int 50)) (.cons (.cmp .eq (.var 1) (.int 1)) (.cons (.cmp .ne (.var 1) (.int 0)) (.cons (.str "a") .nil))))))))) (.var 2)))) .nil)))))
abbrev d__law_odd : DefT := ⟨"_law_odd", ["_law_feed_here", "_law_thing"], ["_law_feed_here", "_law_thing", "_law_way", "_law_twice", "_law_some", "_law_sign", "_law_at", "_law_by"], b__law_odd, topS 28, false⟩
def b__law_bent : Ss := .cons (.ifs (.band (.isin .tuple (.var 1)) (.band (.cmp .gt (.bi 0 (.cons (.var 1) .nil)) (.int 0)) (.cmp .gt (.call 10 (.cons (.var 0) (.cons (.int 4) .nil))) (.int 0)))) (.cons (.x (.set (.one 2) (.call 10 (.cons (.var 0) (.cons (.bi 0 (.cons (.var 1) .nil)) .nil))))) (.cons (.x (.ret (.bin .add (.bin .add (.slc (.var 1) .no (.yes (.var 2))) (.tup (.cons (.call 15 (.cons (.var 0) (.cons (.ix (.var 1) (.var 2)) .nil))) .nil))) (.slc (.var 1) (.yes (.bin .add (.var 2) (.int 1))) .no)))) .nil)) (.nil)) (.cons (.x (.ret (.call 14 (.cons (.var 0) (.cons (.var 1) .nil))))) .nil)
abbrev d__law_bent : DefT := ⟨"_law_bent", ["_law_feed_here", "_law_thing"], ["_law_feed_here", "_law_thing", "_law_at"], b__law_bent, topS 29, false⟩
def b__law_is_weights : Ss := .cons (.ifs (.bor (.not (.isin .tuple (.var 0))) (.cmp .eq (.bi 0 (.cons (.var 0) .nil)) (.int 0))) (.cons (.x (.ret (.bl false))) .nil) (.nil)) (.cons (.x (.set (.one 1) (.lc (.var 2) (.one 2) (.seq (.var 0)) (.bor (.not (.isin .int (.var 2))) (.bor (.isin .bool (.var 2)) (.cmp .lt (.var 2) (.int 1))))))) (.cons (.x (.ret (.cmp .eq (.var 1) (.lst (.nil))))) .nil))
abbrev d__law_is_weights : DefT := ⟨"_law_is_weights", ["_law_thing"], ["_law_thing", "_law_bad", "_law_one"], b__law_is_weights, topS 31, false⟩
def b__law_heard : Ss := .cons (.x (.set (.one 4) (.tup (.cons (.str "other") .nil)))) (.cons (.x (.tria 4 (.tup (.cons (.str "told") (.cons (.ite (.cmp .eq (.var 0) (.int 0)) (.call 3 (.cons (.var 1) (.cons (.var 2) (.cons (.var 3) .nil)))) (.call 4 (.cons (.var 1) (.cons (.var 2) (.cons (.var 3) .nil))))) .nil))) ["NoPaper", "NoName", "NoPlace", "NoSeat", "NoTurn", "NoWeek", "NoPage", "NoText", "NoRow"] [("NoPaper", ["no"]), ("NoName", ["no", "name"]), ("NoSeat", ["no", "seat"]), ("NoTurn", ["no", "turn"])] 5 "_law_refused")) (.cons (.x (.ret (.var 4))) .nil))
abbrev d__law_heard : DefT := ⟨"_law_heard", ["_law_way", "_law_weights_here", "_law_seat", "_law_j"], ["_law_way", "_law_weights_here", "_law_seat", "_law_j", "_law_found", "_law_e"], b__law_heard, topS 32, false⟩
def b__law_is_window : Ss := .cons (.x (.par 5 6 (.bi 1 (.cons (.var 0) .nil)) (.ix (.var 0) (.var 1)))) (.cons (.x (.par 7 8 (.call 17 (.cons (.int 0) (.cons (.var 0) (.cons (.var 1) (.cons (.var 2) .nil))))) (.call 17 (.cons (.int 1) (.cons (.var 0) (.cons (.var 1) (.cons (.var 2) .nil))))))) (.cons (.for (.one 3) (.seq (.tup (.cons (.var 7) (.cons (.var 8) .nil)))) (.cons (.ifs (.bor (.cmp .ne (.ix (.var 3) (.int 0)) (.str "told")) (.bor (.not (.isin .int (.ix (.var 3) (.int 1)))) (.isin .bool (.ix (.var 3) (.int 1))))) (.cons (.x (.ret (.bl false))) .nil) (.nil)) .nil)) (.cons (.x (.set (.one 4) (.chain .le .lt (.bin .mul (.ix (.var 7) (.int 1)) (.var 6)) (.bin .mul (.bin .sub (.var 2) (.int 1)) (.var 5)) (.bin .mul (.bin .add (.ix (.var 7) (.int 1)) (.int 1)) (.var 6))))) (.cons (.x (.ret (.band (.var 4) (.chain .lt .le (.bin .mul (.ix (.var 8) (.int 1)) (.var 6)) (.bin .mul (.var 2) (.var 5)) (.bin .mul (.bin .add (.ix (.var 8) (.int 1)) (.int 1)) (.var 6)))))) .nil))))
abbrev d__law_is_window : DefT := ⟨"_law_is_window", ["_law_weights_here", "_law_seat", "_law_j"], ["_law_weights_here", "_law_seat", "_law_j", "_law_told", "_law_begins", "_law_whole", "_law_weight", "_law_first", "_law_last"], b__law_is_window, topS 33, false⟩
def b__law_is_refused : Ss := .cons (.x (.set (.one 3) (.ite (.chain .le .lt (.int 0) (.var 1) (.bi 0 (.cons (.var 0) .nil))) (.tup (.cons (.str "no") (.cons (.str "turn") (.cons (.var 2) .nil)))) (.tup (.cons (.str "no") (.cons (.str "seat") (.cons (.var 1) .nil))))))) (.cons (.x (.ret (.bi 11 (.cons (.lc (.call 13 (.cons (.call 17 (.cons (.var 4) (.cons (.var 0) (.cons (.var 1) (.cons (.var 2) .nil))))) (.cons (.var 3) .nil))) (.one 4) (.seq (.tup (.cons (.int 0) (.cons (.int 1) .nil)))) (.bl true)) .nil)))) .nil)
abbrev d__law_is_refused : DefT := ⟨"_law_is_refused", ["_law_weights_here", "_law_seat", "_law_j"], ["_law_weights_here", "_law_seat", "_law_j", "_law_due", "_law_way"], b__law_is_refused, topS 34, false⟩
def b__law_things : Ss := .cons (.x (.set (.one 2) (.lst (.cons (.non) (.cons (.bl true) (.cons (.int 1) (.cons (.str "a") (.cons (.tup (.nil)) (.cons (.lst (.nil)) (.cons (.lst (.cons (.int 1) .nil)) (.cons (.tup (.cons (.int 0) .nil)) (.cons (.tup (.cons (.int 1) (.cons (.int 0) .nil))) (.cons (.tup (.cons (.neg (.int 1)) .nil)) (.cons (.tup (.cons (.bl true) .nil)) (.cons (.tup (.cons (.int 1) (.cons (.bl true) .nil))) (.cons (.tup (.cons (.str "1") .nil)) (.cons (.tup (.cons (.tup (.cons (.int 1) .nil)) .nil)) (.cons (.tup (.cons (.bin .pow (.int 10) (.int 50)) .nil)) .nil)))))))))))))))))) (.cons (.x (.set (.one 2) (.bin .add (.var 2) (.lst (.cons (.var 1) (.cons (.bi 3 (.cons (.var 1) .nil)) (.cons (.bin .add (.var 1) (.bin .mul (.slc (.var 1) .no (.yes (.int 1))) (.int 9))) (.cons (.tup (.cons (.non) .nil)) (.cons (.bin .add (.var 1) (.tup (.cons (.int 0) .nil))) .nil))))))))) (.cons (.x (.set (.one 2) (.bin .add (.var 2) (.lst (.cons (.bin .mul (.var 1) (.int 20)) (.cons (.bin .add (.bin .add (.bin .mul (.tup (.cons (.int 1) .nil)) (.int 30)) (.tup (.cons (.bl true) .nil))) (.bin .mul (.tup (.cons (.int 1) .nil)) (.int 9))) (.cons (.bin .mul (.tup (.cons (.int 7) .nil)) (.int 400)) (.cons (.bin .add (.bin .mul (.tup (.cons (.int 7) .nil)) (.int 200)) (.tup (.cons (.int 0) .nil))) .nil)))))))) (.cons (.for (.one 3) (.rng (.int 8)) (.cons (.x (.set (.one 4) (.call 15 (.cons (.var 0) (.cons (.var 1) .nil))))) (.cons (.x (.set (.one 2) (.bin .add (.var 2) (.lst (.cons (.var 4) (.cons (.call 15 (.cons (.var 0) (.cons (.var 4) .nil))) .nil)))))) .nil))) (.cons (.x (.ret (.var 2))) .nil))))
abbrev d__law_things : DefT := ⟨"_law_things", ["_law_feed_here", "_law_weights_here"], ["_law_feed_here", "_law_weights_here", "_law_found", "_law_k", "_law_bent_here"], b__law_things, topS 35, false⟩
def ds : List DefT := [d_law, d_is_number, d_is_weights, d_first_of, d_last_of, d_is_seat, d_need_seat, d_need_number, d_rounded_up, d__law_feed, d__law_draw, d__law_weights, d__law_great, d__law_alike, d__law_odd, d__law_bent, d__law_is_weights, d__law_heard, d__law_is_window, d__law_is_refused, d__law_things]
abbrev i_law : Nat := 0
abbrev i_is_number : Nat := 1
abbrev i_is_weights : Nat := 2
abbrev i_first_of : Nat := 3
abbrev i_last_of : Nat := 4
abbrev i_is_seat : Nat := 5
abbrev i_need_seat : Nat := 6
abbrev i_need_number : Nat := 7
abbrev i_rounded_up : Nat := 8
abbrev i__law_feed : Nat := 9
abbrev i__law_draw : Nat := 10
abbrev i__law_weights : Nat := 11
abbrev i__law_great : Nat := 12
abbrev i__law_alike : Nat := 13
abbrev i__law_odd : Nat := 14
abbrev i__law_bent : Nat := 15
abbrev i__law_is_weights : Nat := 16
abbrev i__law_heard : Nat := 17
abbrev i__law_is_window : Nat := 18
abbrev i__law_is_refused : Nat := 19
abbrev i__law_things : Nat := 20
def initS (i j : Nat) : Stmt := match topS i with
  | .ClassDef _ _ _ b _ _ _ _ _ _ _ => b.getD j (.Pass ⟨0, 0, 0, 0⟩)
  | _ => .Pass ⟨0, 0, 0, 0⟩
abbrev e_NoPaper : ErrT := ⟨"NoPaper", ["word", "at"], ["self", "word", "at"], initS 2 0⟩
abbrev e_NoName : ErrT := ⟨"NoName", ["name"], ["self", "name"], initS 3 0⟩
abbrev e_NoPlace : ErrT := ⟨"NoPlace", ["place"], ["self", "place"], initS 4 0⟩
abbrev e_NoSeat : ErrT := ⟨"NoSeat", ["seat"], ["self", "seat"], initS 5 0⟩
abbrev e_NoTurn : ErrT := ⟨"NoTurn", ["turn"], ["self", "turn"], initS 6 0⟩
abbrev e_NoWeek : ErrT := ⟨"NoWeek", ["week"], ["self", "week"], initS 7 0⟩
abbrev e_NoPage : ErrT := ⟨"NoPage", ["word"], ["self", "word"], initS 8 0⟩
abbrev e_NoText : ErrT := ⟨"NoText", ["row", "word"], ["self", "row", "word"], initS 10 0⟩
abbrev e_NoRow : ErrT := ⟨"NoRow", ["row"], ["self", "row"], initS 11 0⟩
def es : List ErrT := [e_NoPaper, e_NoName, e_NoPlace, e_NoSeat, e_NoTurn, e_NoWeek, e_NoPage, e_NoText, e_NoRow]
def HT : List (Str × List Str) := [("AlmsError", ["NoPaper", "NoName", "NoPlace", "NoSeat", "NoTurn", "NoWeek", "NoPage", "NoText", "NoRow"])]
abbrev n__law_refused : NoT := ⟨"_law_refused", "_law_e", [("NoPaper", ["no"]), ("NoName", ["no", "name"]), ("NoSeat", ["no", "seat"]), ("NoTurn", ["no", "turn"])], topS 30, .r ⟨"_law_some", "_law_words", "_law_strange", "_law_word", "_law_truth", "NoSeat", "NoTurn", "NoName", "NoPaper", "seat", "turn", "name", "paper", "seat", "turn", "name", "word", "at", ["NoBack", "NoPage", "NoPlace", "NoRow", "NoText", "NoWeek"]⟩⟩
def nts : List NoT := [n__law_refused]
def CS : List (Str × Cst) := []
def d0 (i : Nat) : DefT := ds.getD i ⟨"", [], [], .nil, topS 0, false⟩
end K19

set_option Elab.async false
set_option linter.all false
set_option maxRecDepth 100000
set_option maxHeartbeats 0
namespace K19
open PySem PySem.Spec PyProof.Rows L2 Vm
theorem bd_law {K : PySem.W.Frag} {f : Addr} {fd : FuncData} (F : FunD K d_law.name d_law.name (defArgs d_law.st) (defBody d_law.st) (defScope d_law.st) [] [] f fd) : Binds K fd d_law.ps [] := F.bindsN fun _ _ _ _ _ _ us hl => match us, hl with | [_], _ => rfl
theorem bd_is_number {K : PySem.W.Frag} {f : Addr} {fd : FuncData} (F : FunD K d_is_number.name d_is_number.name (defArgs d_is_number.st) (defBody d_is_number.st) (defScope d_is_number.st) [] [] f fd) : Binds K fd d_is_number.ps [] := F.bindsN fun _ _ _ _ _ _ us hl => match us, hl with | [_], _ => rfl
theorem bd_is_weights {K : PySem.W.Frag} {f : Addr} {fd : FuncData} (F : FunD K d_is_weights.name d_is_weights.name (defArgs d_is_weights.st) (defBody d_is_weights.st) (defScope d_is_weights.st) [] [] f fd) : Binds K fd d_is_weights.ps [] := F.bindsN fun _ _ _ _ _ _ us hl => match us, hl with | [_], _ => rfl
theorem bd_first_of {K : PySem.W.Frag} {f : Addr} {fd : FuncData} (F : FunD K d_first_of.name d_first_of.name (defArgs d_first_of.st) (defBody d_first_of.st) (defScope d_first_of.st) [] [] f fd) : Binds K fd d_first_of.ps [] := F.bindsN fun _ _ _ _ _ _ us hl => match us, hl with | [_, _, _], _ => rfl
theorem bd_last_of {K : PySem.W.Frag} {f : Addr} {fd : FuncData} (F : FunD K d_last_of.name d_last_of.name (defArgs d_last_of.st) (defBody d_last_of.st) (defScope d_last_of.st) [] [] f fd) : Binds K fd d_last_of.ps [] := F.bindsN fun _ _ _ _ _ _ us hl => match us, hl with | [_, _, _], _ => rfl
theorem bd_is_seat {K : PySem.W.Frag} {f : Addr} {fd : FuncData} (F : FunD K d_is_seat.name d_is_seat.name (defArgs d_is_seat.st) (defBody d_is_seat.st) (defScope d_is_seat.st) [] [] f fd) : Binds K fd d_is_seat.ps [] := F.bindsN fun _ _ _ _ _ _ us hl => match us, hl with | [_, _], _ => rfl
theorem bd_need_seat {K : PySem.W.Frag} {f : Addr} {fd : FuncData} (F : FunD K d_need_seat.name d_need_seat.name (defArgs d_need_seat.st) (defBody d_need_seat.st) (defScope d_need_seat.st) [] [] f fd) : Binds K fd d_need_seat.ps [] := F.bindsN fun _ _ _ _ _ _ us hl => match us, hl with | [_, _], _ => rfl
theorem bd_need_number {K : PySem.W.Frag} {f : Addr} {fd : FuncData} (F : FunD K d_need_number.name d_need_number.name (defArgs d_need_number.st) (defBody d_need_number.st) (defScope d_need_number.st) [] [] f fd) : Binds K fd d_need_number.ps [] := F.bindsN fun _ _ _ _ _ _ us hl => match us, hl with | [_, _], _ => rfl
theorem bd_rounded_up {K : PySem.W.Frag} {f : Addr} {fd : FuncData} (F : FunD K d_rounded_up.name d_rounded_up.name (defArgs d_rounded_up.st) (defBody d_rounded_up.st) (defScope d_rounded_up.st) [] [] f fd) : Binds K fd d_rounded_up.ps [] := F.bindsN fun _ _ _ _ _ _ us hl => match us, hl with | [_, _], _ => rfl
theorem bd__law_feed {K : PySem.W.Frag} {f : Addr} {fd : FuncData} (F : FunD K d__law_feed.name d__law_feed.name (defArgs d__law_feed.st) (defBody d__law_feed.st) (defScope d__law_feed.st) [] [] f fd) : Binds K fd d__law_feed.ps [] := F.bindsN fun _ _ _ _ _ _ us hl => match us, hl with | [_], _ => rfl
theorem bd__law_draw {K : PySem.W.Frag} {f : Addr} {fd : FuncData} (F : FunD K d__law_draw.name d__law_draw.name (defArgs d__law_draw.st) (defBody d__law_draw.st) (defScope d__law_draw.st) [] [] f fd) : Binds K fd d__law_draw.ps [] := F.bindsN fun _ _ _ _ _ _ us hl => match us, hl with | [_, _], _ => rfl
theorem bd__law_weights {K : PySem.W.Frag} {f : Addr} {fd : FuncData} (F : FunD K d__law_weights.name d__law_weights.name (defArgs d__law_weights.st) (defBody d__law_weights.st) (defScope d__law_weights.st) [] [] f fd) : Binds K fd d__law_weights.ps [] := F.bindsN fun _ _ _ _ _ _ us hl => match us, hl with | [_], _ => rfl
theorem bd__law_great {K : PySem.W.Frag} {f : Addr} {fd : FuncData} (F : FunD K d__law_great.name d__law_great.name (defArgs d__law_great.st) (defBody d__law_great.st) (defScope d__law_great.st) [] [] f fd) : Binds K fd d__law_great.ps [] := F.bindsN fun _ _ _ _ _ _ us hl => match us, hl with | [_], _ => rfl
theorem bd__law_alike {K : PySem.W.Frag} {f : Addr} {fd : FuncData} (F : FunD K d__law_alike.name d__law_alike.name (defArgs d__law_alike.st) (defBody d__law_alike.st) (defScope d__law_alike.st) [] [] f fd) : Binds K fd d__law_alike.ps [] := F.bindsN fun _ _ _ _ _ _ us hl => match us, hl with | [_, _], _ => rfl
theorem bd__law_odd {K : PySem.W.Frag} {f : Addr} {fd : FuncData} (F : FunD K d__law_odd.name d__law_odd.name (defArgs d__law_odd.st) (defBody d__law_odd.st) (defScope d__law_odd.st) [] [] f fd) : Binds K fd d__law_odd.ps [] := F.bindsN fun _ _ _ _ _ _ us hl => match us, hl with | [_, _], _ => rfl
theorem bd__law_bent {K : PySem.W.Frag} {f : Addr} {fd : FuncData} (F : FunD K d__law_bent.name d__law_bent.name (defArgs d__law_bent.st) (defBody d__law_bent.st) (defScope d__law_bent.st) [] [] f fd) : Binds K fd d__law_bent.ps [] := F.bindsN fun _ _ _ _ _ _ us hl => match us, hl with | [_, _], _ => rfl
theorem bd__law_is_weights {K : PySem.W.Frag} {f : Addr} {fd : FuncData} (F : FunD K d__law_is_weights.name d__law_is_weights.name (defArgs d__law_is_weights.st) (defBody d__law_is_weights.st) (defScope d__law_is_weights.st) [] [] f fd) : Binds K fd d__law_is_weights.ps [] := F.bindsN fun _ _ _ _ _ _ us hl => match us, hl with | [_], _ => rfl
theorem bd__law_heard {K : PySem.W.Frag} {f : Addr} {fd : FuncData} (F : FunD K d__law_heard.name d__law_heard.name (defArgs d__law_heard.st) (defBody d__law_heard.st) (defScope d__law_heard.st) [] [] f fd) : Binds K fd d__law_heard.ps [] := F.bindsN fun _ _ _ _ _ _ us hl => match us, hl with | [_, _, _, _], _ => rfl
theorem bd__law_is_window {K : PySem.W.Frag} {f : Addr} {fd : FuncData} (F : FunD K d__law_is_window.name d__law_is_window.name (defArgs d__law_is_window.st) (defBody d__law_is_window.st) (defScope d__law_is_window.st) [] [] f fd) : Binds K fd d__law_is_window.ps [] := F.bindsN fun _ _ _ _ _ _ us hl => match us, hl with | [_, _, _], _ => rfl
theorem bd__law_is_refused {K : PySem.W.Frag} {f : Addr} {fd : FuncData} (F : FunD K d__law_is_refused.name d__law_is_refused.name (defArgs d__law_is_refused.st) (defBody d__law_is_refused.st) (defScope d__law_is_refused.st) [] [] f fd) : Binds K fd d__law_is_refused.ps [] := F.bindsN fun _ _ _ _ _ _ us hl => match us, hl with | [_, _, _], _ => rfl
theorem bd__law_things {K : PySem.W.Frag} {f : Addr} {fd : FuncData} (F : FunD K d__law_things.name d__law_things.name (defArgs d__law_things.st) (defBody d__law_things.st) (defScope d__law_things.st) [] [] f fd) : Binds K fd d__law_things.ps [] := F.bindsN fun _ _ _ _ _ _ us hl => match us, hl with | [_, _], _ => rfl
theorem bds {K : PySem.W.Frag} : BindsD K ds := by
  intro i d f fd e F
  rcases i with _ | _ | _ | _ | _ | _ | _ | _ | _ | _ | _ | _ | _ | _ | _ | _ | _ | _ | _ | _ | _ | i
  · cases e; exact bd_law F
  · cases e; exact bd_is_number F
  · cases e; exact bd_is_weights F
  · cases e; exact bd_first_of F
  · cases e; exact bd_last_of F
  · cases e; exact bd_is_seat F
  · cases e; exact bd_need_seat F
  · cases e; exact bd_need_number F
  · cases e; exact bd_rounded_up F
  · cases e; exact bd__law_feed F
  · cases e; exact bd__law_draw F
  · cases e; exact bd__law_weights F
  · cases e; exact bd__law_great F
  · cases e; exact bd__law_alike F
  · cases e; exact bd__law_odd F
  · cases e; exact bd__law_bent F
  · cases e; exact bd__law_is_weights F
  · cases e; exact bd__law_heard F
  · cases e; exact bd__law_is_window F
  · cases e; exact bd__law_is_refused F
  · cases e; exact bd__law_things F
  · simp [ds] at e
theorem be_NoPaper {K : PySem.W.Frag} {f : Addr} {fd : FuncData} (F : FunD K "__init__" (e_NoPaper.name ++ ".__init__") (defArgs e_NoPaper.st) (defBody e_NoPaper.st) (defScope e_NoPaper.st) [] [] f fd) : Binds K fd e_NoPaper.ps [] := F.bindsN fun _ _ _ _ _ _ us hl => match us, hl with | [_, _, _], _ => rfl
theorem be_NoName {K : PySem.W.Frag} {f : Addr} {fd : FuncData} (F : FunD K "__init__" (e_NoName.name ++ ".__init__") (defArgs e_NoName.st) (defBody e_NoName.st) (defScope e_NoName.st) [] [] f fd) : Binds K fd e_NoName.ps [] := F.bindsN fun _ _ _ _ _ _ us hl => match us, hl with | [_, _], _ => rfl
theorem be_NoPlace {K : PySem.W.Frag} {f : Addr} {fd : FuncData} (F : FunD K "__init__" (e_NoPlace.name ++ ".__init__") (defArgs e_NoPlace.st) (defBody e_NoPlace.st) (defScope e_NoPlace.st) [] [] f fd) : Binds K fd e_NoPlace.ps [] := F.bindsN fun _ _ _ _ _ _ us hl => match us, hl with | [_, _], _ => rfl
theorem be_NoSeat {K : PySem.W.Frag} {f : Addr} {fd : FuncData} (F : FunD K "__init__" (e_NoSeat.name ++ ".__init__") (defArgs e_NoSeat.st) (defBody e_NoSeat.st) (defScope e_NoSeat.st) [] [] f fd) : Binds K fd e_NoSeat.ps [] := F.bindsN fun _ _ _ _ _ _ us hl => match us, hl with | [_, _], _ => rfl
theorem be_NoTurn {K : PySem.W.Frag} {f : Addr} {fd : FuncData} (F : FunD K "__init__" (e_NoTurn.name ++ ".__init__") (defArgs e_NoTurn.st) (defBody e_NoTurn.st) (defScope e_NoTurn.st) [] [] f fd) : Binds K fd e_NoTurn.ps [] := F.bindsN fun _ _ _ _ _ _ us hl => match us, hl with | [_, _], _ => rfl
theorem be_NoWeek {K : PySem.W.Frag} {f : Addr} {fd : FuncData} (F : FunD K "__init__" (e_NoWeek.name ++ ".__init__") (defArgs e_NoWeek.st) (defBody e_NoWeek.st) (defScope e_NoWeek.st) [] [] f fd) : Binds K fd e_NoWeek.ps [] := F.bindsN fun _ _ _ _ _ _ us hl => match us, hl with | [_, _], _ => rfl
theorem be_NoPage {K : PySem.W.Frag} {f : Addr} {fd : FuncData} (F : FunD K "__init__" (e_NoPage.name ++ ".__init__") (defArgs e_NoPage.st) (defBody e_NoPage.st) (defScope e_NoPage.st) [] [] f fd) : Binds K fd e_NoPage.ps [] := F.bindsN fun _ _ _ _ _ _ us hl => match us, hl with | [_, _], _ => rfl
theorem be_NoText {K : PySem.W.Frag} {f : Addr} {fd : FuncData} (F : FunD K "__init__" (e_NoText.name ++ ".__init__") (defArgs e_NoText.st) (defBody e_NoText.st) (defScope e_NoText.st) [] [] f fd) : Binds K fd e_NoText.ps [] := F.bindsN fun _ _ _ _ _ _ us hl => match us, hl with | [_, _, _], _ => rfl
theorem be_NoRow {K : PySem.W.Frag} {f : Addr} {fd : FuncData} (F : FunD K "__init__" (e_NoRow.name ++ ".__init__") (defArgs e_NoRow.st) (defBody e_NoRow.st) (defScope e_NoRow.st) [] [] f fd) : Binds K fd e_NoRow.ps [] := F.bindsN fun _ _ _ _ _ _ us hl => match us, hl with | [_, _], _ => rfl
theorem bes {K : PySem.W.Frag} : BindsE K es := by
  intro e he f fd F
  simp only [es, List.mem_cons, List.not_mem_nil, or_false] at he
  rcases he with rfl | rfl | rfl | rfl | rfl | rfl | rfl | rfl | rfl
  · exact be_NoPaper F
  · exact be_NoName F
  · exact be_NoPlace F
  · exact be_NoSeat F
  · exact be_NoTurn F
  · exact be_NoWeek F
  · exact be_NoPage F
  · exact be_NoText F
  · exact be_NoRow F
theorem bn__law_refused {K : PySem.W.Frag} {f : Addr} {fd : FuncData} (F : FunD K n__law_refused.name n__law_refused.name (defArgs n__law_refused.st) (defBody n__law_refused.st) (defScope n__law_refused.st) [] [] f fd) : Binds K fd [n__law_refused.y] [] := F.bindsN fun _ _ _ _ _ _ us hl => match us, hl with | [_], _ => rfl
theorem bns {K : PySem.W.Frag} : BindsN K nts := by
  intro n hn f fd F
  simp only [nts, List.mem_cons, List.not_mem_nil, or_false] at hn
  rcases hn with rfl
  · exact bn__law_refused F
theorem chk : ds.all (chkDx (xtOf es) HT (nts.map fun n => (n.name, n.yes)) CS (tab ds) Bn) = true := by decide +kernel
end K19

set_option Elab.async false
set_option linter.all false
set_option maxRecDepth 100000
set_option maxHeartbeats 4000000
namespace K19
open PySem PySem.Spec PyProof.Rows L2 Vm Rd
theorem pre {N k : Nat} (h : k ≤ N) (hk : 0 < k) : ∃ n, N = n + 1 ∧ k - 1 ≤ n := ⟨N - 1, by omega, by omega⟩
abbrev tw (ws : List Int) : PV := .tup (ws.map PV.int)
section
variable {ws : List Int} {h : IH} {N : Nat}
theorem s_is_seat {s : Int} (hN : 1 ≤ N) (s0 : 0 ≤ s) (s1 : s < ws.length) : (sem Bf ds N 5 [tw ws, .int s] h) = .ok (.bl true) h := by
  obtain ⟨n, rfl, _⟩ := pre hN (by decide)
  rw [sem_at (d := d_is_seat) (L := 2) (b := b_is_seat) rfl rfl rfl]
  simp (config := { implicitDefEqProofs := false }) only [Vm.evF, Vm.evSs, Vm.evS, Vm.evX, Vm.evE, Vm.evEs, Vm.evIt, Vm.evPt, Vm.Res.bind_assoc, Vm.Res.bind_ok, Vm.Res.Ok_ok, Vm.bindT, Vm.setAll, Vm.boolOf, Vm.isNon, Vm.b_add, Vm.b_sub, Vm.a_add, Vm.c_eq, Vm.c_ne, Vm.c_lt, Vm.c_le, Vm.c_gt, Vm.c_ge, Vm.Bf_len, Vm.Bf_sum, Vm.Bf_min2, Vm.wipeE, Vm.Tg.slots, Vm.lcTurn, Vm.forTurn, List.map_cons, List.map_nil, List.length_cons, List.length_nil, List.length_map, List.cons_append, List.nil_append, List.getElem?_cons_zero, List.getElem?_cons_succ, List.set_cons_zero, List.set_cons_succ, List.reduceReplicate, Nat.reduceSub, Nat.reduceAdd, Nat.zero_add, Int.toNat_natCast, Bool.not_true, Bool.not_false, decide_true, decide_false, if_true, if_false, b_is_seat, s0, s1]
theorem s_need_seat {s : Int} (hN : 2 ≤ N) (s0 : 0 ≤ s) (s1 : s < ws.length) : (sem Bf ds N 6 [tw ws, .int s] h) = .ok .non h := by
  obtain ⟨n, rfl, k⟩ := pre hN (by decide)
  rw [sem_at (d := d_need_seat) (L := 2) (b := b_need_seat) rfl rfl rfl]
  simp (config := { implicitDefEqProofs := false }) only [Vm.evF, Vm.evSs, Vm.evS, Vm.evX, Vm.evE, Vm.evEs, Vm.evIt, Vm.evPt, Vm.Res.bind_assoc, Vm.Res.bind_ok, Vm.Res.Ok_ok, Vm.bindT, Vm.setAll, Vm.boolOf, Vm.isNon, Vm.b_add, Vm.b_sub, Vm.a_add, Vm.c_eq, Vm.c_ne, Vm.c_lt, Vm.c_le, Vm.c_gt, Vm.c_ge, Vm.Bf_len, Vm.Bf_sum, Vm.Bf_min2, Vm.wipeE, Vm.Tg.slots, Vm.lcTurn, Vm.forTurn, List.map_cons, List.map_nil, List.length_cons, List.length_nil, List.length_map, List.cons_append, List.nil_append, List.getElem?_cons_zero, List.getElem?_cons_succ, List.set_cons_zero, List.set_cons_succ, List.reduceReplicate, Nat.reduceSub, Nat.reduceAdd, Nat.zero_add, Int.toNat_natCast, Bool.not_true, Bool.not_false, decide_true, decide_false, if_true, if_false, b_need_seat, s_is_seat k s0 s1]
theorem s_need_number {i j : Int} (hN : 1 ≤ N) (l : j ≤ i) : (sem Bf ds N 7 [.int i, .int j] h) = .ok .non h := by
  obtain ⟨n, rfl, k⟩ := pre hN (by decide)
  rw [sem_at (d := d_need_number) (L := 2) (b := b_need_number) rfl rfl rfl]
  have : ¬ i < j := by omega
  simp (config := { implicitDefEqProofs := false }) only [Vm.evF, Vm.evSs, Vm.evS, Vm.evX, Vm.evE, Vm.evEs, Vm.evIt, Vm.evPt, Vm.Res.bind_assoc, Vm.Res.bind_ok, Vm.Res.Ok_ok, Vm.bindT, Vm.setAll, Vm.boolOf, Vm.isNon, Vm.b_add, Vm.b_sub, Vm.a_add, Vm.c_eq, Vm.c_ne, Vm.c_lt, Vm.c_le, Vm.c_gt, Vm.c_ge, Vm.Bf_len, Vm.Bf_sum, Vm.Bf_min2, Vm.wipeE, Vm.Tg.slots, Vm.lcTurn, Vm.forTurn, List.map_cons, List.map_nil, List.length_cons, List.length_nil, List.length_map, List.cons_append, List.nil_append, List.getElem?_cons_zero, List.getElem?_cons_succ, List.set_cons_zero, List.set_cons_succ, List.reduceReplicate, Nat.reduceSub, Nat.reduceAdd, Nat.zero_add, Int.toNat_natCast, Bool.not_true, Bool.not_false, decide_true, decide_false, if_true, if_false, b_need_number, this]
theorem s_rounded_up {i j : Int} (hN : 1 ≤ N) (l : 0 < j) (l2 : j < 1073741824) : (sem Bf ds N 8 [.int i, .int j] h) = .ok (.int (-(-i / j))) h := by
  obtain ⟨n, rfl, k⟩ := pre hN (by decide)
  rw [sem_at (d := d_rounded_up) (L := 2) (b := b_rounded_up) rfl rfl rfl]
  simp (config := { implicitDefEqProofs := false }) only [Vm.evF, Vm.evSs, Vm.evS, Vm.evX, Vm.evE, Vm.evEs, Vm.evIt, Vm.evPt, Vm.Res.bind_assoc, Vm.Res.bind_ok, Vm.Res.Ok_ok, Vm.bindT, Vm.setAll, Vm.boolOf, Vm.isNon, Vm.b_add, Vm.b_sub, Vm.a_add, Vm.c_eq, Vm.c_ne, Vm.c_lt, Vm.c_le, Vm.c_gt, Vm.c_ge, Vm.Bf_len, Vm.Bf_sum, Vm.Bf_min2, Vm.wipeE, Vm.Tg.slots, Vm.lcTurn, Vm.forTurn, List.map_cons, List.map_nil, List.length_cons, List.length_nil, List.length_map, List.cons_append, List.nil_append, List.getElem?_cons_zero, List.getElem?_cons_succ, List.set_cons_zero, List.set_cons_succ, List.reduceReplicate, Nat.reduceSub, Nat.reduceAdd, Nat.zero_add, Int.toNat_natCast, Bool.not_true, Bool.not_false, decide_true, decide_false, if_true, if_false, b_rounded_up, fdiv_ok l l2]
theorem ixW {s : Int} (s0 : 0 ≤ s) (s1 : s < ws.length) : ixF (tw ws) (.int s) h = .ok (.int (wt ws s)) h := ixF_tup s0 s1
theorem s_first_of {s j : Int} (g : Good ws) (hN : 3 ≤ N) (s0 : 0 ≤ s) (s1 : s < ws.length) (hj : 1 ≤ j) : (sem Bf ds N 3 [tw ws, .int s, .int j] h) = .ok (.int ((j - 1) * ws.sum / wt ws s)) h := by
  obtain ⟨n, rfl, k⟩ := pre hN (by decide)
  rw [sem_at (d := d_first_of) (L := 3) (b := b_first_of) rfl rfl rfl]
  have hs := g.sum
  have hw := g.wt s0 s1
  simp (config := { implicitDefEqProofs := false }) only [Vm.evF, Vm.evSs, Vm.evS, Vm.evX, Vm.evE, Vm.evEs, Vm.evIt, Vm.evPt, Vm.Res.bind_assoc, Vm.Res.bind_ok, Vm.Res.Ok_ok, Vm.bindT, Vm.setAll, Vm.boolOf, Vm.isNon, Vm.b_add, Vm.b_sub, Vm.a_add, Vm.c_eq, Vm.c_ne, Vm.c_lt, Vm.c_le, Vm.c_gt, Vm.c_ge, Vm.Bf_len, Vm.Bf_sum, Vm.Bf_min2, Vm.wipeE, Vm.Tg.slots, Vm.lcTurn, Vm.forTurn, List.map_cons, List.map_nil, List.length_cons, List.length_nil, List.length_map, List.cons_append, List.nil_append, List.getElem?_cons_zero, List.getElem?_cons_succ, List.set_cons_zero, List.set_cons_succ, List.reduceReplicate, Nat.reduceSub, Nat.reduceAdd, Nat.zero_add, Int.toNat_natCast, Bool.not_true, Bool.not_false, decide_true, decide_false, if_true, if_false, b_first_of, s_need_seat k s0 s1, s_need_number (N := n) (i := j) (j := 1) (by omega) hj, ixW s0 s1, mul_r (j := ws.sum) (by omega) (by omega), fdiv_ok (j := wt ws s) (by omega) (by omega)]
theorem s_last_of {s j : Int} (g : Good ws) (hN : 3 ≤ N) (s0 : 0 ≤ s) (s1 : s < ws.length) (hj : 1 ≤ j) : (sem Bf ds N 4 [tw ws, .int s, .int j] h) = .ok (.int (-(-(j * ws.sum) / wt ws s) - 1)) h := by
  obtain ⟨n, rfl, k⟩ := pre hN (by decide)
  rw [sem_at (d := d_last_of) (L := 3) (b := b_last_of) rfl rfl rfl]
  have hs := g.sum
  have hw := g.wt s0 s1
  simp (config := { implicitDefEqProofs := false }) only [Vm.evF, Vm.evSs, Vm.evS, Vm.evX, Vm.evE, Vm.evEs, Vm.evIt, Vm.evPt, Vm.Res.bind_assoc, Vm.Res.bind_ok, Vm.Res.Ok_ok, Vm.bindT, Vm.setAll, Vm.boolOf, Vm.isNon, Vm.b_add, Vm.b_sub, Vm.a_add, Vm.c_eq, Vm.c_ne, Vm.c_lt, Vm.c_le, Vm.c_gt, Vm.c_ge, Vm.Bf_len, Vm.Bf_sum, Vm.Bf_min2, Vm.wipeE, Vm.Tg.slots, Vm.lcTurn, Vm.forTurn, List.map_cons, List.map_nil, List.length_cons, List.length_nil, List.length_map, List.cons_append, List.nil_append, List.getElem?_cons_zero, List.getElem?_cons_succ, List.set_cons_zero, List.set_cons_succ, List.reduceReplicate, Nat.reduceSub, Nat.reduceAdd, Nat.zero_add, Int.toNat_natCast, Bool.not_true, Bool.not_false, decide_true, decide_false, if_true, if_false, b_last_of, s_need_seat k s0 s1, s_need_number (N := n) (i := j) (j := 1) (by omega) hj, ixW s0 s1, mul_r (i := j) (j := ws.sum) (by omega) (by omega), s_rounded_up (N := n) (i := j * ws.sum) (j := wt ws s) (by omega) (by omega) (by omega)]
end
end K19

set_option Elab.async false
set_option linter.all false
set_option maxRecDepth 100000
set_option maxHeartbeats 4000000
namespace K19
open PySem PySem.Spec PyProof.Rows L2 Vm Rd
section
variable {ws : List Int} {h : IH} {N : Nat}
theorem rngs_ints (n : Nat) : rngs 0 n = ((List.range n).map fun (i : Nat) => (i : Int)).map PV.int := by
  unfold rngs
  rw [List.map_map]
  exact List.map_congr_left fun i _ => by simp
theorem places_ints {s : Int} {R : List Int} {n : Nat} : ((List.range n).map fun (i : Nat) => (i : Int)).filter (fun t => decide (R[t.toNat]? = some s)) = (placesN s R n).map fun (i : Nat) => (i : Int) := by
  unfold placesN
  rw [List.filter_map]
  congr 1
theorem how_nonneg {s t : Int} (g : Good ws) (s0 : 0 ≤ s) (s1 : s < ws.length) (t0 : 0 ≤ t) : 0 ≤ how ws s t := by
  have := g.sum
  have := g.wt s0 s1
  have := Int.mul_nonneg (Int.ediv_nonneg t0 (show 0 ≤ ws.sum by omega)) (show 0 ≤ wt ws s by omega)
  unfold how
  omega
end
end K19

set_option Elab.async false
set_option linter.all false
set_option maxRecDepth 100000
set_option maxHeartbeats 400000
namespace K19
open PySem PySem.Spec PyProof.Rows L2 Vm Rd
/-- the feed at f, with b draws left -/
structure Feed (h : IH) (f : Nat) (b : Nat) : Prop where
  ex : ∃ (c : Nat) (cs : List Int) (x y z : Int), c ≠ f ∧ h[c]? = some (.lst (cs.map PV.int)) ∧ h[f]? = some (.lst [.ref c, .int x, .int y, .int z]) ∧ 0 ≤ z ∧ z + b ≤ 1000000
theorem Feed.le {h : IH} {f b b' : Nat} (F : Feed h f b) (l : b' ≤ b) : Feed h f b' := by
  obtain ⟨c, cs, x, y, z, n, e1, e2, z0, z1⟩ := F.ex
  exact ⟨c, cs, x, y, z, n, e1, e2, z0, by omega⟩
theorem Feed.ext {h h' : IH} {f b : Nat} (F : Feed h f b) (x : Ext h h') : Feed h' f b := by
  obtain ⟨c, cs, x1, y, z, n, e1, e2, z0, z1⟩ := F.ex
  exact ⟨c, cs, x1, y, z, n, x.get e1, x.get e2, z0, z1⟩
section
variable {h : IH} {N : Nat}
theorem put1 {f : Nat} {r u v w y : PV} (e : h[f]? = some (.lst [r, u, v, w])) : putF (.ref f) (.int 1) y h = .ok () (h.set f (.lst [r, y, v, w])) := putF_ok' e (by decide) (by simp)
theorem put2 {f : Nat} {r u v w y : PV} (e : h[f]? = some (.lst [r, u, v, w])) : putF (.ref f) (.int 2) y h = .ok () (h.set f (.lst [r, u, y, w])) := putF_ok' e (by decide) (by simp)
theorem put3 {f : Nat} {r u v w y : PV} (e : h[f]? = some (.lst [r, u, v, w])) : putF (.ref f) (.int 3) y h = .ok () (h.set f (.lst [r, u, v, y])) := putF_ok' e (by decide) (by simp)
theorem s_draw {f b : Nat} {m : Int} (F : Feed h f (b + 1)) (hN : 1 ≤ N) (m0 : 0 < m) (m1 : m ≤ 1000000) : (sem Bf ds N 10 [.ref f, .int m] h).Ok fun r h1 => ∃ d : Int, r = .int d ∧ 0 ≤ d ∧ d < m ∧ Feed h1 f b ∧ But f h h1 := by
  obtain ⟨n, rfl, k⟩ := pre hN (by decide)
  obtain ⟨c, cs, x, y, z, cf, e1, e2, z0, z1⟩ := F.ex
  rw [sem_at (d := d__law_draw) (L := 8) (b := b__law_draw) rfl rfl rfl]
  have fin : ∀ (h' : IH) (x' y' z' : Int) , 0 ≤ z' → z' + b ≤ 1000000 → h'[f]? = some (.lst [.ref c, .int x', .int y', .int z']) → But f h h' → ∀ d : Int, ∃ d' : Int, PV.int (d % m) = .int d' ∧ 0 ≤ d' ∧ d' < m ∧ Feed h' f b ∧ But f h h' := fun h' x' y' z' a1 a2 a3 a4 d =>
    ⟨_, rfl, Int.emod_nonneg _ (by omega), Int.emod_lt_of_pos _ m0, ⟨c, cs, x', y', z', cf, a4.get cf e1, a3, a1, a2⟩, a4⟩
  have p1 := put3 (y := .int (z + 1)) e2
  have q1 := set_same (o := .lst [PV.ref c, .int x, .int y, .int (z + 1)]) e2
  have t1 : But f h (h.set f (.lst [PV.ref c, .int x, .int y, .int (z + 1)])) := But.set
  simp (config := { implicitDefEqProofs := false }) only [Vm.evF, Vm.evSs, Vm.evS, Vm.evX, Vm.evE, Vm.evEs, Vm.evIt, Vm.evPt, Vm.Res.bind_assoc, Vm.Res.bind_ok, Vm.Res.Ok_ok, Vm.bindT, Vm.setAll, Vm.boolOf, Vm.isNon, Vm.b_add, Vm.b_sub, Vm.a_add, Vm.c_eq, Vm.c_ne, Vm.c_lt, Vm.c_le, Vm.c_gt, Vm.c_ge, Vm.Bf_len, Vm.Bf_sum, Vm.Bf_min2, Vm.wipeE, Vm.Tg.slots, Vm.lcTurn, Vm.forTurn, List.map_cons, List.map_nil, List.length_cons, List.length_nil, List.length_map, List.cons_append, List.nil_append, List.getElem?_cons_zero, List.getElem?_cons_succ, List.set_cons_zero, List.set_cons_succ, List.reduceReplicate, Nat.reduceSub, Nat.reduceAdd, Nat.zero_add, Int.toNat_natCast, Bool.not_true, Bool.not_false, decide_true, decide_false, if_true, if_false, b__law_draw, rd_ref e2, p1]
  generalize h.set f (.lst [PV.ref c, .int x, .int y, .int (z + 1)]) = h1 at q1 t1
  by_cases hy : 0 < y
  · have p2 := put2 (y := .int (y / m)) q1
    have q2 := set_same (o := .lst [PV.ref c, .int x, .int (y / m), .int (z + 1)]) q1
    simp (config := { implicitDefEqProofs := false }) only [Vm.evF, Vm.evSs, Vm.evS, Vm.evX, Vm.evE, Vm.evEs, Vm.evIt, Vm.evPt, Vm.Res.bind_assoc, Vm.Res.bind_ok, Vm.Res.Ok_ok, Vm.bindT, Vm.setAll, Vm.boolOf, Vm.isNon, Vm.b_add, Vm.b_sub, Vm.a_add, Vm.c_eq, Vm.c_ne, Vm.c_lt, Vm.c_le, Vm.c_gt, Vm.c_ge, Vm.Bf_len, Vm.Bf_sum, Vm.Bf_min2, Vm.wipeE, Vm.Tg.slots, Vm.lcTurn, Vm.forTurn, List.map_cons, List.map_nil, List.length_cons, List.length_nil, List.length_map, List.cons_append, List.nil_append, List.getElem?_cons_zero, List.getElem?_cons_succ, List.set_cons_zero, List.set_cons_succ, List.reduceReplicate, Nat.reduceSub, Nat.reduceAdd, Nat.zero_add, Int.toNat_natCast, Bool.not_true, Bool.not_false, decide_true, decide_false, if_true, if_false, hy, fdiv_ok (h := h1) (i := y) (j := m) m0 (by omega), p2, mod_ok (h := h1.set f (.lst [PV.ref c, .int x, .int (y / m), .int (z + 1)])) (i := y) (j := m) m0]
    exact fin _ _ _ _ (by omega) (by omega) q2 (t1.trans But.set) y
  · have p2 := put1 (y := .int (x + 1)) q1
    have q2 := set_same (o := .lst [PV.ref c, .int (x + 1), .int y, .int (z + 1)]) q1
    have t2 : But f h (h1.set f (.lst [PV.ref c, .int (x + 1), .int y, .int (z + 1)])) := t1.trans But.set
    simp (config := { implicitDefEqProofs := false }) only [Vm.evF, Vm.evSs, Vm.evS, Vm.evX, Vm.evE, Vm.evEs, Vm.evIt, Vm.evPt, Vm.Res.bind_assoc, Vm.Res.bind_ok, Vm.Res.Ok_ok, Vm.bindT, Vm.setAll, Vm.boolOf, Vm.isNon, Vm.b_add, Vm.b_sub, Vm.a_add, Vm.c_eq, Vm.c_ne, Vm.c_lt, Vm.c_le, Vm.c_gt, Vm.c_ge, Vm.Bf_len, Vm.Bf_sum, Vm.Bf_min2, Vm.wipeE, Vm.Tg.slots, Vm.lcTurn, Vm.forTurn, List.map_cons, List.map_nil, List.length_cons, List.length_nil, List.length_map, List.cons_append, List.nil_append, List.getElem?_cons_zero, List.getElem?_cons_succ, List.set_cons_zero, List.set_cons_succ, List.reduceReplicate, Nat.reduceSub, Nat.reduceAdd, Nat.zero_add, Int.toNat_natCast, Bool.not_true, Bool.not_false, decide_true, decide_false, if_true, if_false, hy, p2]
    generalize h1.set f (.lst [PV.ref c, .int (x + 1), .int y, .int (z + 1)]) = h2 at q2 t2
    have ec := t2.get cf e1
    have lc : ∀ h', h'[c]? = some (.lst (cs.map PV.int)) → Bf 0 [.ref c] h' = .ok (.int cs.length) h' := fun h' e => by
      have := Bf_len_ref e
      rw [List.length_map] at this
      exact this
    simp (config := { implicitDefEqProofs := false }) only [Vm.evF, Vm.evSs, Vm.evS, Vm.evX, Vm.evE, Vm.evEs, Vm.evIt, Vm.evPt, Vm.Res.bind_assoc, Vm.Res.bind_ok, Vm.Res.Ok_ok, Vm.bindT, Vm.setAll, Vm.boolOf, Vm.isNon, Vm.b_add, Vm.b_sub, Vm.a_add, Vm.c_eq, Vm.c_ne, Vm.c_lt, Vm.c_le, Vm.c_gt, Vm.c_ge, Vm.Bf_len, Vm.Bf_sum, Vm.Bf_min2, Vm.wipeE, Vm.Tg.slots, Vm.lcTurn, Vm.forTurn, List.map_cons, List.map_nil, List.length_cons, List.length_nil, List.length_map, List.cons_append, List.nil_append, List.getElem?_cons_zero, List.getElem?_cons_succ, List.set_cons_zero, List.set_cons_succ, List.reduceReplicate, Nat.reduceSub, Nat.reduceAdd, Nat.zero_add, Int.toNat_natCast, Bool.not_true, Bool.not_false, decide_true, decide_false, if_true, if_false, lc h2 ec]
    have cell : ∃ cell : Int, ∀ (Q : PV → IH → Prop), Q (.int cell) h2 → Res.Ok (match PV.bl (decide ((0 : Int) < (cs.length : Int))) with
        | .bl true => (binF .mod (.int x) (.int cs.length) h2).bind fun y h2 => ixF (.ref c) y h2
        | .bl false => .ok (.int 11) h2
        | _ => .stuck) Q := by
      by_cases hl : (0 : Int) < (cs.length : Int)
      · have m2 := Int.emod_nonneg x (show (cs.length : Int) ≠ 0 by omega)
        have m3 := Int.emod_lt_of_pos x hl
        refine ⟨cs.getD (x % (cs.length : Int)).toNat 0, fun Q hQ => ?_⟩
        simp only [hl, decide_true, mod_ok (h := h2) (i := x) hl, Res.bind_ok, ixF_ref ec m2 m3]
        exact hQ
      · refine ⟨11, fun Q hQ => ?_⟩
        simp only [hl, decide_false]
        exact hQ
    obtain ⟨cell, hcell⟩ := cell
    refine Res.ok_bind (hcell _ ?_)
    simp (config := { implicitDefEqProofs := false }) only [Vm.evF, Vm.evSs, Vm.evS, Vm.evX, Vm.evE, Vm.evEs, Vm.evIt, Vm.evPt, Vm.Res.bind_assoc, Vm.Res.bind_ok, Vm.Res.Ok_ok, Vm.bindT, Vm.setAll, Vm.boolOf, Vm.isNon, Vm.b_add, Vm.b_sub, Vm.a_add, Vm.c_eq, Vm.c_ne, Vm.c_lt, Vm.c_le, Vm.c_gt, Vm.c_ge, Vm.Bf_len, Vm.Bf_sum, Vm.Bf_min2, Vm.wipeE, Vm.Tg.slots, Vm.lcTurn, Vm.forTurn, List.map_cons, List.map_nil, List.length_cons, List.length_nil, List.length_map, List.cons_append, List.nil_append, List.getElem?_cons_zero, List.getElem?_cons_succ, List.set_cons_zero, List.set_cons_succ, List.reduceReplicate, Nat.reduceSub, Nat.reduceAdd, Nat.zero_add, Int.toNat_natCast, Bool.not_true, Bool.not_false, decide_true, decide_false, if_true, if_false, pow_ok (h := h2) (i := 10) (j := 18) (by decide) (by decide) (by decide) (by decide)]
    -- digits of a great cell, or the mix
    have mix : ∀ (ev1 : Ev), Res.Ok ((binF .mod (.int cell) (.int 2147483629) h2).bind fun a h => (binF .mul (.int 6151) (.int z) h).bind fun a_1 h => (binF .add a a_1 h).bind fun a h => (binF .add a (.int 389) h).bind fun a h => (binF .pow a (.int 5) h).bind fun a h => (binF .mod a (.int 2147483647) h).bind fun a h =>
        (binF .mul (.int 24593) (.int z) h).bind fun a_1 h => (binF .add a a_1 h).bind fun a h => (binF .add a (.int 53) h).bind fun a h => (binF .pow a (.int 5) h).bind fun a h => (binF .mod a (.int 2147483587) h).bind fun a h => (binF .fdiv a (.int 64) h).bind fun a h => (binF .mod a (.int m) h).bind fun a h => Res.ok a h)
        fun r h1 => ∃ d : Int, r = .int d ∧ 0 ≤ d ∧ d < m ∧ Feed h1 f b ∧ But f h h1 := fun _ => by
      have a0 := Int.emod_nonneg cell (show (2147483629 : Int) ≠ 0 by decide)
      have a1 := Int.emod_lt_of_pos cell (show (0 : Int) < 2147483629 by decide)
      simp only [mod_ok (h := h2) (i := cell) (j := 2147483629) (by decide), mul_l (h := h2) (i := 6151) (j := z) (by decide) (by decide), Res.bind_ok, b_add]
      generalize hb : cell % 2147483629 + 6151 * z + 389 = base
      simp only [pow_ok (h := h2) (i := base) (j := 5) (by decide) (by decide) (by omega) (by omega), Res.bind_ok]
      generalize base ^ (5 : Int).toNat = pw
      have b0 := Int.emod_nonneg pw (show (2147483647 : Int) ≠ 0 by decide)
      have b1 := Int.emod_lt_of_pos pw (show (0 : Int) < 2147483647 by decide)
      simp only [mod_ok (h := h2) (i := pw) (j := 2147483647) (by decide), mul_l (h := h2) (i := 24593) (j := z) (by decide) (by decide), Res.bind_ok, b_add]
      generalize hb2 : pw % 2147483647 + 24593 * z + 53 = base2
      simp only [pow_ok (h := h2) (i := base2) (j := 5) (by decide) (by decide) (by omega) (by omega), Res.bind_ok]
      generalize base2 ^ (5 : Int).toNat = pw2
      simp only [mod_ok (h := h2) (i := pw2) (j := 2147483587) (by decide), Res.bind_ok, fdiv_ok (h := h2) (i := pw2 % 2147483587) (j := 64) (by decide) (by decide), mod_ok (h := h2) (i := pw2 % 2147483587 / 64) (j := m) m0, Res.Ok_ok]
      exact fin _ _ _ _ (by omega) (by omega) q2 t2 _
    by_cases h18 : (10 : Int) ^ (18 : Int).toNat ≤ cell
    · simp (config := { implicitDefEqProofs := false }) only [Vm.evF, Vm.evSs, Vm.evS, Vm.evX, Vm.evE, Vm.evEs, Vm.evIt, Vm.evPt, Vm.Res.bind_assoc, Vm.Res.bind_ok, Vm.Res.Ok_ok, Vm.bindT, Vm.setAll, Vm.boolOf, Vm.isNon, Vm.b_add, Vm.b_sub, Vm.a_add, Vm.c_eq, Vm.c_ne, Vm.c_lt, Vm.c_le, Vm.c_gt, Vm.c_ge, Vm.Bf_len, Vm.Bf_sum, Vm.Bf_min2, Vm.wipeE, Vm.Tg.slots, Vm.lcTurn, Vm.forTurn, List.map_cons, List.map_nil, List.length_cons, List.length_nil, List.length_map, List.cons_append, List.nil_append, List.getElem?_cons_zero, List.getElem?_cons_succ, List.set_cons_zero, List.set_cons_succ, List.reduceReplicate, Nat.reduceSub, Nat.reduceAdd, Nat.zero_add, Int.toNat_natCast, Bool.not_true, Bool.not_false, decide_true, decide_false, if_true, if_false, h18, lc h2 ec]
      by_cases hx : x < (cs.length : Int)
      · have p3 := put2 (y := .int (cell / m)) q2
        have q3 := set_same (o := .lst [PV.ref c, .int (x + 1), .int (cell / m), .int (z + 1)]) q2
        simp (config := { implicitDefEqProofs := false }) only [Vm.evF, Vm.evSs, Vm.evS, Vm.evX, Vm.evE, Vm.evEs, Vm.evIt, Vm.evPt, Vm.Res.bind_assoc, Vm.Res.bind_ok, Vm.Res.Ok_ok, Vm.bindT, Vm.setAll, Vm.boolOf, Vm.isNon, Vm.b_add, Vm.b_sub, Vm.a_add, Vm.c_eq, Vm.c_ne, Vm.c_lt, Vm.c_le, Vm.c_gt, Vm.c_ge, Vm.Bf_len, Vm.Bf_sum, Vm.Bf_min2, Vm.wipeE, Vm.Tg.slots, Vm.lcTurn, Vm.forTurn, List.map_cons, List.map_nil, List.length_cons, List.length_nil, List.length_map, List.cons_append, List.nil_append, List.getElem?_cons_zero, List.getElem?_cons_succ, List.set_cons_zero, List.set_cons_succ, List.reduceReplicate, Nat.reduceSub, Nat.reduceAdd, Nat.zero_add, Int.toNat_natCast, Bool.not_true, Bool.not_false, decide_true, decide_false, if_true, if_false, hx, fdiv_ok (h := h2) (i := cell) (j := m) m0 (by omega), p3, mod_ok (h := h2.set f (.lst [PV.ref c, .int (x + 1), .int (cell / m), .int (z + 1)])) (i := cell) (j := m) m0]
        exact fin _ _ _ _ (by omega) (by omega) q3 (t2.trans But.set) cell
      · simp (config := { implicitDefEqProofs := false }) only [Vm.evF, Vm.evSs, Vm.evS, Vm.evX, Vm.evE, Vm.evEs, Vm.evIt, Vm.evPt, Vm.Res.bind_assoc, Vm.Res.bind_ok, Vm.Res.Ok_ok, Vm.bindT, Vm.setAll, Vm.boolOf, Vm.isNon, Vm.b_add, Vm.b_sub, Vm.a_add, Vm.c_eq, Vm.c_ne, Vm.c_lt, Vm.c_le, Vm.c_gt, Vm.c_ge, Vm.Bf_len, Vm.Bf_sum, Vm.Bf_min2, Vm.wipeE, Vm.Tg.slots, Vm.lcTurn, Vm.forTurn, List.map_cons, List.map_nil, List.length_cons, List.length_nil, List.length_map, List.cons_append, List.nil_append, List.getElem?_cons_zero, List.getElem?_cons_succ, List.set_cons_zero, List.set_cons_succ, List.reduceReplicate, Nat.reduceSub, Nat.reduceAdd, Nat.zero_add, Int.toNat_natCast, Bool.not_true, Bool.not_false, decide_true, decide_false, if_true, if_false, hx]
        exact mix []
    · simp (config := { implicitDefEqProofs := false }) only [Vm.evF, Vm.evSs, Vm.evS, Vm.evX, Vm.evE, Vm.evEs, Vm.evIt, Vm.evPt, Vm.Res.bind_assoc, Vm.Res.bind_ok, Vm.Res.Ok_ok, Vm.bindT, Vm.setAll, Vm.boolOf, Vm.isNon, Vm.b_add, Vm.b_sub, Vm.a_add, Vm.c_eq, Vm.c_ne, Vm.c_lt, Vm.c_le, Vm.c_gt, Vm.c_ge, Vm.Bf_len, Vm.Bf_sum, Vm.Bf_min2, Vm.wipeE, Vm.Tg.slots, Vm.lcTurn, Vm.forTurn, List.map_cons, List.map_nil, List.length_cons, List.length_nil, List.length_map, List.cons_append, List.nil_append, List.getElem?_cons_zero, List.getElem?_cons_succ, List.set_cons_zero, List.set_cons_succ, List.reduceReplicate, Nat.reduceSub, Nat.reduceAdd, Nat.zero_add, Int.toNat_natCast, Bool.not_true, Bool.not_false, decide_true, decide_false, if_true, if_false, h18]
      exact mix []
end
end K19

set_option Elab.async false
set_option linter.all false
set_option maxRecDepth 100000
set_option maxHeartbeats 400000
namespace K19
open PySem PySem.Spec PyProof.Rows L2 Vm Rd
section
variable {h : IH} {N : Nat}
theorem p6 : (10 : Int) ^ (6 : Int).toNat = 1000000 := by decide
theorem Feed.lt {f b : Nat} (F : Feed h f b) : f < h.length := by
  obtain ⟨c, cs, x, y, z, n, e1, e2, _⟩ := F.ex
  exact (List.getElem?_eq_some_iff.mp e2).1
theorem _root_.Vm.But.setN {f a : Nat} {h h' : IH} {o : HV} (t : But f h h') (l : h.length ≤ a) : But f h (h'.set a o) := ⟨by rw [List.length_set]; exact t.1, fun i hi hf => by rw [set_other (by omega)]; exact t.2 i hi hf⟩
theorem s_great {f b : Nat} (F : Feed h f (b + 6)) (hN : 2 ≤ N) : (sem Bf ds N 12 [.ref f] h).Ok fun r h1 => ∃ v : Int, r = .int v ∧ 0 ≤ v ∧ Feed h1 f b ∧ But f h h1 := by
  obtain ⟨n, rfl, k⟩ := pre hN (by decide)
  rw [sem_at (d := d__law_great) (L := 3) (b := b__law_great) rfl rfl rfl]
  simp (config := { implicitDefEqProofs := false }) only [Vm.evF, Vm.evSs, Vm.evS, Vm.evX, Vm.evE, Vm.evEs, Vm.evIt, Vm.evPt, Vm.Res.bind_assoc, Vm.Res.bind_ok, Vm.Res.Ok_ok, Vm.bindT, Vm.setAll, Vm.boolOf, Vm.isNon, Vm.b_add, Vm.b_sub, Vm.a_add, Vm.c_eq, Vm.c_ne, Vm.c_lt, Vm.c_le, Vm.c_gt, Vm.c_ge, Vm.Bf_len, Vm.Bf_sum, Vm.Bf_min2, Vm.wipeE, Vm.Tg.slots, Vm.lcTurn, Vm.forTurn, List.map_cons, List.map_nil, List.length_cons, List.length_nil, List.length_map, List.cons_append, List.nil_append, List.getElem?_cons_zero, List.getElem?_cons_succ, List.set_cons_zero, List.set_cons_succ, List.reduceReplicate, Nat.reduceSub, Nat.reduceAdd, Nat.zero_add, Int.toNat_natCast, Bool.not_true, Bool.not_false, decide_true, decide_false, if_true, if_false, b__law_great]
  refine Res.ok_bind ((s_draw (h := h) (N := n) (b := b + 5) (m := 5) F (by omega) (by decide) (by decide)).mono fun r h1 q => ?_)
  obtain ⟨d, rfl, d0, d1, F1, t1⟩ := q
  simp (config := { implicitDefEqProofs := false }) only [Vm.evF, Vm.evSs, Vm.evS, Vm.evX, Vm.evE, Vm.evEs, Vm.evIt, Vm.evPt, Vm.Res.bind_assoc, Vm.Res.bind_ok, Vm.Res.Ok_ok, Vm.bindT, Vm.setAll, Vm.boolOf, Vm.isNon, Vm.b_add, Vm.b_sub, Vm.a_add, Vm.c_eq, Vm.c_ne, Vm.c_lt, Vm.c_le, Vm.c_gt, Vm.c_ge, Vm.Bf_len, Vm.Bf_sum, Vm.Bf_min2, Vm.wipeE, Vm.Tg.slots, Vm.lcTurn, Vm.forTurn, List.map_cons, List.map_nil, List.length_cons, List.length_nil, List.length_map, List.cons_append, List.nil_append, List.getElem?_cons_zero, List.getElem?_cons_succ, List.set_cons_zero, List.set_cons_succ, List.reduceReplicate, Nat.reduceSub, Nat.reduceAdd, Nat.zero_add, Int.toNat_natCast, Bool.not_true, Bool.not_false, decide_true, decide_false, if_true, if_false]
  rw [rng_if (by omega) (by omega)]
  simp (config := { implicitDefEqProofs := false }) only [Vm.evF, Vm.evSs, Vm.evS, Vm.evX, Vm.evE, Vm.evEs, Vm.evIt, Vm.evPt, Vm.Res.bind_assoc, Vm.Res.bind_ok, Vm.Res.Ok_ok, Vm.bindT, Vm.setAll, Vm.boolOf, Vm.isNon, Vm.b_add, Vm.b_sub, Vm.a_add, Vm.c_eq, Vm.c_ne, Vm.c_lt, Vm.c_le, Vm.c_gt, Vm.c_ge, Vm.Bf_len, Vm.Bf_sum, Vm.Bf_min2, Vm.wipeE, Vm.Tg.slots, Vm.lcTurn, Vm.forTurn, List.map_cons, List.map_nil, List.length_cons, List.length_nil, List.length_map, List.cons_append, List.nil_append, List.getElem?_cons_zero, List.getElem?_cons_succ, List.set_cons_zero, List.set_cons_succ, List.reduceReplicate, Nat.reduceSub, Nat.reduceAdd, Nat.zero_add, Int.toNat_natCast, Bool.not_true, Bool.not_false, decide_true, decide_false, if_true, if_false]
  refine Res.ok_bind ((for_inv (xs := rngs 0 (1 + d).toNat) (Q := fun o h2 => ∃ v : Int, ∃ u, o = .nx [some (.ref f), some (.int v), u] ∧ 0 ≤ v ∧ Feed h2 f b ∧ But f h h2)
    (fun k ev1 h2 => ∃ v : Int, ∃ u, ev1 = [some (.ref f), some (.int v), u] ∧ 0 ≤ v ∧ Feed h2 f (b + (5 - k)) ∧ But f h h2)
    (fun _ _ _ _ => rfl) (fun k x ev1 h2 e j => ?_) (fun ev1 h2 j => ?_) _ 0 _ h1 (by simp [Src.fuel]) (Nat.zero_le _) ⟨0, _, rfl, by decide, F1, t1⟩).mono fun o h2 q => ?_)
  · obtain ⟨hk, rfl⟩ := rngs0_at e
    obtain ⟨v, u, rfl, v0, F2, t2⟩ := j
    simp (config := { implicitDefEqProofs := false }) only [Vm.evF, Vm.evSs, Vm.evS, Vm.evX, Vm.evE, Vm.evEs, Vm.evIt, Vm.evPt, Vm.Res.bind_assoc, Vm.Res.bind_ok, Vm.Res.Ok_ok, Vm.bindT, Vm.setAll, Vm.boolOf, Vm.isNon, Vm.b_add, Vm.b_sub, Vm.a_add, Vm.c_eq, Vm.c_ne, Vm.c_lt, Vm.c_le, Vm.c_gt, Vm.c_ge, Vm.Bf_len, Vm.Bf_sum, Vm.Bf_min2, Vm.wipeE, Vm.Tg.slots, Vm.lcTurn, Vm.forTurn, List.map_cons, List.map_nil, List.length_cons, List.length_nil, List.length_map, List.cons_append, List.nil_append, List.getElem?_cons_zero, List.getElem?_cons_succ, List.set_cons_zero, List.set_cons_succ, List.reduceReplicate, Nat.reduceSub, Nat.reduceAdd, Nat.zero_add, Int.toNat_natCast, Bool.not_true, Bool.not_false, decide_true, decide_false, if_true, if_false, pow_ok (h := h2) (i := 10) (j := 6) (by decide) (by decide) (by decide) (by decide), p6, mul_r (h := h2) (i := v) (j := 1000000) (by decide) (by decide)]
    refine Res.ok_bind ((s_draw (h := h2) (N := n) (b := b + (5 - (k + 1))) (m := 1000000) (F2.le (by omega)) (by omega) (by decide) (by decide)).mono fun r h3 q => ?_)
    obtain ⟨d, rfl, d0, d1, F3, t3⟩ := q
    simp (config := { implicitDefEqProofs := false }) only [Vm.evF, Vm.evSs, Vm.evS, Vm.evX, Vm.evE, Vm.evEs, Vm.evIt, Vm.evPt, Vm.Res.bind_assoc, Vm.Res.bind_ok, Vm.Res.Ok_ok, Vm.bindT, Vm.setAll, Vm.boolOf, Vm.isNon, Vm.b_add, Vm.b_sub, Vm.a_add, Vm.c_eq, Vm.c_ne, Vm.c_lt, Vm.c_le, Vm.c_gt, Vm.c_ge, Vm.Bf_len, Vm.Bf_sum, Vm.Bf_min2, Vm.wipeE, Vm.Tg.slots, Vm.lcTurn, Vm.forTurn, List.map_cons, List.map_nil, List.length_cons, List.length_nil, List.length_map, List.cons_append, List.nil_append, List.getElem?_cons_zero, List.getElem?_cons_succ, List.set_cons_zero, List.set_cons_succ, List.reduceReplicate, Nat.reduceSub, Nat.reduceAdd, Nat.zero_add, Int.toNat_natCast, Bool.not_true, Bool.not_false, decide_true, decide_false, if_true, if_false]
    exact ⟨_, _, rfl, by omega, F3, t2.trans t3⟩
  · obtain ⟨v, u, rfl, v0, F2, t2⟩ := j
    exact ⟨v, u, rfl, v0, F2.le (by omega), t2⟩
  · obtain ⟨v, u, rfl, v0, F2, t2⟩ := q
    simp (config := { implicitDefEqProofs := false }) only [Vm.evF, Vm.evSs, Vm.evS, Vm.evX, Vm.evE, Vm.evEs, Vm.evIt, Vm.evPt, Vm.Res.bind_assoc, Vm.Res.bind_ok, Vm.Res.Ok_ok, Vm.bindT, Vm.setAll, Vm.boolOf, Vm.isNon, Vm.b_add, Vm.b_sub, Vm.a_add, Vm.c_eq, Vm.c_ne, Vm.c_lt, Vm.c_le, Vm.c_gt, Vm.c_ge, Vm.Bf_len, Vm.Bf_sum, Vm.Bf_min2, Vm.wipeE, Vm.Tg.slots, Vm.lcTurn, Vm.forTurn, List.map_cons, List.map_nil, List.length_cons, List.length_nil, List.length_map, List.cons_append, List.nil_append, List.getElem?_cons_zero, List.getElem?_cons_succ, List.set_cons_zero, List.set_cons_succ, List.reduceReplicate, Nat.reduceSub, Nat.reduceAdd, Nat.zero_add, Int.toNat_natCast, Bool.not_true, Bool.not_false, decide_true, decide_false, if_true, if_false]
    exact ⟨v, rfl, v0, F2, t2⟩
theorem s_weights {f b : Nat} (F : Feed h f (b + 20)) (hN : 2 ≤ N) : (sem Bf ds N 11 [.ref f] h).Ok fun r h1 => ∃ ws : List Int, r = tw ws ∧ Good ws ∧ Feed h1 f b ∧ But f h h1 := by
  obtain ⟨n, rfl, k⟩ := pre hN (by decide)
  rw [sem_at (d := d__law_weights) (L := 6) (b := b__law_weights) rfl rfl rfl]
  simp (config := { implicitDefEqProofs := false }) only [Vm.evF, Vm.evSs, Vm.evS, Vm.evX, Vm.evE, Vm.evEs, Vm.evIt, Vm.evPt, Vm.Res.bind_assoc, Vm.Res.bind_ok, Vm.Res.Ok_ok, Vm.bindT, Vm.setAll, Vm.boolOf, Vm.isNon, Vm.b_add, Vm.b_sub, Vm.a_add, Vm.c_eq, Vm.c_ne, Vm.c_lt, Vm.c_le, Vm.c_gt, Vm.c_ge, Vm.Bf_len, Vm.Bf_sum, Vm.Bf_min2, Vm.wipeE, Vm.Tg.slots, Vm.lcTurn, Vm.forTurn, List.map_cons, List.map_nil, List.length_cons, List.length_nil, List.length_map, List.cons_append, List.nil_append, List.getElem?_cons_zero, List.getElem?_cons_succ, List.set_cons_zero, List.set_cons_succ, List.reduceReplicate, Nat.reduceSub, Nat.reduceAdd, Nat.zero_add, Int.toNat_natCast, Bool.not_true, Bool.not_false, decide_true, decide_false, if_true, if_false, b__law_weights]
  refine Res.ok_bind ((s_draw (h := h) (N := n) (b := b + 19) (m := 8) F (by omega) (by decide) (by decide)).mono fun r h1 q => ?_)
  obtain ⟨way, rfl, w0, w1, F1, t1⟩ := q
  simp (config := { implicitDefEqProofs := false }) only [Vm.evF, Vm.evSs, Vm.evS, Vm.evX, Vm.evE, Vm.evEs, Vm.evIt, Vm.evPt, Vm.Res.bind_assoc, Vm.Res.bind_ok, Vm.Res.Ok_ok, Vm.bindT, Vm.setAll, Vm.boolOf, Vm.isNon, Vm.b_add, Vm.b_sub, Vm.a_add, Vm.c_eq, Vm.c_ne, Vm.c_lt, Vm.c_le, Vm.c_gt, Vm.c_ge, Vm.Bf_len, Vm.Bf_sum, Vm.Bf_min2, Vm.wipeE, Vm.Tg.slots, Vm.lcTurn, Vm.forTurn, List.map_cons, List.map_nil, List.length_cons, List.length_nil, List.length_map, List.cons_append, List.nil_append, List.getElem?_cons_zero, List.getElem?_cons_succ, List.set_cons_zero, List.set_cons_succ, List.reduceReplicate, Nat.reduceSub, Nat.reduceAdd, Nat.zero_add, Int.toNat_natCast, Bool.not_true, Bool.not_false, decide_true, decide_false, if_true, if_false]
  refine Res.ok_bind ((s_draw (h := h1) (N := n) (b := b + 18) (m := 6) F1 (by omega) (by decide) (by decide)).mono fun r h2 q => ?_)
  obtain ⟨m, rfl, m0, m1, F2, t2⟩ := q
  simp (config := { implicitDefEqProofs := false }) only [Vm.evF, Vm.evSs, Vm.evS, Vm.evX, Vm.evE, Vm.evEs, Vm.evIt, Vm.evPt, Vm.Res.bind_assoc, Vm.Res.bind_ok, Vm.Res.Ok_ok, Vm.bindT, Vm.setAll, Vm.boolOf, Vm.isNon, Vm.b_add, Vm.b_sub, Vm.a_add, Vm.c_eq, Vm.c_ne, Vm.c_lt, Vm.c_le, Vm.c_gt, Vm.c_ge, Vm.Bf_len, Vm.Bf_sum, Vm.Bf_min2, Vm.wipeE, Vm.Tg.slots, Vm.lcTurn, Vm.forTurn, List.map_cons, List.map_nil, List.length_cons, List.length_nil, List.length_map, List.cons_append, List.nil_append, List.getElem?_cons_zero, List.getElem?_cons_succ, List.set_cons_zero, List.set_cons_succ, List.reduceReplicate, Nat.reduceSub, Nat.reduceAdd, Nat.zero_add, Int.toNat_natCast, Bool.not_true, Bool.not_false, decide_true, decide_false, if_true, if_false, new_ok (h := h2) (xs := [PV.int 3, .int 3, .int 3, .int 6, .int 6, .int 20, .int 1, .int 1]) (by simp)]
  generalize hh3 : h2 ++ [HV.lst [PV.int 3, .int 3, .int 3, .int 6, .int 6, .int 20, .int 1, .int 1]] = h3
  have x3 : Ext h2 h3 := by rw [← hh3]; exact Ext.app _ _
  have e3 : h3[h2.length]? = some (.lst (([3, 3, 3, 6, 6, 20, 1, 1] : List Int).map PV.int)) := by rw [← hh3]; exact at_end _ _
  have F3 := F2.ext x3
  have t3 : But f h h3 := t1.trans (t2.trans (But.of x3))
  have wide : ∃ wd : Int, ([3, 3, 3, 6, 6, 20, 1, 1] : List Int).getD way.toNat 0 = wd ∧ 1 ≤ wd ∧ wd ≤ 20 := by
    have : way = 0 ∨ way = 1 ∨ way = 2 ∨ way = 3 ∨ way = 4 ∨ way = 5 ∨ way = 6 ∨ way = 7 := by omega
    rcases this with rfl | rfl | rfl | rfl | rfl | rfl | rfl | rfl <;> exact ⟨_, rfl, by decide, by decide⟩
  obtain ⟨wd, ew, wd0, wd1⟩ := wide
  simp (config := { implicitDefEqProofs := false }) only [Vm.evF, Vm.evSs, Vm.evS, Vm.evX, Vm.evE, Vm.evEs, Vm.evIt, Vm.evPt, Vm.Res.bind_assoc, Vm.Res.bind_ok, Vm.Res.Ok_ok, Vm.bindT, Vm.setAll, Vm.boolOf, Vm.isNon, Vm.b_add, Vm.b_sub, Vm.a_add, Vm.c_eq, Vm.c_ne, Vm.c_lt, Vm.c_le, Vm.c_gt, Vm.c_ge, Vm.Bf_len, Vm.Bf_sum, Vm.Bf_min2, Vm.wipeE, Vm.Tg.slots, Vm.lcTurn, Vm.forTurn, List.map_cons, List.map_nil, List.length_cons, List.length_nil, List.length_map, List.cons_append, List.nil_append, List.getElem?_cons_zero, List.getElem?_cons_succ, List.set_cons_zero, List.set_cons_succ, List.reduceReplicate, Nat.reduceSub, Nat.reduceAdd, Nat.zero_add, Int.toNat_natCast, Bool.not_true, Bool.not_false, decide_true, decide_false, if_true, if_false, ixF_ref (h := h3) (a := h2.length) (s := way) e3 w0 (by simpa using w1), ew]
  rw [rng_if (by omega) (by omega)]
  simp (config := { implicitDefEqProofs := false }) only [Vm.evF, Vm.evSs, Vm.evS, Vm.evX, Vm.evE, Vm.evEs, Vm.evIt, Vm.evPt, Vm.Res.bind_assoc, Vm.Res.bind_ok, Vm.Res.Ok_ok, Vm.bindT, Vm.setAll, Vm.boolOf, Vm.isNon, Vm.b_add, Vm.b_sub, Vm.a_add, Vm.c_eq, Vm.c_ne, Vm.c_lt, Vm.c_le, Vm.c_gt, Vm.c_ge, Vm.Bf_len, Vm.Bf_sum, Vm.Bf_min2, Vm.wipeE, Vm.Tg.slots, Vm.lcTurn, Vm.forTurn, List.map_cons, List.map_nil, List.length_cons, List.length_nil, List.length_map, List.cons_append, List.nil_append, List.getElem?_cons_zero, List.getElem?_cons_succ, List.set_cons_zero, List.set_cons_succ, List.reduceReplicate, Nat.reduceSub, Nat.reduceAdd, Nat.zero_add, Int.toNat_natCast, Bool.not_true, Bool.not_false, decide_true, decide_false, if_true, if_false]
  refine Res.ok_bind ((lc_inv (xs := rngs 0 (1 + m).toNat) (fun k acc h4 => ∃ us : List Int, acc = us.map PV.int ∧ us.length = k ∧ (∀ x ∈ us, 1 ≤ x ∧ x ≤ 20) ∧ Feed h4 f (b + (18 - k)) ∧ But f h h4)
    (fun _ _ _ _ => rfl) (by rw [rngs_len]; omega) (fun k x acc h4 e j => ?_) _ 0 [] h3 (by simp [Src.fuel]) (Nat.zero_le _) (Nat.le_refl _) ⟨[], rfl, rfl, (fun x hx => nomatch hx), F3, t3⟩).mono fun acc h4 q => ?_)
  · obtain ⟨hk, rfl⟩ := rngs0_at e
    obtain ⟨us, rfl, ul, u1, F4, t4⟩ := j
    refine Res.calm_of ?_
    simp (config := { implicitDefEqProofs := false }) only [Vm.evF, Vm.evSs, Vm.evS, Vm.evX, Vm.evE, Vm.evEs, Vm.evIt, Vm.evPt, Vm.Res.bind_assoc, Vm.Res.bind_ok, Vm.Res.Ok_ok, Vm.bindT, Vm.setAll, Vm.boolOf, Vm.isNon, Vm.b_add, Vm.b_sub, Vm.a_add, Vm.c_eq, Vm.c_ne, Vm.c_lt, Vm.c_le, Vm.c_gt, Vm.c_ge, Vm.Bf_len, Vm.Bf_sum, Vm.Bf_min2, Vm.wipeE, Vm.Tg.slots, Vm.lcTurn, Vm.forTurn, List.map_cons, List.map_nil, List.length_cons, List.length_nil, List.length_map, List.cons_append, List.nil_append, List.getElem?_cons_zero, List.getElem?_cons_succ, List.set_cons_zero, List.set_cons_succ, List.reduceReplicate, Nat.reduceSub, Nat.reduceAdd, Nat.zero_add, Int.toNat_natCast, Bool.not_true, Bool.not_false, decide_true, decide_false, if_true, if_false]
    refine Res.ok_bind ((s_draw (h := h4) (N := n) (b := b + (18 - (k + 1))) (m := wd) (F4.le (by omega)) (by omega) (by omega) (by omega)).mono fun r h5 q => ?_)
    obtain ⟨d, rfl, d0, d1, F5, t5⟩ := q
    simp (config := { implicitDefEqProofs := false }) only [Vm.evF, Vm.evSs, Vm.evS, Vm.evX, Vm.evE, Vm.evEs, Vm.evIt, Vm.evPt, Vm.Res.bind_assoc, Vm.Res.bind_ok, Vm.Res.Ok_ok, Vm.bindT, Vm.setAll, Vm.boolOf, Vm.isNon, Vm.b_add, Vm.b_sub, Vm.a_add, Vm.c_eq, Vm.c_ne, Vm.c_lt, Vm.c_le, Vm.c_gt, Vm.c_ge, Vm.Bf_len, Vm.Bf_sum, Vm.Bf_min2, Vm.wipeE, Vm.Tg.slots, Vm.lcTurn, Vm.forTurn, List.map_cons, List.map_nil, List.length_cons, List.length_nil, List.length_map, List.cons_append, List.nil_append, List.getElem?_cons_zero, List.getElem?_cons_succ, List.set_cons_zero, List.set_cons_succ, List.reduceReplicate, Nat.reduceSub, Nat.reduceAdd, Nat.zero_add, Int.toNat_natCast, Bool.not_true, Bool.not_false, decide_true, decide_false, if_true, if_false]
    refine ⟨us ++ [1 + d], by rw [List.map_append]; rfl, by simp [ul], fun x hx => ?_, F5, t4.trans t5⟩
    rcases List.mem_append.mp hx with hx | hx
    · exact u1 x hx
    · have := List.mem_singleton.mp hx
      omega
  · obtain ⟨us, rfl, ul, u1, F4, t4⟩ := q
    rw [rngs_len] at ul F4
    have gu : Good us := ⟨by omega, by omega, u1⟩
    have um : (us.length : Int) = 1 + m := by omega
    have a4 : (h4 ++ [HV.lst (us.map PV.int)])[h4.length]? = some (.lst (us.map PV.int)) := at_end _ _
    have lt := F4.lt
    have F4' := F4.ext (Ext.app h4 [HV.lst (us.map PV.int)])
    have t4' : But f h (h4 ++ [HV.lst (us.map PV.int)]) := t4.trans (But.of (Ext.app _ _))
    have nf : h4.length ≠ f := by omega
    generalize h4 ++ [HV.lst (us.map PV.int)] = h5 at a4 F4' t4'
    -- one weight for all
    have six : ∀ (Q : Fl → IH → Prop), (∀ (a : Nat) (vs : List Int) h6, Good vs → (vs.length : Int) = 1 + m → h.length ≤ a → h6[a]? = some (.lst (vs.map PV.int)) → Feed h6 f (b + 5) → But f h h6 → Q (.nx [some (.ref f), some (.int wd), some (.ref a), some (.int way), some (.int (1 + m)), none]) h6) →
        Res.Ok (match PV.bl (decide (way = 6)) with
          | .bl true => (sem Bf ds n 10 [.ref f, .int 20] h5).bind fun a h => (binF .add (.int 1) a h).bind fun a h => (new h [a]).bind fun a h => (binF .mul a (.int (1 + m)) h).bind fun a h => .ok (.nx [some (.ref f), some (.int wd), some a, some (.int way), some (.int (1 + m)), none]) h
          | .bl false => .ok (.nx [some (.ref f), some (.int wd), some (.ref h4.length), some (.int way), some (.int (1 + m)), none]) h5
          | _ => .stuck) Q := fun Q hQ => by
      by_cases hw : way = 6
      · subst hw
        simp only [decide_true]
        refine Res.ok_bind ((s_draw (h := h5) (N := n) (b := b + 5) (m := 20) (F4'.le (by omega)) (by omega) (by decide) (by decide)).mono fun r h6 q => ?_)
        obtain ⟨d, rfl, d0, d1, F6, t6⟩ := q
        simp only [b_add, Res.bind_ok, new_ok (h := h6) (xs := [PV.int (1 + d)]) (by simp), mul_one (h := h6 ++ [HV.lst [PV.int (1 + d)]]) (a := h6.length) (x := PV.int (1 + d)) (k := 1 + m) (at_end _ _) (by omega) (by omega), Res.Ok_ok]
        have lt6 := F6.lt
        have x7 : Ext h6 (h6 ++ [HV.lst [PV.int (1 + d)]] ++ [HV.lst (List.replicate (1 + m).toNat (PV.int (1 + d)))]) := (Ext.app _ _).trans (Ext.app _ _)
        refine hQ _ (List.replicate (1 + m).toNat (1 + d)) _ ⟨by rw [List.length_replicate]; omega, by rw [List.length_replicate]; omega, fun x hx => ?_⟩ (by rw [List.length_replicate]; omega) (by have := t4'.1; have := t6.1; rw [List.length_append]; omega) ?_ (F6.ext x7) (t4'.trans (t6.trans (But.of x7)))
        · have := (List.mem_replicate.mp hx).2
          omega
        · rw [at_end, List.map_replicate]
      · simp only [hw, decide_false]
        exact hQ _ us _ gu um t4.1 a4 (F4'.le (by omega)) t4'
    refine Res.ok_bind (six _ fun a vs h6 gv vm al ea F6 t6 => ?_)
    have na : a ≠ f := by have := F.lt; omega
    simp (config := { implicitDefEqProofs := false }) only [Vm.evF, Vm.evSs, Vm.evS, Vm.evX, Vm.evE, Vm.evEs, Vm.evIt, Vm.evPt, Vm.Res.bind_assoc, Vm.Res.bind_ok, Vm.Res.Ok_ok, Vm.bindT, Vm.setAll, Vm.boolOf, Vm.isNon, Vm.b_add, Vm.b_sub, Vm.a_add, Vm.c_eq, Vm.c_ne, Vm.c_lt, Vm.c_le, Vm.c_gt, Vm.c_ge, Vm.Bf_len, Vm.Bf_sum, Vm.Bf_min2, Vm.wipeE, Vm.Tg.slots, Vm.lcTurn, Vm.forTurn, List.map_cons, List.map_nil, List.length_cons, List.length_nil, List.length_map, List.cons_append, List.nil_append, List.getElem?_cons_zero, List.getElem?_cons_succ, List.set_cons_zero, List.set_cons_succ, List.reduceReplicate, Nat.reduceSub, Nat.reduceAdd, Nat.zero_add, Int.toNat_natCast, Bool.not_true, Bool.not_false, decide_true, decide_false, if_true, if_false]
    have seven : ∀ (Q : Fl → IH → Prop), (∀ (vs : List Int) h7, Good vs → h7[a]? = some (.lst (vs.map PV.int)) → Feed h7 f b → But f h h7 → Q (.nx [some (.ref f), some (.int wd), some (.ref a), some (.int way), some (.int (1 + m)), none]) h7) →
        Res.Ok (match PV.bl (decide (way = 7)) with
          | .bl true => (sem Bf ds n 10 [.ref f, .int 19] h6).bind fun a1 h => (binF .add (.int 2) a1 h).bind fun a1 h => (sem Bf ds n 10 [.ref f, .int (1 + m)] h).bind fun a2 h => (putF (.ref a) a2 a1 h).bind fun _ h => .ok (.nx [some (.ref f), some (.int wd), some (.ref a), some (.int way), some (.int (1 + m)), none]) h
          | .bl false => .ok (.nx [some (.ref f), some (.int wd), some (.ref a), some (.int way), some (.int (1 + m)), none]) h6
          | _ => .stuck) Q := fun Q hQ => by
      by_cases hw : way = 7
      · subst hw
        simp only [decide_true]
        refine Res.ok_bind ((s_draw (h := h6) (N := n) (b := b + 4) (m := 19) F6 (by omega) (by decide) (by decide)).mono fun r h8 q => ?_)
        obtain ⟨d, rfl, d0, d1, F8, t8⟩ := q
        simp only [b_add, Res.bind_ok]
        refine Res.ok_bind ((s_draw (h := h8) (N := n) (b := b + 3) (m := 1 + m) F8 (by omega) (by omega) (by omega)).mono fun r h9 q => ?_)
        obtain ⟨i, rfl, i0, i1, F9, t9⟩ := q
        have e9 : h9[a]? = some (.lst (vs.map PV.int)) := t9.get na (t8.get na ea)
        have p9 := putF_ok' (h := h9) (a := a) (j := i) (v := .int (2 + d)) e9 i0 (by rw [List.length_map]; omega)
        simp only [p9, Res.bind_ok, Res.Ok_ok]
        obtain ⟨c, cs, x, y, z, cf, c1, c2, c3, c4⟩ := F9.ex
        have ca : c ≠ a ∨ c = a := by omega
        refine hQ (vs.set i.toNat (2 + d)) _ ⟨by rw [List.length_set]; exact gv.some, by rw [List.length_set]; exact gv.few, fun x hx => ?_⟩ (by rw [set_same e9, map_set]) ?_ ?_
        · rcases List.mem_or_eq_of_mem_set hx with hx | hx
          · exact gv.each x hx
          · omega
        · rcases ca with ca | ca
          · exact ⟨c, cs, x, y, z, cf, by rw [set_other (Ne.symm ca)]; exact c1, by rw [set_other na]; exact c2, c3, by omega⟩
          · subst ca
            exact ⟨c, vs.set i.toNat (2 + d), x, y, z, cf, by rw [set_same e9, map_set], by rw [set_other na]; exact c2, c3, by omega⟩
        · exact (t6.trans (t8.trans t9)).setN al
      · simp only [hw, decide_false]
        exact hQ vs h6 gv ea (F6.le (by omega)) t6
    refine Res.ok_bind (seven _ fun vs h7 gv ea F7 t7 => ?_)
    simp (config := { implicitDefEqProofs := false }) only [Vm.evF, Vm.evSs, Vm.evS, Vm.evX, Vm.evE, Vm.evEs, Vm.evIt, Vm.evPt, Vm.Res.bind_assoc, Vm.Res.bind_ok, Vm.Res.Ok_ok, Vm.bindT, Vm.setAll, Vm.boolOf, Vm.isNon, Vm.b_add, Vm.b_sub, Vm.a_add, Vm.c_eq, Vm.c_ne, Vm.c_lt, Vm.c_le, Vm.c_gt, Vm.c_ge, Vm.Bf_len, Vm.Bf_sum, Vm.Bf_min2, Vm.wipeE, Vm.Tg.slots, Vm.lcTurn, Vm.forTurn, List.map_cons, List.map_nil, List.length_cons, List.length_nil, List.length_map, List.cons_append, List.nil_append, List.getElem?_cons_zero, List.getElem?_cons_succ, List.set_cons_zero, List.set_cons_succ, List.reduceReplicate, Nat.reduceSub, Nat.reduceAdd, Nat.zero_add, Int.toNat_natCast, Bool.not_true, Bool.not_false, decide_true, decide_false, if_true, if_false, Bf_tuple ea]
    exact ⟨vs, rfl, gv, F7, t7⟩
end
end K19

set_option Elab.async false
set_option linter.all false
set_option maxRecDepth 100000
set_option maxHeartbeats 800000
namespace K19
open PySem PySem.Spec PyProof.Rows L2 Vm Rd
section
variable {h : IH} {N : Nat}
theorem rep_getD {n i : Nat} : (List.replicate n (0 : Int)).getD i 0 = 0 := by
  rw [List.getD_eq_getElem?_getD, List.getElem?_replicate]
  split <;> rfl
theorem fm_zero {ws : List Int} : (ws.map PV.int).filterMap (fun _ => some (PV.int 0)) = (List.replicate ws.length (0 : Int)).map PV.int := by
  induction ws with
  | nil => rfl
  | cons w ws ih => rw [List.map_cons, List.filterMap_cons, ih, List.length_cons, List.replicate_succ, List.map_cons]
theorem Feed.setN {f b a : Nat} {us : List Int} {h : IH} (F : Feed h f b) (n : a ≠ f) (e : ∃ vs : List Int, h[a]? = some (.lst (vs.map PV.int))) : Feed (h.set a (.lst (us.map PV.int))) f b := by
  obtain ⟨c, cs, x, y, z, cf, c1, c2, c3, c4⟩ := F.ex
  obtain ⟨vs, e⟩ := e
  have ca : c ≠ a ∨ c = a := by omega
  rcases ca with ca | ca
  · exact ⟨c, cs, x, y, z, cf, by rw [set_other (Ne.symm ca)]; exact c1, by rw [set_other n]; exact c2, c3, c4⟩
  · subst ca
    exact ⟨c, us, x, y, z, cf, by rw [set_same e], by rw [set_other n]; exact c2, c3, c4⟩
theorem s_feed {ns : List Int} (hl : ns.length ≤ 63) (hN : 1 ≤ N) : (sem Bf ds N 9 [.fl (ns.map PV.int)] []).Ok fun r h1 => ∃ f, r = .ref f ∧ Feed h1 f 400 := by
      obtain ⟨n, rfl, k⟩ := pre hN (by decide)
      rw [sem_at (d := d__law_feed) (L := 1) (b := b__law_feed) rfl rfl rfl]
      have ec : ∀ lo hi, ∃ cs : List Int, cutP (ns.map PV.int) lo hi = cs.map PV.int ∧ cs.length ≤ 63 := fun lo hi => by
        refine ⟨(ns.drop (HT.sIx (ns.map PV.int).length 0 lo)).take (HT.sIx (ns.map PV.int).length (ns.map PV.int).length hi - HT.sIx (ns.map PV.int).length 0 lo), ?_, ?_⟩
        · unfold cutP
          rw [← List.map_drop, ← List.map_take]
        · rw [List.length_take, List.length_drop]
          omega
      obtain ⟨cs, e1, e2⟩ := ec none (some 63)
      simp (config := { implicitDefEqProofs := false }) only [Vm.evF, Vm.evSs, Vm.evS, Vm.evX, Vm.evE, Vm.evEs, Vm.evIt, Vm.evPt, Vm.Res.bind_assoc, Vm.Res.bind_ok, Vm.Res.Ok_ok, Vm.bindT, Vm.setAll, Vm.boolOf, Vm.isNon, Vm.b_add, Vm.b_sub, Vm.a_add, Vm.c_eq, Vm.c_ne, Vm.c_lt, Vm.c_le, Vm.c_gt, Vm.c_ge, Vm.Bf_len, Vm.Bf_sum, Vm.Bf_min2, Vm.wipeE, Vm.Tg.slots, Vm.lcTurn, Vm.forTurn, List.map_cons, List.map_nil, List.length_cons, List.length_nil, List.length_map, List.cons_append, List.nil_append, List.getElem?_cons_zero, List.getElem?_cons_succ, List.set_cons_zero, List.set_cons_succ, List.reduceReplicate, Nat.reduceSub, Nat.reduceAdd, Nat.zero_add, Int.toNat_natCast, Bool.not_true, Bool.not_false, decide_true, decide_false, if_true, if_false, b__law_feed, slcF, e1, new_ok (h := []) (xs := cs.map PV.int) (by rw [List.length_map]; omega), new_ok (h := [HV.lst (cs.map PV.int)]) (xs := [PV.ref 0, .int 0, .int 0, .int 0]) (by simp)]
      exact ⟨_, rfl, ⟨0, cs, 0, 0, 0, by simp, rfl, rfl, by decide, by omega⟩⟩
end
section
variable {ws : List Int} {h : IH} {N : Nat}
theorem s_is_number {i : Int} (hN : 1 ≤ N) : (sem Bf ds N 1 [.int i] h) = .ok (.bl true) h := by
  obtain ⟨n, rfl, kk⟩ := pre hN (by decide)
  rw [sem_at (d := d_is_number) (L := 1) (b := b_is_number) rfl rfl rfl]
  simp (config := { implicitDefEqProofs := false }) only [Vm.evF, Vm.evSs, Vm.evS, Vm.evX, Vm.evE, Vm.evEs, Vm.evIt, Vm.evPt, Vm.Res.bind_assoc, Vm.Res.bind_ok, Vm.Res.Ok_ok, Vm.bindT, Vm.setAll, Vm.boolOf, Vm.isNon, Vm.b_add, Vm.b_sub, Vm.a_add, Vm.c_eq, Vm.c_ne, Vm.c_lt, Vm.c_le, Vm.c_gt, Vm.c_ge, Vm.Bf_len, Vm.Bf_sum, Vm.Bf_min2, Vm.wipeE, Vm.Tg.slots, Vm.lcTurn, Vm.forTurn, List.map_cons, List.map_nil, List.length_cons, List.length_nil, List.length_map, List.cons_append, List.nil_append, List.getElem?_cons_zero, List.getElem?_cons_succ, List.set_cons_zero, List.set_cons_succ, List.reduceReplicate, Nat.reduceSub, Nat.reduceAdd, Nat.zero_add, Int.toNat_natCast, Bool.not_true, Bool.not_false, decide_true, decide_false, if_true, if_false, b_is_number, isF_int, isF_bool]
end
end K19

set_option Elab.async false
set_option linter.all false
set_option maxRecDepth 100000
set_option maxHeartbeats 4000000
namespace K19
open PySem PySem.Spec PyProof.Rows L2 Vm Rd
/-! ### the same, of the same kinds -/
inductive Pd : Nat → PV → Prop
  | int {n : Nat} {i : Int} : Pd n (.int i)
  | str {n : Nat} {z : Str} : Pd n (.str z)
  | bl {n : Nat} {b : Bool} : Pd n (.bl b)
  | tup {n : Nat} {xs : List PV} (l : xs.length ≤ 1000) (a : ∀ x ∈ xs, Pd n x) : Pd (n + 1) (.tup xs)
theorem Pd.mono {n : Nat} {x : PV} (p : Pd n x) : ∀ {m : Nat}, n ≤ m → Pd m x := by
  induction p with
  | int => exact fun _ => .int
  | str => exact fun _ => .str
  | bl => exact fun _ => .bl
  | tup l a ih =>
    intro m hm
    obtain ⟨k, rfl⟩ : ∃ k, m = k + 1 := ⟨m - 1, by omega⟩
    exact .tup l fun x hx => ih x hx (by omega)
theorem eq_bl {a b : Bool} {h : IH} : cmpF .eq (.bl a) (.bl b) h = .ok (.bl (decide (a = b))) h := by cases a <;> cases b <;> rfl
theorem ne_bl {a b : Bool} {h : IH} : cmpF .ne (.bl a) (.bl b) h = .ok (.bl (!decide (a = b))) h := by cases a <;> cases b <;> rfl
theorem eq_st {a b : Str} {h : IH} : cmpF .eq (.str a) (.str b) h = .ok (.bl (decide (a = b))) h := rfl
theorem k_int_int {i : Int} {h : IH} : isF .int (.int i) h = .ok (.bl true) h := by simp [isF, tyOf, Ty.word]
theorem k_int_bool {i : Int} {h : IH} : isF .bool (.int i) h = .ok (.bl false) h := by simp [isF, tyOf, Ty.word]
theorem k_int_str {i : Int} {h : IH} : isF .str (.int i) h = .ok (.bl false) h := by simp [isF, tyOf, Ty.word]
theorem k_int_tuple {i : Int} {h : IH} : isF .tuple (.int i) h = .ok (.bl false) h := by simp [isF, tyOf, Ty.word]
theorem k_int_list {i : Int} {h : IH} : isF .list (.int i) h = .ok (.bl false) h := by simp [isF, tyOf, Ty.word]
theorem k_int_tuple_list {i : Int} {h : IH} : isanF [.tuple, .list] (.int i) h = .ok (.bl false) h := by simp [isanF, isA, tyOf, Ty.word]
theorem k_int_bool_str {i : Int} {h : IH} : isanF [.bool, .str] (.int i) h = .ok (.bl false) h := by simp [isanF, isA, tyOf, Ty.word]
theorem k_str_int {z : Str} {h : IH} : isF .int (.str z) h = .ok (.bl false) h := by simp [isF, tyOf, Ty.word]
theorem k_str_bool {z : Str} {h : IH} : isF .bool (.str z) h = .ok (.bl false) h := by simp [isF, tyOf, Ty.word]
theorem k_str_str {z : Str} {h : IH} : isF .str (.str z) h = .ok (.bl true) h := by simp [isF, tyOf, Ty.word]
theorem k_str_tuple {z : Str} {h : IH} : isF .tuple (.str z) h = .ok (.bl false) h := by simp [isF, tyOf, Ty.word]
theorem k_str_list {z : Str} {h : IH} : isF .list (.str z) h = .ok (.bl false) h := by simp [isF, tyOf, Ty.word]
theorem k_str_tuple_list {z : Str} {h : IH} : isanF [.tuple, .list] (.str z) h = .ok (.bl false) h := by simp [isanF, isA, tyOf, Ty.word]
theorem k_str_bool_str {z : Str} {h : IH} : isanF [.bool, .str] (.str z) h = .ok (.bl true) h := by simp [isanF, isA, tyOf, Ty.word]
theorem k_bl_int {b : Bool} {h : IH} : isF .int (.bl b) h = .ok (.bl true) h := by simp [isF, tyOf, Ty.word]
theorem k_bl_bool {b : Bool} {h : IH} : isF .bool (.bl b) h = .ok (.bl true) h := by simp [isF, tyOf, Ty.word]
theorem k_bl_str {b : Bool} {h : IH} : isF .str (.bl b) h = .ok (.bl false) h := by simp [isF, tyOf, Ty.word]
theorem k_bl_tuple {b : Bool} {h : IH} : isF .tuple (.bl b) h = .ok (.bl false) h := by simp [isF, tyOf, Ty.word]
theorem k_bl_list {b : Bool} {h : IH} : isF .list (.bl b) h = .ok (.bl false) h := by simp [isF, tyOf, Ty.word]
theorem k_bl_tuple_list {b : Bool} {h : IH} : isanF [.tuple, .list] (.bl b) h = .ok (.bl false) h := by simp [isanF, isA, tyOf, Ty.word]
theorem k_bl_bool_str {b : Bool} {h : IH} : isanF [.bool, .str] (.bl b) h = .ok (.bl true) h := by simp [isanF, isA, tyOf, Ty.word]
theorem k_tup_int {xs : List PV} {h : IH} : isF .int (.tup xs) h = .ok (.bl false) h := by simp [isF, tyOf, Ty.word]
theorem k_tup_bool {xs : List PV} {h : IH} : isF .bool (.tup xs) h = .ok (.bl false) h := by simp [isF, tyOf, Ty.word]
theorem k_tup_str {xs : List PV} {h : IH} : isF .str (.tup xs) h = .ok (.bl false) h := by simp [isF, tyOf, Ty.word]
theorem k_tup_tuple {xs : List PV} {h : IH} : isF .tuple (.tup xs) h = .ok (.bl true) h := by simp [isF, tyOf, Ty.word]
theorem k_tup_list {xs : List PV} {h : IH} : isF .list (.tup xs) h = .ok (.bl false) h := by simp [isF, tyOf, Ty.word]
theorem k_tup_tuple_list {xs : List PV} {h : IH} : isanF [.tuple, .list] (.tup xs) h = .ok (.bl true) h := by simp [isanF, isA, tyOf, Ty.word]
theorem k_tup_bool_str {xs : List PV} {h : IH} : isanF [.bool, .str] (.tup xs) h = .ok (.bl false) h := by simp [isanF, isA, tyOf, Ty.word]
theorem bs_rep {n : Nat} : bsOf (List.replicate n (PV.bl true)) = some (List.replicate n true) := by
  induction n with
  | zero => rfl
  | succ n ih => rw [List.replicate_succ, List.replicate_succ, bsOf, ih]; rfl
theorem all_rep {h : IH} {a n : Nat} (e : h[a]? = some (.lst (List.replicate n (.bl true)))) : Bf 11 [.ref a] h = .ok (.bl true) h := by
  show biAll [.ref a] h = _
  simp only [biAll, e, bs_rep]
  congr 2
  rw [List.all_eq_true]
  intro x hx
  rw [(List.mem_replicate.mp hx).2]
  rfl
theorem zipT_at {xs : List PV} {k : Nat} {x : PV} (e : (zipT xs xs)[k]? = some x) : ∃ y ∈ xs, x = .tup [y, y] := by
  unfold zipT at e
  rw [List.getElem?_zipWith] at e
  cases q : xs[k]? with
  | none => rw [q] at e; cases e
  | some y =>
    rw [q] at e
    cases e
    exact ⟨y, List.mem_of_getElem? q, rfl⟩
theorem zipT_len {xs : List PV} : (zipT xs xs).length = xs.length := by unfold zipT; rw [List.length_zipWith, Nat.min_self]
theorem fm_true {l : List PV} : l.filterMap (fun _ => some (PV.bl true)) = List.replicate l.length (.bl true) := by
  induction l with
  | nil => rfl
  | cons x l ih => rw [List.filterMap_cons, ih]; rfl
theorem s_alike {n : Nat} : ∀ {x : PV} {N : Nat} {h : IH}, Pd n x → n + 1 ≤ N → (sem Bf ds N 13 [x, x] h).Ok fun r h1 => r = .bl true ∧ Ext h h1 := by
  induction n with
  | zero =>
    intro x N h p hN
    obtain ⟨n, rfl, k⟩ := pre hN (by omega)
    rw [sem_at (d := d__law_alike) (L := 4) (b := b__law_alike) rfl rfl rfl]
    cases p with
    | int =>
      simp (config := { implicitDefEqProofs := false }) only [Vm.evF, Vm.evSs, Vm.evS, Vm.evX, Vm.evE, Vm.evEs, Vm.evIt, Vm.evPt, Vm.Res.bind_assoc, Vm.Res.bind_ok, Vm.Res.Ok_ok, Vm.bindT, Vm.setAll, Vm.boolOf, Vm.isNon, Vm.b_add, Vm.b_sub, Vm.a_add, Vm.c_eq, Vm.c_ne, Vm.c_lt, Vm.c_le, Vm.c_gt, Vm.c_ge, Vm.Bf_len, Vm.Bf_sum, Vm.Bf_min2, Vm.wipeE, Vm.Tg.slots, Vm.lcTurn, Vm.forTurn, List.map_cons, List.map_nil, List.length_cons, List.length_nil, List.length_map, List.cons_append, List.nil_append, List.getElem?_cons_zero, List.getElem?_cons_succ, List.set_cons_zero, List.set_cons_succ, List.reduceReplicate, Nat.reduceSub, Nat.reduceAdd, Nat.zero_add, Int.toNat_natCast, Bool.not_true, Bool.not_false, decide_true, decide_false, if_true, if_false, b__law_alike, k_int_int, k_int_bool, k_int_str, k_int_tuple, k_int_list, k_int_tuple_list, k_int_bool_str]
      exact ⟨by simp, Ext.refl _⟩
    | str =>
      simp (config := { implicitDefEqProofs := false }) only [Vm.evF, Vm.evSs, Vm.evS, Vm.evX, Vm.evE, Vm.evEs, Vm.evIt, Vm.evPt, Vm.Res.bind_assoc, Vm.Res.bind_ok, Vm.Res.Ok_ok, Vm.bindT, Vm.setAll, Vm.boolOf, Vm.isNon, Vm.b_add, Vm.b_sub, Vm.a_add, Vm.c_eq, Vm.c_ne, Vm.c_lt, Vm.c_le, Vm.c_gt, Vm.c_ge, Vm.Bf_len, Vm.Bf_sum, Vm.Bf_min2, Vm.wipeE, Vm.Tg.slots, Vm.lcTurn, Vm.forTurn, List.map_cons, List.map_nil, List.length_cons, List.length_nil, List.length_map, List.cons_append, List.nil_append, List.getElem?_cons_zero, List.getElem?_cons_succ, List.set_cons_zero, List.set_cons_succ, List.reduceReplicate, Nat.reduceSub, Nat.reduceAdd, Nat.zero_add, Int.toNat_natCast, Bool.not_true, Bool.not_false, decide_true, decide_false, if_true, if_false, b__law_alike, k_str_int, k_str_bool, k_str_str, k_str_tuple, k_str_list, k_str_tuple_list, k_str_bool_str, eq_bl, eq_st]
      exact ⟨by simp, Ext.refl _⟩
    | bl =>
      simp (config := { implicitDefEqProofs := false }) only [Vm.evF, Vm.evSs, Vm.evS, Vm.evX, Vm.evE, Vm.evEs, Vm.evIt, Vm.evPt, Vm.Res.bind_assoc, Vm.Res.bind_ok, Vm.Res.Ok_ok, Vm.bindT, Vm.setAll, Vm.boolOf, Vm.isNon, Vm.b_add, Vm.b_sub, Vm.a_add, Vm.c_eq, Vm.c_ne, Vm.c_lt, Vm.c_le, Vm.c_gt, Vm.c_ge, Vm.Bf_len, Vm.Bf_sum, Vm.Bf_min2, Vm.wipeE, Vm.Tg.slots, Vm.lcTurn, Vm.forTurn, List.map_cons, List.map_nil, List.length_cons, List.length_nil, List.length_map, List.cons_append, List.nil_append, List.getElem?_cons_zero, List.getElem?_cons_succ, List.set_cons_zero, List.set_cons_succ, List.reduceReplicate, Nat.reduceSub, Nat.reduceAdd, Nat.zero_add, Int.toNat_natCast, Bool.not_true, Bool.not_false, decide_true, decide_false, if_true, if_false, b__law_alike, k_bl_int, k_bl_bool, k_bl_str, k_bl_tuple, k_bl_list, k_bl_tuple_list, k_bl_bool_str, eq_bl]
      exact ⟨by simp, Ext.refl _⟩
  | succ m ih =>
    intro x N h p hN
    obtain ⟨n, rfl, k⟩ := pre hN (by omega)
    cases p with
    | int =>
      rw [sem_at (d := d__law_alike) (L := 4) (b := b__law_alike) rfl rfl rfl]
      simp (config := { implicitDefEqProofs := false }) only [Vm.evF, Vm.evSs, Vm.evS, Vm.evX, Vm.evE, Vm.evEs, Vm.evIt, Vm.evPt, Vm.Res.bind_assoc, Vm.Res.bind_ok, Vm.Res.Ok_ok, Vm.bindT, Vm.setAll, Vm.boolOf, Vm.isNon, Vm.b_add, Vm.b_sub, Vm.a_add, Vm.c_eq, Vm.c_ne, Vm.c_lt, Vm.c_le, Vm.c_gt, Vm.c_ge, Vm.Bf_len, Vm.Bf_sum, Vm.Bf_min2, Vm.wipeE, Vm.Tg.slots, Vm.lcTurn, Vm.forTurn, List.map_cons, List.map_nil, List.length_cons, List.length_nil, List.length_map, List.cons_append, List.nil_append, List.getElem?_cons_zero, List.getElem?_cons_succ, List.set_cons_zero, List.set_cons_succ, List.reduceReplicate, Nat.reduceSub, Nat.reduceAdd, Nat.zero_add, Int.toNat_natCast, Bool.not_true, Bool.not_false, decide_true, decide_false, if_true, if_false, b__law_alike, k_int_int, k_int_bool, k_int_str, k_int_tuple, k_int_list, k_int_tuple_list, k_int_bool_str]
      exact ⟨by simp, Ext.refl _⟩
    | str =>
      rw [sem_at (d := d__law_alike) (L := 4) (b := b__law_alike) rfl rfl rfl]
      simp (config := { implicitDefEqProofs := false }) only [Vm.evF, Vm.evSs, Vm.evS, Vm.evX, Vm.evE, Vm.evEs, Vm.evIt, Vm.evPt, Vm.Res.bind_assoc, Vm.Res.bind_ok, Vm.Res.Ok_ok, Vm.bindT, Vm.setAll, Vm.boolOf, Vm.isNon, Vm.b_add, Vm.b_sub, Vm.a_add, Vm.c_eq, Vm.c_ne, Vm.c_lt, Vm.c_le, Vm.c_gt, Vm.c_ge, Vm.Bf_len, Vm.Bf_sum, Vm.Bf_min2, Vm.wipeE, Vm.Tg.slots, Vm.lcTurn, Vm.forTurn, List.map_cons, List.map_nil, List.length_cons, List.length_nil, List.length_map, List.cons_append, List.nil_append, List.getElem?_cons_zero, List.getElem?_cons_succ, List.set_cons_zero, List.set_cons_succ, List.reduceReplicate, Nat.reduceSub, Nat.reduceAdd, Nat.zero_add, Int.toNat_natCast, Bool.not_true, Bool.not_false, decide_true, decide_false, if_true, if_false, b__law_alike, k_str_int, k_str_bool, k_str_str, k_str_tuple, k_str_list, k_str_tuple_list, k_str_bool_str, eq_bl, eq_st]
      exact ⟨by simp, Ext.refl _⟩
    | bl =>
      rw [sem_at (d := d__law_alike) (L := 4) (b := b__law_alike) rfl rfl rfl]
      simp (config := { implicitDefEqProofs := false }) only [Vm.evF, Vm.evSs, Vm.evS, Vm.evX, Vm.evE, Vm.evEs, Vm.evIt, Vm.evPt, Vm.Res.bind_assoc, Vm.Res.bind_ok, Vm.Res.Ok_ok, Vm.bindT, Vm.setAll, Vm.boolOf, Vm.isNon, Vm.b_add, Vm.b_sub, Vm.a_add, Vm.c_eq, Vm.c_ne, Vm.c_lt, Vm.c_le, Vm.c_gt, Vm.c_ge, Vm.Bf_len, Vm.Bf_sum, Vm.Bf_min2, Vm.wipeE, Vm.Tg.slots, Vm.lcTurn, Vm.forTurn, List.map_cons, List.map_nil, List.length_cons, List.length_nil, List.length_map, List.cons_append, List.nil_append, List.getElem?_cons_zero, List.getElem?_cons_succ, List.set_cons_zero, List.set_cons_succ, List.reduceReplicate, Nat.reduceSub, Nat.reduceAdd, Nat.zero_add, Int.toNat_natCast, Bool.not_true, Bool.not_false, decide_true, decide_false, if_true, if_false, b__law_alike, k_bl_int, k_bl_bool, k_bl_str, k_bl_tuple, k_bl_list, k_bl_tuple_list, k_bl_bool_str, eq_bl]
      exact ⟨by simp, Ext.refl _⟩
    | @tup _ xs l a =>
      rw [sem_at (d := d__law_alike) (L := 4) (b := b__law_alike) rfl rfl rfl]
      simp (config := { implicitDefEqProofs := false }) only [Vm.evF, Vm.evSs, Vm.evS, Vm.evX, Vm.evE, Vm.evEs, Vm.evIt, Vm.evPt, Vm.Res.bind_assoc, Vm.Res.bind_ok, Vm.Res.Ok_ok, Vm.bindT, Vm.setAll, Vm.boolOf, Vm.isNon, Vm.b_add, Vm.b_sub, Vm.a_add, Vm.c_eq, Vm.c_ne, Vm.c_lt, Vm.c_le, Vm.c_gt, Vm.c_ge, Vm.Bf_len, Vm.Bf_sum, Vm.Bf_min2, Vm.wipeE, Vm.Tg.slots, Vm.lcTurn, Vm.forTurn, List.map_cons, List.map_nil, List.length_cons, List.length_nil, List.length_map, List.cons_append, List.nil_append, List.getElem?_cons_zero, List.getElem?_cons_succ, List.set_cons_zero, List.set_cons_succ, List.reduceReplicate, Nat.reduceSub, Nat.reduceAdd, Nat.zero_add, Int.toNat_natCast, Bool.not_true, Bool.not_false, decide_true, decide_false, if_true, if_false, b__law_alike, k_tup_int, k_tup_bool, k_tup_str, k_tup_tuple, k_tup_list, k_tup_tuple_list, k_tup_bool_str, ne_bl, zipF]
      refine Res.ok_bind ((lc_pure (xs := zipT xs xs) (h0 := h) (fun _ => some (PV.bl true)) get_items (by simp [Src.fuel]) (by rw [zipT_len]; omega) (fun i x h2 e x2 => ?_)).mono fun acc h2 q => ?_)
      · obtain ⟨y, hy, rfl⟩ := zipT_at e
        refine Res.calm_of ?_
        simp (config := { implicitDefEqProofs := false }) only [Vm.evF, Vm.evSs, Vm.evS, Vm.evX, Vm.evE, Vm.evEs, Vm.evIt, Vm.evPt, Vm.Res.bind_assoc, Vm.Res.bind_ok, Vm.Res.Ok_ok, Vm.bindT, Vm.setAll, Vm.boolOf, Vm.isNon, Vm.b_add, Vm.b_sub, Vm.a_add, Vm.c_eq, Vm.c_ne, Vm.c_lt, Vm.c_le, Vm.c_gt, Vm.c_ge, Vm.Bf_len, Vm.Bf_sum, Vm.Bf_min2, Vm.wipeE, Vm.Tg.slots, Vm.lcTurn, Vm.forTurn, List.map_cons, List.map_nil, List.length_cons, List.length_nil, List.length_map, List.cons_append, List.nil_append, List.getElem?_cons_zero, List.getElem?_cons_succ, List.set_cons_zero, List.set_cons_succ, List.reduceReplicate, Nat.reduceSub, Nat.reduceAdd, Nat.zero_add, Int.toNat_natCast, Bool.not_true, Bool.not_false, decide_true, decide_false, if_true, if_false, rd]
        refine Res.ok_bind ((ih (h := h2) (N := n) (a y hy) (by omega)).mono fun r h3 q => ?_)
        obtain ⟨rfl, x3⟩ := q
        try simp (config := { implicitDefEqProofs := false }) only [Vm.evF, Vm.evSs, Vm.evS, Vm.evX, Vm.evE, Vm.evEs, Vm.evIt, Vm.evPt, Vm.Res.bind_assoc, Vm.Res.bind_ok, Vm.Res.Ok_ok, Vm.bindT, Vm.setAll, Vm.boolOf, Vm.isNon, Vm.b_add, Vm.b_sub, Vm.a_add, Vm.c_eq, Vm.c_ne, Vm.c_lt, Vm.c_le, Vm.c_gt, Vm.c_ge, Vm.Bf_len, Vm.Bf_sum, Vm.Bf_min2, Vm.wipeE, Vm.Tg.slots, Vm.lcTurn, Vm.forTurn, List.map_cons, List.map_nil, List.length_cons, List.length_nil, List.length_map, List.cons_append, List.nil_append, List.getElem?_cons_zero, List.getElem?_cons_succ, List.set_cons_zero, List.set_cons_succ, List.reduceReplicate, Nat.reduceSub, Nat.reduceAdd, Nat.zero_add, Int.toNat_natCast, Bool.not_true, Bool.not_false, decide_true, decide_false, if_true, if_false]
        exact ⟨trivial, x2.trans x3⟩
      · obtain ⟨rfl, x2⟩ := q
        rw [fm_true]
        simp (config := { implicitDefEqProofs := false }) only [Vm.evF, Vm.evSs, Vm.evS, Vm.evX, Vm.evE, Vm.evEs, Vm.evIt, Vm.evPt, Vm.Res.bind_assoc, Vm.Res.bind_ok, Vm.Res.Ok_ok, Vm.bindT, Vm.setAll, Vm.boolOf, Vm.isNon, Vm.b_add, Vm.b_sub, Vm.a_add, Vm.c_eq, Vm.c_ne, Vm.c_lt, Vm.c_le, Vm.c_gt, Vm.c_ge, Vm.Bf_len, Vm.Bf_sum, Vm.Bf_min2, Vm.wipeE, Vm.Tg.slots, Vm.lcTurn, Vm.forTurn, List.map_cons, List.map_nil, List.length_cons, List.length_nil, List.length_map, List.cons_append, List.nil_append, List.getElem?_cons_zero, List.getElem?_cons_succ, List.set_cons_zero, List.set_cons_succ, List.reduceReplicate, Nat.reduceSub, Nat.reduceAdd, Nat.zero_add, Int.toNat_natCast, Bool.not_true, Bool.not_false, decide_true, decide_false, if_true, if_false, all_rep (at_end h2 (HV.lst (List.replicate (zipT xs xs).length (PV.bl true))))]
        exact ⟨trivial, x2.trans (Ext.app _ _)⟩
end K19

set_option Elab.async false
set_option linter.all false
set_option maxRecDepth 100000
set_option maxHeartbeats 4000000
namespace K19
open PySem PySem.Spec PyProof.Rows L2 Vm Rd
/-! ### odd things -/
section
variable {h : IH} {N : Nat}
theorem ix_some {h : IH} {r : Nat} {ys : List PV} {w : Int} (e : h[r]? = some (.lst ys)) (w0 : 0 ≤ w) (w1 : w < ys.length) : ∃ y ∈ ys, ixF (.ref r) (.int w) h = .ok y h := by
  have lt : w.toNat < ys.length := by omega
  exact ⟨ys[w.toNat], List.getElem_mem lt, ixF_rd (rd_ref e) w0 (List.getElem?_eq_getElem lt)⟩
theorem sign_some {h : IH} {j : Int} (j0 : 0 ≤ j) (j1 : j < 13) : ∃ z, Tk 1 z ∧ ixF (.str "abmyz A0-_`{~") (.int j) h = .ok (.str z) h := by
  have key : ∀ k : Nat, k < 13 → ∃ c, (("abmyz A0-_`{~" : Str).cps.toList)[k]? = some c ∧ c < 1114112 := by decide +kernel
  obtain ⟨c, e, l⟩ := key j.toNat (by omega)
  refine ⟨⟨#[c]⟩, ⟨by show (1 : Nat) ≤ 1; decide, fun x hx => ?_⟩, ?_⟩
  · have : x = c := by simpa using hx
    omega
  · have ea : atI (("abmyz A0-_`{~" : Str).cps.toList) j = some c := by
      have := atI_nat (j := j.toNat) e
      rw [Int.toNat_of_nonneg j0] at this
      exact this
    have sl : (("abmyz A0-_`{~" : Str).length) ≤ sizeLine := by rw [sizeLine_eq]; decide +kernel
    simp only [ixF, ea]
    rw [if_pos sl]
theorem kd_is {x : PV} {n c t f : Nat} (d : Dd f h c t n x) : tyOf h x = some (kdP x) := d.ty
/-- what stands for a truth or nothing -/
theorem menu {h : IH} : ∃ h2, Ext h h2 ∧ new h [PV.non, .int 0, .int 1, .str "a", .tup [], .bl true, .bl false, .int (-1)] = .ok (.ref h.length) h2 ∧ h2[h.length]? = some (.lst [PV.non, .int 0, .int 1, .str "a", .tup [], .bl true, .bl false, .int (-1)]) :=
  ⟨_, Ext.app _ _, new_ok (by decide), at_end _ _⟩
theorem a_str {f c t n : Nat} {h : IH} (l : 1 ≤ t) : Dd f h c t n (.str "a") := .str l (by decide +kernel)
theorem menu_dd {f c t n : Nat} {h : IH} {y : PV} (hy : y ∈ [PV.non, .int 0, .int 1, .str "a", .tup [], .bl true, .bl false, .int (-1)]) : Dd f h (c + 1) (2 * t + 1) (n + 1) y := by
  simp only [List.mem_cons, List.not_mem_nil, or_false] at hy
  rcases hy with rfl | rfl | rfl | rfl | rfl | rfl | rfl | rfl
  · exact .non
  · exact Dd.small (by decide)
  · exact Dd.small (by decide)
  · exact a_str (by omega)
  · exact .tup (Nat.zero_le _) fun _ q => nomatch q
  · exact .bl
  · exact .bl
  · exact Dd.small (by decide)
theorem s_odd {f b c t n : Nat} {x : PV} (F : Feed h f (b + 3)) (d : Dd f h c t n x) (hc : c ≤ 100000) (ht : t ≤ 1000) (hN : 2 ≤ N) : (sem Bf ds N 14 [.ref f, x] h).Ok fun r h1 => Dd f h1 (c + 1) (2 * t + 1) (n + 1) r ∧ Feed h1 f b ∧ But f h h1 := by
  obtain ⟨N, rfl, k⟩ := pre hN (by decide)
  rw [sem_at (d := d__law_odd) (L := 8) (b := b__law_odd) rfl rfl rfl]
  simp (config := { implicitDefEqProofs := false }) only [Vm.evF, Vm.evSs, Vm.evS, Vm.evX, Vm.evE, Vm.evEs, Vm.evIt, Vm.evPt, Vm.Res.bind_assoc, Vm.Res.bind_ok, Vm.Res.Ok_ok, Vm.bindT, Vm.setAll, Vm.boolOf, Vm.isNon, Vm.b_add, Vm.b_sub, Vm.a_add, Vm.c_eq, Vm.c_ne, Vm.c_lt, Vm.c_le, Vm.c_gt, Vm.c_ge, Vm.Bf_len, Vm.Bf_sum, Vm.Bf_min2, Vm.wipeE, Vm.Tg.slots, Vm.lcTurn, Vm.forTurn, List.map_cons, List.map_nil, List.length_cons, List.length_nil, List.length_map, List.cons_append, List.nil_append, List.getElem?_cons_zero, List.getElem?_cons_succ, List.set_cons_zero, List.set_cons_succ, List.reduceReplicate, Nat.reduceSub, Nat.reduceAdd, Nat.zero_add, Int.toNat_natCast, Bool.not_true, Bool.not_false, decide_true, decide_false, if_true, if_false, b__law_odd]
  refine Res.ok_bind ((s_draw (h := h) (N := N) (b := b + 2) (m := 8) F (by omega) (by decide) (by decide)).mono fun r h1 q => ?_)
  obtain ⟨w, rfl, w0, w1, F1, t1⟩ := q
  have d1 := d.but t1
  clear d F
  cases d1 with
  | @ref m a xs af e l k =>
    have il : isF .list (.ref a) h1 = .ok (.bl true) h1 := by simp [isF, tyOf, e, Ty.word]
    simp (config := { implicitDefEqProofs := false }) only [Vm.evF, Vm.evSs, Vm.evS, Vm.evX, Vm.evE, Vm.evEs, Vm.evIt, Vm.evPt, Vm.Res.bind_assoc, Vm.Res.bind_ok, Vm.Res.Ok_ok, Vm.bindT, Vm.setAll, Vm.boolOf, Vm.isNon, Vm.b_add, Vm.b_sub, Vm.a_add, Vm.c_eq, Vm.c_ne, Vm.c_lt, Vm.c_le, Vm.c_gt, Vm.c_ge, Vm.Bf_len, Vm.Bf_sum, Vm.Bf_min2, Vm.wipeE, Vm.Tg.slots, Vm.lcTurn, Vm.forTurn, List.map_cons, List.map_nil, List.length_cons, List.length_nil, List.length_map, List.cons_append, List.nil_append, List.getElem?_cons_zero, List.getElem?_cons_succ, List.set_cons_zero, List.set_cons_succ, List.reduceReplicate, Nat.reduceSub, Nat.reduceAdd, Nat.zero_add, Int.toNat_natCast, Bool.not_true, Bool.not_false, decide_true, decide_false, if_true, if_false, il, Bf_tuple e]
    exact ⟨.tup (by omega) fun y hy => (k y hy).up (by omega) (by omega) (by omega), F1.le (by omega), t1⟩
  | @tup m xs l k =>
    simp (config := { implicitDefEqProofs := false }) only [Vm.evF, Vm.evSs, Vm.evS, Vm.evX, Vm.evE, Vm.evEs, Vm.evIt, Vm.evPt, Vm.Res.bind_assoc, Vm.Res.bind_ok, Vm.Res.Ok_ok, Vm.bindT, Vm.setAll, Vm.boolOf, Vm.isNon, Vm.b_add, Vm.b_sub, Vm.a_add, Vm.c_eq, Vm.c_ne, Vm.c_lt, Vm.c_le, Vm.c_gt, Vm.c_ge, Vm.Bf_len, Vm.Bf_sum, Vm.Bf_min2, Vm.wipeE, Vm.Tg.slots, Vm.lcTurn, Vm.forTurn, List.map_cons, List.map_nil, List.length_cons, List.length_nil, List.length_map, List.cons_append, List.nil_append, List.getElem?_cons_zero, List.getElem?_cons_succ, List.set_cons_zero, List.set_cons_succ, List.reduceReplicate, Nat.reduceSub, Nat.reduceAdd, Nat.zero_add, Int.toNat_natCast, Bool.not_true, Bool.not_false, decide_true, decide_false, if_true, if_false, k_tup_list, k_tup_tuple]
    have lf := F1.lt
    refine Res.ok_bind ((s_draw (h := h1) (N := N) (b := b + 1) (m := xs.length + 1) F1 (by omega) (by omega) (by omega)).mono fun r h2 q => ?_)
    obtain ⟨at', rfl, a0, a1, F2, t2⟩ := q
    try simp (config := { implicitDefEqProofs := false }) only [Vm.evF, Vm.evSs, Vm.evS, Vm.evX, Vm.evE, Vm.evEs, Vm.evIt, Vm.evPt, Vm.Res.bind_assoc, Vm.Res.bind_ok, Vm.Res.Ok_ok, Vm.bindT, Vm.setAll, Vm.boolOf, Vm.isNon, Vm.b_add, Vm.b_sub, Vm.a_add, Vm.c_eq, Vm.c_ne, Vm.c_lt, Vm.c_le, Vm.c_gt, Vm.c_ge, Vm.Bf_len, Vm.Bf_sum, Vm.Bf_min2, Vm.wipeE, Vm.Tg.slots, Vm.lcTurn, Vm.forTurn, List.map_cons, List.map_nil, List.length_cons, List.length_nil, List.length_map, List.cons_append, List.nil_append, List.getElem?_cons_zero, List.getElem?_cons_succ, List.set_cons_zero, List.set_cons_succ, List.reduceReplicate, Nat.reduceSub, Nat.reduceAdd, Nat.zero_add, Int.toNat_natCast, Bool.not_true, Bool.not_false, decide_true, decide_false, if_true, if_false]
    refine Res.ok_bind ((s_draw (h := h2) (N := N) (b := b) (m := xs.length + 1) F2 (by omega) (by omega) (by omega)).mono fun r h3 q => ?_)
    obtain ⟨by', rfl, b0, b1, F3, t3⟩ := q
    have k3 : ∀ y ∈ xs, Dd f h3 c t m y := fun y hy => (k y hy).but (t2.trans t3)
    have t13 := t1.trans (t2.trans t3)
    clear k F1 F2 t1 t2 t3
    have slc : ∀ {lo hi h'}, slcF (.tup xs) lo hi h' = .ok (.tup (cutP xs lo hi)) h' := rfl
    have l1 := (cut_len (xs := xs) (lo := none) (hi := some at')).1
    have l2 := (cut_len (xs := xs) (lo := some at') (hi := some (at' + 1))).1
    have l3 := (cut_len (xs := xs) (lo := some at') (hi := none)).2
    have l4 := (cut_len (xs := xs) (lo := some (at' + 1)) (hi := none)).2
    have l5 := (cut_len (xs := xs) (lo := some by') (hi := none)).2
    have l6 := (cut_len (xs := xs) (lo := none) (hi := some by')).1
    rw [sIx_pos a0] at l1 l2 l3
    rw [sIx_pos (show 0 ≤ at' + 1 by omega)] at l2 l4
    rw [sIx_pos b0] at l5 l6
    have s0 : HT.sIx xs.length 0 none = 0 := rfl
    rw [s0] at l1 l6
    have m1 : ∀ {lo hi : Option Int} {y : PV}, y ∈ cutP xs lo hi → Dd f h3 c t m y := fun hy => k3 _ (cut_mem hy)
    have i1 : ∀ y ∈ cutP xs none (some at'), Dd f h3 c t m y := fun y hy => k3 y (cut_mem hy)
    have i2 : ∀ y ∈ cutP xs (some at') (some (at' + 1)), Dd f h3 c t m y := fun y hy => k3 y (cut_mem hy)
    have i3 : ∀ y ∈ cutP xs (some at') none, Dd f h3 c t m y := fun y hy => k3 y (cut_mem hy)
    have i4 : ∀ y ∈ cutP xs (some (at' + 1)) none, Dd f h3 c t m y := fun y hy => k3 y (cut_mem hy)
    have i5 : ∀ y ∈ cutP xs (some by') none, Dd f h3 c t m y := fun y hy => k3 y (cut_mem hy)
    have i6 : ∀ y ∈ cutP xs none (some by'), Dd f h3 c t m y := fun y hy => k3 y (cut_mem hy)
    have rv : ∀ {h'}, revF (.tup xs) h' = .ok (.tup xs.reverse) h' := rfl
    simp (config := { implicitDefEqProofs := false }) only [Vm.evF, Vm.evSs, Vm.evS, Vm.evX, Vm.evE, Vm.evEs, Vm.evIt, Vm.evPt, Vm.Res.bind_assoc, Vm.Res.bind_ok, Vm.Res.Ok_ok, Vm.bindT, Vm.setAll, Vm.boolOf, Vm.isNon, Vm.b_add, Vm.b_sub, Vm.a_add, Vm.c_eq, Vm.c_ne, Vm.c_lt, Vm.c_le, Vm.c_gt, Vm.c_ge, Vm.Bf_len, Vm.Bf_sum, Vm.Bf_min2, Vm.wipeE, Vm.Tg.slots, Vm.lcTurn, Vm.forTurn, List.map_cons, List.map_nil, List.length_cons, List.length_nil, List.length_map, List.cons_append, List.nil_append, List.getElem?_cons_zero, List.getElem?_cons_succ, List.set_cons_zero, List.set_cons_succ, List.reduceReplicate, Nat.reduceSub, Nat.reduceAdd, Nat.zero_add, Int.toNat_natCast, Bool.not_true, Bool.not_false, decide_true, decide_false, if_true, if_false, slc, rv]
    generalize cutP xs none (some at') = p1 at l1 i1
    generalize cutP xs (some at') (some (at' + 1)) = p2 at l2 i2
    generalize cutP xs (some at') none = p3 at l3 i3
    generalize cutP xs (some (at' + 1)) none = p4 at l4 i4
    generalize cutP xs (some by') none = p5 at l5 i5
    generalize cutP xs none (some by') = p6 at l6 i6
    have bl := Bf_list (xs := xs) (h := h3) (by omega)
    have x4 := Ext.app h3 [HV.lst xs]
    have e4 := at_end h3 (HV.lst xs)
    have nf : h3.length ≠ f := by have := F3.lt; omega
    simp (config := { implicitDefEqProofs := false }) only [Vm.evF, Vm.evSs, Vm.evS, Vm.evX, Vm.evE, Vm.evEs, Vm.evIt, Vm.evPt, Vm.Res.bind_assoc, Vm.Res.bind_ok, Vm.Res.Ok_ok, Vm.bindT, Vm.setAll, Vm.boolOf, Vm.isNon, Vm.b_add, Vm.b_sub, Vm.a_add, Vm.c_eq, Vm.c_ne, Vm.c_lt, Vm.c_le, Vm.c_gt, Vm.c_ge, Vm.Bf_len, Vm.Bf_sum, Vm.Bf_min2, Vm.wipeE, Vm.Tg.slots, Vm.lcTurn, Vm.forTurn, List.map_cons, List.map_nil, List.length_cons, List.length_nil, List.length_map, List.cons_append, List.nil_append, List.getElem?_cons_zero, List.getElem?_cons_succ, List.set_cons_zero, List.set_cons_succ, List.reduceReplicate, Nat.reduceSub, Nat.reduceAdd, Nat.zero_add, Int.toNat_natCast, Bool.not_true, Bool.not_false, decide_true, decide_false, if_true, if_false, tup_add (h := h3) (xs := p1) (ys := p2) (by omega), tup_add (h := h3) (xs := p1 ++ p2) (ys := p3) (by rw [List.length_append]; omega), bl]
    generalize h3.length = A at e4 nf bl
    generalize h3 ++ [HV.lst xs] = h4 at e4 x4 bl
    simp (config := { implicitDefEqProofs := false }) only [Vm.evF, Vm.evSs, Vm.evS, Vm.evX, Vm.evE, Vm.evEs, Vm.evIt, Vm.evPt, Vm.Res.bind_assoc, Vm.Res.bind_ok, Vm.Res.Ok_ok, Vm.bindT, Vm.setAll, Vm.boolOf, Vm.isNon, Vm.b_add, Vm.b_sub, Vm.a_add, Vm.c_eq, Vm.c_ne, Vm.c_lt, Vm.c_le, Vm.c_gt, Vm.c_ge, Vm.Bf_len, Vm.Bf_sum, Vm.Bf_min2, Vm.wipeE, Vm.Tg.slots, Vm.lcTurn, Vm.forTurn, List.map_cons, List.map_nil, List.length_cons, List.length_nil, List.length_map, List.cons_append, List.nil_append, List.getElem?_cons_zero, List.getElem?_cons_succ, List.set_cons_zero, List.set_cons_succ, List.reduceReplicate, Nat.reduceSub, Nat.reduceAdd, Nat.zero_add, Int.toNat_natCast, Bool.not_true, Bool.not_false, decide_true, decide_false, if_true, if_false, tup_add (h := h4) (xs := p1) (ys := p4) (by omega), newT_ok (h := h4) (xs := [PV.non]) (by simp), tup_add (h := h4) (xs := xs) (ys := [PV.non]) (by simp; omega), tup_add (h := h4) (xs := p5) (ys := p6) (by omega)]
    generalize hO : [PV.ref A, .tup (p1 ++ p4), .tup (p1 ++ p2 ++ p3), .tup xs.reverse, .tup (xs ++ [.non]), .tup (p5 ++ p6)] = o1
    have o1l : o1.length = 6 := by rw [← hO]; rfl
    simp (config := { implicitDefEqProofs := false }) only [Vm.evF, Vm.evSs, Vm.evS, Vm.evX, Vm.evE, Vm.evEs, Vm.evIt, Vm.evPt, Vm.Res.bind_assoc, Vm.Res.bind_ok, Vm.Res.Ok_ok, Vm.bindT, Vm.setAll, Vm.boolOf, Vm.isNon, Vm.b_add, Vm.b_sub, Vm.a_add, Vm.c_eq, Vm.c_ne, Vm.c_lt, Vm.c_le, Vm.c_gt, Vm.c_ge, Vm.Bf_len, Vm.Bf_sum, Vm.Bf_min2, Vm.wipeE, Vm.Tg.slots, Vm.lcTurn, Vm.forTurn, List.map_cons, List.map_nil, List.length_cons, List.length_nil, List.length_map, List.cons_append, List.nil_append, List.getElem?_cons_zero, List.getElem?_cons_succ, List.set_cons_zero, List.set_cons_succ, List.reduceReplicate, Nat.reduceSub, Nat.reduceAdd, Nat.zero_add, Int.toNat_natCast, Bool.not_true, Bool.not_false, decide_true, decide_false, if_true, if_false, new_ok (h := h4) (xs := o1) (by omega)]
    have e5 := at_end h4 (HV.lst o1)
    have x5 := Ext.app h4 [HV.lst o1]
    generalize h4.length = B at e5
    generalize h4 ++ [HV.lst o1] = h5 at e5 x5
    simp (config := { implicitDefEqProofs := false }) only [Vm.evF, Vm.evSs, Vm.evS, Vm.evX, Vm.evE, Vm.evEs, Vm.evIt, Vm.evPt, Vm.Res.bind_assoc, Vm.Res.bind_ok, Vm.Res.Ok_ok, Vm.bindT, Vm.setAll, Vm.boolOf, Vm.isNon, Vm.b_add, Vm.b_sub, Vm.a_add, Vm.c_eq, Vm.c_ne, Vm.c_lt, Vm.c_le, Vm.c_gt, Vm.c_ge, Vm.Bf_len, Vm.Bf_sum, Vm.Bf_min2, Vm.wipeE, Vm.Tg.slots, Vm.lcTurn, Vm.forTurn, List.map_cons, List.map_nil, List.length_cons, List.length_nil, List.length_map, List.cons_append, List.nil_append, List.getElem?_cons_zero, List.getElem?_cons_succ, List.set_cons_zero, List.set_cons_succ, List.reduceReplicate, Nat.reduceSub, Nat.reduceAdd, Nat.zero_add, Int.toNat_natCast, Bool.not_true, Bool.not_false, decide_true, decide_false, if_true, if_false, newT_ok (h := h5) (xs := []) (by simp), newT_ok (h := h5) (xs := [PV.tup []]) (by simp), tup_add (h := h5) (xs := p1) (ys := [PV.tup []]) (by simp; omega), tup_add (h := h5) (xs := p1 ++ [PV.tup []]) (ys := p3) (by simp; omega)]
    generalize hO2 : [PV.non, .tup (p1 ++ [PV.tup []] ++ p3)] = o2
    have o2l : o2.length = 2 := by rw [← hO2]; rfl
    simp (config := { implicitDefEqProofs := false }) only [Vm.evF, Vm.evSs, Vm.evS, Vm.evX, Vm.evE, Vm.evEs, Vm.evIt, Vm.evPt, Vm.Res.bind_assoc, Vm.Res.bind_ok, Vm.Res.Ok_ok, Vm.bindT, Vm.setAll, Vm.boolOf, Vm.isNon, Vm.b_add, Vm.b_sub, Vm.a_add, Vm.c_eq, Vm.c_ne, Vm.c_lt, Vm.c_le, Vm.c_gt, Vm.c_ge, Vm.Bf_len, Vm.Bf_sum, Vm.Bf_min2, Vm.wipeE, Vm.Tg.slots, Vm.lcTurn, Vm.forTurn, List.map_cons, List.map_nil, List.length_cons, List.length_nil, List.length_map, List.cons_append, List.nil_append, List.getElem?_cons_zero, List.getElem?_cons_succ, List.set_cons_zero, List.set_cons_succ, List.reduceReplicate, Nat.reduceSub, Nat.reduceAdd, Nat.zero_add, Int.toNat_natCast, Bool.not_true, Bool.not_false, decide_true, decide_false, if_true, if_false, new_ok (h := h5) (xs := o2) (by omega)]
    have e6 := at_end h5 (HV.lst o2)
    have x6 := Ext.app h5 [HV.lst o2]
    have e6B := x6.get e5
    generalize h5.length = C at e6
    generalize h5 ++ [HV.lst o2] = h6 at e6 e6B x6
    have la := lst_add e6B e6 (by omega)
    have e7 := at_end h6 (HV.lst (o1 ++ o2))
    have x7 := Ext.app h6 [HV.lst (o1 ++ o2)]
    obtain ⟨y, hy, iy⟩ := ix_some (w := w) e7 w0 (by rw [List.length_append]; omega)
    simp (config := { implicitDefEqProofs := false }) only [Vm.evF, Vm.evSs, Vm.evS, Vm.evX, Vm.evE, Vm.evEs, Vm.evIt, Vm.evPt, Vm.Res.bind_assoc, Vm.Res.bind_ok, Vm.Res.Ok_ok, Vm.bindT, Vm.setAll, Vm.boolOf, Vm.isNon, Vm.b_add, Vm.b_sub, Vm.a_add, Vm.c_eq, Vm.c_ne, Vm.c_lt, Vm.c_le, Vm.c_gt, Vm.c_ge, Vm.Bf_len, Vm.Bf_sum, Vm.Bf_min2, Vm.wipeE, Vm.Tg.slots, Vm.lcTurn, Vm.forTurn, List.map_cons, List.map_nil, List.length_cons, List.length_nil, List.length_map, List.cons_append, List.nil_append, List.getElem?_cons_zero, List.getElem?_cons_succ, List.set_cons_zero, List.set_cons_succ, List.reduceReplicate, Nat.reduceSub, Nat.reduceAdd, Nat.zero_add, Int.toNat_natCast, Bool.not_true, Bool.not_false, decide_true, decide_false, if_true, if_false, la, iy]
    have x37 : Ext h3 (h6 ++ [HV.lst (o1 ++ o2)]) := x4.trans (x5.trans (x6.trans x7))
    have e7A := (x5.trans (x6.trans x7)).get e4
    generalize h6 ++ [HV.lst (o1 ++ o2)] = h7 at x37 e7A
    have t37 := But.of (f := f) x37
    refine ⟨?_, (F3.le (by omega)).ext x37, t13.trans t37⟩
    have up : ∀ {z : PV}, Dd f h3 c t m z → Dd f h7 (c + 1) (2 * t + 1) (m + 1) z := fun {z} q => (q.but t37).up (by omega) (by omega) (by omega)
    rcases List.mem_append.mp hy with hy | hy
    · rw [← hO] at hy
      simp only [List.mem_cons, List.not_mem_nil, or_false] at hy
      rcases hy with rfl | rfl | rfl | rfl | rfl | rfl
      · exact .ref nf e7A (by omega) fun z hz => up (k3 z hz)
      · refine .tup (by rw [List.length_append]; omega) fun z hz => ?_
        rcases List.mem_append.mp hz with hz | hz
        · exact up (i1 z hz)
        · exact up (i4 z hz)
      · refine .tup (by rw [List.length_append, List.length_append]; omega) fun z hz => ?_
        rcases List.mem_append.mp hz with hz | hz
        · rcases List.mem_append.mp hz with hz | hz
          · exact up (i1 z hz)
          · exact up (i2 z hz)
        · exact up (i3 z hz)
      · exact .tup (by rw [List.length_reverse]; omega) fun z hz => up (k3 z (List.mem_reverse.mp hz))
      · refine .tup (by rw [List.length_append]; simp; omega) fun z hz => ?_
        rcases List.mem_append.mp hz with hz | hz
        · exact up (k3 z hz)
        · rw [List.mem_singleton.mp hz]
          exact .non
      · refine .tup (by rw [List.length_append]; omega) fun z hz => ?_
        rcases List.mem_append.mp hz with hz | hz
        · exact up (i5 z hz)
        · exact up (i6 z hz)
    · rw [← hO2] at hy
      simp only [List.mem_cons, List.not_mem_nil, or_false] at hy
      rcases hy with rfl | rfl
      · exact .non
      · refine .tup (by rw [List.length_append, List.length_append]; simp; omega) fun z hz => ?_
        rcases List.mem_append.mp hz with hz | hz
        · rcases List.mem_append.mp hz with hz | hz
          · exact up (i1 z hz)
          · rw [List.mem_singleton.mp hz]
            exact .tup (Nat.zero_le _) fun _ q => nomatch q
        · exact up (i3 z hz)
  | @str _ z l k =>
    have tz : Tk t z := ⟨l, k⟩
    have len : Bf 0 [.str z] = fun h => (.ok (.int z.length) h : Res PV) := by
      funext h'
      show biLen [.str z] h' = _
      simp only [biLen]
      exact if_pos (by rw [sizeLine_eq]; omega)
    simp (config := { implicitDefEqProofs := false }) only [Vm.evF, Vm.evSs, Vm.evS, Vm.evX, Vm.evE, Vm.evEs, Vm.evIt, Vm.evPt, Vm.Res.bind_assoc, Vm.Res.bind_ok, Vm.Res.Ok_ok, Vm.bindT, Vm.setAll, Vm.boolOf, Vm.isNon, Vm.b_add, Vm.b_sub, Vm.a_add, Vm.c_eq, Vm.c_ne, Vm.c_lt, Vm.c_le, Vm.c_gt, Vm.c_ge, Vm.Bf_len, Vm.Bf_sum, Vm.Bf_min2, Vm.wipeE, Vm.Tg.slots, Vm.lcTurn, Vm.forTurn, List.map_cons, List.map_nil, List.length_cons, List.length_nil, List.length_map, List.cons_append, List.nil_append, List.getElem?_cons_zero, List.getElem?_cons_succ, List.set_cons_zero, List.set_cons_succ, List.reduceReplicate, Nat.reduceSub, Nat.reduceAdd, Nat.zero_add, Int.toNat_natCast, Bool.not_true, Bool.not_false, decide_true, decide_false, if_true, if_false, k_str_list, k_str_tuple, k_str_str]
    refine Res.ok_bind ((s_draw (h := h1) (N := N) (b := b + 1) (m := 13) F1 (by omega) (by decide) (by decide)).mono fun r h2 q => ?_)
    obtain ⟨j, rfl, j0, j1, F2, t2⟩ := q
    obtain ⟨y, ty, ey⟩ := sign_some (h := h2) j0 j1
    simp (config := { implicitDefEqProofs := false }) only [Vm.evF, Vm.evSs, Vm.evS, Vm.evX, Vm.evE, Vm.evEs, Vm.evIt, Vm.evPt, Vm.Res.bind_assoc, Vm.Res.bind_ok, Vm.Res.Ok_ok, Vm.bindT, Vm.setAll, Vm.boolOf, Vm.isNon, Vm.b_add, Vm.b_sub, Vm.a_add, Vm.c_eq, Vm.c_ne, Vm.c_lt, Vm.c_le, Vm.c_gt, Vm.c_ge, Vm.Bf_len, Vm.Bf_sum, Vm.Bf_min2, Vm.wipeE, Vm.Tg.slots, Vm.lcTurn, Vm.forTurn, List.map_cons, List.map_nil, List.length_cons, List.length_nil, List.length_map, List.cons_append, List.nil_append, List.getElem?_cons_zero, List.getElem?_cons_succ, List.set_cons_zero, List.set_cons_succ, List.reduceReplicate, Nat.reduceSub, Nat.reduceAdd, Nat.zero_add, Int.toNat_natCast, Bool.not_true, Bool.not_false, decide_true, decide_false, if_true, if_false, ey, len]
    refine Res.ok_bind ((s_draw (h := h2) (N := N) (b := b) (m := z.length + 1) F2 (by omega) (by omega) (by omega)).mono fun r h3 q => ?_)
    obtain ⟨at', rfl, a0, a1, F3, t3⟩ := q
    have y1 := ty.1
    have c1 := (tz.cut (lo := none) (hi := some at'))
    have c2 := (tz.cut (lo := some at') (hi := none))
    have c3 := (tz.cut (lo := some 1) (hi := none))
    have c4 := (tz.cut (lo := some (at' + 1)) (hi := none))
    have sl1 := slc_str (h := h3) (z := z) (lo := none) (hi := some at') (by omega)
    have sl2 := slc_str (h := h3) (z := z) (lo := some at') (hi := none) (by omega)
    have sl3 := slc_str (h := h3) (z := z) (lo := some 1) (hi := none) (by omega)
    have sl4 := slc_str (h := h3) (z := z) (lo := some (at' + 1)) (hi := none) (by omega)
    generalize Txt.slice z none (some at') = q1 at c1 sl1
    generalize Txt.slice z (some at') none = q2 at c2 sl2
    generalize Txt.slice z (some 1) none = q3 at c3 sl3
    generalize Txt.slice z (some (at' + 1)) none = q4 at c4 sl4
    have c1y := c1.cat ty
    have l1 := c1.1
    have l1y := c1y.1
    have l2 := c2.1
    have l4 := c4.1
    simp (config := { implicitDefEqProofs := false }) only [Vm.evF, Vm.evSs, Vm.evS, Vm.evX, Vm.evE, Vm.evEs, Vm.evIt, Vm.evPt, Vm.Res.bind_assoc, Vm.Res.bind_ok, Vm.Res.Ok_ok, Vm.bindT, Vm.setAll, Vm.boolOf, Vm.isNon, Vm.b_add, Vm.b_sub, Vm.a_add, Vm.c_eq, Vm.c_ne, Vm.c_lt, Vm.c_le, Vm.c_gt, Vm.c_ge, Vm.Bf_len, Vm.Bf_sum, Vm.Bf_min2, Vm.wipeE, Vm.Tg.slots, Vm.lcTurn, Vm.forTurn, List.map_cons, List.map_nil, List.length_cons, List.length_nil, List.length_map, List.cons_append, List.nil_append, List.getElem?_cons_zero, List.getElem?_cons_succ, List.set_cons_zero, List.set_cons_succ, List.reduceReplicate, Nat.reduceSub, Nat.reduceAdd, Nat.zero_add, Int.toNat_natCast, Bool.not_true, Bool.not_false, decide_true, decide_false, if_true, if_false, str_add (h := h3) (x := z) (y := y) (by omega), sl1, sl2, sl3, sl4, str_add (h := h3) (x := q1) (y := y) (by omega), str_add (h := h3) (x := q1 ++ y) (y := q2) (by omega), str_add (h := h3) (x := q1 ++ y) (y := q4) (by omega)]
    generalize hO : [PV.str (z ++ y), .str (q1 ++ y ++ q2), .str q3, .str (q1 ++ y ++ q4), .str "", .str y] = o1
    have o1l : o1.length = 6 := by rw [← hO]; rfl
    simp (config := { implicitDefEqProofs := false }) only [Vm.evF, Vm.evSs, Vm.evS, Vm.evX, Vm.evE, Vm.evEs, Vm.evIt, Vm.evPt, Vm.Res.bind_assoc, Vm.Res.bind_ok, Vm.Res.Ok_ok, Vm.bindT, Vm.setAll, Vm.boolOf, Vm.isNon, Vm.b_add, Vm.b_sub, Vm.a_add, Vm.c_eq, Vm.c_ne, Vm.c_lt, Vm.c_le, Vm.c_gt, Vm.c_ge, Vm.Bf_len, Vm.Bf_sum, Vm.Bf_min2, Vm.wipeE, Vm.Tg.slots, Vm.lcTurn, Vm.forTurn, List.map_cons, List.map_nil, List.length_cons, List.length_nil, List.length_map, List.cons_append, List.nil_append, List.getElem?_cons_zero, List.getElem?_cons_succ, List.set_cons_zero, List.set_cons_succ, List.reduceReplicate, Nat.reduceSub, Nat.reduceAdd, Nat.zero_add, Int.toNat_natCast, Bool.not_true, Bool.not_false, decide_true, decide_false, if_true, if_false, new_ok (h := h3) (xs := o1) (by omega)]
    have e5 := at_end h3 (HV.lst o1)
    have x5 := Ext.app h3 [HV.lst o1]
    generalize h3.length = B at e5
    generalize h3 ++ [HV.lst o1] = h5 at e5 x5
    simp (config := { implicitDefEqProofs := false }) only [Vm.evF, Vm.evSs, Vm.evS, Vm.evX, Vm.evE, Vm.evEs, Vm.evIt, Vm.evPt, Vm.Res.bind_assoc, Vm.Res.bind_ok, Vm.Res.Ok_ok, Vm.bindT, Vm.setAll, Vm.boolOf, Vm.isNon, Vm.b_add, Vm.b_sub, Vm.a_add, Vm.c_eq, Vm.c_ne, Vm.c_lt, Vm.c_le, Vm.c_gt, Vm.c_ge, Vm.Bf_len, Vm.Bf_sum, Vm.Bf_min2, Vm.wipeE, Vm.Tg.slots, Vm.lcTurn, Vm.forTurn, List.map_cons, List.map_nil, List.length_cons, List.length_nil, List.length_map, List.cons_append, List.nil_append, List.getElem?_cons_zero, List.getElem?_cons_succ, List.set_cons_zero, List.set_cons_succ, List.reduceReplicate, Nat.reduceSub, Nat.reduceAdd, Nat.zero_add, Int.toNat_natCast, Bool.not_true, Bool.not_false, decide_true, decide_false, if_true, if_false, newT_ok (h := h5) (xs := [PV.str z]) (by simp)]
    generalize hO2 : [PV.int 7, .tup [.str z]] = o2
    have o2l : o2.length = 2 := by rw [← hO2]; rfl
    simp (config := { implicitDefEqProofs := false }) only [Vm.evF, Vm.evSs, Vm.evS, Vm.evX, Vm.evE, Vm.evEs, Vm.evIt, Vm.evPt, Vm.Res.bind_assoc, Vm.Res.bind_ok, Vm.Res.Ok_ok, Vm.bindT, Vm.setAll, Vm.boolOf, Vm.isNon, Vm.b_add, Vm.b_sub, Vm.a_add, Vm.c_eq, Vm.c_ne, Vm.c_lt, Vm.c_le, Vm.c_gt, Vm.c_ge, Vm.Bf_len, Vm.Bf_sum, Vm.Bf_min2, Vm.wipeE, Vm.Tg.slots, Vm.lcTurn, Vm.forTurn, List.map_cons, List.map_nil, List.length_cons, List.length_nil, List.length_map, List.cons_append, List.nil_append, List.getElem?_cons_zero, List.getElem?_cons_succ, List.set_cons_zero, List.set_cons_succ, List.reduceReplicate, Nat.reduceSub, Nat.reduceAdd, Nat.zero_add, Int.toNat_natCast, Bool.not_true, Bool.not_false, decide_true, decide_false, if_true, if_false, new_ok (h := h5) (xs := o2) (by omega)]
    have e6 := at_end h5 (HV.lst o2)
    have x6 := Ext.app h5 [HV.lst o2]
    have e6B := x6.get e5
    generalize h5.length = C at e6
    generalize h5 ++ [HV.lst o2] = h6 at e6 e6B x6
    have la := lst_add e6B e6 (by omega)
    have e7 := at_end h6 (HV.lst (o1 ++ o2))
    have x7 := Ext.app h6 [HV.lst (o1 ++ o2)]
    obtain ⟨v, hv, iv⟩ := ix_some (w := w) e7 w0 (by rw [List.length_append]; omega)
    simp (config := { implicitDefEqProofs := false }) only [Vm.evF, Vm.evSs, Vm.evS, Vm.evX, Vm.evE, Vm.evEs, Vm.evIt, Vm.evPt, Vm.Res.bind_assoc, Vm.Res.bind_ok, Vm.Res.Ok_ok, Vm.bindT, Vm.setAll, Vm.boolOf, Vm.isNon, Vm.b_add, Vm.b_sub, Vm.a_add, Vm.c_eq, Vm.c_ne, Vm.c_lt, Vm.c_le, Vm.c_gt, Vm.c_ge, Vm.Bf_len, Vm.Bf_sum, Vm.Bf_min2, Vm.wipeE, Vm.Tg.slots, Vm.lcTurn, Vm.forTurn, List.map_cons, List.map_nil, List.length_cons, List.length_nil, List.length_map, List.cons_append, List.nil_append, List.getElem?_cons_zero, List.getElem?_cons_succ, List.set_cons_zero, List.set_cons_succ, List.reduceReplicate, Nat.reduceSub, Nat.reduceAdd, Nat.zero_add, Int.toNat_natCast, Bool.not_true, Bool.not_false, decide_true, decide_false, if_true, if_false, la, iv]
    have x37 : Ext h3 (h6 ++ [HV.lst (o1 ++ o2)]) := x5.trans (x6.trans x7)
    refine ⟨?_, F3.ext x37, t1.trans (t2.trans (t3.trans (But.of x37)))⟩
    have tx : ∀ {u : Nat} {g : Str}, Tk u g → u ≤ 2 * t + 1 → Dd f (h6 ++ [HV.lst (o1 ++ o2)]) (c + 1) (2 * t + 1) (n + 1) (.str g) := fun {u g} k hu => .str (Nat.le_trans k.1 hu) k.2
    rcases List.mem_append.mp hv with hv | hv
    · rw [← hO] at hv
      simp only [List.mem_cons, List.not_mem_nil, or_false] at hv
      rcases hv with rfl | rfl | rfl | rfl | rfl | rfl
      · exact tx (tz.cat ty) (by omega)
      · exact tx (c1y.cat c2) (by omega)
      · exact tx c3 (by omega)
      · exact tx (c1y.cat c4) (by omega)
      · exact .str (by show (0 : Nat) ≤ _; omega) (fun x hx => by cases hx)
      · exact tx ty (by omega)
    · rw [← hO2] at hv
      simp only [List.mem_cons, List.not_mem_nil, or_false] at hv
      rcases hv with rfl | rfl
      · exact Dd.small (by decide)
      · exact .tup (by simp) fun x hx => by
          rw [List.mem_singleton.mp hx]
          exact .str (by omega) k
  | non =>
    have i1 : isF .list .non h1 = .ok (.bl false) h1 := rfl
    have i2 : isF .tuple .non h1 = .ok (.bl false) h1 := rfl
    have i3 : isF .str .non h1 = .ok (.bl false) h1 := rfl
    rw [i1]
    simp (config := { implicitDefEqProofs := false }) only [Vm.evF, Vm.evSs, Vm.evS, Vm.evX, Vm.evE, Vm.evEs, Vm.evIt, Vm.evPt, Vm.Res.bind_assoc, Vm.Res.bind_ok, Vm.Res.Ok_ok, Vm.bindT, Vm.setAll, Vm.boolOf, Vm.isNon, Vm.b_add, Vm.b_sub, Vm.a_add, Vm.c_eq, Vm.c_ne, Vm.c_lt, Vm.c_le, Vm.c_gt, Vm.c_ge, Vm.Bf_len, Vm.Bf_sum, Vm.Bf_min2, Vm.wipeE, Vm.Tg.slots, Vm.lcTurn, Vm.forTurn, List.map_cons, List.map_nil, List.length_cons, List.length_nil, List.length_map, List.cons_append, List.nil_append, List.getElem?_cons_zero, List.getElem?_cons_succ, List.set_cons_zero, List.set_cons_succ, List.reduceReplicate, Nat.reduceSub, Nat.reduceAdd, Nat.zero_add, Int.toNat_natCast, Bool.not_true, Bool.not_false, decide_true, decide_false, if_true, if_false, i2, i3, newT_ok (h := h1) (xs := []) (by simp)]
    obtain ⟨h2, x2, r2, e2⟩ := menu (h := h1)
    obtain ⟨y, hy, iy⟩ := ix_some (w := w) e2 w0 (by simpa using w1)
    simp (config := { implicitDefEqProofs := false }) only [Vm.evF, Vm.evSs, Vm.evS, Vm.evX, Vm.evE, Vm.evEs, Vm.evIt, Vm.evPt, Vm.Res.bind_assoc, Vm.Res.bind_ok, Vm.Res.Ok_ok, Vm.bindT, Vm.setAll, Vm.boolOf, Vm.isNon, Vm.b_add, Vm.b_sub, Vm.a_add, Vm.c_eq, Vm.c_ne, Vm.c_lt, Vm.c_le, Vm.c_gt, Vm.c_ge, Vm.Bf_len, Vm.Bf_sum, Vm.Bf_min2, Vm.wipeE, Vm.Tg.slots, Vm.lcTurn, Vm.forTurn, List.map_cons, List.map_nil, List.length_cons, List.length_nil, List.length_map, List.cons_append, List.nil_append, List.getElem?_cons_zero, List.getElem?_cons_succ, List.set_cons_zero, List.set_cons_succ, List.reduceReplicate, Nat.reduceSub, Nat.reduceAdd, Nat.zero_add, Int.toNat_natCast, Bool.not_true, Bool.not_false, decide_true, decide_false, if_true, if_false, r2, iy]
    exact ⟨menu_dd hy, (F1.le (by omega)).ext x2, t1.trans (But.of x2)⟩
  | @bl _ v =>
    have i4 : isF .bool (.bl v) h1 = .ok (.bl true) h1 := rfl
    simp (config := { implicitDefEqProofs := false }) only [Vm.evF, Vm.evSs, Vm.evS, Vm.evX, Vm.evE, Vm.evEs, Vm.evIt, Vm.evPt, Vm.Res.bind_assoc, Vm.Res.bind_ok, Vm.Res.Ok_ok, Vm.bindT, Vm.setAll, Vm.boolOf, Vm.isNon, Vm.b_add, Vm.b_sub, Vm.a_add, Vm.c_eq, Vm.c_ne, Vm.c_lt, Vm.c_le, Vm.c_gt, Vm.c_ge, Vm.Bf_len, Vm.Bf_sum, Vm.Bf_min2, Vm.wipeE, Vm.Tg.slots, Vm.lcTurn, Vm.forTurn, List.map_cons, List.map_nil, List.length_cons, List.length_nil, List.length_map, List.cons_append, List.nil_append, List.getElem?_cons_zero, List.getElem?_cons_succ, List.set_cons_zero, List.set_cons_succ, List.reduceReplicate, Nat.reduceSub, Nat.reduceAdd, Nat.zero_add, Int.toNat_natCast, Bool.not_true, Bool.not_false, decide_true, decide_false, if_true, if_false, k_bl_list, k_bl_tuple, k_bl_str, i4, newT_ok (h := h1) (xs := []) (by simp)]
    obtain ⟨h2, x2, r2, e2⟩ := menu (h := h1)
    obtain ⟨y, hy, iy⟩ := ix_some (w := w) e2 w0 (by simpa using w1)
    simp (config := { implicitDefEqProofs := false }) only [Vm.evF, Vm.evSs, Vm.evS, Vm.evX, Vm.evE, Vm.evEs, Vm.evIt, Vm.evPt, Vm.Res.bind_assoc, Vm.Res.bind_ok, Vm.Res.Ok_ok, Vm.bindT, Vm.setAll, Vm.boolOf, Vm.isNon, Vm.b_add, Vm.b_sub, Vm.a_add, Vm.c_eq, Vm.c_ne, Vm.c_lt, Vm.c_le, Vm.c_gt, Vm.c_ge, Vm.Bf_len, Vm.Bf_sum, Vm.Bf_min2, Vm.wipeE, Vm.Tg.slots, Vm.lcTurn, Vm.forTurn, List.map_cons, List.map_nil, List.length_cons, List.length_nil, List.length_map, List.cons_append, List.nil_append, List.getElem?_cons_zero, List.getElem?_cons_succ, List.set_cons_zero, List.set_cons_succ, List.reduceReplicate, Nat.reduceSub, Nat.reduceAdd, Nat.zero_add, Int.toNat_natCast, Bool.not_true, Bool.not_false, decide_true, decide_false, if_true, if_false, r2, iy]
    exact ⟨menu_dd hy, (F1.le (by omega)).ext x2, t1.trans (But.of x2)⟩
  | @int _ i l l2 =>
    simp (config := { implicitDefEqProofs := false }) only [Vm.evF, Vm.evSs, Vm.evS, Vm.evX, Vm.evE, Vm.evEs, Vm.evIt, Vm.evPt, Vm.Res.bind_assoc, Vm.Res.bind_ok, Vm.Res.Ok_ok, Vm.bindT, Vm.setAll, Vm.boolOf, Vm.isNon, Vm.b_add, Vm.b_sub, Vm.a_add, Vm.c_eq, Vm.c_ne, Vm.c_lt, Vm.c_le, Vm.c_gt, Vm.c_ge, Vm.Bf_len, Vm.Bf_sum, Vm.Bf_min2, Vm.wipeE, Vm.Tg.slots, Vm.lcTurn, Vm.forTurn, List.map_cons, List.map_nil, List.length_cons, List.length_nil, List.length_map, List.cons_append, List.nil_append, List.getElem?_cons_zero, List.getElem?_cons_succ, List.set_cons_zero, List.set_cons_succ, List.reduceReplicate, Nat.reduceSub, Nat.reduceAdd, Nat.zero_add, Int.toNat_natCast, Bool.not_true, Bool.not_false, decide_true, decide_false, if_true, if_false, k_int_list, k_int_tuple, k_int_str, k_int_bool, pow_ok (h := h1) (i := 10) (j := 50) (by decide) (by decide) (by decide) (by decide)]
    generalize hO : [PV.int (i + 1), .int (i - 1), .int 0, .int (-1), .int (10 ^ (50 : Int).toNat), .bl (decide (i = 1)), .bl (!decide (i = 0)), .str "a"] = o1
    have o1l : o1.length = 8 := by rw [← hO]; rfl
    have e2 := at_end h1 (HV.lst o1)
    have x2 := Ext.app h1 [HV.lst o1]
    obtain ⟨y, hy, iy⟩ := ix_some (w := w) e2 w0 (by omega)
    simp (config := { implicitDefEqProofs := false }) only [Vm.evF, Vm.evSs, Vm.evS, Vm.evX, Vm.evE, Vm.evEs, Vm.evIt, Vm.evPt, Vm.Res.bind_assoc, Vm.Res.bind_ok, Vm.Res.Ok_ok, Vm.bindT, Vm.setAll, Vm.boolOf, Vm.isNon, Vm.b_add, Vm.b_sub, Vm.a_add, Vm.c_eq, Vm.c_ne, Vm.c_lt, Vm.c_le, Vm.c_gt, Vm.c_ge, Vm.Bf_len, Vm.Bf_sum, Vm.Bf_min2, Vm.wipeE, Vm.Tg.slots, Vm.lcTurn, Vm.forTurn, List.map_cons, List.map_nil, List.length_cons, List.length_nil, List.length_map, List.cons_append, List.nil_append, List.getElem?_cons_zero, List.getElem?_cons_succ, List.set_cons_zero, List.set_cons_succ, List.reduceReplicate, Nat.reduceSub, Nat.reduceAdd, Nat.zero_add, Int.toNat_natCast, Bool.not_true, Bool.not_false, decide_true, decide_false, if_true, if_false, new_ok (h := h1) (xs := o1) (by omega), iy]
    refine ⟨?_, (F1.le (by omega)).ext x2, t1.trans (But.of x2)⟩
    rw [← hO] at hy
    simp only [List.mem_cons, List.not_mem_nil, or_false] at hy
    rcases hy with rfl | rfl | rfl | rfl | rfl | rfl | rfl | rfl
    · exact Dd.near (t := t) (n := n) (f := f) (h := h1) l (by omega) (by omega)
    · exact Dd.near (t := t) (n := n) (f := f) (h := h1) l (by omega) (by omega)
    · exact Dd.small (by decide)
    · exact Dd.small (by decide)
    · exact Dd.ten50
    · exact .bl
    · exact .bl
    · exact a_str (by omega)
end
end K19

set_option Elab.async false
set_option linter.all false
set_option maxRecDepth 100000
set_option maxHeartbeats 4000000
namespace K19
open PySem PySem.Spec PyProof.Rows L2 Vm Rd
section
theorem s_bent {f b c t : Nat} (hc : c ≤ 100000) (ht : t ≤ 1000) : ∀ {n : Nat} {x : PV} {N : Nat} {h : IH}, Dd f h c t n x → Feed h f (b + 2 * n + 4) → n + 3 ≤ N → (sem Bf ds N 15 [.ref f, x] h).Ok fun r h1 => Dd f h1 (c + 1) (2 * t + 1) (n + 1) r ∧ Feed h1 f b ∧ But f h h1 := by
  intro n
  induction n with
  | zero =>
    intro x N h d F hN
    obtain ⟨N, rfl, k⟩ := pre hN (by omega)
    rw [sem_at (d := d__law_bent) (L := 3) (b := b__law_bent) rfl rfl rfl]
    have nt : isF .tuple x h = .ok (.bl false) h := by
      cases d <;> rfl
    simp (config := { implicitDefEqProofs := false }) only [Vm.evF, Vm.evSs, Vm.evS, Vm.evX, Vm.evE, Vm.evEs, Vm.evIt, Vm.evPt, Vm.Res.bind_assoc, Vm.Res.bind_ok, Vm.Res.Ok_ok, Vm.bindT, Vm.setAll, Vm.boolOf, Vm.isNon, Vm.b_add, Vm.b_sub, Vm.a_add, Vm.c_eq, Vm.c_ne, Vm.c_lt, Vm.c_le, Vm.c_gt, Vm.c_ge, Vm.Bf_len, Vm.Bf_sum, Vm.Bf_min2, Vm.wipeE, Vm.Tg.slots, Vm.lcTurn, Vm.forTurn, List.map_cons, List.map_nil, List.length_cons, List.length_nil, List.length_map, List.cons_append, List.nil_append, List.getElem?_cons_zero, List.getElem?_cons_succ, List.set_cons_zero, List.set_cons_succ, List.reduceReplicate, Nat.reduceSub, Nat.reduceAdd, Nat.zero_add, Int.toNat_natCast, Bool.not_true, Bool.not_false, decide_true, decide_false, if_true, if_false, b__law_bent, nt]
    refine Res.ok_bind ((s_odd (N := N) (b := b) (F.le (by omega)) d hc ht (by omega)).mono fun r h1 q => ?_)
    obtain ⟨d1, F1, t1⟩ := q
    try simp (config := { implicitDefEqProofs := false }) only [Vm.evF, Vm.evSs, Vm.evS, Vm.evX, Vm.evE, Vm.evEs, Vm.evIt, Vm.evPt, Vm.Res.bind_assoc, Vm.Res.bind_ok, Vm.Res.Ok_ok, Vm.bindT, Vm.setAll, Vm.boolOf, Vm.isNon, Vm.b_add, Vm.b_sub, Vm.a_add, Vm.c_eq, Vm.c_ne, Vm.c_lt, Vm.c_le, Vm.c_gt, Vm.c_ge, Vm.Bf_len, Vm.Bf_sum, Vm.Bf_min2, Vm.wipeE, Vm.Tg.slots, Vm.lcTurn, Vm.forTurn, List.map_cons, List.map_nil, List.length_cons, List.length_nil, List.length_map, List.cons_append, List.nil_append, List.getElem?_cons_zero, List.getElem?_cons_succ, List.set_cons_zero, List.set_cons_succ, List.reduceReplicate, Nat.reduceSub, Nat.reduceAdd, Nat.zero_add, Int.toNat_natCast, Bool.not_true, Bool.not_false, decide_true, decide_false, if_true, if_false]
    exact ⟨d1, F1, t1⟩
  | succ m ih =>
    intro x N h d F hN
    obtain ⟨N, rfl, k⟩ := pre hN (by omega)
    rw [sem_at (d := d__law_bent) (L := 3) (b := b__law_bent) rfl rfl rfl]
    by_cases tp : ∃ xs, x = .tup xs
    · obtain ⟨xs, rfl⟩ := tp
      simp (config := { implicitDefEqProofs := false }) only [Vm.evF, Vm.evSs, Vm.evS, Vm.evX, Vm.evE, Vm.evEs, Vm.evIt, Vm.evPt, Vm.Res.bind_assoc, Vm.Res.bind_ok, Vm.Res.Ok_ok, Vm.bindT, Vm.setAll, Vm.boolOf, Vm.isNon, Vm.b_add, Vm.b_sub, Vm.a_add, Vm.c_eq, Vm.c_ne, Vm.c_lt, Vm.c_le, Vm.c_gt, Vm.c_ge, Vm.Bf_len, Vm.Bf_sum, Vm.Bf_min2, Vm.wipeE, Vm.Tg.slots, Vm.lcTurn, Vm.forTurn, List.map_cons, List.map_nil, List.length_cons, List.length_nil, List.length_map, List.cons_append, List.nil_append, List.getElem?_cons_zero, List.getElem?_cons_succ, List.set_cons_zero, List.set_cons_succ, List.reduceReplicate, Nat.reduceSub, Nat.reduceAdd, Nat.zero_add, Int.toNat_natCast, Bool.not_true, Bool.not_false, decide_true, decide_false, if_true, if_false, b__law_bent, k_tup_tuple]
      by_cases e0 : (0 : Int) < (xs.length : Int)
      · have dd := d
        cases d with
        | tup l ks =>
          simp (config := { implicitDefEqProofs := false }) only [Vm.evF, Vm.evSs, Vm.evS, Vm.evX, Vm.evE, Vm.evEs, Vm.evIt, Vm.evPt, Vm.Res.bind_assoc, Vm.Res.bind_ok, Vm.Res.Ok_ok, Vm.bindT, Vm.setAll, Vm.boolOf, Vm.isNon, Vm.b_add, Vm.b_sub, Vm.a_add, Vm.c_eq, Vm.c_ne, Vm.c_lt, Vm.c_le, Vm.c_gt, Vm.c_ge, Vm.Bf_len, Vm.Bf_sum, Vm.Bf_min2, Vm.wipeE, Vm.Tg.slots, Vm.lcTurn, Vm.forTurn, List.map_cons, List.map_nil, List.length_cons, List.length_nil, List.length_map, List.cons_append, List.nil_append, List.getElem?_cons_zero, List.getElem?_cons_succ, List.set_cons_zero, List.set_cons_succ, List.reduceReplicate, Nat.reduceSub, Nat.reduceAdd, Nat.zero_add, Int.toNat_natCast, Bool.not_true, Bool.not_false, decide_true, decide_false, if_true, if_false, e0]
          refine Res.ok_bind ((s_draw (h := h) (N := N) (b := b + 2 * m + 5) (m := 4) (F.le (by omega)) (by omega) (by decide) (by decide)).mono fun r h1 q => ?_)
          obtain ⟨w, rfl, w0, w1, F1, t1⟩ := q
          by_cases ew : (0 : Int) < w
          · simp (config := { implicitDefEqProofs := false }) only [Vm.evF, Vm.evSs, Vm.evS, Vm.evX, Vm.evE, Vm.evEs, Vm.evIt, Vm.evPt, Vm.Res.bind_assoc, Vm.Res.bind_ok, Vm.Res.Ok_ok, Vm.bindT, Vm.setAll, Vm.boolOf, Vm.isNon, Vm.b_add, Vm.b_sub, Vm.a_add, Vm.c_eq, Vm.c_ne, Vm.c_lt, Vm.c_le, Vm.c_gt, Vm.c_ge, Vm.Bf_len, Vm.Bf_sum, Vm.Bf_min2, Vm.wipeE, Vm.Tg.slots, Vm.lcTurn, Vm.forTurn, List.map_cons, List.map_nil, List.length_cons, List.length_nil, List.length_map, List.cons_append, List.nil_append, List.getElem?_cons_zero, List.getElem?_cons_succ, List.set_cons_zero, List.set_cons_succ, List.reduceReplicate, Nat.reduceSub, Nat.reduceAdd, Nat.zero_add, Int.toNat_natCast, Bool.not_true, Bool.not_false, decide_true, decide_false, if_true, if_false, ew]
            refine Res.ok_bind ((s_draw (h := h1) (N := N) (b := b + 2 * m + 4) (m := xs.length) F1 (by omega) e0 (by omega)).mono fun r h2 q => ?_)
            obtain ⟨at', rfl, a0, a1, F2, t2⟩ := q
            have ks2 : ∀ y ∈ xs, Dd f h2 c t m y := fun y hy => (ks y hy).but (t1.trans t2)
            have lt : at'.toNat < xs.length := by omega
            have ix := ixF_rd (h := h2) (x := .tup xs) (s := at') rfl a0 (List.getElem?_eq_getElem lt)
            have ye := ks2 _ (List.getElem_mem lt)
            generalize xs[at'.toNat] = y at ix ye
            have slc : ∀ {lo hi h'}, slcF (.tup xs) lo hi h' = .ok (.tup (cutP xs lo hi)) h' := rfl
            have l1 := (cut_len (xs := xs) (lo := none) (hi := some at')).1
            have l4 := (cut_len (xs := xs) (lo := some (at' + 1)) (hi := none)).2
            rw [sIx_pos a0] at l1
            rw [sIx_pos (show 0 ≤ at' + 1 by omega)] at l4
            have s0 : HT.sIx xs.length 0 none = 0 := rfl
            rw [s0] at l1
            have i1 : ∀ z ∈ cutP xs none (some at'), Dd f h2 c t m z := fun z hz => ks2 z (cut_mem hz)
            have i4 : ∀ z ∈ cutP xs (some (at' + 1)) none, Dd f h2 c t m z := fun z hz => ks2 z (cut_mem hz)
            simp (config := { implicitDefEqProofs := false }) only [Vm.evF, Vm.evSs, Vm.evS, Vm.evX, Vm.evE, Vm.evEs, Vm.evIt, Vm.evPt, Vm.Res.bind_assoc, Vm.Res.bind_ok, Vm.Res.Ok_ok, Vm.bindT, Vm.setAll, Vm.boolOf, Vm.isNon, Vm.b_add, Vm.b_sub, Vm.a_add, Vm.c_eq, Vm.c_ne, Vm.c_lt, Vm.c_le, Vm.c_gt, Vm.c_ge, Vm.Bf_len, Vm.Bf_sum, Vm.Bf_min2, Vm.wipeE, Vm.Tg.slots, Vm.lcTurn, Vm.forTurn, List.map_cons, List.map_nil, List.length_cons, List.length_nil, List.length_map, List.cons_append, List.nil_append, List.getElem?_cons_zero, List.getElem?_cons_succ, List.set_cons_zero, List.set_cons_succ, List.reduceReplicate, Nat.reduceSub, Nat.reduceAdd, Nat.zero_add, Int.toNat_natCast, Bool.not_true, Bool.not_false, decide_true, decide_false, if_true, if_false, slc, ix]
            generalize cutP xs none (some at') = p1 at l1 i1
            generalize cutP xs (some (at' + 1)) none = p4 at l4 i4
            refine Res.ok_bind ((ih (h := h2) (N := N) ye F2 (by omega)).mono fun r h3 q => ?_)
            obtain ⟨dy, F3, t3⟩ := q
            simp (config := { implicitDefEqProofs := false }) only [Vm.evF, Vm.evSs, Vm.evS, Vm.evX, Vm.evE, Vm.evEs, Vm.evIt, Vm.evPt, Vm.Res.bind_assoc, Vm.Res.bind_ok, Vm.Res.Ok_ok, Vm.bindT, Vm.setAll, Vm.boolOf, Vm.isNon, Vm.b_add, Vm.b_sub, Vm.a_add, Vm.c_eq, Vm.c_ne, Vm.c_lt, Vm.c_le, Vm.c_gt, Vm.c_ge, Vm.Bf_len, Vm.Bf_sum, Vm.Bf_min2, Vm.wipeE, Vm.Tg.slots, Vm.lcTurn, Vm.forTurn, List.map_cons, List.map_nil, List.length_cons, List.length_nil, List.length_map, List.cons_append, List.nil_append, List.getElem?_cons_zero, List.getElem?_cons_succ, List.set_cons_zero, List.set_cons_succ, List.reduceReplicate, Nat.reduceSub, Nat.reduceAdd, Nat.zero_add, Int.toNat_natCast, Bool.not_true, Bool.not_false, decide_true, decide_false, if_true, if_false, newT_ok (h := h3) (xs := [r]) (by simp), tup_add (h := h3) (xs := p1) (ys := [r]) (by simp; omega), tup_add (h := h3) (xs := p1 ++ [r]) (ys := p4) (by simp; omega)]
            refine ⟨.tup (by rw [List.length_append, List.length_append]; simp; omega) fun z hz => ?_, F3, t1.trans (t2.trans t3)⟩
            rcases List.mem_append.mp hz with hz | hz
            · rcases List.mem_append.mp hz with hz | hz
              · exact ((i1 z hz).but t3).up (by omega) (by omega) (by omega)
              · rw [List.mem_singleton.mp hz]
                exact dy
            · exact ((i4 z hz).but t3).up (by omega) (by omega) (by omega)
          · simp (config := { implicitDefEqProofs := false }) only [Vm.evF, Vm.evSs, Vm.evS, Vm.evX, Vm.evE, Vm.evEs, Vm.evIt, Vm.evPt, Vm.Res.bind_assoc, Vm.Res.bind_ok, Vm.Res.Ok_ok, Vm.bindT, Vm.setAll, Vm.boolOf, Vm.isNon, Vm.b_add, Vm.b_sub, Vm.a_add, Vm.c_eq, Vm.c_ne, Vm.c_lt, Vm.c_le, Vm.c_gt, Vm.c_ge, Vm.Bf_len, Vm.Bf_sum, Vm.Bf_min2, Vm.wipeE, Vm.Tg.slots, Vm.lcTurn, Vm.forTurn, List.map_cons, List.map_nil, List.length_cons, List.length_nil, List.length_map, List.cons_append, List.nil_append, List.getElem?_cons_zero, List.getElem?_cons_succ, List.set_cons_zero, List.set_cons_succ, List.reduceReplicate, Nat.reduceSub, Nat.reduceAdd, Nat.zero_add, Int.toNat_natCast, Bool.not_true, Bool.not_false, decide_true, decide_false, if_true, if_false, ew]
            refine Res.ok_bind ((s_odd (h := h1) (N := N) (b := b) (F1.le (by omega)) (dd.but t1) hc ht (by omega)).mono fun r h2 q => ?_)
            obtain ⟨d2, F2, t2⟩ := q
            try simp (config := { implicitDefEqProofs := false }) only [Vm.evF, Vm.evSs, Vm.evS, Vm.evX, Vm.evE, Vm.evEs, Vm.evIt, Vm.evPt, Vm.Res.bind_assoc, Vm.Res.bind_ok, Vm.Res.Ok_ok, Vm.bindT, Vm.setAll, Vm.boolOf, Vm.isNon, Vm.b_add, Vm.b_sub, Vm.a_add, Vm.c_eq, Vm.c_ne, Vm.c_lt, Vm.c_le, Vm.c_gt, Vm.c_ge, Vm.Bf_len, Vm.Bf_sum, Vm.Bf_min2, Vm.wipeE, Vm.Tg.slots, Vm.lcTurn, Vm.forTurn, List.map_cons, List.map_nil, List.length_cons, List.length_nil, List.length_map, List.cons_append, List.nil_append, List.getElem?_cons_zero, List.getElem?_cons_succ, List.set_cons_zero, List.set_cons_succ, List.reduceReplicate, Nat.reduceSub, Nat.reduceAdd, Nat.zero_add, Int.toNat_natCast, Bool.not_true, Bool.not_false, decide_true, decide_false, if_true, if_false]
            exact ⟨d2, F2, t1.trans t2⟩
      · simp (config := { implicitDefEqProofs := false }) only [Vm.evF, Vm.evSs, Vm.evS, Vm.evX, Vm.evE, Vm.evEs, Vm.evIt, Vm.evPt, Vm.Res.bind_assoc, Vm.Res.bind_ok, Vm.Res.Ok_ok, Vm.bindT, Vm.setAll, Vm.boolOf, Vm.isNon, Vm.b_add, Vm.b_sub, Vm.a_add, Vm.c_eq, Vm.c_ne, Vm.c_lt, Vm.c_le, Vm.c_gt, Vm.c_ge, Vm.Bf_len, Vm.Bf_sum, Vm.Bf_min2, Vm.wipeE, Vm.Tg.slots, Vm.lcTurn, Vm.forTurn, List.map_cons, List.map_nil, List.length_cons, List.length_nil, List.length_map, List.cons_append, List.nil_append, List.getElem?_cons_zero, List.getElem?_cons_succ, List.set_cons_zero, List.set_cons_succ, List.reduceReplicate, Nat.reduceSub, Nat.reduceAdd, Nat.zero_add, Int.toNat_natCast, Bool.not_true, Bool.not_false, decide_true, decide_false, if_true, if_false, e0]
        refine Res.ok_bind ((s_odd (N := N) (b := b) (F.le (by omega)) d hc ht (by omega)).mono fun r h1 q => ?_)
        obtain ⟨d1, F1, t1⟩ := q
        try simp (config := { implicitDefEqProofs := false }) only [Vm.evF, Vm.evSs, Vm.evS, Vm.evX, Vm.evE, Vm.evEs, Vm.evIt, Vm.evPt, Vm.Res.bind_assoc, Vm.Res.bind_ok, Vm.Res.Ok_ok, Vm.bindT, Vm.setAll, Vm.boolOf, Vm.isNon, Vm.b_add, Vm.b_sub, Vm.a_add, Vm.c_eq, Vm.c_ne, Vm.c_lt, Vm.c_le, Vm.c_gt, Vm.c_ge, Vm.Bf_len, Vm.Bf_sum, Vm.Bf_min2, Vm.wipeE, Vm.Tg.slots, Vm.lcTurn, Vm.forTurn, List.map_cons, List.map_nil, List.length_cons, List.length_nil, List.length_map, List.cons_append, List.nil_append, List.getElem?_cons_zero, List.getElem?_cons_succ, List.set_cons_zero, List.set_cons_succ, List.reduceReplicate, Nat.reduceSub, Nat.reduceAdd, Nat.zero_add, Int.toNat_natCast, Bool.not_true, Bool.not_false, decide_true, decide_false, if_true, if_false]
        exact ⟨d1, F1, t1⟩
    · have nt : isF .tuple x h = .ok (.bl false) h := by
        cases d with
        | tup l ks => exact absurd ⟨_, rfl⟩ tp
        | ref af e l ks => simp [isF, tyOf, e, Ty.word]
        | _ => rfl
      simp (config := { implicitDefEqProofs := false }) only [Vm.evF, Vm.evSs, Vm.evS, Vm.evX, Vm.evE, Vm.evEs, Vm.evIt, Vm.evPt, Vm.Res.bind_assoc, Vm.Res.bind_ok, Vm.Res.Ok_ok, Vm.bindT, Vm.setAll, Vm.boolOf, Vm.isNon, Vm.b_add, Vm.b_sub, Vm.a_add, Vm.c_eq, Vm.c_ne, Vm.c_lt, Vm.c_le, Vm.c_gt, Vm.c_ge, Vm.Bf_len, Vm.Bf_sum, Vm.Bf_min2, Vm.wipeE, Vm.Tg.slots, Vm.lcTurn, Vm.forTurn, List.map_cons, List.map_nil, List.length_cons, List.length_nil, List.length_map, List.cons_append, List.nil_append, List.getElem?_cons_zero, List.getElem?_cons_succ, List.set_cons_zero, List.set_cons_succ, List.reduceReplicate, Nat.reduceSub, Nat.reduceAdd, Nat.zero_add, Int.toNat_natCast, Bool.not_true, Bool.not_false, decide_true, decide_false, if_true, if_false, b__law_bent, nt]
      refine Res.ok_bind ((s_odd (N := N) (b := b) (F.le (by omega)) d hc ht (by omega)).mono fun r h1 q => ?_)
      obtain ⟨d1, F1, t1⟩ := q
      try simp (config := { implicitDefEqProofs := false }) only [Vm.evF, Vm.evSs, Vm.evS, Vm.evX, Vm.evE, Vm.evEs, Vm.evIt, Vm.evPt, Vm.Res.bind_assoc, Vm.Res.bind_ok, Vm.Res.Ok_ok, Vm.bindT, Vm.setAll, Vm.boolOf, Vm.isNon, Vm.b_add, Vm.b_sub, Vm.a_add, Vm.c_eq, Vm.c_ne, Vm.c_lt, Vm.c_le, Vm.c_gt, Vm.c_ge, Vm.Bf_len, Vm.Bf_sum, Vm.Bf_min2, Vm.wipeE, Vm.Tg.slots, Vm.lcTurn, Vm.forTurn, List.map_cons, List.map_nil, List.length_cons, List.length_nil, List.length_map, List.cons_append, List.nil_append, List.getElem?_cons_zero, List.getElem?_cons_succ, List.set_cons_zero, List.set_cons_succ, List.reduceReplicate, Nat.reduceSub, Nat.reduceAdd, Nat.zero_add, Int.toNat_natCast, Bool.not_true, Bool.not_false, decide_true, decide_false, if_true, if_false]
      exact ⟨d1, F1, t1⟩
end
end K19

set_option Elab.async false
set_option linter.all false
set_option maxRecDepth 100000
set_option maxHeartbeats 4000000
namespace K19
open PySem PySem.Spec PyProof.Rows L2 Vm Rd
section
variable {ws : List Int} {h : IH} {N : Nat}
theorem s_turn_no {i j : Int} (hN : 1 ≤ N) (l : i < j) : sem Bf ds N 7 [.int i, .int j] h = .exc "NoTurn" [.int i] h := by
  obtain ⟨n, rfl, k⟩ := pre hN (by decide)
  rw [sem_at (d := d_need_number) (L := 2) (b := b_need_number) rfl rfl rfl]
  simp (config := { implicitDefEqProofs := false }) only [Vm.evF, Vm.evSs, Vm.evS, Vm.evX, Vm.evE, Vm.evEs, Vm.evIt, Vm.evPt, Vm.Res.bind_assoc, Vm.Res.bind_ok, Vm.Res.Ok_ok, Vm.bindT, Vm.setAll, Vm.boolOf, Vm.isNon, Vm.b_add, Vm.b_sub, Vm.a_add, Vm.c_eq, Vm.c_ne, Vm.c_lt, Vm.c_le, Vm.c_gt, Vm.c_ge, Vm.Bf_len, Vm.Bf_sum, Vm.Bf_min2, Vm.wipeE, Vm.Tg.slots, Vm.lcTurn, Vm.forTurn, List.map_cons, List.map_nil, List.length_cons, List.length_nil, List.length_map, List.cons_append, List.nil_append, List.getElem?_cons_zero, List.getElem?_cons_succ, List.set_cons_zero, List.set_cons_succ, List.reduceReplicate, Nat.reduceSub, Nat.reduceAdd, Nat.zero_add, Int.toNat_natCast, Bool.not_true, Bool.not_false, decide_true, decide_false, if_true, if_false, b_need_number, l]
  rfl
theorem s_is_seat_no {s : Int} (hN : 1 ≤ N) (bad : ¬ (0 ≤ s ∧ s < ws.length)) : sem Bf ds N 5 [tw ws, .int s] h = .ok (.bl false) h := by
  obtain ⟨n, rfl, k⟩ := pre hN (by decide)
  rw [sem_at (d := d_is_seat) (L := 2) (b := b_is_seat) rfl rfl rfl]
  by_cases s0 : 0 ≤ s
  · have s1 : ¬ s < ws.length := fun z => bad ⟨s0, z⟩
    simp (config := { implicitDefEqProofs := false }) only [Vm.evF, Vm.evSs, Vm.evS, Vm.evX, Vm.evE, Vm.evEs, Vm.evIt, Vm.evPt, Vm.Res.bind_assoc, Vm.Res.bind_ok, Vm.Res.Ok_ok, Vm.bindT, Vm.setAll, Vm.boolOf, Vm.isNon, Vm.b_add, Vm.b_sub, Vm.a_add, Vm.c_eq, Vm.c_ne, Vm.c_lt, Vm.c_le, Vm.c_gt, Vm.c_ge, Vm.Bf_len, Vm.Bf_sum, Vm.Bf_min2, Vm.wipeE, Vm.Tg.slots, Vm.lcTurn, Vm.forTurn, List.map_cons, List.map_nil, List.length_cons, List.length_nil, List.length_map, List.cons_append, List.nil_append, List.getElem?_cons_zero, List.getElem?_cons_succ, List.set_cons_zero, List.set_cons_succ, List.reduceReplicate, Nat.reduceSub, Nat.reduceAdd, Nat.zero_add, Int.toNat_natCast, Bool.not_true, Bool.not_false, decide_true, decide_false, if_true, if_false, b_is_seat, s0, s1]
  · simp (config := { implicitDefEqProofs := false }) only [Vm.evF, Vm.evSs, Vm.evS, Vm.evX, Vm.evE, Vm.evEs, Vm.evIt, Vm.evPt, Vm.Res.bind_assoc, Vm.Res.bind_ok, Vm.Res.Ok_ok, Vm.bindT, Vm.setAll, Vm.boolOf, Vm.isNon, Vm.b_add, Vm.b_sub, Vm.a_add, Vm.c_eq, Vm.c_ne, Vm.c_lt, Vm.c_le, Vm.c_gt, Vm.c_ge, Vm.Bf_len, Vm.Bf_sum, Vm.Bf_min2, Vm.wipeE, Vm.Tg.slots, Vm.lcTurn, Vm.forTurn, List.map_cons, List.map_nil, List.length_cons, List.length_nil, List.length_map, List.cons_append, List.nil_append, List.getElem?_cons_zero, List.getElem?_cons_succ, List.set_cons_zero, List.set_cons_succ, List.reduceReplicate, Nat.reduceSub, Nat.reduceAdd, Nat.zero_add, Int.toNat_natCast, Bool.not_true, Bool.not_false, decide_true, decide_false, if_true, if_false, b_is_seat, s0]
theorem s_need_no {s : Int} (hN : 2 ≤ N) (bad : ¬ (0 ≤ s ∧ s < ws.length)) : sem Bf ds N 6 [tw ws, .int s] h = .exc "NoSeat" [.int s] h := by
  obtain ⟨n, rfl, k⟩ := pre hN (by decide)
  rw [sem_at (d := d_need_seat) (L := 2) (b := b_need_seat) rfl rfl rfl]
  simp (config := { implicitDefEqProofs := false }) only [Vm.evF, Vm.evSs, Vm.evS, Vm.evX, Vm.evE, Vm.evEs, Vm.evIt, Vm.evPt, Vm.Res.bind_assoc, Vm.Res.bind_ok, Vm.Res.Ok_ok, Vm.bindT, Vm.setAll, Vm.boolOf, Vm.isNon, Vm.b_add, Vm.b_sub, Vm.a_add, Vm.c_eq, Vm.c_ne, Vm.c_lt, Vm.c_le, Vm.c_gt, Vm.c_ge, Vm.Bf_len, Vm.Bf_sum, Vm.Bf_min2, Vm.wipeE, Vm.Tg.slots, Vm.lcTurn, Vm.forTurn, List.map_cons, List.map_nil, List.length_cons, List.length_nil, List.length_map, List.cons_append, List.nil_append, List.getElem?_cons_zero, List.getElem?_cons_succ, List.set_cons_zero, List.set_cons_succ, List.reduceReplicate, Nat.reduceSub, Nat.reduceAdd, Nat.zero_add, Int.toNat_natCast, Bool.not_true, Bool.not_false, decide_true, decide_false, if_true, if_false, b_need_seat, s_is_seat_no (ws := ws) (N := n) (h := h) (by omega) bad]
  rfl
theorem ne_st {a b : Str} {h : IH} : cmpF .ne (.str a) (.str b) h = .ok (.bl (!decide (a = b))) h := rfl
theorem Pd.no3 {z : Str} {s : Int} : Pd 1 (.tup [.str "no", .str z, .int s]) := .tup (by simp) fun x hx => by
  rcases List.mem_cons.mp hx with rfl | hx
  · exact .str
  · rcases List.mem_cons.mp hx with rfl | hx
    · exact .str
    · rw [List.mem_singleton.mp hx]
      exact .int
theorem s_first_ns {s j : Int} (hN : 3 ≤ N) (bad : ¬ (0 ≤ s ∧ s < ws.length)) : sem Bf ds N 3 [tw ws, .int s, .int j] h = .exc "NoSeat" [.int s] h := by
  obtain ⟨n, rfl, kk⟩ := pre hN (by decide)
  rw [sem_at (d := d_first_of) (L := 3) (b := b_first_of) rfl rfl rfl]
  simp (config := { implicitDefEqProofs := false }) only [Vm.evF, Vm.evSs, Vm.evS, Vm.evX, Vm.evE, Vm.evEs, Vm.evIt, Vm.evPt, Vm.Res.bind_assoc, Vm.Res.bind_ok, Vm.Res.Ok_ok, Vm.bindT, Vm.setAll, Vm.boolOf, Vm.isNon, Vm.b_add, Vm.b_sub, Vm.a_add, Vm.c_eq, Vm.c_ne, Vm.c_lt, Vm.c_le, Vm.c_gt, Vm.c_ge, Vm.Bf_len, Vm.Bf_sum, Vm.Bf_min2, Vm.wipeE, Vm.Tg.slots, Vm.lcTurn, Vm.forTurn, List.map_cons, List.map_nil, List.length_cons, List.length_nil, List.length_map, List.cons_append, List.nil_append, List.getElem?_cons_zero, List.getElem?_cons_succ, List.set_cons_zero, List.set_cons_succ, List.reduceReplicate, Nat.reduceSub, Nat.reduceAdd, Nat.zero_add, Int.toNat_natCast, Bool.not_true, Bool.not_false, decide_true, decide_false, if_true, if_false, b_first_of, s_need_no (ws := ws) (N := n) (h := h) (by omega) bad]
  rfl
theorem s_first_nt {s j : Int} (hN : 3 ≤ N) (s0 : 0 ≤ s) (s1 : s < ws.length) (l : j < 1) : sem Bf ds N 3 [tw ws, .int s, .int j] h = .exc "NoTurn" [.int j] h := by
  obtain ⟨n, rfl, kk⟩ := pre hN (by decide)
  rw [sem_at (d := d_first_of) (L := 3) (b := b_first_of) rfl rfl rfl]
  simp (config := { implicitDefEqProofs := false }) only [Vm.evF, Vm.evSs, Vm.evS, Vm.evX, Vm.evE, Vm.evEs, Vm.evIt, Vm.evPt, Vm.Res.bind_assoc, Vm.Res.bind_ok, Vm.Res.Ok_ok, Vm.bindT, Vm.setAll, Vm.boolOf, Vm.isNon, Vm.b_add, Vm.b_sub, Vm.a_add, Vm.c_eq, Vm.c_ne, Vm.c_lt, Vm.c_le, Vm.c_gt, Vm.c_ge, Vm.Bf_len, Vm.Bf_sum, Vm.Bf_min2, Vm.wipeE, Vm.Tg.slots, Vm.lcTurn, Vm.forTurn, List.map_cons, List.map_nil, List.length_cons, List.length_nil, List.length_map, List.cons_append, List.nil_append, List.getElem?_cons_zero, List.getElem?_cons_succ, List.set_cons_zero, List.set_cons_succ, List.reduceReplicate, Nat.reduceSub, Nat.reduceAdd, Nat.zero_add, Int.toNat_natCast, Bool.not_true, Bool.not_false, decide_true, decide_false, if_true, if_false, b_first_of, s_need_seat (ws := ws) (N := n) (h := h) (by omega) s0 s1, s_turn_no (N := n) (h := h) (by omega) l]
  rfl
theorem s_last_ns {s j : Int} (hN : 3 ≤ N) (bad : ¬ (0 ≤ s ∧ s < ws.length)) : sem Bf ds N 4 [tw ws, .int s, .int j] h = .exc "NoSeat" [.int s] h := by
  obtain ⟨n, rfl, kk⟩ := pre hN (by decide)
  rw [sem_at (d := d_last_of) (L := 3) (b := b_last_of) rfl rfl rfl]
  simp (config := { implicitDefEqProofs := false }) only [Vm.evF, Vm.evSs, Vm.evS, Vm.evX, Vm.evE, Vm.evEs, Vm.evIt, Vm.evPt, Vm.Res.bind_assoc, Vm.Res.bind_ok, Vm.Res.Ok_ok, Vm.bindT, Vm.setAll, Vm.boolOf, Vm.isNon, Vm.b_add, Vm.b_sub, Vm.a_add, Vm.c_eq, Vm.c_ne, Vm.c_lt, Vm.c_le, Vm.c_gt, Vm.c_ge, Vm.Bf_len, Vm.Bf_sum, Vm.Bf_min2, Vm.wipeE, Vm.Tg.slots, Vm.lcTurn, Vm.forTurn, List.map_cons, List.map_nil, List.length_cons, List.length_nil, List.length_map, List.cons_append, List.nil_append, List.getElem?_cons_zero, List.getElem?_cons_succ, List.set_cons_zero, List.set_cons_succ, List.reduceReplicate, Nat.reduceSub, Nat.reduceAdd, Nat.zero_add, Int.toNat_natCast, Bool.not_true, Bool.not_false, decide_true, decide_false, if_true, if_false, b_last_of, s_need_no (ws := ws) (N := n) (h := h) (by omega) bad]
  rfl
theorem s_last_nt {s j : Int} (hN : 3 ≤ N) (s0 : 0 ≤ s) (s1 : s < ws.length) (l : j < 1) : sem Bf ds N 4 [tw ws, .int s, .int j] h = .exc "NoTurn" [.int j] h := by
  obtain ⟨n, rfl, kk⟩ := pre hN (by decide)
  rw [sem_at (d := d_last_of) (L := 3) (b := b_last_of) rfl rfl rfl]
  simp (config := { implicitDefEqProofs := false }) only [Vm.evF, Vm.evSs, Vm.evS, Vm.evX, Vm.evE, Vm.evEs, Vm.evIt, Vm.evPt, Vm.Res.bind_assoc, Vm.Res.bind_ok, Vm.Res.Ok_ok, Vm.bindT, Vm.setAll, Vm.boolOf, Vm.isNon, Vm.b_add, Vm.b_sub, Vm.a_add, Vm.c_eq, Vm.c_ne, Vm.c_lt, Vm.c_le, Vm.c_gt, Vm.c_ge, Vm.Bf_len, Vm.Bf_sum, Vm.Bf_min2, Vm.wipeE, Vm.Tg.slots, Vm.lcTurn, Vm.forTurn, List.map_cons, List.map_nil, List.length_cons, List.length_nil, List.length_map, List.cons_append, List.nil_append, List.getElem?_cons_zero, List.getElem?_cons_succ, List.set_cons_zero, List.set_cons_succ, List.reduceReplicate, Nat.reduceSub, Nat.reduceAdd, Nat.zero_add, Int.toNat_natCast, Bool.not_true, Bool.not_false, decide_true, decide_false, if_true, if_false, b_last_of, s_need_seat (ws := ws) (N := n) (h := h) (by omega) s0 s1, s_turn_no (N := n) (h := h) (by omega) l]
  rfl
theorem s_heard_first {s j : Int} (g : Good ws) (hN : 7 ≤ N) (s0 : 0 ≤ s) (s1 : s < ws.length) (hj : 1 ≤ j) : sem Bf ds N 17 [.int 0, tw ws, .int s, .int j] h = .ok (.tup [.str "told", .int ((j - 1) * ws.sum / wt ws s)]) h := by
  obtain ⟨n, rfl, kk⟩ := pre hN (by decide)
  rw [sem_at (d := d__law_heard) (L := 6) (b := b__law_heard) rfl rfl rfl]
  simp (config := { implicitDefEqProofs := false }) only [Vm.evF, Vm.evSs, Vm.evS, Vm.evX, Vm.evE, Vm.evEs, Vm.evIt, Vm.evPt, Vm.Res.bind_assoc, Vm.Res.bind_ok, Vm.Res.Ok_ok, Vm.bindT, Vm.setAll, Vm.boolOf, Vm.isNon, Vm.b_add, Vm.b_sub, Vm.a_add, Vm.c_eq, Vm.c_ne, Vm.c_lt, Vm.c_le, Vm.c_gt, Vm.c_ge, Vm.Bf_len, Vm.Bf_sum, Vm.Bf_min2, Vm.wipeE, Vm.Tg.slots, Vm.lcTurn, Vm.forTurn, List.map_cons, List.map_nil, List.length_cons, List.length_nil, List.length_map, List.cons_append, List.nil_append, List.getElem?_cons_zero, List.getElem?_cons_succ, List.set_cons_zero, List.set_cons_succ, List.reduceReplicate, Nat.reduceSub, Nat.reduceAdd, Nat.zero_add, Int.toNat_natCast, Bool.not_true, Bool.not_false, decide_true, decide_false, if_true, if_false, b__law_heard, newT_ok (h := h) (xs := [PV.str "other"]) (by simp), s_first_of (h := h) (N := n) g (by omega) s0 s1 hj, newT_ok (h := h) (xs := [PV.str "told", .int ((j - 1) * ws.sum / wt ws s)]) (by simp), triaF]
theorem s_heard_last {s j : Int} (g : Good ws) (hN : 8 ≤ N) (s0 : 0 ≤ s) (s1 : s < ws.length) (hj : 1 ≤ j) : sem Bf ds N 17 [.int 1, tw ws, .int s, .int j] h = .ok (.tup [.str "told", .int (-(-(j * ws.sum) / wt ws s) - 1)]) h := by
  obtain ⟨n, rfl, kk⟩ := pre hN (by decide)
  rw [sem_at (d := d__law_heard) (L := 6) (b := b__law_heard) rfl rfl rfl]
  have one : decide ((1 : Int) = 0) = false := rfl
  simp (config := { implicitDefEqProofs := false }) only [Vm.evF, Vm.evSs, Vm.evS, Vm.evX, Vm.evE, Vm.evEs, Vm.evIt, Vm.evPt, Vm.Res.bind_assoc, Vm.Res.bind_ok, Vm.Res.Ok_ok, Vm.bindT, Vm.setAll, Vm.boolOf, Vm.isNon, Vm.b_add, Vm.b_sub, Vm.a_add, Vm.c_eq, Vm.c_ne, Vm.c_lt, Vm.c_le, Vm.c_gt, Vm.c_ge, Vm.Bf_len, Vm.Bf_sum, Vm.Bf_min2, Vm.wipeE, Vm.Tg.slots, Vm.lcTurn, Vm.forTurn, List.map_cons, List.map_nil, List.length_cons, List.length_nil, List.length_map, List.cons_append, List.nil_append, List.getElem?_cons_zero, List.getElem?_cons_succ, List.set_cons_zero, List.set_cons_succ, List.reduceReplicate, Nat.reduceSub, Nat.reduceAdd, Nat.zero_add, Int.toNat_natCast, Bool.not_true, Bool.not_false, decide_true, decide_false, if_true, if_false, b__law_heard, newT_ok (h := h) (xs := [PV.str "other"]) (by simp), one, s_last_of (h := h) (N := n) g (by omega) s0 s1 hj, newT_ok (h := h) (xs := [PV.str "told", .int (-(-(j * ws.sum) / wt ws s) - 1)]) (by simp), triaF]
theorem s_heard_ns {w s j : Int} (hN : 4 ≤ N) (bad : ¬ (0 ≤ s ∧ s < ws.length)) : sem Bf ds N 17 [.int w, tw ws, .int s, .int j] h = .ok (.tup [.str "no", .str "seat", .int s]) h := by
  obtain ⟨n, rfl, kk⟩ := pre hN (by decide)
  rw [sem_at (d := d__law_heard) (L := 6) (b := b__law_heard) rfl rfl rfl]
  by_cases z : w = 0
  · simp (config := { implicitDefEqProofs := false }) only [Vm.evF, Vm.evSs, Vm.evS, Vm.evX, Vm.evE, Vm.evEs, Vm.evIt, Vm.evPt, Vm.Res.bind_assoc, Vm.Res.bind_ok, Vm.Res.Ok_ok, Vm.bindT, Vm.setAll, Vm.boolOf, Vm.isNon, Vm.b_add, Vm.b_sub, Vm.a_add, Vm.c_eq, Vm.c_ne, Vm.c_lt, Vm.c_le, Vm.c_gt, Vm.c_ge, Vm.Bf_len, Vm.Bf_sum, Vm.Bf_min2, Vm.wipeE, Vm.Tg.slots, Vm.lcTurn, Vm.forTurn, List.map_cons, List.map_nil, List.length_cons, List.length_nil, List.length_map, List.cons_append, List.nil_append, List.getElem?_cons_zero, List.getElem?_cons_succ, List.set_cons_zero, List.set_cons_succ, List.reduceReplicate, Nat.reduceSub, Nat.reduceAdd, Nat.zero_add, Int.toNat_natCast, Bool.not_true, Bool.not_false, decide_true, decide_false, if_true, if_false, b__law_heard, newT_ok (h := h) (xs := [PV.str "other"]) (by simp), z, s_first_ns (ws := ws) (N := n) (h := h) (j := j) (by omega) bad]
    rfl
  · simp (config := { implicitDefEqProofs := false }) only [Vm.evF, Vm.evSs, Vm.evS, Vm.evX, Vm.evE, Vm.evEs, Vm.evIt, Vm.evPt, Vm.Res.bind_assoc, Vm.Res.bind_ok, Vm.Res.Ok_ok, Vm.bindT, Vm.setAll, Vm.boolOf, Vm.isNon, Vm.b_add, Vm.b_sub, Vm.a_add, Vm.c_eq, Vm.c_ne, Vm.c_lt, Vm.c_le, Vm.c_gt, Vm.c_ge, Vm.Bf_len, Vm.Bf_sum, Vm.Bf_min2, Vm.wipeE, Vm.Tg.slots, Vm.lcTurn, Vm.forTurn, List.map_cons, List.map_nil, List.length_cons, List.length_nil, List.length_map, List.cons_append, List.nil_append, List.getElem?_cons_zero, List.getElem?_cons_succ, List.set_cons_zero, List.set_cons_succ, List.reduceReplicate, Nat.reduceSub, Nat.reduceAdd, Nat.zero_add, Int.toNat_natCast, Bool.not_true, Bool.not_false, decide_true, decide_false, if_true, if_false, b__law_heard, newT_ok (h := h) (xs := [PV.str "other"]) (by simp), z, s_last_ns (ws := ws) (N := n) (h := h) (j := j) (by omega) bad]
    rfl
theorem s_heard_nt {w s j : Int} (hN : 4 ≤ N) (s0 : 0 ≤ s) (s1 : s < ws.length) (l : j < 1) : sem Bf ds N 17 [.int w, tw ws, .int s, .int j] h = .ok (.tup [.str "no", .str "turn", .int j]) h := by
  obtain ⟨n, rfl, kk⟩ := pre hN (by decide)
  rw [sem_at (d := d__law_heard) (L := 6) (b := b__law_heard) rfl rfl rfl]
  by_cases z : w = 0
  · simp (config := { implicitDefEqProofs := false }) only [Vm.evF, Vm.evSs, Vm.evS, Vm.evX, Vm.evE, Vm.evEs, Vm.evIt, Vm.evPt, Vm.Res.bind_assoc, Vm.Res.bind_ok, Vm.Res.Ok_ok, Vm.bindT, Vm.setAll, Vm.boolOf, Vm.isNon, Vm.b_add, Vm.b_sub, Vm.a_add, Vm.c_eq, Vm.c_ne, Vm.c_lt, Vm.c_le, Vm.c_gt, Vm.c_ge, Vm.Bf_len, Vm.Bf_sum, Vm.Bf_min2, Vm.wipeE, Vm.Tg.slots, Vm.lcTurn, Vm.forTurn, List.map_cons, List.map_nil, List.length_cons, List.length_nil, List.length_map, List.cons_append, List.nil_append, List.getElem?_cons_zero, List.getElem?_cons_succ, List.set_cons_zero, List.set_cons_succ, List.reduceReplicate, Nat.reduceSub, Nat.reduceAdd, Nat.zero_add, Int.toNat_natCast, Bool.not_true, Bool.not_false, decide_true, decide_false, if_true, if_false, b__law_heard, newT_ok (h := h) (xs := [PV.str "other"]) (by simp), z, s_first_nt (ws := ws) (N := n) (h := h) (j := j) (by omega) s0 s1 (by omega)]
    rfl
  · simp (config := { implicitDefEqProofs := false }) only [Vm.evF, Vm.evSs, Vm.evS, Vm.evX, Vm.evE, Vm.evEs, Vm.evIt, Vm.evPt, Vm.Res.bind_assoc, Vm.Res.bind_ok, Vm.Res.Ok_ok, Vm.bindT, Vm.setAll, Vm.boolOf, Vm.isNon, Vm.b_add, Vm.b_sub, Vm.a_add, Vm.c_eq, Vm.c_ne, Vm.c_lt, Vm.c_le, Vm.c_gt, Vm.c_ge, Vm.Bf_len, Vm.Bf_sum, Vm.Bf_min2, Vm.wipeE, Vm.Tg.slots, Vm.lcTurn, Vm.forTurn, List.map_cons, List.map_nil, List.length_cons, List.length_nil, List.length_map, List.cons_append, List.nil_append, List.getElem?_cons_zero, List.getElem?_cons_succ, List.set_cons_zero, List.set_cons_succ, List.reduceReplicate, Nat.reduceSub, Nat.reduceAdd, Nat.zero_add, Int.toNat_natCast, Bool.not_true, Bool.not_false, decide_true, decide_false, if_true, if_false, b__law_heard, newT_ok (h := h) (xs := [PV.str "other"]) (by simp), z, s_last_nt (ws := ws) (N := n) (h := h) (j := j) (by omega) s0 s1 (by omega)]
    rfl
theorem ends_ {a w J : Int} (w0 : 0 < w) : a / w * w ≤ a ∧ a < (a / w + 1) * w ∧ (-(-a / w) - 1) * w < a ∧ a ≤ (-(-a / w) - 1 + 1) * w := by
  have h1 := Int.emod_nonneg a (show w ≠ 0 by omega)
  have h2 := Int.emod_lt_of_pos a w0
  have h3 := Int.mul_ediv_add_emod a w
  have h4 := Int.emod_nonneg (-a) (show w ≠ 0 by omega)
  have h5 := Int.emod_lt_of_pos (-a) w0
  have h6 := Int.mul_ediv_add_emod (-a) w
  generalize a / w = q at *
  generalize -a / w = p at *
  have e1 : q * w = w * q := Int.mul_comm _ _
  have e2 : (q + 1) * w = w * q + w := by rw [Int.add_mul, Int.mul_comm, Int.one_mul]
  have e3 : (-p - 1) * w = -(w * p) - w := by rw [Int.sub_mul, Int.neg_mul, Int.mul_comm, Int.one_mul]
  have e4 : (-p - 1 + 1) * w = -(w * p) := by rw [show -p - 1 + 1 = -p by omega, Int.neg_mul, Int.mul_comm]
  rw [e1, e2, e3, e4]
  omega
theorem s_is_window {s j : Int} (g : Good ws) (hN : 9 ≤ N) (s0 : 0 ≤ s) (s1 : s < ws.length) (hj : 1 ≤ j) : (sem Bf ds N 18 [tw ws, .int s, .int j] h).Ok fun r h1 => r = .bl true ∧ h1 = h := by
  obtain ⟨n, rfl, kk⟩ := pre hN (by decide)
  rw [sem_at (d := d__law_is_window) (L := 9) (b := b__law_is_window) rfl rfl rfl]
  have hs := g.sum
  have hw := g.wt s0 s1
  have E1 := ends_ (a := (j - 1) * ws.sum) (w := wt ws s) (J := 0) (by omega)
  have E2 := ends_ (a := j * ws.sum) (w := wt ws s) (J := 0) (by omega)
  simp (config := { implicitDefEqProofs := false }) only [Vm.evF, Vm.evSs, Vm.evS, Vm.evX, Vm.evE, Vm.evEs, Vm.evIt, Vm.evPt, Vm.Res.bind_assoc, Vm.Res.bind_ok, Vm.Res.Ok_ok, Vm.bindT, Vm.setAll, Vm.boolOf, Vm.isNon, Vm.b_add, Vm.b_sub, Vm.a_add, Vm.c_eq, Vm.c_ne, Vm.c_lt, Vm.c_le, Vm.c_gt, Vm.c_ge, Vm.Bf_len, Vm.Bf_sum, Vm.Bf_min2, Vm.wipeE, Vm.Tg.slots, Vm.lcTurn, Vm.forTurn, List.map_cons, List.map_nil, List.length_cons, List.length_nil, List.length_map, List.cons_append, List.nil_append, List.getElem?_cons_zero, List.getElem?_cons_succ, List.set_cons_zero, List.set_cons_succ, List.reduceReplicate, Nat.reduceSub, Nat.reduceAdd, Nat.zero_add, Int.toNat_natCast, Bool.not_true, Bool.not_false, decide_true, decide_false, if_true, if_false, b__law_is_window, ixW (h := h) s0 s1, s_heard_first (h := h) (N := n) g (by omega) s0 s1 hj, s_heard_last (h := h) (N := n) g (by omega) s0 s1 hj]
  generalize hA : (j - 1) * ws.sum / wt ws s = A at E1
  generalize hB : -(-(j * ws.sum) / wt ws s) - 1 = B at E2
  simp (config := { implicitDefEqProofs := false }) only [Vm.evF, Vm.evSs, Vm.evS, Vm.evX, Vm.evE, Vm.evEs, Vm.evIt, Vm.evPt, Vm.Res.bind_assoc, Vm.Res.bind_ok, Vm.Res.Ok_ok, Vm.bindT, Vm.setAll, Vm.boolOf, Vm.isNon, Vm.b_add, Vm.b_sub, Vm.a_add, Vm.c_eq, Vm.c_ne, Vm.c_lt, Vm.c_le, Vm.c_gt, Vm.c_ge, Vm.Bf_len, Vm.Bf_sum, Vm.Bf_min2, Vm.wipeE, Vm.Tg.slots, Vm.lcTurn, Vm.forTurn, List.map_cons, List.map_nil, List.length_cons, List.length_nil, List.length_map, List.cons_append, List.nil_append, List.getElem?_cons_zero, List.getElem?_cons_succ, List.set_cons_zero, List.set_cons_succ, List.reduceReplicate, Nat.reduceSub, Nat.reduceAdd, Nat.zero_add, Int.toNat_natCast, Bool.not_true, Bool.not_false, decide_true, decide_false, if_true, if_false, newT_ok (h := h) (xs := [PV.tup [PV.str "told", PV.int A], PV.tup [PV.str "told", PV.int B]]) (by simp)]
  have ix0 : ∀ {x : Int}, ixF (.tup [.str "told", .int x]) (.int 0) h = .ok (.str "told") h := fun {x} => rfl
  have ix1 : ∀ {x : Int}, ixF (.tup [.str "told", .int x]) (.int 1) h = .ok (.int x) h := fun {x} => rfl
  refine Res.ok_bind ((for_inv (xs := [PV.tup [PV.str "told", PV.int A], PV.tup [PV.str "told", PV.int B]]) (Q := fun o h5 => (∃ u3, o = .nx [some (tw ws), some (.int s), some (.int j), u3, none, some (.int ws.sum), some (.int (wt ws s)), some (.tup [.str "told", .int A]), some (.tup [.str "told", .int B])]) ∧ h5 = h)
      (fun k ev1 h5 => (∃ u3, ev1 = [some (tw ws), some (.int s), some (.int j), u3, none, some (.int ws.sum), some (.int (wt ws s)), some (.tup [.str "told", .int A]), some (.tup [.str "told", .int B])]) ∧ h5 = h)
      (fun _ _ _ _ => rfl) (fun k x ev1 h5 e j => ?_) (fun ev1 h5 j => ?_) _ 0 _ h (by simp [Src.fuel]) (Nat.zero_le _) ⟨⟨_, rfl⟩, rfl⟩).mono fun o h5 q => ?_)
  · obtain ⟨j1, rfl⟩ := j
    obtain ⟨u3, rfl⟩ := j1
    obtain ⟨z, rfl⟩ : ∃ z : Int, x = .tup [.str "told", .int z] := by
      have := List.mem_of_getElem? e
      simp only [List.mem_cons, List.not_mem_nil, or_false] at this
      rcases this with rfl | rfl <;> exact ⟨_, rfl⟩
    simp (config := { implicitDefEqProofs := false }) only [Vm.evF, Vm.evSs, Vm.evS, Vm.evX, Vm.evE, Vm.evEs, Vm.evIt, Vm.evPt, Vm.Res.bind_assoc, Vm.Res.bind_ok, Vm.Res.Ok_ok, Vm.bindT, Vm.setAll, Vm.boolOf, Vm.isNon, Vm.b_add, Vm.b_sub, Vm.a_add, Vm.c_eq, Vm.c_ne, Vm.c_lt, Vm.c_le, Vm.c_gt, Vm.c_ge, Vm.Bf_len, Vm.Bf_sum, Vm.Bf_min2, Vm.wipeE, Vm.Tg.slots, Vm.lcTurn, Vm.forTurn, List.map_cons, List.map_nil, List.length_cons, List.length_nil, List.length_map, List.cons_append, List.nil_append, List.getElem?_cons_zero, List.getElem?_cons_succ, List.set_cons_zero, List.set_cons_succ, List.reduceReplicate, Nat.reduceSub, Nat.reduceAdd, Nat.zero_add, Int.toNat_natCast, Bool.not_true, Bool.not_false, decide_true, decide_false, if_true, if_false, ix0, ix1, ne_st, k_int_int, k_int_bool]
    exact ⟨⟨_, rfl⟩, trivial⟩
  · obtain ⟨j1, rfl⟩ := j
    obtain ⟨u3, rfl⟩ := j1
    exact ⟨⟨_, rfl⟩, rfl⟩
  · obtain ⟨q1, rfl⟩ := q
    obtain ⟨u3, rfl⟩ := q1
    obtain ⟨a1, a2, _, _⟩ := E1
    obtain ⟨_, _, a3, a4⟩ := E2
    simp (config := { implicitDefEqProofs := false }) only [Vm.evF, Vm.evSs, Vm.evS, Vm.evX, Vm.evE, Vm.evEs, Vm.evIt, Vm.evPt, Vm.Res.bind_assoc, Vm.Res.bind_ok, Vm.Res.Ok_ok, Vm.bindT, Vm.setAll, Vm.boolOf, Vm.isNon, Vm.b_add, Vm.b_sub, Vm.a_add, Vm.c_eq, Vm.c_ne, Vm.c_lt, Vm.c_le, Vm.c_gt, Vm.c_ge, Vm.Bf_len, Vm.Bf_sum, Vm.Bf_min2, Vm.wipeE, Vm.Tg.slots, Vm.lcTurn, Vm.forTurn, List.map_cons, List.map_nil, List.length_cons, List.length_nil, List.length_map, List.cons_append, List.nil_append, List.getElem?_cons_zero, List.getElem?_cons_succ, List.set_cons_zero, List.set_cons_succ, List.reduceReplicate, Nat.reduceSub, Nat.reduceAdd, Nat.zero_add, Int.toNat_natCast, Bool.not_true, Bool.not_false, decide_true, decide_false, if_true, if_false, ix0, ix1, mul_r (h := h5) (i := A) (j := wt ws s) (by omega) (by omega), mul_r (h := h5) (i := A + 1) (j := wt ws s) (by omega) (by omega), mul_r (h := h5) (i := j - 1) (j := ws.sum) (by omega) (by omega), mul_r (h := h5) (i := B) (j := wt ws s) (by omega) (by omega), mul_r (h := h5) (i := B + 1) (j := wt ws s) (by omega) (by omega), mul_r (h := h5) (i := j) (j := ws.sum) (by omega) (by omega), a1, a2, a3, a4]
    exact ⟨trivial, trivial⟩
theorem s_is_refused {s j : Int} (hN : 6 ≤ N) (bad : ¬ (0 ≤ s ∧ s < ws.length) ∨ j < 1) : (sem Bf ds N 19 [tw ws, .int s, .int j] h).Ok fun r h1 => r = .bl true ∧ Ext h h1 := by
  obtain ⟨n, rfl, kk⟩ := pre hN (by decide)
  rw [sem_at (d := d__law_is_refused) (L := 5) (b := b__law_is_refused) rfl rfl rfl]
  rcases (show (0 ≤ s ∧ s < (ws.length : Int)) ∨ (0 ≤ s ∧ ¬ s < (ws.length : Int)) ∨ ¬ 0 ≤ s by omega) with ⟨s0, s1⟩ | ⟨s0, s1⟩ | s0
  · have hh : ∀ {w : Int} {h : IH}, sem Bf ds n 17 [.int w, tw ws, .int s, .int j] h = .ok (.tup [.str "no", .str "turn", .int j]) h := fun {w h} => s_heard_nt (by omega) s0 s1 (bad.resolve_left (fun q => q ⟨s0, s1⟩))
    simp (config := { implicitDefEqProofs := false }) only [Vm.evF, Vm.evSs, Vm.evS, Vm.evX, Vm.evE, Vm.evEs, Vm.evIt, Vm.evPt, Vm.Res.bind_assoc, Vm.Res.bind_ok, Vm.Res.Ok_ok, Vm.bindT, Vm.setAll, Vm.boolOf, Vm.isNon, Vm.b_add, Vm.b_sub, Vm.a_add, Vm.c_eq, Vm.c_ne, Vm.c_lt, Vm.c_le, Vm.c_gt, Vm.c_ge, Vm.Bf_len, Vm.Bf_sum, Vm.Bf_min2, Vm.wipeE, Vm.Tg.slots, Vm.lcTurn, Vm.forTurn, List.map_cons, List.map_nil, List.length_cons, List.length_nil, List.length_map, List.cons_append, List.nil_append, List.getElem?_cons_zero, List.getElem?_cons_succ, List.set_cons_zero, List.set_cons_succ, List.reduceReplicate, Nat.reduceSub, Nat.reduceAdd, Nat.zero_add, Int.toNat_natCast, Bool.not_true, Bool.not_false, decide_true, decide_false, if_true, if_false, b__law_is_refused, s0, s1, newT_ok (h := h) (xs := [PV.str "no", .str "turn", .int j]) (by simp), newT_ok (h := h) (xs := [PV.int 0, .int 1]) (by simp)]
    refine Res.ok_bind ((lc_pure (xs := [PV.int 0, .int 1]) (h0 := h) (fun _ => some (PV.bl true)) get_items (by simp [Src.fuel]) (by simp) (fun i x h2 e x2 => ?_)).mono fun acc h2 q => ?_)
    · obtain ⟨w, rfl⟩ : ∃ w : Int, x = .int w := by
        have := List.mem_of_getElem? e
        simp only [List.mem_cons, List.not_mem_nil, or_false] at this
        rcases this with rfl | rfl <;> exact ⟨_, rfl⟩
      refine Res.calm_of ?_
      simp (config := { implicitDefEqProofs := false }) only [Vm.evF, Vm.evSs, Vm.evS, Vm.evX, Vm.evE, Vm.evEs, Vm.evIt, Vm.evPt, Vm.Res.bind_assoc, Vm.Res.bind_ok, Vm.Res.Ok_ok, Vm.bindT, Vm.setAll, Vm.boolOf, Vm.isNon, Vm.b_add, Vm.b_sub, Vm.a_add, Vm.c_eq, Vm.c_ne, Vm.c_lt, Vm.c_le, Vm.c_gt, Vm.c_ge, Vm.Bf_len, Vm.Bf_sum, Vm.Bf_min2, Vm.wipeE, Vm.Tg.slots, Vm.lcTurn, Vm.forTurn, List.map_cons, List.map_nil, List.length_cons, List.length_nil, List.length_map, List.cons_append, List.nil_append, List.getElem?_cons_zero, List.getElem?_cons_succ, List.set_cons_zero, List.set_cons_succ, List.reduceReplicate, Nat.reduceSub, Nat.reduceAdd, Nat.zero_add, Int.toNat_natCast, Bool.not_true, Bool.not_false, decide_true, decide_false, if_true, if_false, hh (h := h2)]
      refine Res.ok_bind ((s_alike (h := h2) (N := n) (Pd.no3 (z := "turn") (s := j)) (by omega)).mono fun r h3 q => ?_)
      obtain ⟨rfl, x3⟩ := q
      try simp (config := { implicitDefEqProofs := false }) only [Vm.evF, Vm.evSs, Vm.evS, Vm.evX, Vm.evE, Vm.evEs, Vm.evIt, Vm.evPt, Vm.Res.bind_assoc, Vm.Res.bind_ok, Vm.Res.Ok_ok, Vm.bindT, Vm.setAll, Vm.boolOf, Vm.isNon, Vm.b_add, Vm.b_sub, Vm.a_add, Vm.c_eq, Vm.c_ne, Vm.c_lt, Vm.c_le, Vm.c_gt, Vm.c_ge, Vm.Bf_len, Vm.Bf_sum, Vm.Bf_min2, Vm.wipeE, Vm.Tg.slots, Vm.lcTurn, Vm.forTurn, List.map_cons, List.map_nil, List.length_cons, List.length_nil, List.length_map, List.cons_append, List.nil_append, List.getElem?_cons_zero, List.getElem?_cons_succ, List.set_cons_zero, List.set_cons_succ, List.reduceReplicate, Nat.reduceSub, Nat.reduceAdd, Nat.zero_add, Int.toNat_natCast, Bool.not_true, Bool.not_false, decide_true, decide_false, if_true, if_false]
      exact ⟨trivial, x2.trans x3⟩
    · obtain ⟨rfl, x2⟩ := q
      rw [fm_true]
      have e9 : Bf 11 [.ref h2.length] (h2 ++ [HV.lst [PV.bl true, .bl true]]) = .ok (.bl true) _ := all_rep (n := 2) (at_end _ _)
      simp (config := { implicitDefEqProofs := false }) only [Vm.evF, Vm.evSs, Vm.evS, Vm.evX, Vm.evE, Vm.evEs, Vm.evIt, Vm.evPt, Vm.Res.bind_assoc, Vm.Res.bind_ok, Vm.Res.Ok_ok, Vm.bindT, Vm.setAll, Vm.boolOf, Vm.isNon, Vm.b_add, Vm.b_sub, Vm.a_add, Vm.c_eq, Vm.c_ne, Vm.c_lt, Vm.c_le, Vm.c_gt, Vm.c_ge, Vm.Bf_len, Vm.Bf_sum, Vm.Bf_min2, Vm.wipeE, Vm.Tg.slots, Vm.lcTurn, Vm.forTurn, List.map_cons, List.map_nil, List.length_cons, List.length_nil, List.length_map, List.cons_append, List.nil_append, List.getElem?_cons_zero, List.getElem?_cons_succ, List.set_cons_zero, List.set_cons_succ, List.reduceReplicate, Nat.reduceSub, Nat.reduceAdd, Nat.zero_add, Int.toNat_natCast, Bool.not_true, Bool.not_false, decide_true, decide_false, if_true, if_false, e9]
      exact ⟨trivial, x2.trans (Ext.app _ _)⟩
  · have hh : ∀ {w : Int} {h : IH}, sem Bf ds n 17 [.int w, tw ws, .int s, .int j] h = .ok (.tup [.str "no", .str "seat", .int s]) h := fun {w h} => s_heard_ns (by omega) (by omega)
    simp (config := { implicitDefEqProofs := false }) only [Vm.evF, Vm.evSs, Vm.evS, Vm.evX, Vm.evE, Vm.evEs, Vm.evIt, Vm.evPt, Vm.Res.bind_assoc, Vm.Res.bind_ok, Vm.Res.Ok_ok, Vm.bindT, Vm.setAll, Vm.boolOf, Vm.isNon, Vm.b_add, Vm.b_sub, Vm.a_add, Vm.c_eq, Vm.c_ne, Vm.c_lt, Vm.c_le, Vm.c_gt, Vm.c_ge, Vm.Bf_len, Vm.Bf_sum, Vm.Bf_min2, Vm.wipeE, Vm.Tg.slots, Vm.lcTurn, Vm.forTurn, List.map_cons, List.map_nil, List.length_cons, List.length_nil, List.length_map, List.cons_append, List.nil_append, List.getElem?_cons_zero, List.getElem?_cons_succ, List.set_cons_zero, List.set_cons_succ, List.reduceReplicate, Nat.reduceSub, Nat.reduceAdd, Nat.zero_add, Int.toNat_natCast, Bool.not_true, Bool.not_false, decide_true, decide_false, if_true, if_false, b__law_is_refused, s0, s1, newT_ok (h := h) (xs := [PV.str "no", .str "seat", .int s]) (by simp), newT_ok (h := h) (xs := [PV.int 0, .int 1]) (by simp)]
    refine Res.ok_bind ((lc_pure (xs := [PV.int 0, .int 1]) (h0 := h) (fun _ => some (PV.bl true)) get_items (by simp [Src.fuel]) (by simp) (fun i x h2 e x2 => ?_)).mono fun acc h2 q => ?_)
    · obtain ⟨w, rfl⟩ : ∃ w : Int, x = .int w := by
        have := List.mem_of_getElem? e
        simp only [List.mem_cons, List.not_mem_nil, or_false] at this
        rcases this with rfl | rfl <;> exact ⟨_, rfl⟩
      refine Res.calm_of ?_
      simp (config := { implicitDefEqProofs := false }) only [Vm.evF, Vm.evSs, Vm.evS, Vm.evX, Vm.evE, Vm.evEs, Vm.evIt, Vm.evPt, Vm.Res.bind_assoc, Vm.Res.bind_ok, Vm.Res.Ok_ok, Vm.bindT, Vm.setAll, Vm.boolOf, Vm.isNon, Vm.b_add, Vm.b_sub, Vm.a_add, Vm.c_eq, Vm.c_ne, Vm.c_lt, Vm.c_le, Vm.c_gt, Vm.c_ge, Vm.Bf_len, Vm.Bf_sum, Vm.Bf_min2, Vm.wipeE, Vm.Tg.slots, Vm.lcTurn, Vm.forTurn, List.map_cons, List.map_nil, List.length_cons, List.length_nil, List.length_map, List.cons_append, List.nil_append, List.getElem?_cons_zero, List.getElem?_cons_succ, List.set_cons_zero, List.set_cons_succ, List.reduceReplicate, Nat.reduceSub, Nat.reduceAdd, Nat.zero_add, Int.toNat_natCast, Bool.not_true, Bool.not_false, decide_true, decide_false, if_true, if_false, hh (h := h2)]
      refine Res.ok_bind ((s_alike (h := h2) (N := n) (Pd.no3 (z := "seat") (s := s)) (by omega)).mono fun r h3 q => ?_)
      obtain ⟨rfl, x3⟩ := q
      try simp (config := { implicitDefEqProofs := false }) only [Vm.evF, Vm.evSs, Vm.evS, Vm.evX, Vm.evE, Vm.evEs, Vm.evIt, Vm.evPt, Vm.Res.bind_assoc, Vm.Res.bind_ok, Vm.Res.Ok_ok, Vm.bindT, Vm.setAll, Vm.boolOf, Vm.isNon, Vm.b_add, Vm.b_sub, Vm.a_add, Vm.c_eq, Vm.c_ne, Vm.c_lt, Vm.c_le, Vm.c_gt, Vm.c_ge, Vm.Bf_len, Vm.Bf_sum, Vm.Bf_min2, Vm.wipeE, Vm.Tg.slots, Vm.lcTurn, Vm.forTurn, List.map_cons, List.map_nil, List.length_cons, List.length_nil, List.length_map, List.cons_append, List.nil_append, List.getElem?_cons_zero, List.getElem?_cons_succ, List.set_cons_zero, List.set_cons_succ, List.reduceReplicate, Nat.reduceSub, Nat.reduceAdd, Nat.zero_add, Int.toNat_natCast, Bool.not_true, Bool.not_false, decide_true, decide_false, if_true, if_false]
      exact ⟨trivial, x2.trans x3⟩
    · obtain ⟨rfl, x2⟩ := q
      rw [fm_true]
      have e9 : Bf 11 [.ref h2.length] (h2 ++ [HV.lst [PV.bl true, .bl true]]) = .ok (.bl true) _ := all_rep (n := 2) (at_end _ _)
      simp (config := { implicitDefEqProofs := false }) only [Vm.evF, Vm.evSs, Vm.evS, Vm.evX, Vm.evE, Vm.evEs, Vm.evIt, Vm.evPt, Vm.Res.bind_assoc, Vm.Res.bind_ok, Vm.Res.Ok_ok, Vm.bindT, Vm.setAll, Vm.boolOf, Vm.isNon, Vm.b_add, Vm.b_sub, Vm.a_add, Vm.c_eq, Vm.c_ne, Vm.c_lt, Vm.c_le, Vm.c_gt, Vm.c_ge, Vm.Bf_len, Vm.Bf_sum, Vm.Bf_min2, Vm.wipeE, Vm.Tg.slots, Vm.lcTurn, Vm.forTurn, List.map_cons, List.map_nil, List.length_cons, List.length_nil, List.length_map, List.cons_append, List.nil_append, List.getElem?_cons_zero, List.getElem?_cons_succ, List.set_cons_zero, List.set_cons_succ, List.reduceReplicate, Nat.reduceSub, Nat.reduceAdd, Nat.zero_add, Int.toNat_natCast, Bool.not_true, Bool.not_false, decide_true, decide_false, if_true, if_false, e9]
      exact ⟨trivial, x2.trans (Ext.app _ _)⟩
  · have hh : ∀ {w : Int} {h : IH}, sem Bf ds n 17 [.int w, tw ws, .int s, .int j] h = .ok (.tup [.str "no", .str "seat", .int s]) h := fun {w h} => s_heard_ns (by omega) (by omega)
    simp (config := { implicitDefEqProofs := false }) only [Vm.evF, Vm.evSs, Vm.evS, Vm.evX, Vm.evE, Vm.evEs, Vm.evIt, Vm.evPt, Vm.Res.bind_assoc, Vm.Res.bind_ok, Vm.Res.Ok_ok, Vm.bindT, Vm.setAll, Vm.boolOf, Vm.isNon, Vm.b_add, Vm.b_sub, Vm.a_add, Vm.c_eq, Vm.c_ne, Vm.c_lt, Vm.c_le, Vm.c_gt, Vm.c_ge, Vm.Bf_len, Vm.Bf_sum, Vm.Bf_min2, Vm.wipeE, Vm.Tg.slots, Vm.lcTurn, Vm.forTurn, List.map_cons, List.map_nil, List.length_cons, List.length_nil, List.length_map, List.cons_append, List.nil_append, List.getElem?_cons_zero, List.getElem?_cons_succ, List.set_cons_zero, List.set_cons_succ, List.reduceReplicate, Nat.reduceSub, Nat.reduceAdd, Nat.zero_add, Int.toNat_natCast, Bool.not_true, Bool.not_false, decide_true, decide_false, if_true, if_false, b__law_is_refused, s0, newT_ok (h := h) (xs := [PV.str "no", .str "seat", .int s]) (by simp), newT_ok (h := h) (xs := [PV.int 0, .int 1]) (by simp)]
    refine Res.ok_bind ((lc_pure (xs := [PV.int 0, .int 1]) (h0 := h) (fun _ => some (PV.bl true)) get_items (by simp [Src.fuel]) (by simp) (fun i x h2 e x2 => ?_)).mono fun acc h2 q => ?_)
    · obtain ⟨w, rfl⟩ : ∃ w : Int, x = .int w := by
        have := List.mem_of_getElem? e
        simp only [List.mem_cons, List.not_mem_nil, or_false] at this
        rcases this with rfl | rfl <;> exact ⟨_, rfl⟩
      refine Res.calm_of ?_
      simp (config := { implicitDefEqProofs := false }) only [Vm.evF, Vm.evSs, Vm.evS, Vm.evX, Vm.evE, Vm.evEs, Vm.evIt, Vm.evPt, Vm.Res.bind_assoc, Vm.Res.bind_ok, Vm.Res.Ok_ok, Vm.bindT, Vm.setAll, Vm.boolOf, Vm.isNon, Vm.b_add, Vm.b_sub, Vm.a_add, Vm.c_eq, Vm.c_ne, Vm.c_lt, Vm.c_le, Vm.c_gt, Vm.c_ge, Vm.Bf_len, Vm.Bf_sum, Vm.Bf_min2, Vm.wipeE, Vm.Tg.slots, Vm.lcTurn, Vm.forTurn, List.map_cons, List.map_nil, List.length_cons, List.length_nil, List.length_map, List.cons_append, List.nil_append, List.getElem?_cons_zero, List.getElem?_cons_succ, List.set_cons_zero, List.set_cons_succ, List.reduceReplicate, Nat.reduceSub, Nat.reduceAdd, Nat.zero_add, Int.toNat_natCast, Bool.not_true, Bool.not_false, decide_true, decide_false, if_true, if_false, hh (h := h2)]
      refine Res.ok_bind ((s_alike (h := h2) (N := n) (Pd.no3 (z := "seat") (s := s)) (by omega)).mono fun r h3 q => ?_)
      obtain ⟨rfl, x3⟩ := q
      try simp (config := { implicitDefEqProofs := false }) only [Vm.evF, Vm.evSs, Vm.evS, Vm.evX, Vm.evE, Vm.evEs, Vm.evIt, Vm.evPt, Vm.Res.bind_assoc, Vm.Res.bind_ok, Vm.Res.Ok_ok, Vm.bindT, Vm.setAll, Vm.boolOf, Vm.isNon, Vm.b_add, Vm.b_sub, Vm.a_add, Vm.c_eq, Vm.c_ne, Vm.c_lt, Vm.c_le, Vm.c_gt, Vm.c_ge, Vm.Bf_len, Vm.Bf_sum, Vm.Bf_min2, Vm.wipeE, Vm.Tg.slots, Vm.lcTurn, Vm.forTurn, List.map_cons, List.map_nil, List.length_cons, List.length_nil, List.length_map, List.cons_append, List.nil_append, List.getElem?_cons_zero, List.getElem?_cons_succ, List.set_cons_zero, List.set_cons_succ, List.reduceReplicate, Nat.reduceSub, Nat.reduceAdd, Nat.zero_add, Int.toNat_natCast, Bool.not_true, Bool.not_false, decide_true, decide_false, if_true, if_false]
      exact ⟨trivial, x2.trans x3⟩
    · obtain ⟨rfl, x2⟩ := q
      rw [fm_true]
      have e9 : Bf 11 [.ref h2.length] (h2 ++ [HV.lst [PV.bl true, .bl true]]) = .ok (.bl true) _ := all_rep (n := 2) (at_end _ _)
      simp (config := { implicitDefEqProofs := false }) only [Vm.evF, Vm.evSs, Vm.evS, Vm.evX, Vm.evE, Vm.evEs, Vm.evIt, Vm.evPt, Vm.Res.bind_assoc, Vm.Res.bind_ok, Vm.Res.Ok_ok, Vm.bindT, Vm.setAll, Vm.boolOf, Vm.isNon, Vm.b_add, Vm.b_sub, Vm.a_add, Vm.c_eq, Vm.c_ne, Vm.c_lt, Vm.c_le, Vm.c_gt, Vm.c_ge, Vm.Bf_len, Vm.Bf_sum, Vm.Bf_min2, Vm.wipeE, Vm.Tg.slots, Vm.lcTurn, Vm.forTurn, List.map_cons, List.map_nil, List.length_cons, List.length_nil, List.length_map, List.cons_append, List.nil_append, List.getElem?_cons_zero, List.getElem?_cons_succ, List.set_cons_zero, List.set_cons_succ, List.reduceReplicate, Nat.reduceSub, Nat.reduceAdd, Nat.zero_add, Int.toNat_natCast, Bool.not_true, Bool.not_false, decide_true, decide_false, if_true, if_false, e9]
      exact ⟨trivial, x2.trans (Ext.app _ _)⟩
end
end K19

set_option Elab.async false
set_option linter.all false
set_option maxRecDepth 100000
set_option maxHeartbeats 4000000
namespace K19
open PySem PySem.Spec PyProof.Rows L2 Vm Rd
def isI : PV → Bool
  | .int _ => true
  | _ => false
def okW : PV → Bool
  | .int i => decide (1 ≤ i)
  | _ => false
def wB : PV → Bool
  | .tup xs => !xs.isEmpty && xs.all okW
  | _ => false
section
variable {h : IH} {N f c t n : Nat}
theorem ref_int {h : IH} {a : Nat} {xs : List PV} (e : h[a]? = some (.lst xs)) : isF .int (.ref a) h = .ok (.bl false) h := by simp [isF, tyOf, e, Ty.word]
theorem ref_tuple {h : IH} {a : Nat} {xs : List PV} (e : h[a]? = some (.lst xs)) : isF .tuple (.ref a) h = .ok (.bl false) h := by simp [isF, tyOf, e, Ty.word]
theorem s_num {x : PV} (hN : 1 ≤ N) (d : Dd f h c t n x) : sem Bf ds N 1 [x] h = .ok (.bl (isI x)) h := by
  obtain ⟨N, rfl, kk⟩ := pre hN (by decide)
  rw [sem_at (d := d_is_number) (L := 1) (b := b_is_number) rfl rfl rfl]
  cases d with
  | non =>
    have i1 : isF .int .non h = .ok (.bl false) h := rfl
    simp (config := { implicitDefEqProofs := false }) only [Vm.evF, Vm.evSs, Vm.evS, Vm.evX, Vm.evE, Vm.evEs, Vm.evIt, Vm.evPt, Vm.Res.bind_assoc, Vm.Res.bind_ok, Vm.Res.Ok_ok, Vm.bindT, Vm.setAll, Vm.boolOf, Vm.isNon, Vm.b_add, Vm.b_sub, Vm.a_add, Vm.c_eq, Vm.c_ne, Vm.c_lt, Vm.c_le, Vm.c_gt, Vm.c_ge, Vm.Bf_len, Vm.Bf_sum, Vm.Bf_min2, Vm.wipeE, Vm.Tg.slots, Vm.lcTurn, Vm.forTurn, List.map_cons, List.map_nil, List.length_cons, List.length_nil, List.length_map, List.cons_append, List.nil_append, List.getElem?_cons_zero, List.getElem?_cons_succ, List.set_cons_zero, List.set_cons_succ, List.reduceReplicate, Nat.reduceSub, Nat.reduceAdd, Nat.zero_add, Int.toNat_natCast, Bool.not_true, Bool.not_false, decide_true, decide_false, if_true, if_false, b_is_number, i1]
    rfl
  | bl =>
    simp (config := { implicitDefEqProofs := false }) only [Vm.evF, Vm.evSs, Vm.evS, Vm.evX, Vm.evE, Vm.evEs, Vm.evIt, Vm.evPt, Vm.Res.bind_assoc, Vm.Res.bind_ok, Vm.Res.Ok_ok, Vm.bindT, Vm.setAll, Vm.boolOf, Vm.isNon, Vm.b_add, Vm.b_sub, Vm.a_add, Vm.c_eq, Vm.c_ne, Vm.c_lt, Vm.c_le, Vm.c_gt, Vm.c_ge, Vm.Bf_len, Vm.Bf_sum, Vm.Bf_min2, Vm.wipeE, Vm.Tg.slots, Vm.lcTurn, Vm.forTurn, List.map_cons, List.map_nil, List.length_cons, List.length_nil, List.length_map, List.cons_append, List.nil_append, List.getElem?_cons_zero, List.getElem?_cons_succ, List.set_cons_zero, List.set_cons_succ, List.reduceReplicate, Nat.reduceSub, Nat.reduceAdd, Nat.zero_add, Int.toNat_natCast, Bool.not_true, Bool.not_false, decide_true, decide_false, if_true, if_false, b_is_number, k_bl_int, k_bl_bool]
    rfl
  | int =>
    simp (config := { implicitDefEqProofs := false }) only [Vm.evF, Vm.evSs, Vm.evS, Vm.evX, Vm.evE, Vm.evEs, Vm.evIt, Vm.evPt, Vm.Res.bind_assoc, Vm.Res.bind_ok, Vm.Res.Ok_ok, Vm.bindT, Vm.setAll, Vm.boolOf, Vm.isNon, Vm.b_add, Vm.b_sub, Vm.a_add, Vm.c_eq, Vm.c_ne, Vm.c_lt, Vm.c_le, Vm.c_gt, Vm.c_ge, Vm.Bf_len, Vm.Bf_sum, Vm.Bf_min2, Vm.wipeE, Vm.Tg.slots, Vm.lcTurn, Vm.forTurn, List.map_cons, List.map_nil, List.length_cons, List.length_nil, List.length_map, List.cons_append, List.nil_append, List.getElem?_cons_zero, List.getElem?_cons_succ, List.set_cons_zero, List.set_cons_succ, List.reduceReplicate, Nat.reduceSub, Nat.reduceAdd, Nat.zero_add, Int.toNat_natCast, Bool.not_true, Bool.not_false, decide_true, decide_false, if_true, if_false, b_is_number, k_int_int, k_int_bool]
    rfl
  | str =>
    simp (config := { implicitDefEqProofs := false }) only [Vm.evF, Vm.evSs, Vm.evS, Vm.evX, Vm.evE, Vm.evEs, Vm.evIt, Vm.evPt, Vm.Res.bind_assoc, Vm.Res.bind_ok, Vm.Res.Ok_ok, Vm.bindT, Vm.setAll, Vm.boolOf, Vm.isNon, Vm.b_add, Vm.b_sub, Vm.a_add, Vm.c_eq, Vm.c_ne, Vm.c_lt, Vm.c_le, Vm.c_gt, Vm.c_ge, Vm.Bf_len, Vm.Bf_sum, Vm.Bf_min2, Vm.wipeE, Vm.Tg.slots, Vm.lcTurn, Vm.forTurn, List.map_cons, List.map_nil, List.length_cons, List.length_nil, List.length_map, List.cons_append, List.nil_append, List.getElem?_cons_zero, List.getElem?_cons_succ, List.set_cons_zero, List.set_cons_succ, List.reduceReplicate, Nat.reduceSub, Nat.reduceAdd, Nat.zero_add, Int.toNat_natCast, Bool.not_true, Bool.not_false, decide_true, decide_false, if_true, if_false, b_is_number, k_str_int]
    rfl
  | tup =>
    simp (config := { implicitDefEqProofs := false }) only [Vm.evF, Vm.evSs, Vm.evS, Vm.evX, Vm.evE, Vm.evEs, Vm.evIt, Vm.evPt, Vm.Res.bind_assoc, Vm.Res.bind_ok, Vm.Res.Ok_ok, Vm.bindT, Vm.setAll, Vm.boolOf, Vm.isNon, Vm.b_add, Vm.b_sub, Vm.a_add, Vm.c_eq, Vm.c_ne, Vm.c_lt, Vm.c_le, Vm.c_gt, Vm.c_ge, Vm.Bf_len, Vm.Bf_sum, Vm.Bf_min2, Vm.wipeE, Vm.Tg.slots, Vm.lcTurn, Vm.forTurn, List.map_cons, List.map_nil, List.length_cons, List.length_nil, List.length_map, List.cons_append, List.nil_append, List.getElem?_cons_zero, List.getElem?_cons_succ, List.set_cons_zero, List.set_cons_succ, List.reduceReplicate, Nat.reduceSub, Nat.reduceAdd, Nat.zero_add, Int.toNat_natCast, Bool.not_true, Bool.not_false, decide_true, decide_false, if_true, if_false, b_is_number, k_tup_int]
    rfl
  | ref af e l ks =>
    have i1 := ref_int e
    simp (config := { implicitDefEqProofs := false }) only [Vm.evF, Vm.evSs, Vm.evS, Vm.evX, Vm.evE, Vm.evEs, Vm.evIt, Vm.evPt, Vm.Res.bind_assoc, Vm.Res.bind_ok, Vm.Res.Ok_ok, Vm.bindT, Vm.setAll, Vm.boolOf, Vm.isNon, Vm.b_add, Vm.b_sub, Vm.a_add, Vm.c_eq, Vm.c_ne, Vm.c_lt, Vm.c_le, Vm.c_gt, Vm.c_ge, Vm.Bf_len, Vm.Bf_sum, Vm.Bf_min2, Vm.wipeE, Vm.Tg.slots, Vm.lcTurn, Vm.forTurn, List.map_cons, List.map_nil, List.length_cons, List.length_nil, List.length_map, List.cons_append, List.nil_append, List.getElem?_cons_zero, List.getElem?_cons_succ, List.set_cons_zero, List.set_cons_succ, List.reduceReplicate, Nat.reduceSub, Nat.reduceAdd, Nat.zero_add, Int.toNat_natCast, Bool.not_true, Bool.not_false, decide_true, decide_false, if_true, if_false, b_is_number, i1]
    rfl
theorem ag_all {xs : List PV} {g : PV → IH → Res Bool} {p : PV → Bool} (hf : ∀ x ∈ xs, g x h = .ok (p x) h) : ∀ n k, n = xs.length + 1 - k → k ≤ xs.length → agLoop true (.items xs) g n k h = .ok (.bl ((xs.drop k).all p)) h
  | 0, k, hn, hk => by omega
  | n + 1, k, hn, hk => by
    unfold agLoop
    have sg : (Src.items xs).get h k = some (xs[k]?) := rfl
    rw [sg]
    by_cases lt : k < xs.length
    · rw [List.getElem?_eq_getElem lt]
      dsimp only
      rw [hf _ (List.getElem_mem lt), Res.bind_ok]
      have ih := ag_all hf n (k + 1) (by omega) (by omega)
      rw [List.drop_eq_getElem_cons lt, List.all_cons]
      cases p xs[k]
      · rfl
      · rw [if_pos rfl, ih, Bool.true_and]
    · have : k = xs.length := by omega
      subst this
      rw [List.getElem?_eq_none (Nat.le_refl _)]
      simp
theorem s_is_weights {x : PV} (hN : 2 ≤ N) (d : Dd f h c t n x) : sem Bf ds N 2 [x] h = .ok (.bl (wB x)) h := by
  obtain ⟨N, rfl, kk⟩ := pre hN (by decide)
  rw [sem_at (d := d_is_weights) (L := 2) (b := b_is_weights) rfl rfl rfl]
  cases d with
  | non =>
    have i1 : isF .tuple .non h = .ok (.bl false) h := rfl
    simp (config := { implicitDefEqProofs := false }) only [Vm.evF, Vm.evSs, Vm.evS, Vm.evX, Vm.evE, Vm.evEs, Vm.evIt, Vm.evPt, Vm.Res.bind_assoc, Vm.Res.bind_ok, Vm.Res.Ok_ok, Vm.bindT, Vm.setAll, Vm.boolOf, Vm.isNon, Vm.b_add, Vm.b_sub, Vm.a_add, Vm.c_eq, Vm.c_ne, Vm.c_lt, Vm.c_le, Vm.c_gt, Vm.c_ge, Vm.Bf_len, Vm.Bf_sum, Vm.Bf_min2, Vm.wipeE, Vm.Tg.slots, Vm.lcTurn, Vm.forTurn, List.map_cons, List.map_nil, List.length_cons, List.length_nil, List.length_map, List.cons_append, List.nil_append, List.getElem?_cons_zero, List.getElem?_cons_succ, List.set_cons_zero, List.set_cons_succ, List.reduceReplicate, Nat.reduceSub, Nat.reduceAdd, Nat.zero_add, Int.toNat_natCast, Bool.not_true, Bool.not_false, decide_true, decide_false, if_true, if_false, b_is_weights, i1]
    rfl
  | bl =>
    simp (config := { implicitDefEqProofs := false }) only [Vm.evF, Vm.evSs, Vm.evS, Vm.evX, Vm.evE, Vm.evEs, Vm.evIt, Vm.evPt, Vm.Res.bind_assoc, Vm.Res.bind_ok, Vm.Res.Ok_ok, Vm.bindT, Vm.setAll, Vm.boolOf, Vm.isNon, Vm.b_add, Vm.b_sub, Vm.a_add, Vm.c_eq, Vm.c_ne, Vm.c_lt, Vm.c_le, Vm.c_gt, Vm.c_ge, Vm.Bf_len, Vm.Bf_sum, Vm.Bf_min2, Vm.wipeE, Vm.Tg.slots, Vm.lcTurn, Vm.forTurn, List.map_cons, List.map_nil, List.length_cons, List.length_nil, List.length_map, List.cons_append, List.nil_append, List.getElem?_cons_zero, List.getElem?_cons_succ, List.set_cons_zero, List.set_cons_succ, List.reduceReplicate, Nat.reduceSub, Nat.reduceAdd, Nat.zero_add, Int.toNat_natCast, Bool.not_true, Bool.not_false, decide_true, decide_false, if_true, if_false, b_is_weights, k_bl_tuple]
    rfl
  | int =>
    simp (config := { implicitDefEqProofs := false }) only [Vm.evF, Vm.evSs, Vm.evS, Vm.evX, Vm.evE, Vm.evEs, Vm.evIt, Vm.evPt, Vm.Res.bind_assoc, Vm.Res.bind_ok, Vm.Res.Ok_ok, Vm.bindT, Vm.setAll, Vm.boolOf, Vm.isNon, Vm.b_add, Vm.b_sub, Vm.a_add, Vm.c_eq, Vm.c_ne, Vm.c_lt, Vm.c_le, Vm.c_gt, Vm.c_ge, Vm.Bf_len, Vm.Bf_sum, Vm.Bf_min2, Vm.wipeE, Vm.Tg.slots, Vm.lcTurn, Vm.forTurn, List.map_cons, List.map_nil, List.length_cons, List.length_nil, List.length_map, List.cons_append, List.nil_append, List.getElem?_cons_zero, List.getElem?_cons_succ, List.set_cons_zero, List.set_cons_succ, List.reduceReplicate, Nat.reduceSub, Nat.reduceAdd, Nat.zero_add, Int.toNat_natCast, Bool.not_true, Bool.not_false, decide_true, decide_false, if_true, if_false, b_is_weights, k_int_tuple]
    rfl
  | str =>
    simp (config := { implicitDefEqProofs := false }) only [Vm.evF, Vm.evSs, Vm.evS, Vm.evX, Vm.evE, Vm.evEs, Vm.evIt, Vm.evPt, Vm.Res.bind_assoc, Vm.Res.bind_ok, Vm.Res.Ok_ok, Vm.bindT, Vm.setAll, Vm.boolOf, Vm.isNon, Vm.b_add, Vm.b_sub, Vm.a_add, Vm.c_eq, Vm.c_ne, Vm.c_lt, Vm.c_le, Vm.c_gt, Vm.c_ge, Vm.Bf_len, Vm.Bf_sum, Vm.Bf_min2, Vm.wipeE, Vm.Tg.slots, Vm.lcTurn, Vm.forTurn, List.map_cons, List.map_nil, List.length_cons, List.length_nil, List.length_map, List.cons_append, List.nil_append, List.getElem?_cons_zero, List.getElem?_cons_succ, List.set_cons_zero, List.set_cons_succ, List.reduceReplicate, Nat.reduceSub, Nat.reduceAdd, Nat.zero_add, Int.toNat_natCast, Bool.not_true, Bool.not_false, decide_true, decide_false, if_true, if_false, b_is_weights, k_str_tuple]
    rfl
  | ref af e l ks =>
    have i1 := ref_tuple e
    simp (config := { implicitDefEqProofs := false }) only [Vm.evF, Vm.evSs, Vm.evS, Vm.evX, Vm.evE, Vm.evEs, Vm.evIt, Vm.evPt, Vm.Res.bind_assoc, Vm.Res.bind_ok, Vm.Res.Ok_ok, Vm.bindT, Vm.setAll, Vm.boolOf, Vm.isNon, Vm.b_add, Vm.b_sub, Vm.a_add, Vm.c_eq, Vm.c_ne, Vm.c_lt, Vm.c_le, Vm.c_gt, Vm.c_ge, Vm.Bf_len, Vm.Bf_sum, Vm.Bf_min2, Vm.wipeE, Vm.Tg.slots, Vm.lcTurn, Vm.forTurn, List.map_cons, List.map_nil, List.length_cons, List.length_nil, List.length_map, List.cons_append, List.nil_append, List.getElem?_cons_zero, List.getElem?_cons_succ, List.set_cons_zero, List.set_cons_succ, List.reduceReplicate, Nat.reduceSub, Nat.reduceAdd, Nat.zero_add, Int.toNat_natCast, Bool.not_true, Bool.not_false, decide_true, decide_false, if_true, if_false, b_is_weights, i1]
    rfl
  | @tup m xs l ks =>
    cases xs with
    | nil =>
      simp (config := { implicitDefEqProofs := false }) only [Vm.evF, Vm.evSs, Vm.evS, Vm.evX, Vm.evE, Vm.evEs, Vm.evIt, Vm.evPt, Vm.Res.bind_assoc, Vm.Res.bind_ok, Vm.Res.Ok_ok, Vm.bindT, Vm.setAll, Vm.boolOf, Vm.isNon, Vm.b_add, Vm.b_sub, Vm.a_add, Vm.c_eq, Vm.c_ne, Vm.c_lt, Vm.c_le, Vm.c_gt, Vm.c_ge, Vm.Bf_len, Vm.Bf_sum, Vm.Bf_min2, Vm.wipeE, Vm.Tg.slots, Vm.lcTurn, Vm.forTurn, List.map_cons, List.map_nil, List.length_cons, List.length_nil, List.length_map, List.cons_append, List.nil_append, List.getElem?_cons_zero, List.getElem?_cons_succ, List.set_cons_zero, List.set_cons_succ, List.reduceReplicate, Nat.reduceSub, Nat.reduceAdd, Nat.zero_add, Int.toNat_natCast, Bool.not_true, Bool.not_false, decide_true, decide_false, if_true, if_false, b_is_weights, k_tup_tuple]
      rfl
    | cons y ys =>
      have ne : decide ((((y :: ys).length : Nat) : Int) = 0) = false := decide_eq_false (by rw [List.length_cons]; omega)
      have ne2 : decide ((ys.length : Int) + 1 = 0) = false := decide_eq_false (by omega)
      simp (config := { implicitDefEqProofs := false }) only [Vm.evF, Vm.evSs, Vm.evS, Vm.evX, Vm.evE, Vm.evEs, Vm.evIt, Vm.evPt, Vm.Res.bind_assoc, Vm.Res.bind_ok, Vm.Res.Ok_ok, Vm.bindT, Vm.setAll, Vm.boolOf, Vm.isNon, Vm.b_add, Vm.b_sub, Vm.a_add, Vm.c_eq, Vm.c_ne, Vm.c_lt, Vm.c_le, Vm.c_gt, Vm.c_ge, Vm.Bf_len, Vm.Bf_sum, Vm.Bf_min2, Vm.wipeE, Vm.Tg.slots, Vm.lcTurn, Vm.forTurn, List.map_cons, List.map_nil, List.length_cons, List.length_nil, List.length_map, List.cons_append, List.nil_append, List.getElem?_cons_zero, List.getElem?_cons_succ, List.set_cons_zero, List.set_cons_succ, List.reduceReplicate, Nat.reduceSub, Nat.reduceAdd, Nat.zero_add, Int.toNat_natCast, Bool.not_true, Bool.not_false, decide_true, decide_false, if_true, if_false, b_is_weights, k_tup_tuple, ne]
      try simp only [Int.natCast_add, Int.natCast_one]
      simp (config := { implicitDefEqProofs := false }) only [Vm.evF, Vm.evSs, Vm.evS, Vm.evX, Vm.evE, Vm.evEs, Vm.evIt, Vm.evPt, Vm.Res.bind_assoc, Vm.Res.bind_ok, Vm.Res.Ok_ok, Vm.bindT, Vm.setAll, Vm.boolOf, Vm.isNon, Vm.b_add, Vm.b_sub, Vm.a_add, Vm.c_eq, Vm.c_ne, Vm.c_lt, Vm.c_le, Vm.c_gt, Vm.c_ge, Vm.Bf_len, Vm.Bf_sum, Vm.Bf_min2, Vm.wipeE, Vm.Tg.slots, Vm.lcTurn, Vm.forTurn, List.map_cons, List.map_nil, List.length_cons, List.length_nil, List.length_map, List.cons_append, List.nil_append, List.getElem?_cons_zero, List.getElem?_cons_succ, List.set_cons_zero, List.set_cons_succ, List.reduceReplicate, Nat.reduceSub, Nat.reduceAdd, Nat.zero_add, Int.toNat_natCast, Bool.not_true, Bool.not_false, decide_true, decide_false, if_true, if_false, ne2]
      rw [ag_all (xs := y :: ys) (p := okW) (fun z hz => ?_) _ 0 (by simp [Src.fuel]) (Nat.zero_le _)]
      · rfl
      · unfold agTurn
        have dz := ks z hz
        simp (config := { implicitDefEqProofs := false }) only [Vm.evF, Vm.evSs, Vm.evS, Vm.evX, Vm.evE, Vm.evEs, Vm.evIt, Vm.evPt, Vm.Res.bind_assoc, Vm.Res.bind_ok, Vm.Res.Ok_ok, Vm.bindT, Vm.setAll, Vm.boolOf, Vm.isNon, Vm.b_add, Vm.b_sub, Vm.a_add, Vm.c_eq, Vm.c_ne, Vm.c_lt, Vm.c_le, Vm.c_gt, Vm.c_ge, Vm.Bf_len, Vm.Bf_sum, Vm.Bf_min2, Vm.wipeE, Vm.Tg.slots, Vm.lcTurn, Vm.forTurn, List.map_cons, List.map_nil, List.length_cons, List.length_nil, List.length_map, List.cons_append, List.nil_append, List.getElem?_cons_zero, List.getElem?_cons_succ, List.set_cons_zero, List.set_cons_succ, List.reduceReplicate, Nat.reduceSub, Nat.reduceAdd, Nat.zero_add, Int.toNat_natCast, Bool.not_true, Bool.not_false, decide_true, decide_false, if_true, if_false, s_num (N := N) (by omega) dz]
        cases dz <;> rfl
theorem s_law_is_weights {x : PV} (hN : 2 ≤ N) (d : Dd f h c t n x) (hn : n < 36) (hc : c ≤ 1000000) : (sem Bf ds N 16 [x] h).Ok fun r h1 => r = .bl (wB x) ∧ Ext h h1 := by
  obtain ⟨N, rfl, kk⟩ := pre hN (by decide)
  rw [sem_at (d := d__law_is_weights) (L := 3) (b := b__law_is_weights) rfl rfl rfl]
  cases d with
  | non =>
    have i1 : isF .tuple .non h = .ok (.bl false) h := rfl
    simp (config := { implicitDefEqProofs := false }) only [Vm.evF, Vm.evSs, Vm.evS, Vm.evX, Vm.evE, Vm.evEs, Vm.evIt, Vm.evPt, Vm.Res.bind_assoc, Vm.Res.bind_ok, Vm.Res.Ok_ok, Vm.bindT, Vm.setAll, Vm.boolOf, Vm.isNon, Vm.b_add, Vm.b_sub, Vm.a_add, Vm.c_eq, Vm.c_ne, Vm.c_lt, Vm.c_le, Vm.c_gt, Vm.c_ge, Vm.Bf_len, Vm.Bf_sum, Vm.Bf_min2, Vm.wipeE, Vm.Tg.slots, Vm.lcTurn, Vm.forTurn, List.map_cons, List.map_nil, List.length_cons, List.length_nil, List.length_map, List.cons_append, List.nil_append, List.getElem?_cons_zero, List.getElem?_cons_succ, List.set_cons_zero, List.set_cons_succ, List.reduceReplicate, Nat.reduceSub, Nat.reduceAdd, Nat.zero_add, Int.toNat_natCast, Bool.not_true, Bool.not_false, decide_true, decide_false, if_true, if_false, b__law_is_weights, i1]
    exact ⟨rfl, Ext.refl _⟩
  | bl =>
    simp (config := { implicitDefEqProofs := false }) only [Vm.evF, Vm.evSs, Vm.evS, Vm.evX, Vm.evE, Vm.evEs, Vm.evIt, Vm.evPt, Vm.Res.bind_assoc, Vm.Res.bind_ok, Vm.Res.Ok_ok, Vm.bindT, Vm.setAll, Vm.boolOf, Vm.isNon, Vm.b_add, Vm.b_sub, Vm.a_add, Vm.c_eq, Vm.c_ne, Vm.c_lt, Vm.c_le, Vm.c_gt, Vm.c_ge, Vm.Bf_len, Vm.Bf_sum, Vm.Bf_min2, Vm.wipeE, Vm.Tg.slots, Vm.lcTurn, Vm.forTurn, List.map_cons, List.map_nil, List.length_cons, List.length_nil, List.length_map, List.cons_append, List.nil_append, List.getElem?_cons_zero, List.getElem?_cons_succ, List.set_cons_zero, List.set_cons_succ, List.reduceReplicate, Nat.reduceSub, Nat.reduceAdd, Nat.zero_add, Int.toNat_natCast, Bool.not_true, Bool.not_false, decide_true, decide_false, if_true, if_false, b__law_is_weights, k_bl_tuple]
    exact ⟨rfl, Ext.refl _⟩
  | int =>
    simp (config := { implicitDefEqProofs := false }) only [Vm.evF, Vm.evSs, Vm.evS, Vm.evX, Vm.evE, Vm.evEs, Vm.evIt, Vm.evPt, Vm.Res.bind_assoc, Vm.Res.bind_ok, Vm.Res.Ok_ok, Vm.bindT, Vm.setAll, Vm.boolOf, Vm.isNon, Vm.b_add, Vm.b_sub, Vm.a_add, Vm.c_eq, Vm.c_ne, Vm.c_lt, Vm.c_le, Vm.c_gt, Vm.c_ge, Vm.Bf_len, Vm.Bf_sum, Vm.Bf_min2, Vm.wipeE, Vm.Tg.slots, Vm.lcTurn, Vm.forTurn, List.map_cons, List.map_nil, List.length_cons, List.length_nil, List.length_map, List.cons_append, List.nil_append, List.getElem?_cons_zero, List.getElem?_cons_succ, List.set_cons_zero, List.set_cons_succ, List.reduceReplicate, Nat.reduceSub, Nat.reduceAdd, Nat.zero_add, Int.toNat_natCast, Bool.not_true, Bool.not_false, decide_true, decide_false, if_true, if_false, b__law_is_weights, k_int_tuple]
    exact ⟨rfl, Ext.refl _⟩
  | str =>
    simp (config := { implicitDefEqProofs := false }) only [Vm.evF, Vm.evSs, Vm.evS, Vm.evX, Vm.evE, Vm.evEs, Vm.evIt, Vm.evPt, Vm.Res.bind_assoc, Vm.Res.bind_ok, Vm.Res.Ok_ok, Vm.bindT, Vm.setAll, Vm.boolOf, Vm.isNon, Vm.b_add, Vm.b_sub, Vm.a_add, Vm.c_eq, Vm.c_ne, Vm.c_lt, Vm.c_le, Vm.c_gt, Vm.c_ge, Vm.Bf_len, Vm.Bf_sum, Vm.Bf_min2, Vm.wipeE, Vm.Tg.slots, Vm.lcTurn, Vm.forTurn, List.map_cons, List.map_nil, List.length_cons, List.length_nil, List.length_map, List.cons_append, List.nil_append, List.getElem?_cons_zero, List.getElem?_cons_succ, List.set_cons_zero, List.set_cons_succ, List.reduceReplicate, Nat.reduceSub, Nat.reduceAdd, Nat.zero_add, Int.toNat_natCast, Bool.not_true, Bool.not_false, decide_true, decide_false, if_true, if_false, b__law_is_weights, k_str_tuple]
    exact ⟨rfl, Ext.refl _⟩
  | ref af e l ks =>
    have i1 := ref_tuple e
    simp (config := { implicitDefEqProofs := false }) only [Vm.evF, Vm.evSs, Vm.evS, Vm.evX, Vm.evE, Vm.evEs, Vm.evIt, Vm.evPt, Vm.Res.bind_assoc, Vm.Res.bind_ok, Vm.Res.Ok_ok, Vm.bindT, Vm.setAll, Vm.boolOf, Vm.isNon, Vm.b_add, Vm.b_sub, Vm.a_add, Vm.c_eq, Vm.c_ne, Vm.c_lt, Vm.c_le, Vm.c_gt, Vm.c_ge, Vm.Bf_len, Vm.Bf_sum, Vm.Bf_min2, Vm.wipeE, Vm.Tg.slots, Vm.lcTurn, Vm.forTurn, List.map_cons, List.map_nil, List.length_cons, List.length_nil, List.length_map, List.cons_append, List.nil_append, List.getElem?_cons_zero, List.getElem?_cons_succ, List.set_cons_zero, List.set_cons_succ, List.reduceReplicate, Nat.reduceSub, Nat.reduceAdd, Nat.zero_add, Int.toNat_natCast, Bool.not_true, Bool.not_false, decide_true, decide_false, if_true, if_false, b__law_is_weights, i1]
    exact ⟨rfl, Ext.refl _⟩
  | @tup m xs l ks =>
    by_cases nil : xs = []
    · subst nil
      simp (config := { implicitDefEqProofs := false }) only [Vm.evF, Vm.evSs, Vm.evS, Vm.evX, Vm.evE, Vm.evEs, Vm.evIt, Vm.evPt, Vm.Res.bind_assoc, Vm.Res.bind_ok, Vm.Res.Ok_ok, Vm.bindT, Vm.setAll, Vm.boolOf, Vm.isNon, Vm.b_add, Vm.b_sub, Vm.a_add, Vm.c_eq, Vm.c_ne, Vm.c_lt, Vm.c_le, Vm.c_gt, Vm.c_ge, Vm.Bf_len, Vm.Bf_sum, Vm.Bf_min2, Vm.wipeE, Vm.Tg.slots, Vm.lcTurn, Vm.forTurn, List.map_cons, List.map_nil, List.length_cons, List.length_nil, List.length_map, List.cons_append, List.nil_append, List.getElem?_cons_zero, List.getElem?_cons_succ, List.set_cons_zero, List.set_cons_succ, List.reduceReplicate, Nat.reduceSub, Nat.reduceAdd, Nat.zero_add, Int.toNat_natCast, Bool.not_true, Bool.not_false, decide_true, decide_false, if_true, if_false, b__law_is_weights, k_tup_tuple]
      exact ⟨rfl, Ext.refl _⟩
    · have pos : xs.length ≠ 0 := fun q => nil (List.length_eq_zero_iff.mp q)
      have ne : decide ((xs.length : Int) = 0) = false := decide_eq_false (by omega)
      simp (config := { implicitDefEqProofs := false }) only [Vm.evF, Vm.evSs, Vm.evS, Vm.evX, Vm.evE, Vm.evEs, Vm.evIt, Vm.evPt, Vm.Res.bind_assoc, Vm.Res.bind_ok, Vm.Res.Ok_ok, Vm.bindT, Vm.setAll, Vm.boolOf, Vm.isNon, Vm.b_add, Vm.b_sub, Vm.a_add, Vm.c_eq, Vm.c_ne, Vm.c_lt, Vm.c_le, Vm.c_gt, Vm.c_ge, Vm.Bf_len, Vm.Bf_sum, Vm.Bf_min2, Vm.wipeE, Vm.Tg.slots, Vm.lcTurn, Vm.forTurn, List.map_cons, List.map_nil, List.length_cons, List.length_nil, List.length_map, List.cons_append, List.nil_append, List.getElem?_cons_zero, List.getElem?_cons_succ, List.set_cons_zero, List.set_cons_succ, List.reduceReplicate, Nat.reduceSub, Nat.reduceAdd, Nat.zero_add, Int.toNat_natCast, Bool.not_true, Bool.not_false, decide_true, decide_false, if_true, if_false, b__law_is_weights, k_tup_tuple, ne]
      refine Res.ok_bind ((lc_pure (xs := xs) (h0 := h) (fun x => if okW x then none else some x) get_items (by simp [Src.fuel]) (by omega) (fun i x h2 e x2 => ?_)).mono fun acc h2 q => ?_)
      · have dz := (ks x (List.mem_of_getElem? e)).but (But.of x2)
        refine Res.calm_of ?_
        cases dz with
        | non =>
          have i1 : isF .int .non h2 = .ok (.bl false) h2 := rfl
          simp (config := { implicitDefEqProofs := false }) only [Vm.evF, Vm.evSs, Vm.evS, Vm.evX, Vm.evE, Vm.evEs, Vm.evIt, Vm.evPt, Vm.Res.bind_assoc, Vm.Res.bind_ok, Vm.Res.Ok_ok, Vm.bindT, Vm.setAll, Vm.boolOf, Vm.isNon, Vm.b_add, Vm.b_sub, Vm.a_add, Vm.c_eq, Vm.c_ne, Vm.c_lt, Vm.c_le, Vm.c_gt, Vm.c_ge, Vm.Bf_len, Vm.Bf_sum, Vm.Bf_min2, Vm.wipeE, Vm.Tg.slots, Vm.lcTurn, Vm.forTurn, List.map_cons, List.map_nil, List.length_cons, List.length_nil, List.length_map, List.cons_append, List.nil_append, List.getElem?_cons_zero, List.getElem?_cons_succ, List.set_cons_zero, List.set_cons_succ, List.reduceReplicate, Nat.reduceSub, Nat.reduceAdd, Nat.zero_add, Int.toNat_natCast, Bool.not_true, Bool.not_false, decide_true, decide_false, if_true, if_false, i1]
          exact ⟨rfl, x2⟩
        | bl =>
          simp (config := { implicitDefEqProofs := false }) only [Vm.evF, Vm.evSs, Vm.evS, Vm.evX, Vm.evE, Vm.evEs, Vm.evIt, Vm.evPt, Vm.Res.bind_assoc, Vm.Res.bind_ok, Vm.Res.Ok_ok, Vm.bindT, Vm.setAll, Vm.boolOf, Vm.isNon, Vm.b_add, Vm.b_sub, Vm.a_add, Vm.c_eq, Vm.c_ne, Vm.c_lt, Vm.c_le, Vm.c_gt, Vm.c_ge, Vm.Bf_len, Vm.Bf_sum, Vm.Bf_min2, Vm.wipeE, Vm.Tg.slots, Vm.lcTurn, Vm.forTurn, List.map_cons, List.map_nil, List.length_cons, List.length_nil, List.length_map, List.cons_append, List.nil_append, List.getElem?_cons_zero, List.getElem?_cons_succ, List.set_cons_zero, List.set_cons_succ, List.reduceReplicate, Nat.reduceSub, Nat.reduceAdd, Nat.zero_add, Int.toNat_natCast, Bool.not_true, Bool.not_false, decide_true, decide_false, if_true, if_false, k_bl_int, k_bl_bool]
          exact ⟨rfl, x2⟩
        | str =>
          simp (config := { implicitDefEqProofs := false }) only [Vm.evF, Vm.evSs, Vm.evS, Vm.evX, Vm.evE, Vm.evEs, Vm.evIt, Vm.evPt, Vm.Res.bind_assoc, Vm.Res.bind_ok, Vm.Res.Ok_ok, Vm.bindT, Vm.setAll, Vm.boolOf, Vm.isNon, Vm.b_add, Vm.b_sub, Vm.a_add, Vm.c_eq, Vm.c_ne, Vm.c_lt, Vm.c_le, Vm.c_gt, Vm.c_ge, Vm.Bf_len, Vm.Bf_sum, Vm.Bf_min2, Vm.wipeE, Vm.Tg.slots, Vm.lcTurn, Vm.forTurn, List.map_cons, List.map_nil, List.length_cons, List.length_nil, List.length_map, List.cons_append, List.nil_append, List.getElem?_cons_zero, List.getElem?_cons_succ, List.set_cons_zero, List.set_cons_succ, List.reduceReplicate, Nat.reduceSub, Nat.reduceAdd, Nat.zero_add, Int.toNat_natCast, Bool.not_true, Bool.not_false, decide_true, decide_false, if_true, if_false, k_str_int]
          exact ⟨rfl, x2⟩
        | tup =>
          simp (config := { implicitDefEqProofs := false }) only [Vm.evF, Vm.evSs, Vm.evS, Vm.evX, Vm.evE, Vm.evEs, Vm.evIt, Vm.evPt, Vm.Res.bind_assoc, Vm.Res.bind_ok, Vm.Res.Ok_ok, Vm.bindT, Vm.setAll, Vm.boolOf, Vm.isNon, Vm.b_add, Vm.b_sub, Vm.a_add, Vm.c_eq, Vm.c_ne, Vm.c_lt, Vm.c_le, Vm.c_gt, Vm.c_ge, Vm.Bf_len, Vm.Bf_sum, Vm.Bf_min2, Vm.wipeE, Vm.Tg.slots, Vm.lcTurn, Vm.forTurn, List.map_cons, List.map_nil, List.length_cons, List.length_nil, List.length_map, List.cons_append, List.nil_append, List.getElem?_cons_zero, List.getElem?_cons_succ, List.set_cons_zero, List.set_cons_succ, List.reduceReplicate, Nat.reduceSub, Nat.reduceAdd, Nat.zero_add, Int.toNat_natCast, Bool.not_true, Bool.not_false, decide_true, decide_false, if_true, if_false, k_tup_int]
          exact ⟨rfl, x2⟩
        | @int _ i l1 l2 =>
          simp (config := { implicitDefEqProofs := false }) only [Vm.evF, Vm.evSs, Vm.evS, Vm.evX, Vm.evE, Vm.evEs, Vm.evIt, Vm.evPt, Vm.Res.bind_assoc, Vm.Res.bind_ok, Vm.Res.Ok_ok, Vm.bindT, Vm.setAll, Vm.boolOf, Vm.isNon, Vm.b_add, Vm.b_sub, Vm.a_add, Vm.c_eq, Vm.c_ne, Vm.c_lt, Vm.c_le, Vm.c_gt, Vm.c_ge, Vm.Bf_len, Vm.Bf_sum, Vm.Bf_min2, Vm.wipeE, Vm.Tg.slots, Vm.lcTurn, Vm.forTurn, List.map_cons, List.map_nil, List.length_cons, List.length_nil, List.length_map, List.cons_append, List.nil_append, List.getElem?_cons_zero, List.getElem?_cons_succ, List.set_cons_zero, List.set_cons_succ, List.reduceReplicate, Nat.reduceSub, Nat.reduceAdd, Nat.zero_add, Int.toNat_natCast, Bool.not_true, Bool.not_false, decide_true, decide_false, if_true, if_false, k_int_int, k_int_bool]
          by_cases z : i < 1
          · simp [z, okW, x2, show ¬ 1 ≤ i by omega]
          · simp [z, okW, x2, show 1 ≤ i by omega]
        | ref af e2 l2 ks2 =>
          have i1 := ref_int e2
          simp (config := { implicitDefEqProofs := false }) only [Vm.evF, Vm.evSs, Vm.evS, Vm.evX, Vm.evE, Vm.evEs, Vm.evIt, Vm.evPt, Vm.Res.bind_assoc, Vm.Res.bind_ok, Vm.Res.Ok_ok, Vm.bindT, Vm.setAll, Vm.boolOf, Vm.isNon, Vm.b_add, Vm.b_sub, Vm.a_add, Vm.c_eq, Vm.c_ne, Vm.c_lt, Vm.c_le, Vm.c_gt, Vm.c_ge, Vm.Bf_len, Vm.Bf_sum, Vm.Bf_min2, Vm.wipeE, Vm.Tg.slots, Vm.lcTurn, Vm.forTurn, List.map_cons, List.map_nil, List.length_cons, List.length_nil, List.length_map, List.cons_append, List.nil_append, List.getElem?_cons_zero, List.getElem?_cons_succ, List.set_cons_zero, List.set_cons_succ, List.reduceReplicate, Nat.reduceSub, Nat.reduceAdd, Nat.zero_add, Int.toNat_natCast, Bool.not_true, Bool.not_false, decide_true, decide_false, if_true, if_false, i1]
          exact ⟨rfl, x2⟩
      · obtain ⟨rfl, x2⟩ := q
        generalize hB : xs.filterMap (fun x => if okW x then none else some x) = bad
        have hb : ∀ y ∈ bad, Dd f h2 c t m y := fun y hy => by
          rw [← hB] at hy
          obtain ⟨z, hz, e⟩ := List.mem_filterMap.mp hy
          split at e
          · cases e
          · cases e
            exact (ks _ hz).but (But.of x2)
        have nilB : decide (bad = []) = xs.all okW := by
          rw [← hB]
          rw [Bool.eq_iff_iff, decide_eq_true_iff, List.filterMap_eq_nil_iff, List.all_eq_true]
          refine ⟨fun q x hx => ?_, fun q x hx => by rw [if_pos (q x hx)]⟩
          have := q x hx
          split at this
          · assumption
          · cases this
        have e3 := at_end h2 (HV.lst bad)
        have x3 := Ext.app h2 [HV.lst bad]
        generalize h2.length = A at e3
        generalize h2 ++ [HV.lst bad] = h3 at e3 x3
        simp (config := { implicitDefEqProofs := false }) only [Vm.evF, Vm.evSs, Vm.evS, Vm.evX, Vm.evE, Vm.evEs, Vm.evIt, Vm.evPt, Vm.Res.bind_assoc, Vm.Res.bind_ok, Vm.Res.Ok_ok, Vm.bindT, Vm.setAll, Vm.boolOf, Vm.isNon, Vm.b_add, Vm.b_sub, Vm.a_add, Vm.c_eq, Vm.c_ne, Vm.c_lt, Vm.c_le, Vm.c_gt, Vm.c_ge, Vm.Bf_len, Vm.Bf_sum, Vm.Bf_min2, Vm.wipeE, Vm.Tg.slots, Vm.lcTurn, Vm.forTurn, List.map_cons, List.map_nil, List.length_cons, List.length_nil, List.length_map, List.cons_append, List.nil_append, List.getElem?_cons_zero, List.getElem?_cons_succ, List.set_cons_zero, List.set_cons_succ, List.reduceReplicate, Nat.reduceSub, Nat.reduceAdd, Nat.zero_add, Int.toNat_natCast, Bool.not_true, Bool.not_false, decide_true, decide_false, if_true, if_false, new_ok (h := h3) (xs := []) (by simp)]
        have e4 := at_end h3 (HV.lst [])
        have x4 := Ext.app h3 [HV.lst []]
        have e4A := x4.get e3
        have q := Dd.eq_nil (f := f) (h := h3 ++ [HV.lst []]) (c := c) (t := t) (n := m) (fun y hy => (hb y hy).but (But.of (x3.trans x4))) (by omega) e4A e4
        simp (config := { implicitDefEqProofs := false }) only [Vm.evF, Vm.evSs, Vm.evS, Vm.evX, Vm.evE, Vm.evEs, Vm.evIt, Vm.evPt, Vm.Res.bind_assoc, Vm.Res.bind_ok, Vm.Res.Ok_ok, Vm.bindT, Vm.setAll, Vm.boolOf, Vm.isNon, Vm.b_add, Vm.b_sub, Vm.a_add, Vm.c_eq, Vm.c_ne, Vm.c_lt, Vm.c_le, Vm.c_gt, Vm.c_ge, Vm.Bf_len, Vm.Bf_sum, Vm.Bf_min2, Vm.wipeE, Vm.Tg.slots, Vm.lcTurn, Vm.forTurn, List.map_cons, List.map_nil, List.length_cons, List.length_nil, List.length_map, List.cons_append, List.nil_append, List.getElem?_cons_zero, List.getElem?_cons_succ, List.set_cons_zero, List.set_cons_succ, List.reduceReplicate, Nat.reduceSub, Nat.reduceAdd, Nat.zero_add, Int.toNat_natCast, Bool.not_true, Bool.not_false, decide_true, decide_false, if_true, if_false, q, nilB]
        refine ⟨?_, x2.trans (x3.trans x4)⟩
        cases xs with
        | nil => exact absurd rfl nil
        | cons y ys => rfl
end
end K19

set_option Elab.async false
set_option linter.all false
set_option maxRecDepth 100000
set_option maxHeartbeats 4000000
namespace K19
open PySem PySem.Spec PyProof.Rows L2 Vm Rd
/-- a thing of the list -/
def Th (f : Nat) (h : IH) (y : PV) : Prop := ∃ c t n, Dd f h c t n y ∧ n < 30 ∧ Lb c t n ≤ 10000000 ∧ c ≤ 100000
theorem Th.but {f : Nat} {h h' : IH} {y : PV} (q : Th f h y) (tb : But f h h') : Th f h' y := by
  obtain ⟨c, t, n, d, r⟩ := q
  exact ⟨c, t, n, d.but tb, r⟩
theorem tup_mul {h : IH} {xs : List PV} {k : Int} (k1 : 1 ≤ k) (k2 : k ≤ 1000) (ne : xs ≠ []) (l : xs.length ≤ 1000) : binF .mul (.tup xs) (.int k) h = .ok (.tup (List.replicate k.toNat xs).flatten) h := by
  have : xs.isEmpty = false := by cases xs with
    | nil => exact absurd rfl ne
    | cons => rfl
  simp only [binF]
  exact if_pos ⟨k1, k2, this, l⟩
theorem rep_mem {xs : List PV} {k : Nat} {y : PV} (hy : y ∈ (List.replicate k xs).flatten) : y ∈ xs := by
  obtain ⟨l, hl, q⟩ := List.mem_flatten.mp hy
  rw [(List.mem_replicate.mp hl).2] at q
  exact q
theorem rep_len {xs : List PV} {k : Nat} : (List.replicate k xs).flatten.length = k * xs.length := by
  rw [List.length_flatten, List.map_replicate, List.sum_replicate_nat]
section
variable {ws : List Int} {h : IH} {N f : Nat}
theorem dd_ws {h : IH} (g : Good ws) {y : PV} (hy : y ∈ ws.map PV.int) {n : Nat} : Dd f h 6 0 n y := by
  obtain ⟨w, hw, rfl⟩ := List.mem_map.mp hy
  have := g.each w hw
  exact Dd.small (by omega)
theorem dd_ws4 {h : IH} (g : Good ws) {y : PV} (hy : y ∈ ws.map PV.int) : Dd f h 400 0 0 y := (dd_ws (n := 0) g hy).up (by decide) (by decide) (by decide)
theorem dd_tw {h : IH} (g : Good ws) : Dd f h 6 0 1 (tw ws) := .tup (by rw [List.length_map]; exact g.few) fun y hy => dd_ws g hy
theorem menu1 {f A B : Nat} {h : IH} (eA : h[A]? = some (.lst [])) (eB : h[B]? = some (.lst [PV.int 1])) (nA : A ≠ f) (nB : B ≠ f) {y : PV} (hy : y ∈ [PV.non, .bl true, .int 1, .str "a", .tup [], .ref A, .ref B, .tup [.int 0], .tup [.int 1, .int 0], .tup [.int (-1)], .tup [.bl true], .tup [.int 1, .bl true], .tup [.str "1"], .tup [.tup [.int 1]], .tup [.int (10 ^ (50 : Int).toNat)]]) : Th f h y := by
  refine ⟨5, 1, 2, ?_, by decide, by decide, by decide⟩
  simp only [List.mem_cons, List.not_mem_nil, or_false] at hy
  rcases hy with rfl | rfl | rfl | rfl | rfl | rfl | rfl | rfl | rfl | rfl | rfl | rfl | rfl | rfl | rfl
  · exact .non
  · exact .bl
  · exact Dd.small (by decide)
  · exact a_str (by decide)
  · exact .tup (by decide) fun _ q => nomatch q
  · exact .ref nA eA (by decide) fun _ q => nomatch q
  · exact .ref nB eB (by decide) fun x hx => by rw [List.mem_singleton.mp hx]; exact Dd.small (by decide)
  · exact .tup (by decide) fun x hx => by rw [List.mem_singleton.mp hx]; exact Dd.small (by decide)
  · exact .tup (by decide) fun x hx => by
      rcases List.mem_cons.mp hx with rfl | hx
      · exact Dd.small (by decide)
      · rw [List.mem_singleton.mp hx]; exact Dd.small (by decide)
  · exact .tup (by decide) fun x hx => by rw [List.mem_singleton.mp hx]; exact Dd.small (by decide)
  · exact .tup (by decide) fun x hx => by rw [List.mem_singleton.mp hx]; exact .bl
  · exact .tup (by decide) fun x hx => by
      rcases List.mem_cons.mp hx with rfl | hx
      · exact Dd.small (by decide)
      · rw [List.mem_singleton.mp hx]; exact .bl
  · exact .tup (by decide) fun x hx => by rw [List.mem_singleton.mp hx]; exact .str (by decide) (by decide +kernel)
  · exact .tup (by decide) fun x hx => by
      rw [List.mem_singleton.mp hx]
      exact .tup (by decide) fun x hx => by rw [List.mem_singleton.mp hx]; exact Dd.small (by decide)
  · exact .tup (by decide) fun x hx => by rw [List.mem_singleton.mp hx]; exact Dd.ten50
theorem Lb1 {c t : Nat} (hc : c ≤ 400) (ht : t ≤ 1) : Lb c t 1 ≤ 10000000 := by
  show (c + 1) * (10 * t + 210 + 2) + 3 ≤ _
  have : (c + 1) * (10 * t + 210 + 2) ≤ 401 * 222 := Nat.mul_le_mul (by omega) (by omega)
  omega
theorem th_tup {h : IH} {xs : List PV} {c : Nat} (hc : c ≤ 400) (l : xs.length ≤ c) (k : ∀ x ∈ xs, Dd f h c 0 0 x) : Th f h (.tup xs) := ⟨c, 0, 1, .tup l k, by decide, Lb1 hc (by decide), by omega⟩
theorem s_things {b : Nat} (F : Feed h f (b + 112)) (g : Good ws) (hN : 6 ≤ N) : (sem Bf ds N 20 [.ref f, tw ws] h).Ok fun r h1 => ∃ A ys, r = .ref A ∧ A ≠ f ∧ h1[A]? = some (.lst ys) ∧ ys.length ≤ 100 ∧ (∀ y ∈ ys, Th f h1 y) ∧ Feed h1 f b ∧ But f h h1 := by
  obtain ⟨n, rfl, k⟩ := pre hN (by decide)
  rw [sem_at (d := d__law_things) (L := 5) (b := b__law_things) rfl rfl rfl]
  have lf := F.lt
  have gf := g.few
  have gs := g.some
  simp (config := { implicitDefEqProofs := false }) only [Vm.evF, Vm.evSs, Vm.evS, Vm.evX, Vm.evE, Vm.evEs, Vm.evIt, Vm.evPt, Vm.Res.bind_assoc, Vm.Res.bind_ok, Vm.Res.Ok_ok, Vm.bindT, Vm.setAll, Vm.boolOf, Vm.isNon, Vm.b_add, Vm.b_sub, Vm.a_add, Vm.c_eq, Vm.c_ne, Vm.c_lt, Vm.c_le, Vm.c_gt, Vm.c_ge, Vm.Bf_len, Vm.Bf_sum, Vm.Bf_min2, Vm.wipeE, Vm.Tg.slots, Vm.lcTurn, Vm.forTurn, List.map_cons, List.map_nil, List.length_cons, List.length_nil, List.length_map, List.cons_append, List.nil_append, List.getElem?_cons_zero, List.getElem?_cons_succ, List.set_cons_zero, List.set_cons_succ, List.reduceReplicate, Nat.reduceSub, Nat.reduceAdd, Nat.zero_add, Int.toNat_natCast, Bool.not_true, Bool.not_false, decide_true, decide_false, if_true, if_false, b__law_things, newT_ok (h := h) (xs := []) (by simp), new_ok (h := h) (xs := []) (by simp)]
  have eA := at_end h (HV.lst [])
  have x1 := Ext.app h [HV.lst []]
  have nA : h.length ≠ f := by omega
  have l1 : f < (h ++ [HV.lst []]).length := by rw [List.length_append]; omega
  generalize h.length = A at eA nA
  generalize h ++ [HV.lst []] = h1 at eA x1 l1
  simp (config := { implicitDefEqProofs := false }) only [Vm.evF, Vm.evSs, Vm.evS, Vm.evX, Vm.evE, Vm.evEs, Vm.evIt, Vm.evPt, Vm.Res.bind_assoc, Vm.Res.bind_ok, Vm.Res.Ok_ok, Vm.bindT, Vm.setAll, Vm.boolOf, Vm.isNon, Vm.b_add, Vm.b_sub, Vm.a_add, Vm.c_eq, Vm.c_ne, Vm.c_lt, Vm.c_le, Vm.c_gt, Vm.c_ge, Vm.Bf_len, Vm.Bf_sum, Vm.Bf_min2, Vm.wipeE, Vm.Tg.slots, Vm.lcTurn, Vm.forTurn, List.map_cons, List.map_nil, List.length_cons, List.length_nil, List.length_map, List.cons_append, List.nil_append, List.getElem?_cons_zero, List.getElem?_cons_succ, List.set_cons_zero, List.set_cons_succ, List.reduceReplicate, Nat.reduceSub, Nat.reduceAdd, Nat.zero_add, Int.toNat_natCast, Bool.not_true, Bool.not_false, decide_true, decide_false, if_true, if_false, new_ok (h := h1) (xs := [PV.int 1]) (by simp)]
  have eB := at_end h1 (HV.lst [PV.int 1])
  have x2 := Ext.app h1 [HV.lst [PV.int 1]]
  have eA2 := x2.get eA
  have nB : h1.length ≠ f := by omega
  have l2 : f < (h1 ++ [HV.lst [PV.int 1]]).length := by rw [List.length_append]; omega
  generalize h1.length = B at eB nB
  generalize h1 ++ [HV.lst [PV.int 1]] = h2 at eB eA2 x2 l2
  have nt : ∀ {xs : List PV}, xs.length ≤ 1000000 → newT h2 xs = .ok (.tup xs) h2 := fun {xs} q => newT_ok q
  simp (config := { implicitDefEqProofs := false }) only [Vm.evF, Vm.evSs, Vm.evS, Vm.evX, Vm.evE, Vm.evEs, Vm.evIt, Vm.evPt, Vm.Res.bind_assoc, Vm.Res.bind_ok, Vm.Res.Ok_ok, Vm.bindT, Vm.setAll, Vm.boolOf, Vm.isNon, Vm.b_add, Vm.b_sub, Vm.a_add, Vm.c_eq, Vm.c_ne, Vm.c_lt, Vm.c_le, Vm.c_gt, Vm.c_ge, Vm.Bf_len, Vm.Bf_sum, Vm.Bf_min2, Vm.wipeE, Vm.Tg.slots, Vm.lcTurn, Vm.forTurn, List.map_cons, List.map_nil, List.length_cons, List.length_nil, List.length_map, List.cons_append, List.nil_append, List.getElem?_cons_zero, List.getElem?_cons_succ, List.set_cons_zero, List.set_cons_succ, List.reduceReplicate, Nat.reduceSub, Nat.reduceAdd, Nat.zero_add, Int.toNat_natCast, Bool.not_true, Bool.not_false, decide_true, decide_false, if_true, if_false, nt (xs := [PV.int 0]) (by simp), nt (xs := [PV.int 1, .int 0]) (by simp), nt (xs := [PV.int (-1)]) (by simp), nt (xs := [PV.bl true]) (by simp), nt (xs := [PV.int 1, .bl true]) (by simp), nt (xs := [PV.str "1"]) (by simp), nt (xs := [PV.int 1]) (by simp), nt (xs := [PV.tup [.int 1]]) (by simp), pow_ok (h := h2) (i := 10) (j := 50) (by decide) (by decide) (by decide) (by decide)]
  have m1 : ∀ y ∈ _, Th f h2 y := fun y hy => menu1 eA2 eB nA nB hy
  generalize h10 : (10 : Int) ^ (50 : Int).toNat = z50 at m1
  simp (config := { implicitDefEqProofs := false }) only [Vm.evF, Vm.evSs, Vm.evS, Vm.evX, Vm.evE, Vm.evEs, Vm.evIt, Vm.evPt, Vm.Res.bind_assoc, Vm.Res.bind_ok, Vm.Res.Ok_ok, Vm.bindT, Vm.setAll, Vm.boolOf, Vm.isNon, Vm.b_add, Vm.b_sub, Vm.a_add, Vm.c_eq, Vm.c_ne, Vm.c_lt, Vm.c_le, Vm.c_gt, Vm.c_ge, Vm.Bf_len, Vm.Bf_sum, Vm.Bf_min2, Vm.wipeE, Vm.Tg.slots, Vm.lcTurn, Vm.forTurn, List.map_cons, List.map_nil, List.length_cons, List.length_nil, List.length_map, List.cons_append, List.nil_append, List.getElem?_cons_zero, List.getElem?_cons_succ, List.set_cons_zero, List.set_cons_succ, List.reduceReplicate, Nat.reduceSub, Nat.reduceAdd, Nat.zero_add, Int.toNat_natCast, Bool.not_true, Bool.not_false, decide_true, decide_false, if_true, if_false, nt (xs := [PV.int z50]) (by simp)]
  generalize hO : [PV.non, .bl true, .int 1, .str "a", .tup [], .ref A, .ref B, .tup [.int 0], .tup [.int 1, .int 0], .tup [.int (-1)], .tup [.bl true], .tup [.int 1, .bl true], .tup [.str "1"], .tup [.tup [.int 1]], .tup [.int z50]] = o1 at m1
  have o1l : o1.length = 15 := by rw [← hO]; rfl
  clear hO h10 nt
  simp (config := { implicitDefEqProofs := false }) only [Vm.evF, Vm.evSs, Vm.evS, Vm.evX, Vm.evE, Vm.evEs, Vm.evIt, Vm.evPt, Vm.Res.bind_assoc, Vm.Res.bind_ok, Vm.Res.Ok_ok, Vm.bindT, Vm.setAll, Vm.boolOf, Vm.isNon, Vm.b_add, Vm.b_sub, Vm.a_add, Vm.c_eq, Vm.c_ne, Vm.c_lt, Vm.c_le, Vm.c_gt, Vm.c_ge, Vm.Bf_len, Vm.Bf_sum, Vm.Bf_min2, Vm.wipeE, Vm.Tg.slots, Vm.lcTurn, Vm.forTurn, List.map_cons, List.map_nil, List.length_cons, List.length_nil, List.length_map, List.cons_append, List.nil_append, List.getElem?_cons_zero, List.getElem?_cons_succ, List.set_cons_zero, List.set_cons_succ, List.reduceReplicate, Nat.reduceSub, Nat.reduceAdd, Nat.zero_add, Int.toNat_natCast, Bool.not_true, Bool.not_false, decide_true, decide_false, if_true, if_false, new_ok (h := h2) (xs := o1) (by omega)]
  have e1 := at_end h2 (HV.lst o1)
  have x3 := Ext.app h2 [HV.lst o1]
  have l3 : f < (h2 ++ [HV.lst o1]).length := by rw [List.length_append]; omega
  generalize h2.length = C at e1
  generalize h2 ++ [HV.lst o1] = h3 at e1 x3 l3
  simp (config := { implicitDefEqProofs := false }) only [Vm.evF, Vm.evSs, Vm.evS, Vm.evX, Vm.evE, Vm.evEs, Vm.evIt, Vm.evPt, Vm.Res.bind_assoc, Vm.Res.bind_ok, Vm.Res.Ok_ok, Vm.bindT, Vm.setAll, Vm.boolOf, Vm.isNon, Vm.b_add, Vm.b_sub, Vm.a_add, Vm.c_eq, Vm.c_ne, Vm.c_lt, Vm.c_le, Vm.c_gt, Vm.c_ge, Vm.Bf_len, Vm.Bf_sum, Vm.Bf_min2, Vm.wipeE, Vm.Tg.slots, Vm.lcTurn, Vm.forTurn, List.map_cons, List.map_nil, List.length_cons, List.length_nil, List.length_map, List.cons_append, List.nil_append, List.getElem?_cons_zero, List.getElem?_cons_succ, List.set_cons_zero, List.set_cons_succ, List.reduceReplicate, Nat.reduceSub, Nat.reduceAdd, Nat.zero_add, Int.toNat_natCast, Bool.not_true, Bool.not_false, decide_true, decide_false, if_true, if_false, Bf_list (xs := ws.map PV.int) (h := h3) (by rw [List.length_map]; omega)]
  have eL := at_end h3 (HV.lst (ws.map PV.int))
  have x4 := Ext.app h3 [HV.lst (ws.map PV.int)]
  have nL : h3.length ≠ f := by omega
  have l4 : f < (h3 ++ [HV.lst (ws.map PV.int)]).length := by rw [List.length_append]; omega
  have e1b := x4.get e1
  generalize h3.length = L at eL nL
  generalize h3 ++ [HV.lst (ws.map PV.int)] = h4 at eL e1b x4 l4
  have wl : (ws.map PV.int).length = ws.length := List.length_map ..
  have slc : ∀ {lo hi h'}, slcF (tw ws) lo hi h' = .ok (.tup (cutP (ws.map PV.int) lo hi)) h' := rfl
  have pl : (cutP (ws.map PV.int) none (some 1)).length = 1 := by
    unfold cutP
    rw [List.length_take, List.length_drop, sIx_pos (by decide), wl]
    have : HT.sIx ws.length 0 none = 0 := rfl
    rw [this]
    omega
  have pm : ∀ y ∈ cutP (ws.map PV.int) none (some 1), y ∈ ws.map PV.int := fun y hy => cut_mem hy
  simp (config := { implicitDefEqProofs := false }) only [Vm.evF, Vm.evSs, Vm.evS, Vm.evX, Vm.evE, Vm.evEs, Vm.evIt, Vm.evPt, Vm.Res.bind_assoc, Vm.Res.bind_ok, Vm.Res.Ok_ok, Vm.bindT, Vm.setAll, Vm.boolOf, Vm.isNon, Vm.b_add, Vm.b_sub, Vm.a_add, Vm.c_eq, Vm.c_ne, Vm.c_lt, Vm.c_le, Vm.c_gt, Vm.c_ge, Vm.Bf_len, Vm.Bf_sum, Vm.Bf_min2, Vm.wipeE, Vm.Tg.slots, Vm.lcTurn, Vm.forTurn, List.map_cons, List.map_nil, List.length_cons, List.length_nil, List.length_map, List.cons_append, List.nil_append, List.getElem?_cons_zero, List.getElem?_cons_succ, List.set_cons_zero, List.set_cons_succ, List.reduceReplicate, Nat.reduceSub, Nat.reduceAdd, Nat.zero_add, Int.toNat_natCast, Bool.not_true, Bool.not_false, decide_true, decide_false, if_true, if_false, slc]
  generalize cutP (ws.map PV.int) none (some 1) = p1 at pl pm
  have pne : p1 ≠ [] := fun q => by rw [q] at pl; cases pl
  have r9 : (List.replicate (9 : Int).toNat p1).flatten.length = 9 := by rw [rep_len, pl]; rfl
  simp (config := { implicitDefEqProofs := false }) only [Vm.evF, Vm.evSs, Vm.evS, Vm.evX, Vm.evE, Vm.evEs, Vm.evIt, Vm.evPt, Vm.Res.bind_assoc, Vm.Res.bind_ok, Vm.Res.Ok_ok, Vm.bindT, Vm.setAll, Vm.boolOf, Vm.isNon, Vm.b_add, Vm.b_sub, Vm.a_add, Vm.c_eq, Vm.c_ne, Vm.c_lt, Vm.c_le, Vm.c_gt, Vm.c_ge, Vm.Bf_len, Vm.Bf_sum, Vm.Bf_min2, Vm.wipeE, Vm.Tg.slots, Vm.lcTurn, Vm.forTurn, List.map_cons, List.map_nil, List.length_cons, List.length_nil, List.length_map, List.cons_append, List.nil_append, List.getElem?_cons_zero, List.getElem?_cons_succ, List.set_cons_zero, List.set_cons_succ, List.reduceReplicate, Nat.reduceSub, Nat.reduceAdd, Nat.zero_add, Int.toNat_natCast, Bool.not_true, Bool.not_false, decide_true, decide_false, if_true, if_false, tup_mul (h := h4) (xs := p1) (k := 9) (by decide) (by decide) pne (by omega), tup_add (h := h4) (xs := ws.map PV.int) (ys := (List.replicate (9 : Int).toNat p1).flatten) (by omega), newT_ok (h := h4) (xs := [PV.non]) (by simp), newT_ok (h := h4) (xs := [PV.int 0]) (by simp), tup_add (h := h4) (xs := ws.map PV.int) (ys := [PV.int 0]) (by rw [wl]; simp; omega)]
  have m2 : ∀ y ∈ [tw ws, .ref L, .tup (ws.map PV.int ++ (List.replicate (9 : Int).toNat p1).flatten), .tup [.non], .tup (ws.map PV.int ++ [.int 0])], Th f h4 y := fun y hy => by
    simp only [List.mem_cons, List.not_mem_nil, or_false] at hy
    rcases hy with rfl | rfl | rfl | rfl | rfl
    · exact th_tup (c := 400) (by decide) (by omega) fun y hy => dd_ws4 g hy
    · exact ⟨6, 0, 1, .ref nL eL (by omega) fun y hy => dd_ws g hy, by decide, Lb1 (by decide) (by decide), by decide⟩
    · refine th_tup (c := 400) (by decide) (by rw [List.length_append]; omega) fun y hy => ?_
      rcases List.mem_append.mp hy with hy | hy
      · exact dd_ws4 g hy
      · exact dd_ws4 g (pm y (rep_mem hy))
    · exact th_tup (c := 400) (by decide) (by decide) fun y hy => by rw [List.mem_singleton.mp hy]; exact .non
    · refine th_tup (c := 400) (by decide) (by rw [List.length_append, wl]; simp; omega) fun y hy => ?_
      rcases List.mem_append.mp hy with hy | hy
      · exact dd_ws4 g hy
      · rw [List.mem_singleton.mp hy]; exact Dd.small (by decide)
  generalize hO : [tw ws, .ref L, .tup (ws.map PV.int ++ (List.replicate (9 : Int).toNat p1).flatten), .tup [.non], .tup (ws.map PV.int ++ [.int 0])] = o2 at m2
  have o2l : o2.length = 5 := by rw [← hO]; rfl
  clear hO
  simp (config := { implicitDefEqProofs := false }) only [Vm.evF, Vm.evSs, Vm.evS, Vm.evX, Vm.evE, Vm.evEs, Vm.evIt, Vm.evPt, Vm.Res.bind_assoc, Vm.Res.bind_ok, Vm.Res.Ok_ok, Vm.bindT, Vm.setAll, Vm.boolOf, Vm.isNon, Vm.b_add, Vm.b_sub, Vm.a_add, Vm.c_eq, Vm.c_ne, Vm.c_lt, Vm.c_le, Vm.c_gt, Vm.c_ge, Vm.Bf_len, Vm.Bf_sum, Vm.Bf_min2, Vm.wipeE, Vm.Tg.slots, Vm.lcTurn, Vm.forTurn, List.map_cons, List.map_nil, List.length_cons, List.length_nil, List.length_map, List.cons_append, List.nil_append, List.getElem?_cons_zero, List.getElem?_cons_succ, List.set_cons_zero, List.set_cons_succ, List.reduceReplicate, Nat.reduceSub, Nat.reduceAdd, Nat.zero_add, Int.toNat_natCast, Bool.not_true, Bool.not_false, decide_true, decide_false, if_true, if_false, new_ok (h := h4) (xs := o2) (by omega)]
  have e2 := at_end h4 (HV.lst o2)
  have x5 := Ext.app h4 [HV.lst o2]
  have e1c := x5.get e1b
  have l5 : f < (h4 ++ [HV.lst o2]).length := by rw [List.length_append]; omega
  generalize h4.length = D at e2
  generalize h4 ++ [HV.lst o2] = h5 at e2 e1c x5 l5
  simp (config := { implicitDefEqProofs := false }) only [Vm.evF, Vm.evSs, Vm.evS, Vm.evX, Vm.evE, Vm.evEs, Vm.evIt, Vm.evPt, Vm.Res.bind_assoc, Vm.Res.bind_ok, Vm.Res.Ok_ok, Vm.bindT, Vm.setAll, Vm.boolOf, Vm.isNon, Vm.b_add, Vm.b_sub, Vm.a_add, Vm.c_eq, Vm.c_ne, Vm.c_lt, Vm.c_le, Vm.c_gt, Vm.c_ge, Vm.Bf_len, Vm.Bf_sum, Vm.Bf_min2, Vm.wipeE, Vm.Tg.slots, Vm.lcTurn, Vm.forTurn, List.map_cons, List.map_nil, List.length_cons, List.length_nil, List.length_map, List.cons_append, List.nil_append, List.getElem?_cons_zero, List.getElem?_cons_succ, List.set_cons_zero, List.set_cons_succ, List.reduceReplicate, Nat.reduceSub, Nat.reduceAdd, Nat.zero_add, Int.toNat_natCast, Bool.not_true, Bool.not_false, decide_true, decide_false, if_true, if_false, lst_add e1c e2 (by omega)]
  have e3 := at_end h5 (HV.lst (o1 ++ o2))
  have x6 := Ext.app h5 [HV.lst (o1 ++ o2)]
  have l6 : f < (h5 ++ [HV.lst (o1 ++ o2)]).length := by rw [List.length_append]; omega
  generalize h5.length = E at e3
  generalize h5 ++ [HV.lst (o1 ++ o2)] = h6 at e3 x6 l6
  have wne : ws.map PV.int ≠ [] := fun q => by rw [q] at wl; simp at wl; omega
  have mu : ∀ {x : PV} {k : Int}, 1 ≤ k → k ≤ 1000 → binF .mul (.tup [x]) (.int k) h6 = .ok (.tup (List.replicate k.toNat [x]).flatten) h6 := fun {x k} a b => tup_mul a b (by simp) (by simp)
  have ml : ∀ {x : PV} {k : Nat}, (List.replicate k [x]).flatten.length = k := fun {x k} => by rw [rep_len]; simp
  have mm : ∀ {x y : PV} {k : Nat}, y ∈ (List.replicate k [x]).flatten → y = x := fun {x y k} q => List.mem_singleton.mp (rep_mem q)
  have a30 := mu (x := .int 1) (k := 30) (by decide) (by decide)
  have a9 := mu (x := .int 1) (k := 9) (by decide) (by decide)
  have a400 := mu (x := .int 7) (k := 400) (by decide) (by decide)
  have a200 := mu (x := .int 7) (k := 200) (by decide) (by decide)
  have n30 := ml (x := .int 1) (k := (30 : Int).toNat)
  have n9 := ml (x := .int 1) (k := (9 : Int).toNat)
  have n400 := ml (x := .int 7) (k := (400 : Int).toNat)
  have n200 := ml (x := .int 7) (k := (200 : Int).toNat)
  have k30 : ∀ y ∈ (List.replicate (30 : Int).toNat [PV.int 1]).flatten, y = .int 1 := fun y => mm
  have k9 : ∀ y ∈ (List.replicate (9 : Int).toNat [PV.int 1]).flatten, y = .int 1 := fun y => mm
  have k400 : ∀ y ∈ (List.replicate (400 : Int).toNat [PV.int 7]).flatten, y = .int 7 := fun y => mm
  have k200 : ∀ y ∈ (List.replicate (200 : Int).toNat [PV.int 7]).flatten, y = .int 7 := fun y => mm
  generalize (List.replicate (30 : Int).toNat [PV.int 1]).flatten = t30 at a30 n30 k30
  generalize (List.replicate (9 : Int).toNat [PV.int 1]).flatten = t9 at a9 n9 k9
  generalize (List.replicate (400 : Int).toNat [PV.int 7]).flatten = t400 at a400 n400 k400
  generalize (List.replicate (200 : Int).toNat [PV.int 7]).flatten = t200 at a200 n200 k200
  rw [show (30 : Int).toNat = 30 from rfl] at n30
  rw [show (9 : Int).toNat = 9 from rfl] at n9
  rw [show (400 : Int).toNat = 400 from rfl] at n400
  rw [show (200 : Int).toNat = 200 from rfl] at n200
  have a20 := tup_mul (h := h6) (xs := ws.map PV.int) (k := 20) (by decide) (by decide) wne (by omega)
  have n20 : (List.replicate (20 : Int).toNat (ws.map PV.int)).flatten.length = 20 * ws.length := by rw [rep_len, wl]; rfl
  have k20 : ∀ y ∈ (List.replicate (20 : Int).toNat (ws.map PV.int)).flatten, y ∈ ws.map PV.int := fun y hy => rep_mem hy
  generalize (List.replicate (20 : Int).toNat (ws.map PV.int)).flatten = t20 at a20 n20 k20
  have nt : ∀ {x : PV}, newT h6 [x] = .ok (.tup [x]) h6 := fun {x} => newT_ok (by simp)
  simp (config := { implicitDefEqProofs := false }) only [Vm.evF, Vm.evSs, Vm.evS, Vm.evX, Vm.evE, Vm.evEs, Vm.evIt, Vm.evPt, Vm.Res.bind_assoc, Vm.Res.bind_ok, Vm.Res.Ok_ok, Vm.bindT, Vm.setAll, Vm.boolOf, Vm.isNon, Vm.b_add, Vm.b_sub, Vm.a_add, Vm.c_eq, Vm.c_ne, Vm.c_lt, Vm.c_le, Vm.c_gt, Vm.c_ge, Vm.Bf_len, Vm.Bf_sum, Vm.Bf_min2, Vm.wipeE, Vm.Tg.slots, Vm.lcTurn, Vm.forTurn, List.map_cons, List.map_nil, List.length_cons, List.length_nil, List.length_map, List.cons_append, List.nil_append, List.getElem?_cons_zero, List.getElem?_cons_succ, List.set_cons_zero, List.set_cons_succ, List.reduceReplicate, Nat.reduceSub, Nat.reduceAdd, Nat.zero_add, Int.toNat_natCast, Bool.not_true, Bool.not_false, decide_true, decide_false, if_true, if_false, a20, a30, a9, a400, a200, nt, tup_add (h := h6) (xs := t30) (ys := [PV.bl true]) (by simp; omega), tup_add (h := h6) (xs := t30 ++ [PV.bl true]) (ys := t9) (by rw [List.length_append]; simp; omega), tup_add (h := h6) (xs := t200) (ys := [PV.int 0]) (by simp; omega)]
  have m3 : ∀ y ∈ [PV.tup t20, .tup (t30 ++ [.bl true] ++ t9), .tup t400, .tup (t200 ++ [.int 0])], Th f h6 y := fun y hy => by
    simp only [List.mem_cons, List.not_mem_nil, or_false] at hy
    rcases hy with rfl | rfl | rfl | rfl
    · exact th_tup (c := 400) (by decide) (by omega) fun y hy => dd_ws4 g (k20 y hy)
    · refine th_tup (c := 400) (by decide) (by rw [List.length_append, List.length_append]; simp; omega) fun y hy => ?_
      rcases List.mem_append.mp hy with hy | hy
      · rcases List.mem_append.mp hy with hy | hy
        · rw [k30 y hy]; exact Dd.small (by decide)
        · rw [List.mem_singleton.mp hy]; exact .bl
      · rw [k9 y hy]; exact Dd.small (by decide)
    · exact th_tup (c := 400) (by decide) (by omega) fun y hy => by rw [k400 y hy]; exact Dd.small (by decide)
    · refine th_tup (c := 400) (by decide) (by rw [List.length_append]; simp; omega) fun y hy => ?_
      rcases List.mem_append.mp hy with hy | hy
      · rw [k200 y hy]; exact Dd.small (by decide)
      · rw [List.mem_singleton.mp hy]; exact Dd.small (by decide)
  generalize hO : [PV.tup t20, .tup (t30 ++ [.bl true] ++ t9), .tup t400, .tup (t200 ++ [.int 0])] = o3 at m3
  have o3l : o3.length = 4 := by rw [← hO]; rfl
  clear hO
  simp (config := { implicitDefEqProofs := false }) only [Vm.evF, Vm.evSs, Vm.evS, Vm.evX, Vm.evE, Vm.evEs, Vm.evIt, Vm.evPt, Vm.Res.bind_assoc, Vm.Res.bind_ok, Vm.Res.Ok_ok, Vm.bindT, Vm.setAll, Vm.boolOf, Vm.isNon, Vm.b_add, Vm.b_sub, Vm.a_add, Vm.c_eq, Vm.c_ne, Vm.c_lt, Vm.c_le, Vm.c_gt, Vm.c_ge, Vm.Bf_len, Vm.Bf_sum, Vm.Bf_min2, Vm.wipeE, Vm.Tg.slots, Vm.lcTurn, Vm.forTurn, List.map_cons, List.map_nil, List.length_cons, List.length_nil, List.length_map, List.cons_append, List.nil_append, List.getElem?_cons_zero, List.getElem?_cons_succ, List.set_cons_zero, List.set_cons_succ, List.reduceReplicate, Nat.reduceSub, Nat.reduceAdd, Nat.zero_add, Int.toNat_natCast, Bool.not_true, Bool.not_false, decide_true, decide_false, if_true, if_false, new_ok (h := h6) (xs := o3) (by omega)]
  have e4 := at_end h6 (HV.lst o3)
  have x7 := Ext.app h6 [HV.lst o3]
  have e3b := x7.get e3
  have l7 : f < (h6 ++ [HV.lst o3]).length := by rw [List.length_append]; omega
  generalize h6.length = G at e4
  generalize h6 ++ [HV.lst o3] = h7 at e4 e3b x7 l7
  simp (config := { implicitDefEqProofs := false }) only [Vm.evF, Vm.evSs, Vm.evS, Vm.evX, Vm.evE, Vm.evEs, Vm.evIt, Vm.evPt, Vm.Res.bind_assoc, Vm.Res.bind_ok, Vm.Res.Ok_ok, Vm.bindT, Vm.setAll, Vm.boolOf, Vm.isNon, Vm.b_add, Vm.b_sub, Vm.a_add, Vm.c_eq, Vm.c_ne, Vm.c_lt, Vm.c_le, Vm.c_gt, Vm.c_ge, Vm.Bf_len, Vm.Bf_sum, Vm.Bf_min2, Vm.wipeE, Vm.Tg.slots, Vm.lcTurn, Vm.forTurn, List.map_cons, List.map_nil, List.length_cons, List.length_nil, List.length_map, List.cons_append, List.nil_append, List.getElem?_cons_zero, List.getElem?_cons_succ, List.set_cons_zero, List.set_cons_succ, List.reduceReplicate, Nat.reduceSub, Nat.reduceAdd, Nat.zero_add, Int.toNat_natCast, Bool.not_true, Bool.not_false, decide_true, decide_false, if_true, if_false, lst_add e3b e4 (by rw [List.length_append]; omega)]
  have e5 := at_end h7 (HV.lst (o1 ++ o2 ++ o3))
  have x8 := Ext.app h7 [HV.lst (o1 ++ o2 ++ o3)]
  have nR : h7.length ≠ f := by omega
  have m8 : ∀ y ∈ o1 ++ o2 ++ o3, Th f (h7 ++ [HV.lst (o1 ++ o2 ++ o3)]) y := fun y hy => by
    rcases List.mem_append.mp hy with hy | hy
    · rcases List.mem_append.mp hy with hy | hy
      · exact (m1 y hy).but (But.of (x3.trans (x4.trans (x5.trans (x6.trans (x7.trans x8))))))
      · exact (m2 y hy).but (But.of (x5.trans (x6.trans (x7.trans x8))))
    · exact (m3 y hy).but (But.of (x7.trans x8))
  have xx : Ext h (h7 ++ [HV.lst (o1 ++ o2 ++ o3)]) := x1.trans (x2.trans (x3.trans (x4.trans (x5.trans (x6.trans (x7.trans x8))))))
  have ol : (o1 ++ o2 ++ o3).length = 24 := by rw [List.length_append, List.length_append]; omega
  generalize h7.length = R at e5 nR
  generalize h7 ++ [HV.lst (o1 ++ o2 ++ o3)] = h8 at e5 m8 xx
  generalize o1 ++ o2 ++ o3 = oo at e5 m8 ol
  clear x1 x2 x3 x4 x5 x6 x7 x8 m1 m2 m3 e1 e2 e3 e4 e1b e1c e3b eA eB eA2 eL
  have F8 := F.ext xx
  rw [rng_if (by omega) (by omega)]
  try simp (config := { implicitDefEqProofs := false }) only [Vm.evF, Vm.evSs, Vm.evS, Vm.evX, Vm.evE, Vm.evEs, Vm.evIt, Vm.evPt, Vm.Res.bind_assoc, Vm.Res.bind_ok, Vm.Res.Ok_ok, Vm.bindT, Vm.setAll, Vm.boolOf, Vm.isNon, Vm.b_add, Vm.b_sub, Vm.a_add, Vm.c_eq, Vm.c_ne, Vm.c_lt, Vm.c_le, Vm.c_gt, Vm.c_ge, Vm.Bf_len, Vm.Bf_sum, Vm.Bf_min2, Vm.wipeE, Vm.Tg.slots, Vm.lcTurn, Vm.forTurn, List.map_cons, List.map_nil, List.length_cons, List.length_nil, List.length_map, List.cons_append, List.nil_append, List.getElem?_cons_zero, List.getElem?_cons_succ, List.set_cons_zero, List.set_cons_succ, List.reduceReplicate, Nat.reduceSub, Nat.reduceAdd, Nat.zero_add, Int.toNat_natCast, Bool.not_true, Bool.not_false, decide_true, decide_false, if_true, if_false]
  refine Res.ok_bind ((for_inv (xs := rngs 0 8) (Q := fun o h9 => ∃ S ys u3 u4, o = .nx [some (.ref f), some (tw ws), some (.ref S), u3, u4] ∧ S ≠ f ∧ h9[S]? = some (.lst ys) ∧ ys.length ≤ 100 ∧ (∀ y ∈ ys, Th f h9 y) ∧ Feed h9 f b ∧ But f h h9)
    (fun s ev1 h9 => ∃ S ys u3 u4, ev1 = [some (.ref f), some (tw ws), some (.ref S), u3, u4] ∧ S ≠ f ∧ h9[S]? = some (.lst ys) ∧ ys.length = 24 + 2 * s ∧ (∀ y ∈ ys, Th f h9 y) ∧ Feed h9 f (b + 14 * (8 - s)) ∧ But f h h9)
    (fun _ _ _ _ => rfl) (fun s x ev1 h9 e j => ?_) (fun ev1 h9 j => ?_) _ 0 _ h8 (by simp [Src.fuel, rngs_len]) (Nat.zero_le _) ⟨R, oo, _, _, rfl, nR, e5, by omega, m8, F8.le (by omega), But.of xx⟩).mono fun o h9 q => ?_)
  · obtain ⟨sl, rfl⟩ := rngs0_at e
    obtain ⟨S, ys, u3, u4, rfl, nS, eS, yl, my, F9, t9⟩ := j
    have sf := F9.lt
    simp (config := { implicitDefEqProofs := false }) only [Vm.evF, Vm.evSs, Vm.evS, Vm.evX, Vm.evE, Vm.evEs, Vm.evIt, Vm.evPt, Vm.Res.bind_assoc, Vm.Res.bind_ok, Vm.Res.Ok_ok, Vm.bindT, Vm.setAll, Vm.boolOf, Vm.isNon, Vm.b_add, Vm.b_sub, Vm.a_add, Vm.c_eq, Vm.c_ne, Vm.c_lt, Vm.c_le, Vm.c_gt, Vm.c_ge, Vm.Bf_len, Vm.Bf_sum, Vm.Bf_min2, Vm.wipeE, Vm.Tg.slots, Vm.lcTurn, Vm.forTurn, List.map_cons, List.map_nil, List.length_cons, List.length_nil, List.length_map, List.cons_append, List.nil_append, List.getElem?_cons_zero, List.getElem?_cons_succ, List.set_cons_zero, List.set_cons_succ, List.reduceReplicate, Nat.reduceSub, Nat.reduceAdd, Nat.zero_add, Int.toNat_natCast, Bool.not_true, Bool.not_false, decide_true, decide_false, if_true, if_false]
    refine Res.ok_bind ((s_bent (h := h9) (N := n) (b := b + 14 * (8 - (s + 1)) + 8) (c := 6) (t := 0) (by decide) (by decide) (dd_tw g) (F9.le (by omega)) (by omega)).mono fun r h10 q => ?_)
    obtain ⟨d10, F10, t10⟩ := q
    try simp (config := { implicitDefEqProofs := false }) only [Vm.evF, Vm.evSs, Vm.evS, Vm.evX, Vm.evE, Vm.evEs, Vm.evIt, Vm.evPt, Vm.Res.bind_assoc, Vm.Res.bind_ok, Vm.Res.Ok_ok, Vm.bindT, Vm.setAll, Vm.boolOf, Vm.isNon, Vm.b_add, Vm.b_sub, Vm.a_add, Vm.c_eq, Vm.c_ne, Vm.c_lt, Vm.c_le, Vm.c_gt, Vm.c_ge, Vm.Bf_len, Vm.Bf_sum, Vm.Bf_min2, Vm.wipeE, Vm.Tg.slots, Vm.lcTurn, Vm.forTurn, List.map_cons, List.map_nil, List.length_cons, List.length_nil, List.length_map, List.cons_append, List.nil_append, List.getElem?_cons_zero, List.getElem?_cons_succ, List.set_cons_zero, List.set_cons_succ, List.reduceReplicate, Nat.reduceSub, Nat.reduceAdd, Nat.zero_add, Int.toNat_natCast, Bool.not_true, Bool.not_false, decide_true, decide_false, if_true, if_false]
    refine Res.ok_bind ((s_bent (h := h10) (N := n) (b := b + 14 * (8 - (s + 1))) (c := 6 + 1) (t := 2 * 0 + 1) (by decide) (by decide) d10 (F10.le (by omega)) (by omega)).mono fun r2 h11 q => ?_)
    obtain ⟨d11, F11, t11⟩ := q
    have F11l := F11.lt
    simp (config := { implicitDefEqProofs := false }) only [Vm.evF, Vm.evSs, Vm.evS, Vm.evX, Vm.evE, Vm.evEs, Vm.evIt, Vm.evPt, Vm.Res.bind_assoc, Vm.Res.bind_ok, Vm.Res.Ok_ok, Vm.bindT, Vm.setAll, Vm.boolOf, Vm.isNon, Vm.b_add, Vm.b_sub, Vm.a_add, Vm.c_eq, Vm.c_ne, Vm.c_lt, Vm.c_le, Vm.c_gt, Vm.c_ge, Vm.Bf_len, Vm.Bf_sum, Vm.Bf_min2, Vm.wipeE, Vm.Tg.slots, Vm.lcTurn, Vm.forTurn, List.map_cons, List.map_nil, List.length_cons, List.length_nil, List.length_map, List.cons_append, List.nil_append, List.getElem?_cons_zero, List.getElem?_cons_succ, List.set_cons_zero, List.set_cons_succ, List.reduceReplicate, Nat.reduceSub, Nat.reduceAdd, Nat.zero_add, Int.toNat_natCast, Bool.not_true, Bool.not_false, decide_true, decide_false, if_true, if_false, new_ok (h := h11) (xs := [r, r2]) (by simp)]
    have e12 := at_end h11 (HV.lst [r, r2])
    have x12 := Ext.app h11 [HV.lst [r, r2]]
    have eS2 := (t10.trans (t11.trans (But.of x12))).get nS eS
    have l12 : f < (h11 ++ [HV.lst [r, r2]]).length := by rw [List.length_append]; omega
    generalize h11.length = P at e12
    generalize h11 ++ [HV.lst [r, r2]] = h12 at e12 x12 eS2 l12
    simp (config := { implicitDefEqProofs := false }) only [Vm.evF, Vm.evSs, Vm.evS, Vm.evX, Vm.evE, Vm.evEs, Vm.evIt, Vm.evPt, Vm.Res.bind_assoc, Vm.Res.bind_ok, Vm.Res.Ok_ok, Vm.bindT, Vm.setAll, Vm.boolOf, Vm.isNon, Vm.b_add, Vm.b_sub, Vm.a_add, Vm.c_eq, Vm.c_ne, Vm.c_lt, Vm.c_le, Vm.c_gt, Vm.c_ge, Vm.Bf_len, Vm.Bf_sum, Vm.Bf_min2, Vm.wipeE, Vm.Tg.slots, Vm.lcTurn, Vm.forTurn, List.map_cons, List.map_nil, List.length_cons, List.length_nil, List.length_map, List.cons_append, List.nil_append, List.getElem?_cons_zero, List.getElem?_cons_succ, List.set_cons_zero, List.set_cons_succ, List.reduceReplicate, Nat.reduceSub, Nat.reduceAdd, Nat.zero_add, Int.toNat_natCast, Bool.not_true, Bool.not_false, decide_true, decide_false, if_true, if_false, lst_add eS2 e12 (by simp; omega)]
    have e13 := at_end h12 (HV.lst (ys ++ [r, r2]))
    have x13 := Ext.app h12 [HV.lst (ys ++ [r, r2])]
    refine ⟨_, _, _, _, rfl, by omega, e13, by rw [List.length_append]; simp; omega, fun y hy => ?_, (F11.ext x12).ext x13, t9.trans (t10.trans (t11.trans (But.of (x12.trans x13))))⟩
    rcases List.mem_append.mp hy with hy | hy
    · exact (my y hy).but (t10.trans (t11.trans (But.of (x12.trans x13))))
    · rcases List.mem_cons.mp hy with rfl | hy
      · exact ⟨7, 1, 2, d10.but (t11.trans (But.of (x12.trans x13))), by decide, by decide, by decide⟩
      · rw [List.mem_singleton.mp hy]
        exact ⟨8, 3, 3, d11.but (But.of (x12.trans x13)), by decide, by decide, by decide⟩
  · obtain ⟨S, ys, u3, u4, rfl, nS, eS, yl, my, F9, t9⟩ := j
    rw [rngs_len] at yl
    exact ⟨S, ys, _, _, rfl, nS, eS, by omega, my, F9.le (by omega), t9⟩
  · obtain ⟨S, ys, u3, u4, rfl, nS, eS, yl, my, F9, t9⟩ := q
    try simp (config := { implicitDefEqProofs := false }) only [Vm.evF, Vm.evSs, Vm.evS, Vm.evX, Vm.evE, Vm.evEs, Vm.evIt, Vm.evPt, Vm.Res.bind_assoc, Vm.Res.bind_ok, Vm.Res.Ok_ok, Vm.bindT, Vm.setAll, Vm.boolOf, Vm.isNon, Vm.b_add, Vm.b_sub, Vm.a_add, Vm.c_eq, Vm.c_ne, Vm.c_lt, Vm.c_le, Vm.c_gt, Vm.c_ge, Vm.Bf_len, Vm.Bf_sum, Vm.Bf_min2, Vm.wipeE, Vm.Tg.slots, Vm.lcTurn, Vm.forTurn, List.map_cons, List.map_nil, List.length_cons, List.length_nil, List.length_map, List.cons_append, List.nil_append, List.getElem?_cons_zero, List.getElem?_cons_succ, List.set_cons_zero, List.set_cons_succ, List.reduceReplicate, Nat.reduceSub, Nat.reduceAdd, Nat.zero_add, Int.toNat_natCast, Bool.not_true, Bool.not_false, decide_true, decide_false, if_true, if_false]
    exact ⟨S, ys, rfl, nS, eS, yl, my, F9, t9⟩
end
end K19

set_option Elab.async false
set_option linter.all false
set_option maxRecDepth 100000
set_option maxHeartbeats 4000000
namespace K19
open PySem PySem.Spec PyProof.Rows L2 Vm Rd
section
variable {h : IH} {N : Nat}
theorem sm_tw {ws : List Int} (g : Good ws) : Sm 1 (6 * (101 + 2) + 3) (tw ws) := Sm.tup (fun x hx => by
  obtain ⟨w, hw, rfl⟩ := List.mem_map.mp hx
  have := g.each w hw
  exact Sm.int (by omega)) (by rw [List.length_map]; exact g.few)
theorem s_law {ns : List Int} (hl : ns.length ≤ 63) (hN : 12 ≤ N) : (sem Bf ds N 0 [.fl (ns.map PV.int)] []).Ok fun r _ => r = .bl true := by
  obtain ⟨n, rfl, k⟩ := pre hN (by decide)
  rw [sem_at (d := d_law) (L := 10) (b := b_law) rfl rfl rfl]
  simp (config := { implicitDefEqProofs := false }) only [Vm.evF, Vm.evSs, Vm.evS, Vm.evX, Vm.evE, Vm.evEs, Vm.evIt, Vm.evPt, Vm.Res.bind_assoc, Vm.Res.bind_ok, Vm.Res.Ok_ok, Vm.bindT, Vm.setAll, Vm.boolOf, Vm.isNon, Vm.b_add, Vm.b_sub, Vm.a_add, Vm.c_eq, Vm.c_ne, Vm.c_lt, Vm.c_le, Vm.c_gt, Vm.c_ge, Vm.Bf_len, Vm.Bf_sum, Vm.Bf_min2, Vm.wipeE, Vm.Tg.slots, Vm.lcTurn, Vm.forTurn, List.map_cons, List.map_nil, List.length_cons, List.length_nil, List.length_map, List.cons_append, List.nil_append, List.getElem?_cons_zero, List.getElem?_cons_succ, List.set_cons_zero, List.set_cons_succ, List.reduceReplicate, Nat.reduceSub, Nat.reduceAdd, Nat.zero_add, Int.toNat_natCast, Bool.not_true, Bool.not_false, decide_true, decide_false, if_true, if_false, b_law]
  refine Res.ok_bind ((s_feed hl (by omega)).mono fun r h1 q => ?_)
  obtain ⟨f, rfl, F1⟩ := q
  refine Res.ok_bind ((s_weights (h := h1) (N := n) (b := 380) (F1.le (by omega)) (by omega)).mono fun r h2 q => ?_)
  obtain ⟨w1, rfl, g1, F2, _⟩ := q
  refine Res.ok_bind ((s_weights (h := h2) (N := n) (b := 360) F2 (by omega)).mono fun r h3 q => ?_)
  obtain ⟨w2, rfl, g2, F3, _⟩ := q
  simp (config := { implicitDefEqProofs := false }) only [Vm.evF, Vm.evSs, Vm.evS, Vm.evX, Vm.evE, Vm.evEs, Vm.evIt, Vm.evPt, Vm.Res.bind_assoc, Vm.Res.bind_ok, Vm.Res.Ok_ok, Vm.bindT, Vm.setAll, Vm.boolOf, Vm.isNon, Vm.b_add, Vm.b_sub, Vm.a_add, Vm.c_eq, Vm.c_ne, Vm.c_lt, Vm.c_le, Vm.c_gt, Vm.c_ge, Vm.Bf_len, Vm.Bf_sum, Vm.Bf_min2, Vm.wipeE, Vm.Tg.slots, Vm.lcTurn, Vm.forTurn, List.map_cons, List.map_nil, List.length_cons, List.length_nil, List.length_map, List.cons_append, List.nil_append, List.getElem?_cons_zero, List.getElem?_cons_succ, List.set_cons_zero, List.set_cons_succ, List.reduceReplicate, Nat.reduceSub, Nat.reduceAdd, Nat.zero_add, Int.toNat_natCast, Bool.not_true, Bool.not_false, decide_true, decide_false, if_true, if_false, new_ok (h := h3) (xs := [tw w1, tw w2]) (by simp)]
  generalize PV.fl (ns.map PV.int) = sc
  have e3 : (h3 ++ [HV.lst [tw w1, tw w2]])[h3.length]? = some (.lst [tw w1, tw w2]) := at_end _ _
  have F4 := F3.ext (Ext.app h3 [HV.lst [tw w1, tw w2]])
  have lf : f < h3.length := F3.lt
  generalize hA : h3.length = A at e3 lf
  generalize h3 ++ [HV.lst [tw w1, tw w2]] = h3 at e3 F4
  have sm : ∀ x ∈ [tw w1, tw w2], Sm 1 (6 * (101 + 2) + 3) x := fun x hx => by
    rcases List.mem_cons.mp hx with rfl | hx
    · exact sm_tw g1
    · rw [List.mem_singleton.mp hx]
      exact sm_tw g2
  have sh : ∀ {h' : IH}, h'[A]? = some (.lst [tw w1, tw w2]) → Bf 9 [.ref A] h' = .ok (.str (shL [tw w1, tw w2])) h' := fun {h'} e => show_ref (c := 2) e sm (by decide) (by simp) (by decide)
  have cut : slcF (.ref A) none (some 1) h3 = .ok (.ref h3.length) (h3 ++ [.lst [tw w1]]) := by
    have c : cutP [tw w1, tw w2] none (some 1) = [tw w1] := rfl
    simp only [slcF, e3, c]
    exact new_ok (by simp)
  simp (config := { implicitDefEqProofs := false }) only [Vm.evF, Vm.evSs, Vm.evS, Vm.evX, Vm.evE, Vm.evEs, Vm.evIt, Vm.evPt, Vm.Res.bind_assoc, Vm.Res.bind_ok, Vm.Res.Ok_ok, Vm.bindT, Vm.setAll, Vm.boolOf, Vm.isNon, Vm.b_add, Vm.b_sub, Vm.a_add, Vm.c_eq, Vm.c_ne, Vm.c_lt, Vm.c_le, Vm.c_gt, Vm.c_ge, Vm.Bf_len, Vm.Bf_sum, Vm.Bf_min2, Vm.wipeE, Vm.Tg.slots, Vm.lcTurn, Vm.forTurn, List.map_cons, List.map_nil, List.length_cons, List.length_nil, List.length_map, List.cons_append, List.nil_append, List.getElem?_cons_zero, List.getElem?_cons_succ, List.set_cons_zero, List.set_cons_succ, List.reduceReplicate, Nat.reduceSub, Nat.reduceAdd, Nat.zero_add, Int.toNat_natCast, Bool.not_true, Bool.not_false, decide_true, decide_false, if_true, if_false, sh e3, cut]
  have e4 : (h3 ++ [HV.lst [tw w1]])[h3.length]? = some (.lst [tw w1]) := at_end _ _
  have e4A := (Ext.app h3 [HV.lst [tw w1]]).get e3
  have F4 := F4.ext (Ext.app h3 [HV.lst [tw w1]])
  generalize h3.length = C at e4
  generalize h3 ++ [HV.lst [tw w1]] = h4 at e4 e4A F4
  have cat : binF .add (.ref A) (.ref C) h4 = .ok (.ref h4.length) (h4 ++ [HV.lst [tw w1, tw w2, tw w1]]) := lst_add e4A e4 (by simp)
  have e5 := at_end h4 (HV.lst [tw w1, tw w2, tw w1])
  have e5A := (Ext.app h4 [HV.lst [tw w1, tw w2, tw w1]]).get e4A
  have F5 := F4.ext (Ext.app h4 [HV.lst [tw w1, tw w2, tw w1]])
  have lf5 : f < h4.length := F4.lt
  simp (config := { implicitDefEqProofs := false }) only [Vm.evF, Vm.evSs, Vm.evS, Vm.evX, Vm.evE, Vm.evEs, Vm.evIt, Vm.evPt, Vm.Res.bind_assoc, Vm.Res.bind_ok, Vm.Res.Ok_ok, Vm.bindT, Vm.setAll, Vm.boolOf, Vm.isNon, Vm.b_add, Vm.b_sub, Vm.a_add, Vm.c_eq, Vm.c_ne, Vm.c_lt, Vm.c_le, Vm.c_gt, Vm.c_ge, Vm.Bf_len, Vm.Bf_sum, Vm.Bf_min2, Vm.wipeE, Vm.Tg.slots, Vm.lcTurn, Vm.forTurn, List.map_cons, List.map_nil, List.length_cons, List.length_nil, List.length_map, List.cons_append, List.nil_append, List.getElem?_cons_zero, List.getElem?_cons_succ, List.set_cons_zero, List.set_cons_succ, List.reduceReplicate, Nat.reduceSub, Nat.reduceAdd, Nat.zero_add, Int.toNat_natCast, Bool.not_true, Bool.not_false, decide_true, decide_false, if_true, if_false, cat, e5, fuel_heap e5]
  have w0 : ∀ x ∈ [tw w1, tw w2, tw w1], ∃ ws, x = tw ws ∧ Good ws := fun x hx => by
    simp only [List.mem_cons, List.not_mem_nil, or_false, List.cons_append, List.nil_append] at hx
    rcases hx with rfl | rfl | rfl
    · exact ⟨_, rfl, g1⟩
    · exact ⟨_, rfl, g2⟩
    · exact ⟨_, rfl, g1⟩
  have wl : [tw w1, tw w2, tw w1].length = 3 := rfl
  generalize h4.length = B at e5 lf5
  generalize h4 ++ [HV.lst [tw w1, tw w2, tw w1]] = h5 at e5 e5A F5
  generalize hvs : [tw w1, tw w2, tw w1] = vs at e5 w0 wl
  generalize hkp : shL [tw w1, tw w2] = kp at sh
  refine Res.ok_bind ((for_inv (xs := vs) (src := .heap B) (Q := fun o h6 => (∃ u4 u6 u7 u9, o = .nx [some sc, some (.ref f), some (.ref A), some (.str kp), u4, none, u6, u7, none, u9]) ∧ Feed h6 f 112 ∧ h6[A]? = some (.lst [tw w1, tw w2])) (fun k ev1 h6 => (∃ u4 u6 u7 u9, ev1 = [some sc, some (.ref f), some (.ref A), some (.str kp), u4, none, u6, u7, none, u9]) ∧ Feed h6 f (112 + 48 * (3 - k)) ∧ h6[A]? = some (.lst [tw w1, tw w2]) ∧ h6[B]? = some (.lst vs))
    (fun k ev1 h6 j => by simp only [Src.get, j.2.2.2]) (fun k x ev1 h6 e j => ?_) (fun ev1 h6 j => by obtain ⟨⟨u4, u6, u7, u9, rfl⟩, a, b, c⟩ := j; exact ⟨⟨_, _, _, _, rfl⟩, a.le (by omega), b⟩) _ 0 _ h5 (by simp [wl]) (Nat.zero_le _) ⟨⟨_, _, _, _, rfl⟩, F5.le (by omega), e5A, e5⟩).mono fun o h6 q => ?_)
  · obtain ⟨j1, F6, e6A, e6B⟩ := j
    obtain ⟨u4, u6, u7, u9, rfl⟩ := j1
    have hk : k < 3 := by
      have := (List.getElem?_eq_some_iff.mp e).1
      omega
    obtain ⟨ws, rfl, g⟩ := w0 x (List.mem_of_getElem? e)
    have gf := g.few
    have gs := g.some
    simp (config := { implicitDefEqProofs := false }) only [Vm.evF, Vm.evSs, Vm.evS, Vm.evX, Vm.evE, Vm.evEs, Vm.evIt, Vm.evPt, Vm.Res.bind_assoc, Vm.Res.bind_ok, Vm.Res.Ok_ok, Vm.bindT, Vm.setAll, Vm.boolOf, Vm.isNon, Vm.b_add, Vm.b_sub, Vm.a_add, Vm.c_eq, Vm.c_ne, Vm.c_lt, Vm.c_le, Vm.c_gt, Vm.c_ge, Vm.Bf_len, Vm.Bf_sum, Vm.Bf_min2, Vm.wipeE, Vm.Tg.slots, Vm.lcTurn, Vm.forTurn, List.map_cons, List.map_nil, List.length_cons, List.length_nil, List.length_map, List.cons_append, List.nil_append, List.getElem?_cons_zero, List.getElem?_cons_succ, List.set_cons_zero, List.set_cons_succ, List.reduceReplicate, Nat.reduceSub, Nat.reduceAdd, Nat.zero_add, Int.toNat_natCast, Bool.not_true, Bool.not_false, decide_true, decide_false, if_true, if_false]
    rw [rng_if (by omega) (by omega)]
    try simp (config := { implicitDefEqProofs := false }) only [Vm.evF, Vm.evSs, Vm.evS, Vm.evX, Vm.evE, Vm.evEs, Vm.evIt, Vm.evPt, Vm.Res.bind_assoc, Vm.Res.bind_ok, Vm.Res.Ok_ok, Vm.bindT, Vm.setAll, Vm.boolOf, Vm.isNon, Vm.b_add, Vm.b_sub, Vm.a_add, Vm.c_eq, Vm.c_ne, Vm.c_lt, Vm.c_le, Vm.c_gt, Vm.c_ge, Vm.Bf_len, Vm.Bf_sum, Vm.Bf_min2, Vm.wipeE, Vm.Tg.slots, Vm.lcTurn, Vm.forTurn, List.map_cons, List.map_nil, List.length_cons, List.length_nil, List.length_map, List.cons_append, List.nil_append, List.getElem?_cons_zero, List.getElem?_cons_succ, List.set_cons_zero, List.set_cons_succ, List.reduceReplicate, Nat.reduceSub, Nat.reduceAdd, Nat.zero_add, Int.toNat_natCast, Bool.not_true, Bool.not_false, decide_true, decide_false, if_true, if_false]
    refine Res.ok_bind ((for_inv (xs := rngs 0 ws.length) (Q := fun o h7 => (∃ u6 u9, o = .nx [some sc, some (.ref f), some (.ref A), some (.str kp), some (tw ws), none, u6, u7, none, u9]) ∧ Feed h7 f (112 + 48 * (3 - (k + 1)) + 6) ∧ But f h6 h7)
      (fun s ev1 h7 => (∃ u6 u9, ev1 = [some sc, some (.ref f), some (.ref A), some (.str kp), some (tw ws), none, u6, u7, none, u9]) ∧ Feed h7 f (112 + 48 * (3 - (k + 1)) + 6 + 7 * (6 - s)) ∧ But f h6 h7)
      (fun _ _ _ _ => rfl) (fun s x ev1 h7 e j => ?_) (fun ev1 h7 j => by obtain ⟨⟨u6, u9, rfl⟩, a, b⟩ := j; exact ⟨⟨_, _, rfl⟩, a.le (by omega), b⟩) _ 0 _ h6 (by simp [Src.fuel, rngs_len]) (Nat.zero_le _) ⟨⟨_, _, rfl⟩, F6.le (by omega), But.refl' f h6⟩).mono fun o h7 q => ?_)
    · obtain ⟨sl, rfl⟩ := rngs0_at e
      obtain ⟨j1, F7, t7⟩ := j
      obtain ⟨u6, u9, rfl⟩ := j1
      have s0 : (0 : Int) ≤ (s : Nat) := by omega
      have s1 : ((s : Nat) : Int) < ws.length := by omega
      have w := g.wt s0 s1
      simp (config := { implicitDefEqProofs := false }) only [Vm.evF, Vm.evSs, Vm.evS, Vm.evX, Vm.evE, Vm.evEs, Vm.evIt, Vm.evPt, Vm.Res.bind_assoc, Vm.Res.bind_ok, Vm.Res.Ok_ok, Vm.bindT, Vm.setAll, Vm.boolOf, Vm.isNon, Vm.b_add, Vm.b_sub, Vm.a_add, Vm.c_eq, Vm.c_ne, Vm.c_lt, Vm.c_le, Vm.c_gt, Vm.c_ge, Vm.Bf_len, Vm.Bf_sum, Vm.Bf_min2, Vm.wipeE, Vm.Tg.slots, Vm.lcTurn, Vm.forTurn, List.map_cons, List.map_nil, List.length_cons, List.length_nil, List.length_map, List.cons_append, List.nil_append, List.getElem?_cons_zero, List.getElem?_cons_succ, List.set_cons_zero, List.set_cons_succ, List.reduceReplicate, Nat.reduceSub, Nat.reduceAdd, Nat.zero_add, Int.toNat_natCast, Bool.not_true, Bool.not_false, decide_true, decide_false, if_true, if_false]
      refine Res.ok_bind ((s_draw (h := h7) (N := n) (b := 112 + 48 * (3 - (k + 1)) + 6 + 7 * (6 - (s + 1)) + 6) (m := 9) (F7.le (by omega)) (by omega) (by decide) (by decide)).mono fun r h8 q => ?_)
      obtain ⟨d, rfl, d0, d1, F8, t8⟩ := q
      simp (config := { implicitDefEqProofs := false }) only [Vm.evF, Vm.evSs, Vm.evS, Vm.evX, Vm.evE, Vm.evEs, Vm.evIt, Vm.evPt, Vm.Res.bind_assoc, Vm.Res.bind_ok, Vm.Res.Ok_ok, Vm.bindT, Vm.setAll, Vm.boolOf, Vm.isNon, Vm.b_add, Vm.b_sub, Vm.a_add, Vm.c_eq, Vm.c_ne, Vm.c_lt, Vm.c_le, Vm.c_gt, Vm.c_ge, Vm.Bf_len, Vm.Bf_sum, Vm.Bf_min2, Vm.wipeE, Vm.Tg.slots, Vm.lcTurn, Vm.forTurn, List.map_cons, List.map_nil, List.length_cons, List.length_nil, List.length_map, List.cons_append, List.nil_append, List.getElem?_cons_zero, List.getElem?_cons_succ, List.set_cons_zero, List.set_cons_succ, List.reduceReplicate, Nat.reduceSub, Nat.reduceAdd, Nat.zero_add, Int.toNat_natCast, Bool.not_true, Bool.not_false, decide_true, decide_false, if_true, if_false, ixW (h := h8) s0 s1]
      refine Res.ok_bind ((s_great (h := h8) (N := n) (b := 112 + 48 * (3 - (k + 1)) + 6 + 7 * (6 - (s + 1))) F8 (by omega)).mono fun r h9 q => ?_)
      obtain ⟨v, rfl, v0, F9, t9⟩ := q
      simp (config := { implicitDefEqProofs := false }) only [Vm.evF, Vm.evSs, Vm.evS, Vm.evX, Vm.evE, Vm.evEs, Vm.evIt, Vm.evPt, Vm.Res.bind_assoc, Vm.Res.bind_ok, Vm.Res.Ok_ok, Vm.bindT, Vm.setAll, Vm.boolOf, Vm.isNon, Vm.b_add, Vm.b_sub, Vm.a_add, Vm.c_eq, Vm.c_ne, Vm.c_lt, Vm.c_le, Vm.c_gt, Vm.c_ge, Vm.Bf_len, Vm.Bf_sum, Vm.Bf_min2, Vm.wipeE, Vm.Tg.slots, Vm.lcTurn, Vm.forTurn, List.map_cons, List.map_nil, List.length_cons, List.length_nil, List.length_map, List.cons_append, List.nil_append, List.getElem?_cons_zero, List.getElem?_cons_succ, List.set_cons_zero, List.set_cons_succ, List.reduceReplicate, Nat.reduceSub, Nat.reduceAdd, Nat.zero_add, Int.toNat_natCast, Bool.not_true, Bool.not_false, decide_true, decide_false, if_true, if_false, newT_ok (h := h9) (xs := [PV.int 1, .int 2, .int (1 + d), .int (wt ws (s : Nat)), .int (wt ws (s : Nat) + 1), .int (1 + v)]) (by simp)]
      refine Res.ok_bind ((for_inv (xs := [PV.int 1, .int 2, .int (1 + d), .int (wt ws (s : Nat)), .int (wt ws (s : Nat) + 1), .int (1 + v)]) (Q := fun o h10 => (∃ u9, o = .nx [some sc, some (.ref f), some (.ref A), some (.str kp), some (tw ws), none, some (.int (s : Nat)), u7, none, u9]) ∧ h10 = h9)
        (fun z ev1 h10 => (∃ u9, ev1 = [some sc, some (.ref f), some (.ref A), some (.str kp), some (tw ws), none, some (.int (s : Nat)), u7, none, u9]) ∧ h10 = h9)
        (fun _ _ _ _ => rfl) (fun z x ev1 h10 e j => ?_) (fun ev1 h10 j => by obtain ⟨⟨u9, rfl⟩, a⟩ := j; exact ⟨⟨_, rfl⟩, a⟩) _ 0 _ h9 (by simp [Src.fuel]) (Nat.zero_le _) ⟨⟨_, rfl⟩, rfl⟩).mono fun o h10 q => ?_)
      · obtain ⟨j1, rfl⟩ := j
        obtain ⟨u9, rfl⟩ := j1
        obtain ⟨jj, rfl, j0⟩ : ∃ jj : Int, x = .int jj ∧ 1 ≤ jj := by
          have := List.mem_of_getElem? e
          simp only [List.mem_cons, List.not_mem_nil, or_false] at this
          rcases this with rfl | rfl | rfl | rfl | rfl | rfl <;> exact ⟨_, rfl, by omega⟩
        simp (config := { implicitDefEqProofs := false }) only [Vm.evF, Vm.evSs, Vm.evS, Vm.evX, Vm.evE, Vm.evEs, Vm.evIt, Vm.evPt, Vm.Res.bind_assoc, Vm.Res.bind_ok, Vm.Res.Ok_ok, Vm.bindT, Vm.setAll, Vm.boolOf, Vm.isNon, Vm.b_add, Vm.b_sub, Vm.a_add, Vm.c_eq, Vm.c_ne, Vm.c_lt, Vm.c_le, Vm.c_gt, Vm.c_ge, Vm.Bf_len, Vm.Bf_sum, Vm.Bf_min2, Vm.wipeE, Vm.Tg.slots, Vm.lcTurn, Vm.forTurn, List.map_cons, List.map_nil, List.length_cons, List.length_nil, List.length_map, List.cons_append, List.nil_append, List.getElem?_cons_zero, List.getElem?_cons_succ, List.set_cons_zero, List.set_cons_succ, List.reduceReplicate, Nat.reduceSub, Nat.reduceAdd, Nat.zero_add, Int.toNat_natCast, Bool.not_true, Bool.not_false, decide_true, decide_false, if_true, if_false]
        refine Res.ok_bind ((s_is_window (h := h10) (N := n) (j := jj) g (by omega) s0 s1 j0).mono fun r h11 q => ?_)
        obtain ⟨rfl, rfl⟩ := q
        simp (config := { implicitDefEqProofs := false }) only [Vm.evF, Vm.evSs, Vm.evS, Vm.evX, Vm.evE, Vm.evEs, Vm.evIt, Vm.evPt, Vm.Res.bind_assoc, Vm.Res.bind_ok, Vm.Res.Ok_ok, Vm.bindT, Vm.setAll, Vm.boolOf, Vm.isNon, Vm.b_add, Vm.b_sub, Vm.a_add, Vm.c_eq, Vm.c_ne, Vm.c_lt, Vm.c_le, Vm.c_gt, Vm.c_ge, Vm.Bf_len, Vm.Bf_sum, Vm.Bf_min2, Vm.wipeE, Vm.Tg.slots, Vm.lcTurn, Vm.forTurn, List.map_cons, List.map_nil, List.length_cons, List.length_nil, List.length_map, List.cons_append, List.nil_append, List.getElem?_cons_zero, List.getElem?_cons_succ, List.set_cons_zero, List.set_cons_succ, List.reduceReplicate, Nat.reduceSub, Nat.reduceAdd, Nat.zero_add, Int.toNat_natCast, Bool.not_true, Bool.not_false, decide_true, decide_false, if_true, if_false]
        exact ⟨⟨_, rfl⟩, trivial⟩
      · obtain ⟨q1, rfl⟩ := q
        obtain ⟨u9, rfl⟩ := q1
        try simp (config := { implicitDefEqProofs := false }) only [Vm.evF, Vm.evSs, Vm.evS, Vm.evX, Vm.evE, Vm.evEs, Vm.evIt, Vm.evPt, Vm.Res.bind_assoc, Vm.Res.bind_ok, Vm.Res.Ok_ok, Vm.bindT, Vm.setAll, Vm.boolOf, Vm.isNon, Vm.b_add, Vm.b_sub, Vm.a_add, Vm.c_eq, Vm.c_ne, Vm.c_lt, Vm.c_le, Vm.c_gt, Vm.c_ge, Vm.Bf_len, Vm.Bf_sum, Vm.Bf_min2, Vm.wipeE, Vm.Tg.slots, Vm.lcTurn, Vm.forTurn, List.map_cons, List.map_nil, List.length_cons, List.length_nil, List.length_map, List.cons_append, List.nil_append, List.getElem?_cons_zero, List.getElem?_cons_succ, List.set_cons_zero, List.set_cons_succ, List.reduceReplicate, Nat.reduceSub, Nat.reduceAdd, Nat.zero_add, Int.toNat_natCast, Bool.not_true, Bool.not_false, decide_true, decide_false, if_true, if_false]
        exact ⟨⟨_, _, rfl⟩, F9, t7.trans (t8.trans t9)⟩
    · obtain ⟨q1, F7, t7⟩ := q
      obtain ⟨u6, u9, rfl⟩ := q1
      have p50 : (1000 : Int) < 10 ^ (50 : Int).toNat := by decide
      simp (config := { implicitDefEqProofs := false }) only [Vm.evF, Vm.evSs, Vm.evS, Vm.evX, Vm.evE, Vm.evEs, Vm.evIt, Vm.evPt, Vm.Res.bind_assoc, Vm.Res.bind_ok, Vm.Res.Ok_ok, Vm.bindT, Vm.setAll, Vm.boolOf, Vm.isNon, Vm.b_add, Vm.b_sub, Vm.a_add, Vm.c_eq, Vm.c_ne, Vm.c_lt, Vm.c_le, Vm.c_gt, Vm.c_ge, Vm.Bf_len, Vm.Bf_sum, Vm.Bf_min2, Vm.wipeE, Vm.Tg.slots, Vm.lcTurn, Vm.forTurn, List.map_cons, List.map_nil, List.length_cons, List.length_nil, List.length_map, List.cons_append, List.nil_append, List.getElem?_cons_zero, List.getElem?_cons_succ, List.set_cons_zero, List.set_cons_succ, List.reduceReplicate, Nat.reduceSub, Nat.reduceAdd, Nat.zero_add, Int.toNat_natCast, Bool.not_true, Bool.not_false, decide_true, decide_false, if_true, if_false, newT_ok (h := h7) (xs := [PV.int ws.length, .int 1]) (by simp), newT_ok (h := h7) (xs := [PV.int (-1), .int 2]) (by simp), newT_ok (h := h7) (xs := [PV.int ws.length, .int 0]) (by simp), pow_ok (h := h7) (i := 10) (j := 50) (by decide) (by decide) (by decide) (by decide)]
      generalize (10 : Int) ^ (50 : Int).toNat = z50 at p50
      simp (config := { implicitDefEqProofs := false }) only [Vm.evF, Vm.evSs, Vm.evS, Vm.evX, Vm.evE, Vm.evEs, Vm.evIt, Vm.evPt, Vm.Res.bind_assoc, Vm.Res.bind_ok, Vm.Res.Ok_ok, Vm.bindT, Vm.setAll, Vm.boolOf, Vm.isNon, Vm.b_add, Vm.b_sub, Vm.a_add, Vm.c_eq, Vm.c_ne, Vm.c_lt, Vm.c_le, Vm.c_gt, Vm.c_ge, Vm.Bf_len, Vm.Bf_sum, Vm.Bf_min2, Vm.wipeE, Vm.Tg.slots, Vm.lcTurn, Vm.forTurn, List.map_cons, List.map_nil, List.length_cons, List.length_nil, List.length_map, List.cons_append, List.nil_append, List.getElem?_cons_zero, List.getElem?_cons_succ, List.set_cons_zero, List.set_cons_succ, List.reduceReplicate, Nat.reduceSub, Nat.reduceAdd, Nat.zero_add, Int.toNat_natCast, Bool.not_true, Bool.not_false, decide_true, decide_false, if_true, if_false, newT_ok (h := h7) (xs := [PV.int z50, .int (-1)]) (by simp), newT_ok (h := h7) (xs := [PV.int 0, .int 0]) (by simp)]
      refine Res.ok_bind ((s_great (h := h7) (N := n) (b := 112 + 48 * (3 - (k + 1))) F7 (by omega)).mono fun r h8 q => ?_)
      obtain ⟨v, rfl, v0, F8, t8⟩ := q
      simp (config := { implicitDefEqProofs := false }) only [Vm.evF, Vm.evSs, Vm.evS, Vm.evX, Vm.evE, Vm.evEs, Vm.evIt, Vm.evPt, Vm.Res.bind_assoc, Vm.Res.bind_ok, Vm.Res.Ok_ok, Vm.bindT, Vm.setAll, Vm.boolOf, Vm.isNon, Vm.b_add, Vm.b_sub, Vm.a_add, Vm.c_eq, Vm.c_ne, Vm.c_lt, Vm.c_le, Vm.c_gt, Vm.c_ge, Vm.Bf_len, Vm.Bf_sum, Vm.Bf_min2, Vm.wipeE, Vm.Tg.slots, Vm.lcTurn, Vm.forTurn, List.map_cons, List.map_nil, List.length_cons, List.length_nil, List.length_map, List.cons_append, List.nil_append, List.getElem?_cons_zero, List.getElem?_cons_succ, List.set_cons_zero, List.set_cons_succ, List.reduceReplicate, Nat.reduceSub, Nat.reduceAdd, Nat.zero_add, Int.toNat_natCast, Bool.not_true, Bool.not_false, decide_true, decide_false, if_true, if_false, newT_ok (h := h8) (xs := [PV.int (ws.length - 1), .int (-1 - v)]) (by simp), newT_ok (h := h8) (xs := [PV.tup [PV.int ws.length, .int 1], .tup [.int (-1), .int 2], .tup [PV.int ws.length, .int 0], .tup [.int z50, .int (-1)], .tup [.int 0, .int 0], .tup [.int (ws.length - 1), .int (-1 - v)]]) (by simp)]
      refine Res.ok_bind ((for_inv (xs := [PV.tup [PV.int ws.length, .int 1], .tup [.int (-1), .int 2], .tup [PV.int ws.length, .int 0], .tup [.int z50, .int (-1)], .tup [.int 0, .int 0], .tup [.int (ws.length - 1), .int (-1 - v)]]) (Q := fun o h9 => (∃ u6 u9, o = .nx [some sc, some (.ref f), some (.ref A), some (.str kp), some (tw ws), none, u6, some (.int ws.length), none, u9]) ∧ Feed h9 f (112 + 48 * (3 - (k + 1))) ∧ But f h6 h9)
        (fun z ev1 h9 => (∃ u6 u9, ev1 = [some sc, some (.ref f), some (.ref A), some (.str kp), some (tw ws), none, u6, some (.int ws.length), none, u9]) ∧ Feed h9 f (112 + 48 * (3 - (k + 1))) ∧ But f h6 h9)
        (fun _ _ _ _ => rfl) (fun z x ev1 h9 e j => ?_) (fun ev1 h9 j => by obtain ⟨⟨u6, u9, rfl⟩, a⟩ := j; exact ⟨⟨_, _, rfl⟩, a⟩) _ 0 _ h8 (by simp [Src.fuel]) (Nat.zero_le _) ⟨⟨_, _, rfl⟩, F8, t7.trans t8⟩).mono fun o h9 q => ?_)
      · obtain ⟨j1, F9, t9⟩ := j
        obtain ⟨u6, u9, rfl⟩ := j1
        obtain ⟨s, jj, rfl, bad⟩ : ∃ s jj : Int, x = .tup [.int s, .int jj] ∧ (¬ (0 ≤ s ∧ s < ws.length) ∨ jj < 1) := by
          have := List.mem_of_getElem? e
          simp only [List.mem_cons, List.not_mem_nil, or_false] at this
          rcases this with rfl | rfl | rfl | rfl | rfl | rfl <;> exact ⟨_, _, rfl, by omega⟩
        simp (config := { implicitDefEqProofs := false }) only [Vm.evF, Vm.evSs, Vm.evS, Vm.evX, Vm.evE, Vm.evEs, Vm.evIt, Vm.evPt, Vm.Res.bind_assoc, Vm.Res.bind_ok, Vm.Res.Ok_ok, Vm.bindT, Vm.setAll, Vm.boolOf, Vm.isNon, Vm.b_add, Vm.b_sub, Vm.a_add, Vm.c_eq, Vm.c_ne, Vm.c_lt, Vm.c_le, Vm.c_gt, Vm.c_ge, Vm.Bf_len, Vm.Bf_sum, Vm.Bf_min2, Vm.wipeE, Vm.Tg.slots, Vm.lcTurn, Vm.forTurn, List.map_cons, List.map_nil, List.length_cons, List.length_nil, List.length_map, List.cons_append, List.nil_append, List.getElem?_cons_zero, List.getElem?_cons_succ, List.set_cons_zero, List.set_cons_succ, List.reduceReplicate, Nat.reduceSub, Nat.reduceAdd, Nat.zero_add, Int.toNat_natCast, Bool.not_true, Bool.not_false, decide_true, decide_false, if_true, if_false, rd]
        refine Res.ok_bind ((s_is_refused (h := h9) (N := n) (by omega) bad).mono fun r h10 q => ?_)
        obtain ⟨rfl, x10⟩ := q
        simp (config := { implicitDefEqProofs := false }) only [Vm.evF, Vm.evSs, Vm.evS, Vm.evX, Vm.evE, Vm.evEs, Vm.evIt, Vm.evPt, Vm.Res.bind_assoc, Vm.Res.bind_ok, Vm.Res.Ok_ok, Vm.bindT, Vm.setAll, Vm.boolOf, Vm.isNon, Vm.b_add, Vm.b_sub, Vm.a_add, Vm.c_eq, Vm.c_ne, Vm.c_lt, Vm.c_le, Vm.c_gt, Vm.c_ge, Vm.Bf_len, Vm.Bf_sum, Vm.Bf_min2, Vm.wipeE, Vm.Tg.slots, Vm.lcTurn, Vm.forTurn, List.map_cons, List.map_nil, List.length_cons, List.length_nil, List.length_map, List.cons_append, List.nil_append, List.getElem?_cons_zero, List.getElem?_cons_succ, List.set_cons_zero, List.set_cons_succ, List.reduceReplicate, Nat.reduceSub, Nat.reduceAdd, Nat.zero_add, Int.toNat_natCast, Bool.not_true, Bool.not_false, decide_true, decide_false, if_true, if_false]
        exact ⟨⟨_, _, rfl⟩, F9.ext x10, t9.trans (But.of x10)⟩
      · obtain ⟨q1, F9, t9⟩ := q
        obtain ⟨u6, u9, rfl⟩ := q1
        try simp (config := { implicitDefEqProofs := false }) only [Vm.evF, Vm.evSs, Vm.evS, Vm.evX, Vm.evE, Vm.evEs, Vm.evIt, Vm.evPt, Vm.Res.bind_assoc, Vm.Res.bind_ok, Vm.Res.Ok_ok, Vm.bindT, Vm.setAll, Vm.boolOf, Vm.isNon, Vm.b_add, Vm.b_sub, Vm.a_add, Vm.c_eq, Vm.c_ne, Vm.c_lt, Vm.c_le, Vm.c_gt, Vm.c_ge, Vm.Bf_len, Vm.Bf_sum, Vm.Bf_min2, Vm.wipeE, Vm.Tg.slots, Vm.lcTurn, Vm.forTurn, List.map_cons, List.map_nil, List.length_cons, List.length_nil, List.length_map, List.cons_append, List.nil_append, List.getElem?_cons_zero, List.getElem?_cons_succ, List.set_cons_zero, List.set_cons_succ, List.reduceReplicate, Nat.reduceSub, Nat.reduceAdd, Nat.zero_add, Int.toNat_natCast, Bool.not_true, Bool.not_false, decide_true, decide_false, if_true, if_false]
        exact ⟨⟨_, _, _, _, rfl⟩, F9, t9.get (by omega) e6A, t9.get (by omega) e6B⟩
  · obtain ⟨q1, F6, e6A⟩ := q
    obtain ⟨u4, u6, u7, u9, rfl⟩ := q1
    simp (config := { implicitDefEqProofs := false }) only [Vm.evF, Vm.evSs, Vm.evS, Vm.evX, Vm.evE, Vm.evEs, Vm.evIt, Vm.evPt, Vm.Res.bind_assoc, Vm.Res.bind_ok, Vm.Res.Ok_ok, Vm.bindT, Vm.setAll, Vm.boolOf, Vm.isNon, Vm.b_add, Vm.b_sub, Vm.a_add, Vm.c_eq, Vm.c_ne, Vm.c_lt, Vm.c_le, Vm.c_gt, Vm.c_ge, Vm.Bf_len, Vm.Bf_sum, Vm.Bf_min2, Vm.wipeE, Vm.Tg.slots, Vm.lcTurn, Vm.forTurn, List.map_cons, List.map_nil, List.length_cons, List.length_nil, List.length_map, List.cons_append, List.nil_append, List.getElem?_cons_zero, List.getElem?_cons_succ, List.set_cons_zero, List.set_cons_succ, List.reduceReplicate, Nat.reduceSub, Nat.reduceAdd, Nat.zero_add, Int.toNat_natCast, Bool.not_true, Bool.not_false, decide_true, decide_false, if_true, if_false]
    have i0 : ixF (.ref A) (.int 0) h6 = .ok (tw w1) h6 := ixF_rd (rd_ref e6A) (by decide) rfl
    simp (config := { implicitDefEqProofs := false }) only [Vm.evF, Vm.evSs, Vm.evS, Vm.evX, Vm.evE, Vm.evEs, Vm.evIt, Vm.evPt, Vm.Res.bind_assoc, Vm.Res.bind_ok, Vm.Res.Ok_ok, Vm.bindT, Vm.setAll, Vm.boolOf, Vm.isNon, Vm.b_add, Vm.b_sub, Vm.a_add, Vm.c_eq, Vm.c_ne, Vm.c_lt, Vm.c_le, Vm.c_gt, Vm.c_ge, Vm.Bf_len, Vm.Bf_sum, Vm.Bf_min2, Vm.wipeE, Vm.Tg.slots, Vm.lcTurn, Vm.forTurn, List.map_cons, List.map_nil, List.length_cons, List.length_nil, List.length_map, List.cons_append, List.nil_append, List.getElem?_cons_zero, List.getElem?_cons_succ, List.set_cons_zero, List.set_cons_succ, List.reduceReplicate, Nat.reduceSub, Nat.reduceAdd, Nat.zero_add, Int.toNat_natCast, Bool.not_true, Bool.not_false, decide_true, decide_false, if_true, if_false, i0]
    refine Res.ok_bind ((s_things (h := h6) (N := n) (b := 0) F6 g1 (by omega)).mono fun r h7 q => ?_)
    obtain ⟨D, ys, rfl, nD, eD, yl, my, F7, t7⟩ := q
    have e7A := t7.get (by omega) e6A
    simp (config := { implicitDefEqProofs := false }) only [Vm.evF, Vm.evSs, Vm.evS, Vm.evX, Vm.evE, Vm.evEs, Vm.evIt, Vm.evPt, Vm.Res.bind_assoc, Vm.Res.bind_ok, Vm.Res.Ok_ok, Vm.bindT, Vm.setAll, Vm.boolOf, Vm.isNon, Vm.b_add, Vm.b_sub, Vm.a_add, Vm.c_eq, Vm.c_ne, Vm.c_lt, Vm.c_le, Vm.c_gt, Vm.c_ge, Vm.Bf_len, Vm.Bf_sum, Vm.Bf_min2, Vm.wipeE, Vm.Tg.slots, Vm.lcTurn, Vm.forTurn, List.map_cons, List.map_nil, List.length_cons, List.length_nil, List.length_map, List.cons_append, List.nil_append, List.getElem?_cons_zero, List.getElem?_cons_succ, List.set_cons_zero, List.set_cons_succ, List.reduceReplicate, Nat.reduceSub, Nat.reduceAdd, Nat.zero_add, Int.toNat_natCast, Bool.not_true, Bool.not_false, decide_true, decide_false, if_true, if_false, eD, fuel_heap eD]
    refine Res.ok_bind ((for_inv (xs := ys) (src := .heap D) (Q := fun o h8 => (∃ u5 u8, o = .nx [some sc, some (.ref f), some (.ref A), some (.str kp), u4, u5, u6, u7, u8, u9]) ∧ h8[A]? = some (.lst [tw w1, tw w2]))
      (fun z ev1 h8 => (∃ u5 u8, ev1 = [some sc, some (.ref f), some (.ref A), some (.str kp), u4, u5, u6, u7, u8, u9]) ∧ Ext h7 h8)
      (fun k ev1 h8 j => by simp only [Src.get, j.2.get eD]) (fun z x ev1 h8 e j => ?_) (fun ev1 h8 j => by obtain ⟨⟨u5, u8, rfl⟩, a⟩ := j; exact ⟨⟨_, _, rfl⟩, a.get e7A⟩) _ 0 _ h7 (by simp) (Nat.zero_le _) ⟨⟨_, _, rfl⟩, Ext.refl _⟩).mono fun o h8 q => ?_)
    · obtain ⟨j1, x8⟩ := j
      obtain ⟨u5, u8, rfl⟩ := j1
      obtain ⟨c, t, m, dd, hm, hL, hc⟩ := (my x (List.mem_of_getElem? e)).but (But.of x8)
      obtain ⟨txt, st⟩ := dd.show_ (by omega) hL
      simp (config := { implicitDefEqProofs := false }) only [Vm.evF, Vm.evSs, Vm.evS, Vm.evX, Vm.evE, Vm.evEs, Vm.evIt, Vm.evPt, Vm.Res.bind_assoc, Vm.Res.bind_ok, Vm.Res.Ok_ok, Vm.bindT, Vm.setAll, Vm.boolOf, Vm.isNon, Vm.b_add, Vm.b_sub, Vm.a_add, Vm.c_eq, Vm.c_ne, Vm.c_lt, Vm.c_le, Vm.c_gt, Vm.c_ge, Vm.Bf_len, Vm.Bf_sum, Vm.Bf_min2, Vm.wipeE, Vm.Tg.slots, Vm.lcTurn, Vm.forTurn, List.map_cons, List.map_nil, List.length_cons, List.length_nil, List.length_map, List.cons_append, List.nil_append, List.getElem?_cons_zero, List.getElem?_cons_succ, List.set_cons_zero, List.set_cons_succ, List.reduceReplicate, Nat.reduceSub, Nat.reduceAdd, Nat.zero_add, Int.toNat_natCast, Bool.not_true, Bool.not_false, decide_true, decide_false, if_true, if_false, st h8 (But.refl' f h8), s_is_weights (N := n) (by omega) dd]
      refine Res.ok_bind ((s_law_is_weights (N := n) (by omega) dd (by omega) (by omega)).mono fun r h9 q => ?_)
      obtain ⟨rfl, x9⟩ := q
      try simp (config := { implicitDefEqProofs := false }) only [Vm.evF, Vm.evSs, Vm.evS, Vm.evX, Vm.evE, Vm.evEs, Vm.evIt, Vm.evPt, Vm.Res.bind_assoc, Vm.Res.bind_ok, Vm.Res.Ok_ok, Vm.bindT, Vm.setAll, Vm.boolOf, Vm.isNon, Vm.b_add, Vm.b_sub, Vm.a_add, Vm.c_eq, Vm.c_ne, Vm.c_lt, Vm.c_le, Vm.c_gt, Vm.c_ge, Vm.Bf_len, Vm.Bf_sum, Vm.Bf_min2, Vm.wipeE, Vm.Tg.slots, Vm.lcTurn, Vm.forTurn, List.map_cons, List.map_nil, List.length_cons, List.length_nil, List.length_map, List.cons_append, List.nil_append, List.getElem?_cons_zero, List.getElem?_cons_succ, List.set_cons_zero, List.set_cons_succ, List.reduceReplicate, Nat.reduceSub, Nat.reduceAdd, Nat.zero_add, Int.toNat_natCast, Bool.not_true, Bool.not_false, decide_true, decide_false, if_true, if_false]
      refine Res.ok_bind ((s_alike (h := h9) (N := n) (n := 0) (Pd.bl (b := wB x)) (by omega)).mono fun r h10 q => ?_)
      obtain ⟨rfl, x10⟩ := q
      simp (config := { implicitDefEqProofs := false }) only [Vm.evF, Vm.evSs, Vm.evS, Vm.evX, Vm.evE, Vm.evEs, Vm.evIt, Vm.evPt, Vm.Res.bind_assoc, Vm.Res.bind_ok, Vm.Res.Ok_ok, Vm.bindT, Vm.setAll, Vm.boolOf, Vm.isNon, Vm.b_add, Vm.b_sub, Vm.a_add, Vm.c_eq, Vm.c_ne, Vm.c_lt, Vm.c_le, Vm.c_gt, Vm.c_ge, Vm.Bf_len, Vm.Bf_sum, Vm.Bf_min2, Vm.wipeE, Vm.Tg.slots, Vm.lcTurn, Vm.forTurn, List.map_cons, List.map_nil, List.length_cons, List.length_nil, List.length_map, List.cons_append, List.nil_append, List.getElem?_cons_zero, List.getElem?_cons_succ, List.set_cons_zero, List.set_cons_succ, List.reduceReplicate, Nat.reduceSub, Nat.reduceAdd, Nat.zero_add, Int.toNat_natCast, Bool.not_true, Bool.not_false, decide_true, decide_false, if_true, if_false, st h10 (But.of (x9.trans x10)), ne_st]
      exact ⟨⟨_, _, rfl⟩, x8.trans (x9.trans x10)⟩
    · obtain ⟨q1, e8A⟩ := q
      obtain ⟨u5, u8, rfl⟩ := q1
      simp (config := { implicitDefEqProofs := false }) only [Vm.evF, Vm.evSs, Vm.evS, Vm.evX, Vm.evE, Vm.evEs, Vm.evIt, Vm.evPt, Vm.Res.bind_assoc, Vm.Res.bind_ok, Vm.Res.Ok_ok, Vm.bindT, Vm.setAll, Vm.boolOf, Vm.isNon, Vm.b_add, Vm.b_sub, Vm.a_add, Vm.c_eq, Vm.c_ne, Vm.c_lt, Vm.c_le, Vm.c_gt, Vm.c_ge, Vm.Bf_len, Vm.Bf_sum, Vm.Bf_min2, Vm.wipeE, Vm.Tg.slots, Vm.lcTurn, Vm.forTurn, List.map_cons, List.map_nil, List.length_cons, List.length_nil, List.length_map, List.cons_append, List.nil_append, List.getElem?_cons_zero, List.getElem?_cons_succ, List.set_cons_zero, List.set_cons_succ, List.reduceReplicate, Nat.reduceSub, Nat.reduceAdd, Nat.zero_add, Int.toNat_natCast, Bool.not_true, Bool.not_false, decide_true, decide_false, if_true, if_false, sh e8A, eq_st]
end
theorem main (ns : List Int) (hl : ns.length <= 63) : ∃ h', sem Bf ds 16 0 [.fl (ns.map PV.int)] [] = .ok (.bl true) h' := by
  obtain ⟨r, h', e, rfl⟩ := (s_law (N := 16) hl (by omega)).get
  exact ⟨h', e⟩
end K19

set_option Elab.async false
set_option linter.all false
set_option maxRecDepth 100000
set_option maxHeartbeats 0
namespace K19
open PySem PySem.Spec PyProof.Rows L2 Vm
/-! ### the head -/
abbrev hk : PySem.W.Hook := Vm.hookG 4 ds CS es HT nts
def ob (s : PySem.W.SharedT) : He.AlX := Vm.obG 4 ds CS es HT nts s
theorem ob_eq (s : PySem.W.SharedT) : ob s = hk.obs s.abs := Vm.obG_eq s
abbrev Rw : PySem.W.OpenRow := PySem.W.OpenLaw.row PySem.Challenge.rw_almsrow_k19_weights_and_windows
abbrev loose : List Str := (["AlmsError", "NoPaper", "NoName", "NoPlace", "NoSeat", "NoTurn", "NoWeek", "NoPage", "NoBack", "NoText", "NoRow", "is_number", "is_weights", "first_of", "last_of", "is_seat"] : List Str) ++ (["need_seat", "need_number", "rounded_up", "_law_feed", "_law_draw", "_law_weights", "_law_great", "_law_alike", "_law_odd", "_law_bent", "_law_refused", "_law_is_weights", "_law_heard", "_law_is_window", "_law_is_refused", "_law_things"] : List Str)
theorem run (w : World) : HandSHeadRun.RunEq Rw (PySem.W.view Rw.prog [36]) hk ob 8000 loose w := by
  intro os
  kernel_rfl
end K19
open PySem PySem.W PySem.Calls PyProof.Rows
theorem PySem.Challenge.cw_almsrow_k19_weights_and_windows_holds : PySem.Challenge.rw_almsrow_k19_weights_and_windows.Holds := by
  w_on; o_law
  refine HandSHeadRun.head_any (r := OpenLaw.row PySem.Challenge.rw_almsrow_k19_weights_and_windows) (q := view (OpenLaw.row PySem.Challenge.rw_almsrow_k19_weights_and_windows).prog [36]) (H := K19.hk) (ob := K19.ob) (M := 8000) (loose := K19.loose) (d := HandSHeadRun.topDef (OpenLaw.row PySem.Challenge.rw_almsrow_k19_weights_and_windows).prog 36) (kwd := []) K19.ob_eq
    (by kernel_rfl) (fun s => by kernel_rfl) K19.run (by kernel_rfl) (by kernel_rfl) (by kernel_rfl) (by rfl) (by first | assumption | decide +kernel) (by decide +kernel) ⟨rfl, rfl, rfl, rfl, rfl, by decide +kernel⟩ ?hw ?hc
  case hw => w_witness2
  case hc =>
    refine Vm.walkGT (l := PySem.Challenge.rw_almsrow_k19_weights_and_windows) (n := 63) (k := 48) (x := "_law_script") rfl (by decide) (by kernel_rfl) ⟨rfl, by decide, by decide⟩ ?F
    intro w mg fa h Y G hmg0
    have hmg : mg ("law" : PySem.Str) = some (.ref fa) := by
      have e : (HandSHeadRun.topDef (OpenLaw.row PySem.Challenge.rw_almsrow_k19_weights_and_windows).prog 36).name = ("law" : PySem.Str) := by kernel_rfl
      rw [← e]
      exact hmg0
    exact Vm.law_byG (l := PySem.Challenge.rw_almsrow_k19_weights_and_windows) (N := 16) (d0 := K19.d_law) Y G hmg rfl rfl (fun K f fd F s u => L2.FunD.bindsA (ps := ["_law_script"]) F (fun _ _ _ _ _ _ us hl => match us, hl with | [_], _ => rfl) s [u] rfl) (fun K => K19.bds) (fun K => K19.bes) (fun K => K19.bns) K19.chk K19.main

