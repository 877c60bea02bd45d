import PyProof.Rows.All
import Wide.All
import OpenK.AllK
import Wide.FinOn
import PySem.Challenge.RW_almsrow_k26_whole_turns_there_and_back
import HandS.ForMost
import HandS.IsInst
import HandS.Conv
import HandS.Strs
import HandS.TupAny
import HandS.TupMul
import HandS.DeepEq
import HandS.Deep
import HandS.Codes
import HandS.TryOnly
import HandS.SetFor
import PyProof.Rows.SetFrom
import PyProof.EqAt
import HandS.Head0
import HandS.Head1
import HandS.Head2
import HandS.HeadEnd
import HandS.HeadHook1
import HandS.HeadHook2
import HandS.Defaults
set_option Elab.async false
set_option linter.all false
set_option maxRecDepth 100000
/-! VmA: a small evaluator over values, its results. -/
namespace Vm
open PySem PySem.Spec PyProof.Rows L2

/-- a value: what is never written as a tree (a tuple; fl: a list that nobody writes), the others by their numbers in the heap of the evaluator -/
inductive PV where
  | non | bl (b : Bool) | int (i : Int) | str (s : Str) | tup (xs : List PV) | fl (xs : List PV) | ref (a : Nat)
  deriving Inhabited

/-- what stands at a number: a list, a dict with text keys -/
inductive HV where
  | lst (xs : List PV) | dct (kvs : List (Str × PV))
  deriving Inhabited

abbrev IH := List HV
abbrev Ev := List (Option PV)

inductive Res (α : Type) where
  | ok (a : α) (h : IH) | exc (c : Nat) (fs : List PV) (h : IH) | stuck

def Res.bind {α β : Type} (r : Res α) (f : α → IH → Res β) : Res β := match r with
  | .ok a h => f a h
  | .exc c fs h => .exc c fs h
  | .stuck => .stuck

@[simp] theorem Res.bind_ok {α β : Type} (a : α) (h : IH) (f : α → IH → Res β) : (Res.ok a h).bind f = f a h := rfl
@[simp] theorem Res.bind_exc {α β : Type} (c : Nat) (fs : List PV) (h : IH) (f : α → IH → Res β) : (Res.exc c fs h : Res α).bind f = .exc c fs h := rfl
@[simp] theorem Res.bind_stuck {α β : Type} (f : α → IH → Res β) : (Res.stuck : Res α).bind f = .stuck := rfl

/-- it ends, and Q holds of the end -/
def Res.Ok {α : Type} (r : Res α) (Q : α → IH → Prop) : Prop := match r with
  | .ok a h => Q a h
  | _ => False
@[simp] theorem Res.Ok_ok {α : Type} (a : α) (h : IH) (Q : α → IH → Prop) : (Res.ok a h).Ok Q = Q a h := rfl
theorem Res.ok_bind {α β : Type} {r : Res α} {f : α → IH → Res β} {Q : β → IH → Prop} (h : r.Ok fun a h1 => (f a h1).Ok Q) : (r.bind f).Ok Q := by
  cases r with
  | ok a h1 => exact h
  | exc => exact h.elim
  | stuck => exact h.elim
theorem Res.Ok.mono {α : Type} {r : Res α} {Q Q' : α → IH → Prop} (h : r.Ok Q) (k : ∀ a h1, Q a h1 → Q' a h1) : r.Ok Q' := by
  cases r with
  | ok a h1 => exact k a h1 h
  | exc => exact h.elim
  | stuck => exact h.elim
theorem Res.Ok.get {α : Type} {r : Res α} {Q : α → IH → Prop} (h : r.Ok Q) : ∃ a h1, r = .ok a h1 ∧ Q a h1 := by
  cases r with
  | ok a h1 => exact ⟨a, h1, rfl, h⟩
  | exc => exact h.elim
  | stuck => exact h.elim
/-- what raises is not followed -/
def Res.calm {α : Type} (r : Res α) : Res α := match r with
  | .ok a h => .ok a h
  | _ => .stuck
@[simp] theorem Res.calm_ok {α : Type} (a : α) (h : IH) : (Res.ok a h).calm = .ok a h := rfl

/-! ### the text as the evaluator has it -/
inductive BOp where | add | sub | mul | fdiv | mod | pow
  deriving DecidableEq
inductive COp where | eq | ne | lt | le | gt | ge
  deriving DecidableEq

/-- what is stored to: a name's slot, or slots by an unpacking -/
inductive Tg where
  | one (i : Nat) | many (is : List Nat)
def Tg.slots : Tg → List Nat
  | .one i => [i]
  | .many is => is

/-- the built-in classes that are asked for -/
inductive Ty where | int | bool | str | tuple | list
  deriving DecidableEq
def Ty.word : Ty → String
  | .int => "int" | .bool => "bool" | .str => "str" | .tuple => "tuple" | .list => "list"
mutual
inductive E where
  | var (i : Nat) | int (i : Int) | str (s : Str) | bl (b : Bool) | non
  | bin (op : BOp) (a b : E) | neg (a : E)
  | cmp (op : COp) (a b : E) | chain (o1 o2 : COp) (a b c : E)
  | isn (a : E) | notn (a : E)
  | band (a b : E) | bor (a b : E) | not (a : E) | ite (c a b : E)
  | tup (es : Es) | lst (es : Es)
  | ix (a i : E)
  | call (f : Nat) (es : Es)
  | bi (b : Nat) (es : Es)
  | lc (elt : E) (tg : Tg) (it : It) (cond : E)
  | slc (a : E) (lo hi : Pt)
  | lrng (a : E) | sset (a : E) | scnt (a u e : E)
  | isin (t : Ty) (a : E)
inductive Es where
  | nil | cons (e : E) (es : Es)
inductive It where
  | rng (e : E) | rng2 (a b : E) | seq (e : E) | enum (e : E) | zip (a b : E)
inductive Pt where
  | no | yes (e : E)
end

inductive Sx where
  | set (tg : Tg) (e : E)
  | par (i j : Nat) (a b : E)
  | put (a i v : E)
  | augv (i : Nat) (op : BOp) (e : E)
  | augp (a i : E) (op : BOp) (e : E)
  | ret (e : E)
  | drop (e : E)
  | app (a e : E)
  | never
mutual
inductive S where
  | x (s : Sx)
  | ifs (c : E) (a b : Ss)
  | for (tg : Tg) (it : It) (b : Ss)
  | whl (c : E) (b : Ss)
inductive Ss where
  | nil | cons (s : S) (ss : Ss)
end

/-! ### what it does -/
/-- what is walked: things, or the list at a number as it stands at each turn -/
inductive Src where
  | items (xs : List PV) | heap (a : Nat) | enum (a : Nat) | zip (a b : Nat)
/-- the thing at turn k: none where the walk can't go on, some none at its end -/
def Src.get (s : Src) (h : IH) (k : Nat) : Option (Option PV) := match s with
  | .items xs => some xs[k]?
  | .heap a => (match h[a]? with
    | some (.lst xs) => some xs[k]?
    | _ => none)
  | .enum a => (match h[a]? with
    | some (.lst xs) => some (xs[k]?.map fun x => .tup [.int k, x])
    | _ => none)
  | .zip a b => (match h[a]?, h[b]? with
    | some (.lst xs), some (.lst ys) => some (match xs[k]?, ys[k]? with
      | some x, some y => some (.tup [x, y])
      | _, _ => none)
    | _, _ => none)
/-- turns enough -/
def Src.fuel (s : Src) (h : IH) : Nat := match s with
  | .items xs => xs.length + 1
  | .heap a => (match h[a]? with
    | some (.lst xs) => xs.length + 1
    | _ => 0)
  | .enum a => (match h[a]? with
    | some (.lst xs) => xs.length + 1
    | _ => 0)
  | .zip a _ => (match h[a]? with
    | some (.lst xs) => xs.length + 1
    | _ => 0)

def lcLoop (src : Src) (f : PV → IH → Res (Option PV)) : Nat → Nat → List PV → IH → Res (List PV)
  | 0, _, _, _ => .stuck
  | n + 1, k, acc, h => match src.get h k with
    | none => .stuck
    | some none => .ok acc h
    | some (some x) => (f x h).bind fun o h1 => match o with
      | some y => if acc.length < sizeLine then lcLoop src f n (k + 1) (acc ++ [y]) h1 else .stuck
      | none => lcLoop src f n (k + 1) acc h1

def rd (h : IH) : PV → Option (List PV)
  | .tup xs => some xs
  | .fl xs => some xs
  | .ref a => match h[a]? with
    | some (.lst xs) => some xs
    | _ => none
  | _ => none

def new (h : IH) (xs : List PV) : Res PV := if xs.length ≤ sizeLine then .ok (.ref h.length) (h ++ [.lst xs]) else .stuck
def newT (h : IH) (xs : List PV) : Res PV := if xs.length ≤ sizeLine then .ok (.tup xs) h else .stuck

def big (i : Int) : Bool := decide (-(2 ^ 64) < i ∧ i < 2 ^ 64)

def binF (op : BOp) (x y : PV) (h : IH) : Res PV := match op, x, y with
  | .add, .int i, .int j => .ok (.int (i + j)) h
  | .add, .str i, .str j => if i.length + j.length ≤ sizeLine then .ok (.str (i ++ j)) h else .stuck
  | .add, .tup xs, .tup ys => newT h (xs ++ ys)
  | .add, .ref a, .ref b => (match h[a]?, h[b]? with
    | some (.lst xs), some (.lst ys) => new h (xs ++ ys)
    | _, _ => .stuck)
  | .sub, .int i, .int j => .ok (.int (i - j)) h
  | .mul, .ref a, .int k => (match h[a]? with
    | some (.lst xs) => if -(2 ^ 63) ≤ k ∧ k < 2 ^ 63 then new h (List.replicate k.toNat xs).flatten else .stuck
    | _ => .stuck)
  | .mul, .int i, .int j => if big i || big j then .ok (.int (i * j)) h else .stuck
  | .fdiv, .int i, .int j => if 0 < j ∧ j < 1073741824 then .ok (.int (i / j)) h else .stuck
  | .mod, .int i, .int j => if 0 < j then .ok (.int (i % j)) h else .stuck
  | .pow, .int i, .int j => if 0 ≤ j ∧ j ≤ 1000000 ∧ i.natAbs < 2 ^ 64 then .ok (.int (i ^ j.toNat)) h else .stuck
  | _, _, _ => .stuck

/-- op= -/
def augF (op : BOp) (x y : PV) (h : IH) : Res PV := match op, x, y with
  | .add, .int i, .int j => .ok (.int (i + j)) h
  | .add, .str i, .str j => if i.length + j.length ≤ sizeLine then .ok (.str (i ++ j)) h else .stuck
  | .sub, .int i, .int j => .ok (.int (i - j)) h
  | .mul, .int i, .int j => if big i || big j then .ok (.int (i * j)) h else .stuck
  | .fdiv, .int i, .int j => if 0 < j ∧ j < 1073741824 then .ok (.int (i / j)) h else .stuck
  | .mod, .int i, .int j => if 0 < j then .ok (.int (i % j)) h else .stuck
  | _, _, _ => .stuck

def seqO {α : Type} : List (Option α) → Option (List α)
  | [] => some []
  | some x :: r => (seqO r).map (x :: ·)
  | none :: _ => none
/-- what is compared as a whole -/
def dataOf (h : IH) : Nat → PV → Option PyData
  | 0, _ => none
  | n + 1, x => match x with
    | .non => some .none
    | .bl b => some (.bool b)
    | .int i => some (.int i)
    | .str s => some (.str s)
    | .tup xs => (seqO (xs.map (dataOf h n))).map .tuple
    | .fl xs => (seqO (xs.map (dataOf h n))).map .list
    | .ref a => match h[a]? with
      | some (.lst xs) => (seqO (xs.map (dataOf h n))).map .list
      | _ => none
def eqD (neg : Bool) (x y : PV) (h : IH) : Res PV := match dataOf h 40 x, dataOf h 40 y with
  | some d, some e => if SeqAt.shaped d = true ∧ SeqAt.shaped e = true then .ok (.bl (if neg then !PyData.eqv d e else PyData.eqv d e)) h else .stuck
  | _, _ => .stuck
def cmpF (op : COp) (x y : PV) (h : IH) : Res PV := match op, x, y with
  | .eq, .int i, .int j => .ok (.bl (decide (i = j))) h
  | .ne, .int i, .int j => .ok (.bl (!decide (i = j))) h
  | .eq, .str i, .str j => .ok (.bl (decide (i = j))) h
  | .ne, .str i, .str j => .ok (.bl (!decide (i = j))) h
  | .lt, .int i, .int j => .ok (.bl (decide (i < j))) h
  | .le, .int i, .int j => .ok (.bl (decide (i ≤ j))) h
  | .gt, .int i, .int j => .ok (.bl (decide (j < i))) h
  | .ge, .int i, .int j => .ok (.bl (decide (j ≤ i))) h
  | .eq, x, y => eqD false x y h
  | .ne, x, y => eqD true x y h
  | _, _, _ => .stuck

def isNon : PV → Bool
  | .non => true
  | _ => false

def boolOf (x : PV) (h : IH) : Res Bool := match x with
  | .bl b => .ok b h
  | _ => .stuck

def ixF (x i : PV) (h : IH) : Res PV := match x, i with
  | .str z, .int j => if z.length ≤ sizeLine then (match atI z.cps.toList j with
    | some c => .ok (.str ⟨#[c]⟩) h
    | none => .stuck) else .stuck
  | _, .int j => match rd h x with
    | some xs => match atI xs j with
      | some v => .ok v h
      | none => .stuck
    | none => .stuck
  | _, _ => .stuck

/-- the things of a slice -/
def cutP (xs : List PV) (lo hi : Option Int) : List PV := (xs.drop (HT.sIx xs.length 0 lo)).take (HT.sIx xs.length xs.length hi - HT.sIx xs.length 0 lo)
def slcF (x : PV) (lo hi : Option Int) (h : IH) : Res PV := match x with
  | .tup xs => .ok (.tup (cutP xs lo hi)) h
  | .fl xs => new h (cutP xs lo hi)
  | .ref a => (match h[a]? with
    | some (.lst xs) => new h (cutP xs lo hi)
    | _ => .stuck)
  | .str z => if z.length ≤ sizeLine then .ok (.str (Txt.slice z lo hi)) h else .stuck
  | _ => .stuck

/-- what a statement comes to -/
inductive Fl where
  | nx (ev : Ev) | rt (x : PV)

/-- i, i + 1, .. (n of them) -/
def rngs (i : Int) (n : Nat) : List PV := (List.range n).map fun (k : Nat) => PV.int (i + (k : Int))
def intsOf : List PV → Option (List Int)
  | [] => some []
  | .int i :: xs => (intsOf xs).map (i :: ·)
  | _ => none
theorem intsOf_eq : ∀ {xs : List PV} {ns : List Int}, intsOf xs = some ns → xs = ns.map PV.int
  | [], ns, h => by cases h; rfl
  | x :: xs, ns, h => by
    cases x <;> try (cases h; done)
    unfold intsOf at h
    cases e : intsOf xs with
    | none => rw [e] at h; cases h
    | some ms =>
      rw [e] at h
      cases h
      rw [intsOf_eq e]
      rfl
@[simp] theorem intsOf_map : ∀ ns : List Int, intsOf (ns.map PV.int) = some ns
  | [] => rfl
  | n :: ns => by
    show (intsOf (ns.map PV.int)).map (n :: ·) = _
    rw [intsOf_map ns]
    rfl
def lrngF (x : PV) (h : IH) : Res PV := match x with
  | .int n => if -(2 ^ 62) ≤ n ∧ n < 2 ^ 62 ∧ n.toNat ≤ 2 ^ 24 then new h (rngs 0 n.toNat) else .stuck
  | _ => .stuck
def scntF (x u y : PV) (h : IH) : Res PV := match x, u, y with
  | .tup xs, .int n, .int k => match intsOf xs with
    | some ns => if HT.sIx xs.length xs.length (some n) ≠ xs.length then .ok (.int ((ns.take (HT.sIx xs.length xs.length (some n))).count k : Nat)) h else .stuck
    | none => .stuck
  | _, _, _ => .stuck
def scntG (fe : Ev → IH → Res PV) (ev : Ev) (x u : PV) (h : IH) : Res PV := match x, u with
  | .tup xs, .int n => if HT.sIx xs.length xs.length (some n) ≠ xs.length then (fe ev h).bind fun y h3 => scntF (.tup xs) (.int n) y h3 else .stuck
  | _, _ => .stuck
/-- k put in where it belongs, once -/
def insS (k : Int) : List Int → List Int
  | [] => [k]
  | x :: xs => if k < x then k :: x :: xs else if k = x then x :: xs else x :: insS k xs
/-- each once, from the least on -/
def ssetL (ns : List Int) : List Int := ns.foldr insS []
def ssetF (x : PV) (h : IH) : Res PV := match (rd h x).bind intsOf with
  | some ns => if ns.length < 64 then new h ((ssetL ns).map PV.int) else .stuck
  | none => .stuck
def setAll : List Nat → List PV → Ev → Option Ev
  | [], [], ev => some ev
  | i :: is, x :: xs, ev => setAll is xs (ev.set i (some x))
  | _, _, _ => none

def bindT (tg : Tg) (x : PV) (h : IH) (ev : Ev) : Option Ev := match tg with
  | .one i => some (ev.set i (some x))
  | .many is => match rd h x with
    | some xs => setAll is xs ev
    | none => none
def wipeE (ev : Ev) : List Nat → Ev
  | [] => ev
  | v :: vs => (wipeE ev vs).set v none
/-- a turn of a comprehension -/
def lcTurn (tg : Tg) (ev : Ev) (fc fe : Ev → IH → Res PV) (y : PV) (h : IH) : Res (Option PV) := (match bindT tg y h ev with
  | none => .stuck
  | some ev1 => (fc ev1 h).bind fun c h3 => match c with
    | .bl true => (fe ev1 h3).bind fun z h4 => .ok (some z) h4
    | .bl false => .ok none h3
    | _ => .stuck : Res (Option PV)).calm
/-- a turn of a for -/
def forTurn (tg : Tg) (fb : Ev → IH → Res Fl) (y : PV) (ev : Ev) (h : IH) : Res Fl := match bindT tg y h ev with
  | some ev2 => fb ev2 h
  | none => .stuck
def enumF (x : PV) (h : IH) : Res Src := match x with
  | .ref b => (match h[b]? with
    | some (.lst _) => .ok (.enum b) h
    | _ => .stuck)
  | _ => .stuck
def zipF (x y : PV) (h : IH) : Res Src := match x, y with
  | .ref a, .ref b => (match h[a]?, h[b]? with
    | some (.lst _), some (.lst _) => .ok (.zip a b) h
    | _, _ => .stuck)
  | _, _ => .stuck
def tyOf (h : IH) : PV → Option String
  | .non => some "NoneType"
  | .bl _ => some "bool"
  | .int _ => some "int"
  | .str _ => some "str"
  | .tup _ => some "tuple"
  | .fl _ => some "list"
  | .ref a => match h[a]? with
    | some (.lst _) => some "list"
    | some (.dct _) => some "dict"
    | none => none
def isF (t : Ty) (x : PV) (h : IH) : Res PV := match tyOf h x with
  | some a => .ok (.bl (decide (a = t.word) || (decide (a = "bool") && decide (t = .int)))) h
  | none => .stuck
abbrev Fns := Nat → List PV → IH → Res PV
mutual
def evE (G B : Fns) : E → Ev → IH → Res PV
  | .var i, ev, h => match ev[i]? with
    | some (some x) => .ok x h
    | _ => .stuck
  | .int i, _, h => .ok (.int i) h
  | .str s, _, h => .ok (.str s) h
  | .bl b, _, h => .ok (.bl b) h
  | .non, _, h => .ok .non h
  | .bin op a b, ev, h => (evE G B a ev h).bind fun x h1 => (evE G B b ev h1).bind fun y h2 => binF op x y h2
  | .neg a, ev, h => (evE G B a ev h).bind fun x h1 => match x with
    | .int i => .ok (.int (-i)) h1
    | _ => .stuck
  | .cmp op a b, ev, h => (evE G B a ev h).bind fun x h1 => (evE G B b ev h1).bind fun y h2 => cmpF op x y h2
  | .chain o1 o2 a b c, ev, h => (evE G B a ev h).bind fun x h1 => (evE G B b ev h1).bind fun y h2 => (cmpF o1 x y h2).bind fun z h3 => match z with
    | .bl true => (evE G B c ev h3).bind fun w h4 => cmpF o2 y w h4
    | .bl false => .ok (.bl false) h3
    | _ => .stuck
  | .isn a, ev, h => (evE G B a ev h).bind fun x h1 => .ok (.bl (isNon x)) h1
  | .notn a, ev, h => (evE G B a ev h).bind fun x h1 => .ok (.bl (!isNon x)) h1
  | .band a b, ev, h => (evE G B a ev h).bind fun x h1 => match x with
    | .bl true => evE G B b ev h1
    | .bl false => .ok (.bl false) h1
    | _ => .stuck
  | .bor a b, ev, h => (evE G B a ev h).bind fun x h1 => match x with
    | .bl false => evE G B b ev h1
    | .bl true => .ok (.bl true) h1
    | _ => .stuck
  | .not a, ev, h => (evE G B a ev h).bind fun x h1 => match x with
    | .bl b => .ok (.bl (!b)) h1
    | _ => .stuck
  | .ite c a b, ev, h => (evE G B c ev h).bind fun x h1 => match x with
    | .bl true => evE G B a ev h1
    | .bl false => evE G B b ev h1
    | _ => .stuck
  | .tup es, ev, h => (evEs G B es ev h).bind fun xs h1 => newT h1 xs
  | .lst es, ev, h => (evEs G B es ev h).bind fun xs h1 => new h1 xs
  | .ix a i, ev, h => (evE G B a ev h).bind fun x h1 => (evE G B i ev h1).bind fun y h2 => ixF x y h2
  | .call f es, ev, h => (evEs G B es ev h).bind fun xs h1 => G f xs h1
  | .bi b es, ev, h => (evEs G B es ev h).bind fun xs h1 => B b xs h1
  | .lc elt tg it cond, ev, h => (evIt G B it ev h).bind fun src h1 =>
      (lcLoop src (lcTurn tg (wipeE ev tg.slots) (evE G B cond) (evE G B elt)) (src.fuel h1) 0 [] h1).bind fun acc h2 => .ok (.ref h2.length) (h2 ++ [.lst acc])
  | .slc a lo hi, ev, h => (evE G B a ev h).bind fun x h1 => (evPt G B lo ev h1).bind fun l h2 => (evPt G B hi ev h2).bind fun u h3 => slcF x l u h3
  | .isin t a, ev, h => (evE G B a ev h).bind fun x h1 => isF t x h1
  | .lrng a, ev, h => (evE G B a ev h).bind fun x h1 => lrngF x h1
  | .sset a, ev, h => (evE G B a ev h).bind fun x h1 => ssetF x h1
  | .scnt a u e, ev, h => (evE G B a ev h).bind fun x h1 => (evE G B u ev h1).bind fun y h2 => scntG (evE G B e) ev x y h2
def evPt (G B : Fns) : Pt → Ev → IH → Res (Option Int)
  | .no, _, h => .ok none h
  | .yes a, ev, h => (evE G B a ev h).bind fun x h1 => match x with
    | .int i => .ok (some i) h1
    | _ => .stuck
def evEs (G B : Fns) : Es → Ev → IH → Res (List PV)
  | .nil, _, h => .ok [] h
  | .cons e es, ev, h => (evE G B e ev h).bind fun x h1 => (evEs G B es ev h1).bind fun xs h2 => .ok (x :: xs) h2
def evIt (G B : Fns) : It → Ev → IH → Res Src
  | .rng a, ev, h => (evE G B a ev h).bind fun x h1 => match x with
    | .int j => if -(2 ^ 62) ≤ j ∧ j < 2 ^ 62 then .ok (.items (rngs 0 j.toNat)) h1 else .stuck
    | _ => .stuck
  | .rng2 a b, ev, h => (evE G B a ev h).bind fun x h1 => (evE G B b ev h1).bind fun y h2 => match x, y with
    | .int i, .int j => if -(2 ^ 62) ≤ i ∧ i < 2 ^ 62 ∧ -(2 ^ 62) ≤ j ∧ j < 2 ^ 62 then .ok (.items (rngs i (j - i).toNat)) h2 else .stuck
    | _, _ => .stuck
  | .seq a, ev, h => (evE G B a ev h).bind fun x h1 => match x with
    | .tup xs => .ok (.items xs) h1
    | .fl xs => .ok (.items xs) h1
    | .ref b => match h1[b]? with
      | some (.lst _) => .ok (.heap b) h1
      | _ => .stuck
    | _ => .stuck
  | .enum a, ev, h => (evE G B a ev h).bind fun x h1 => enumF x h1
  | .zip a b, ev, h => (evE G B a ev h).bind fun x h1 => (evE G B b ev h1).bind fun y h2 => zipF x y h2
end

/-- xs[i] = v -/
def putF (a i v : PV) (h : IH) : Res Unit := match a, i with
  | .ref r, .int j => match h[r]? with
    | some (.lst xs) => match ixN xs.length j with
      | some k => .ok () (h.set r (.lst (xs.set k v)))
      | none => .stuck
    | _ => .stuck
  | _, _ => .stuck

def appF (a v : PV) (h : IH) : Res Unit := match a with
  | .ref r => match h[r]? with
    | some (.lst xs) => if xs.length < sizeLine then .ok () (h.set r (.lst (xs ++ [v]))) else .stuck
    | _ => .stuck
  | _ => .stuck

def evX (G B : Fns) : Sx → Ev → IH → Res Fl
  | .set tg e, ev, h => (evE G B e ev h).bind fun x h1 => match bindT tg x h1 ev with
    | some ev' => .ok (.nx ev') h1
    | none => .stuck
  | .par i j a b, ev, h => (evE G B a ev h).bind fun x h1 => (evE G B b ev h1).bind fun y h2 => .ok (.nx ((ev.set i (some x)).set j (some y))) h2
  | .put a i v, ev, h => (evE G B v ev h).bind fun z h1 => (evE G B a ev h1).bind fun x h2 => (evE G B i ev h2).bind fun y h3 => (putF x y z h3).bind fun _ h4 => .ok (.nx ev) h4
  | .augv i op e, ev, h => match ev[i]? with
    | some (some x) => (evE G B e ev h).bind fun y h1 => (augF op x y h1).bind fun z h2 => .ok (.nx (ev.set i (some z))) h2
    | _ => .stuck
  | .augp a i op e, ev, h => (evE G B a ev h).bind fun x h1 => match x with
    | .ref r => (evE G B i ev h1).bind fun y h2 => (ixF (.ref r) y h2).bind fun old h3 => (evE G B e ev h3).bind fun v h4 => (augF op old v h4).bind fun z h5 => (putF (.ref r) y z h5).bind fun _ h6 => .ok (.nx ev) h6
    | _ => .stuck
  | .ret e, ev, h => (evE G B e ev h).bind fun x h1 => .ok (.rt x) h1
  | .drop e, ev, h => (evE G B e ev h).bind fun _ h1 => .ok (.nx ev) h1
  | .app a e, ev, h => (evE G B a ev h).bind fun x h1 => match x with
    | .ref r => (match h1[r]? with
      | some (.lst _) => (evE G B e ev h1).bind fun y h2 => (appF (.ref r) y h2).bind fun _ h3 => .ok (.nx ev) h3
      | _ => .stuck)
    | _ => .stuck
  | .never, _, _ => .stuck

def forLoop (src : Src) (f : PV → Ev → IH → Res Fl) : Nat → Nat → Ev → IH → Res Fl
  | 0, _, _, _ => .stuck
  | n + 1, k, ev, h => match src.get h k with
    | none => .stuck
    | some none => .ok (.nx ev) h
    | some (some x) => (f x ev h).bind fun o h1 => match o with
      | .nx ev' => forLoop src f n (k + 1) ev' h1
      | .rt y => .ok (.rt y) h1

def whlLoop (c : Ev → IH → Res PV) (f : Ev → IH → Res Fl) : Nat → Ev → IH → Res Fl
  | 0, _, _ => .stuck
  | n + 1, ev, h => (c ev h).bind fun b h1 => match b with
    | .bl true => (f ev h1).bind fun o h2 => match o with
      | .nx ev' => whlLoop c f n ev' h2
      | .rt y => .ok (.rt y) h2
    | .bl false => .ok (.nx ev) h1
    | _ => .stuck

mutual
def evS (G B : Fns) : S → Ev → IH → Res Fl
  | .x s, ev, h => evX G B s ev h
  | .ifs c a b, ev, h => (evE G B c ev h).bind fun x h1 => match x with
    | .bl true => evSs G B a ev h1
    | .bl false => evSs G B b ev h1
    | _ => .stuck
  | .for tg it b, ev, h => (evIt G B it ev h).bind fun src h1 => forLoop src (forTurn tg (evSs G B b)) (src.fuel h1) 0 ev h1
  | .whl c b, ev, h => whlLoop (evE G B c) (evSs G B b) 100000 ev h
def evSs (G B : Fns) : Ss → Ev → IH → Res Fl
  | .nil, ev, h => .ok (.nx ev) h
  | .cons s ss, ev, h => (evS G B s ev h).bind fun o h1 => match o with
    | .nx ev' => evSs G B ss ev' h1
    | .rt y => .ok (.rt y) h1
end

/-- a def's call: n names in all -/
def evF (G B : Fns) (n : Nat) (b : Ss) (xs : List PV) (h : IH) : Res PV :=
  (evSs G B b (xs.map some ++ List.replicate (n - xs.length) none) h).bind fun o h1 => match o with
    | .nx _ => .ok .non h1
    | .rt y => .ok y h1
end Vm

set_option Elab.async false
set_option linter.all false
set_option maxRecDepth 100000
/-! VmB: how the evaluator's values and heap stand for the machine's. -/
namespace Vm
open PySem PySem.Spec PyProof.Rows L2

/-- a list that nobody writes -/
def SqF (K : PySem.W.Frag) (H : Hp) (a : Addr) (xs : List V) : Prop :=
  (∃ o, H a = some (.frz o (.lst xs))) ∨
    ∃ (o : Obj) (its : Array Value) (n : Nat), K.lookup a = some o ∧ o.cls = .type "list" ∧ o.dict = none ∧ o.data = .seq its n ∧ its.size ≤ sizeLine ∧ Vals xs its.toList
theorem SqF.sq {K : PySem.W.Frag} {H : Hp} {a : Addr} {xs : List V} (h : SqF K H a xs) : SqL K H a xs := by
  rcases h with ⟨o, h⟩ | h
  · exact .inl (.inr ⟨o, h⟩)
  · exact .inr h

mutual
inductive Rep (K : PySem.W.Frag) (m : List Addr) (H : Hp) : V → PV → Prop
  | non : Rep K m H .non .non
  | bl {b : Bool} : Rep K m H (.bl b) (.bl b)
  | int {i : Int} : Rep K m H (.int i) (.int i)
  | str {s : Str} : Rep K m H (.str s) (.str s)
  | tup {p : Addr} {vs : List V} {xs : List PV} : SqT K H p vs → Reps K m H vs xs → Rep K m H (.ref p) (.tup xs)
  | fl {p : Addr} {vs : List V} {xs : List PV} : SqF K H p vs → Reps K m H vs xs → Rep K m H (.ref p) (.fl xs)
  | ref {p : Addr} {a : Nat} : m[a]? = some p → Rep K m H (.ref p) (.ref a)
inductive Reps (K : PySem.W.Frag) (m : List Addr) (H : Hp) : List V → List PV → Prop
  | nil : Reps K m H [] []
  | cons {v : V} {x : PV} {vs : List V} {xs : List PV} : Rep K m H v x → Reps K m H vs xs → Reps K m H (v :: vs) (x :: xs)
end

/-- what never changes is kept -/
structure Keep (H H' : Hp) : Prop where
  tup : ∀ b xs, H b = some (.tup xs) → H' b = some (.tup xs)
  frz : ∀ b o u, H b = some (.frz o u) → H' b = some (.frz o u)
theorem Keep.refl (H : Hp) : Keep H H := ⟨fun _ _ h => h, fun _ _ _ h => h⟩
theorem Keep.trans {H H1 H2 : Hp} (a : Keep H H1) (b : Keep H1 H2) : Keep H H2 := ⟨fun c xs h => b.tup c xs (a.tup c xs h), fun c o u h => b.frz c o u (a.frz c o u h)⟩
theorem Keep.laid {H : Hp} {p : Addr} {o : HO} (h : H p = none) : Keep H (upd H p o) :=
  ⟨fun b xs e => by rw [upd_ne (ne_of_none e h)]; exact e, fun b o u e => by rw [upd_ne (ne_of_none e h)]; exact e⟩
theorem Keep.wrote {H : Hp} {p : Addr} {o : HO} {vs : List V} (h : H p = some (.lst vs)) : Keep H (upd H p o) :=
  ⟨fun b xs e => by rw [upd_ne (ne_of e h (fun z => nomatch z))]; exact e, fun b o u e => by rw [upd_ne (ne_of e h (fun z => nomatch z))]; exact e⟩
theorem Keep.wroteD {H : Hp} {p : Addr} {o : HO} {vs : List (Key × V)} (h : H p = some (.dK vs)) : Keep H (upd H p o) :=
  ⟨fun b xs e => by rw [upd_ne (ne_of e h (fun z => nomatch z))]; exact e, fun b o u e => by rw [upd_ne (ne_of e h (fun z => nomatch z))]; exact e⟩

structure Grow (m : List Addr) (H : Hp) (m' : List Addr) (H' : Hp) : Prop where
  ap : ∃ z, m' = m ++ z
  kp : Keep H H'
  fr : ∀ b o, H b = some o → b ∉ m → H' b = some o ∧ b ∉ m'
theorem Grow.refl (m : List Addr) (H : Hp) : Grow m H m H := ⟨⟨[], by simp⟩, Keep.refl H, fun _ _ h n => ⟨h, n⟩⟩
/-- something untracked by the evaluator is laid -/
theorem Grow.junk {m : List Addr} {H : Hp} {p : Addr} {o : HO} (e : H p = none) : Grow m H m (upd H p o) :=
  ⟨⟨[], by simp⟩, Keep.laid e, fun b u h n => ⟨by rw [upd_ne (ne_of_none h e)]; exact h, n⟩⟩
theorem Grow.trans {m m1 m2 : List Addr} {H H1 H2 : Hp} (a : Grow m H m1 H1) (b : Grow m1 H1 m2 H2) : Grow m H m2 H2 := by
  obtain ⟨z, rfl⟩ := a.ap
  obtain ⟨y, rfl⟩ := b.ap
  exact ⟨⟨z ++ y, by simp⟩, a.kp.trans b.kp, fun c o h n => (b.fr c o (a.fr c o h n).1 (a.fr c o h n).2)⟩
theorem Grow.at {m m' : List Addr} {H H' : Hp} (g : Grow m H m' H') {i : Nat} {p : Addr} (h : m[i]? = some p) : m'[i]? = some p := by
  obtain ⟨z, rfl⟩ := g.ap
  rw [List.getElem?_append_left (List.getElem?_eq_some_iff.mp h).1]
  exact h

section
variable {K : PySem.W.Frag} {m m' : List Addr} {H H' : Hp}
theorem SqT.keep {a : Addr} {xs : List V} (k : Keep H H') (h : SqT K H a xs) : SqT K H' a xs := by
  rcases h with (h | ⟨o, h⟩) | h
  · exact .inl (.inl (k.tup _ _ h))
  · exact .inl (.inr ⟨o, k.frz _ _ _ h⟩)
  · exact .inr h
theorem SqF.keep {a : Addr} {xs : List V} (k : Keep H H') (h : SqF K H a xs) : SqF K H' a xs := by
  rcases h with ⟨o, h⟩ | h
  · exact .inl ⟨o, k.frz _ _ _ h⟩
  · exact .inr h
mutual
theorem Rep.grow0 (hm : ∃ z, m' = m ++ z) (k : Keep H H') : ∀ {v : V} {x : PV}, Rep K m H v x → Rep K m' H' v x
  | _, _, .non => .non
  | _, _, .bl => .bl
  | _, _, .int => .int
  | _, _, .str => .str
  | _, _, .tup h r => .tup (Vm.SqT.keep k h) (Reps.grow0 hm k r)
  | _, _, .fl h r => .fl (h.keep k) (Reps.grow0 hm k r)
  | _, _, .ref h => .ref (by
      obtain ⟨z, rfl⟩ := hm
      rw [List.getElem?_append_left (List.getElem?_eq_some_iff.mp h).1]
      exact h)
theorem Reps.grow0 (hm : ∃ z, m' = m ++ z) (k : Keep H H') : ∀ {vs : List V} {xs : List PV}, Reps K m H vs xs → Reps K m' H' vs xs
  | _, _, .nil => .nil
  | _, _, .cons r t => .cons (Rep.grow0 hm k r) (Reps.grow0 hm k t)
end
theorem Rep.grow (g : Grow m H m' H') {v : V} {x : PV} (r : Rep K m H v x) : Rep K m' H' v x := r.grow0 g.ap g.kp
theorem Reps.grow (g : Grow m H m' H') {vs : List V} {xs : List PV} (r : Reps K m H vs xs) : Reps K m' H' vs xs := r.grow0 g.ap g.kp
theorem Reps.length : ∀ {vs : List V} {xs : List PV}, Reps K m H vs xs → vs.length = xs.length
  | _, _, .nil => rfl
  | _, _, .cons _ t => by rw [List.length_cons, List.length_cons, Reps.length t]
theorem Reps.get : ∀ {vs : List V} {xs : List PV} {i : Nat} {x : PV}, Reps K m H vs xs → xs[i]? = some x → ∃ v, vs[i]? = some v ∧ Rep K m H v x
  | _, _, _, _, .nil, e => by simp at e
  | _, _, 0, _, .cons r _, e => by simp at e; subst e; exact ⟨_, rfl, r⟩
  | _, _, i + 1, x, .cons _ t, e => by
    obtain ⟨u, h1, h2⟩ := Reps.get (i := i) (x := x) t (by simpa using e)
    exact ⟨u, by simpa using h1, h2⟩
theorem Reps.append : ∀ {vs ws : List V} {xs ys : List PV}, Reps K m H vs xs → Reps K m H ws ys → Reps K m H (vs ++ ws) (xs ++ ys)
  | _, _, _, _, .nil, s => s
  | _, _, _, _, .cons r t, s => .cons r (Reps.append t s)
theorem Reps.set {v : V} {x : PV} (r : Rep K m H v x) : ∀ {vs : List V} {xs : List PV} (i : Nat), Reps K m H vs xs → Reps K m H (vs.set i v) (xs.set i x)
  | _, _, _, .nil => .nil
  | _, _, 0, .cons _ t => .cons r t
  | _, _, i + 1, .cons q t => .cons q (Reps.set r i t)
theorem Reps.take : ∀ {vs : List V} {xs : List PV} (n : Nat), Reps K m H vs xs → Reps K m H (vs.take n) (xs.take n)
  | _, _, 0, _ => .nil
  | _, _, _ + 1, .nil => .nil
  | _, _, n + 1, .cons r t => .cons r (Reps.take n t)
theorem Reps.drop : ∀ {vs : List V} {xs : List PV} (n : Nat), Reps K m H vs xs → Reps K m H (vs.drop n) (xs.drop n)
  | _, _, 0, r => r
  | _, _, _ + 1, .nil => .nil
  | _, _, n + 1, .cons _ t => Reps.drop n t
theorem Reps.ints : ∀ {vs : List V} {ns : List Int}, Reps K m H vs (ns.map PV.int) → vs = ns.map V.int
  | _, [], .nil => rfl
  | _, n :: ns, .cons r t => by cases r; rw [Reps.ints t]; rfl
theorem Reps.ofInts : ∀ (ns : List Int), Reps K m H (ns.map V.int) (ns.map PV.int)
  | [] => .nil
  | n :: ns => .cons .int (Reps.ofInts ns)
theorem Reps.strs : ∀ {vs : List V} {ns : List Str}, Reps K m H vs (ns.map PV.str) → vs = ns.map V.str
  | _, [], .nil => rfl
  | _, n :: ns, .cons r t => by cases r; rw [Reps.strs t]; rfl
theorem Reps.ofStrs : ∀ (ns : List Str), Reps K m H (ns.map V.str) (ns.map PV.str)
  | [] => .nil
  | n :: ns => .cons .str (Reps.ofStrs ns)

/-- at p stands o -/
def HRep (K : PySem.W.Frag) (m : List Addr) (H : Hp) (p : Addr) : HV → Prop
  | .lst xs => ∃ vs, H p = some (.lst vs) ∧ Reps K m H vs xs
  | .dct kvs => ∃ ws, H p = some (.dK ws) ∧ Paired (fun (a : Key × V) (b : Str × PV) => a.1 = .inr b.1 ∧ Rep K m H a.2 b.2) ws kvs
structure RelH (K : PySem.W.Frag) (m : List Addr) (H : Hp) (h : IH) : Prop where
  len : m.length = h.length
  nd : m.Nodup
  at' : ∀ (i : Nat) o p, h[i]? = some o → m[i]? = some p → HRep K m H p o
theorem HRep.some {p : Addr} {o : HV} (h : HRep K m H p o) : ∃ u, H p = some u := by
  cases o with
  | lst xs => obtain ⟨vs, e, _⟩ := h; exact ⟨_, e⟩
  | dct xs => obtain ⟨vs, e, _⟩ := h; exact ⟨_, e⟩
theorem HRep.grow {p : Addr} {o : HV} (g : Grow m H m' H') (e : H' p = H p) (h : HRep K m H p o) : HRep K m' H' p o := by
  cases o with
  | lst xs => obtain ⟨vs, e1, r⟩ := h; exact ⟨vs, by rw [e]; exact e1, r.grow g⟩
  | dct xs => obtain ⟨vs, e1, r⟩ := h; exact ⟨vs, by rw [e]; exact e1, Paired.mapP r fun a b z => ⟨z.1, z.2.grow g⟩⟩
variable {h : IH}
theorem RelH.addr (R : RelH K m H h) {i : Nat} {o : HV} (e : h[i]? = some o) : ∃ p, m[i]? = some p ∧ HRep K m H p o := by
  have hi : i < m.length := by rw [R.len]; exact (List.getElem?_eq_some_iff.mp e).1
  exact ⟨m[i], by simp [hi], R.at' i o _ e (by simp [hi])⟩
theorem RelH.back (R : RelH K m H h) {i : Nat} {p : Addr} (e : m[i]? = some p) : ∃ o, h[i]? = some o ∧ HRep K m H p o := by
  have hi : i < h.length := by rw [← R.len]; exact (List.getElem?_eq_some_iff.mp e).1
  exact ⟨h[i], by simp [hi], R.at' i _ _ (by simp [hi]) e⟩
theorem RelH.mem (R : RelH K m H h) {p : Addr} (e : p ∈ m) : ∃ u, H p = some u := by
  obtain ⟨i, hi⟩ := List.mem_iff_getElem?.mp e
  obtain ⟨o, _, q⟩ := R.back hi
  exact q.some
/-- something untracked by the evaluator is laid -/
theorem RelH.junk (R : RelH K m H h) {p : Addr} {o : HO} (e : H p = none) : RelH K m (upd H p o) h :=
  ⟨R.len, R.nd, fun i u q h1 h2 => by
    have r := R.at' i u q h1 h2
    obtain ⟨z, hz⟩ := r.some
    exact r.grow (Grow.junk e) (upd_ne (ne_of_none hz e))⟩
theorem HRep.grow0 {p : Addr} {o : HV} (hm : ∃ z, m' = m ++ z) (k : Keep H H') (e : H' p = H p) (h : HRep K m H p o) : HRep K m' H' p o := by
  cases o with
  | lst xs => obtain ⟨vs, e1, r⟩ := h; exact ⟨vs, by rw [e]; exact e1, r.grow0 hm k⟩
  | dct xs => obtain ⟨vs, e1, r⟩ := h; exact ⟨vs, by rw [e]; exact e1, Paired.mapP r fun a b z => ⟨z.1, z.2.grow0 hm k⟩⟩
/-- a list that is not the evaluator's is rewritten -/
theorem RelH.own (R : RelH K m H h) {p : Addr} {o : HO} {vs : List V} (e : H p = some (.lst vs)) (hp : p ∉ m) : RelH K m (upd H p o) h :=
  ⟨R.len, R.nd, fun i u q h1 h2 => (R.at' i u q h1 h2).grow0 ⟨[], by simp⟩ (Keep.wrote e) (upd_ne fun z => hp (by rw [← z]; exact List.mem_of_getElem? h2))⟩
/-- .. one that was not there -/
theorem Grow.own (g : Grow m H m' H') {p : Addr} {o : HO} (e : H p = none) : Grow m H m' (upd H' p o) :=
  ⟨g.ap, ⟨fun b xs q => by rw [upd_ne (ne_of_none q e)]; exact g.kp.tup b xs q, fun b u v q => by rw [upd_ne (ne_of_none q e)]; exact g.kp.frz b u v q⟩,
    fun b u q n => ⟨by rw [upd_ne (ne_of_none q e)]; exact (g.fr b u q n).1, (g.fr b u q n).2⟩⟩
/-- it becomes one of the evaluator's -/
theorem RelH.take (R : RelH K m H h) {p : Addr} {vs : List V} {xs : List PV} (e : H p = some (.lst vs)) (hp : p ∉ m) (r : Reps K m H vs xs) : RelH K (m ++ [p]) H (h ++ [.lst xs]) := by
  refine ⟨by simp [R.len], ?_, fun i u q h1 h2 => ?_⟩
  · rw [List.nodup_append]
    exact ⟨R.nd, by simp, fun a ha b hb => by
      have : b = p := by simpa using hb
      subst this
      intro z
      subst z
      exact hp ha⟩
  · by_cases hi : i < h.length
    · rw [List.getElem?_append_left hi] at h1
      rw [List.getElem?_append_left (by rw [R.len]; exact hi)] at h2
      exact (R.at' i u q h1 h2).grow0 ⟨[p], rfl⟩ (Keep.refl H) rfl
    · have hi2 : i = h.length := by
        have := (List.getElem?_eq_some_iff.mp h1).1
        simp at this
        omega
      subst hi2
      rw [← R.len] at h2
      simp at h1 h2
      subst h1
      subst h2
      exact ⟨vs, e, r.grow0 ⟨[p], rfl⟩ (Keep.refl H)⟩
theorem Grow.take (g : Grow m H m' H') {p : Addr} (e : H p = none) : Grow m H (m' ++ [p]) H' := by
  obtain ⟨z, rfl⟩ := g.ap
  refine ⟨⟨z ++ [p], by simp⟩, g.kp, fun b u q n => ⟨(g.fr b u q n).1, fun w => ?_⟩⟩
  rcases List.mem_append.mp w with w | w
  · exact (g.fr b u q n).2 w
  · have : b = p := by simpa using w
    exact ne_of_none q e this
/-- a new object is laid -/
theorem RelH.laid (R : RelH K m H h) {p : Addr} {vs : List V} {xs : List PV} (e : H p = none) (r : Reps K m H vs xs) : RelH K (m ++ [p]) (upd H p (.lst vs)) (h ++ [.lst xs]) ∧ Grow m H (m ++ [p]) (upd H p (.lst vs)) := by
  have g : Grow m H (m ++ [p]) (upd H p (.lst vs)) := ⟨⟨[p], rfl⟩, Keep.laid e, fun b u h n => ⟨by rw [upd_ne (ne_of_none h e)]; exact h, fun z => by
    rcases List.mem_append.mp z with z | z
    · exact n z
    · have : b = p := by simpa using z
      exact ne_of_none h e this⟩⟩
  have hp : p ∉ m := fun z => by
    obtain ⟨u, hu⟩ := R.mem z
    rw [e] at hu; cases hu
  refine ⟨⟨by simp [R.len], ?_, fun i u q h1 h2 => ?_⟩, g⟩
  · rw [List.nodup_append]
    exact ⟨R.nd, by simp, fun a ha b hb => by
      have : b = p := by simpa using hb
      subst this
      intro z
      subst z
      exact hp ha⟩
  · by_cases hi : i < h.length
    · rw [List.getElem?_append_left hi] at h1
      rw [List.getElem?_append_left (by rw [R.len]; exact hi)] at h2
      have r := R.at' i u q h1 h2
      obtain ⟨z, hz⟩ := r.some
      exact r.grow g (upd_ne (ne_of_none hz e))
    · have hi2 : i = h.length := by
        have := (List.getElem?_eq_some_iff.mp h1).1
        simp at this
        omega
      subst hi2
      rw [← R.len] at h2
      simp at h1 h2
      subst h1
      subst h2
      exact ⟨vs, upd_same, r.grow g⟩
/-- a list is rewritten -/
theorem RelH.wrote (R : RelH K m H h) {i : Nat} {p : Addr} {xs ys : List PV} {ws : List V} (ei : h[i]? = some (.lst xs)) (ep : m[i]? = some p) (r : Reps K m H ws ys) :
    RelH K m (upd H p (.lst ws)) (h.set i (.lst ys)) ∧ Grow m H m (upd H p (.lst ws)) := by
  obtain ⟨vs, e, _⟩ := R.at' i _ p ei ep
  have g : Grow m H m (upd H p (.lst ws)) := ⟨⟨[], by simp⟩, Keep.wrote e, fun b u h n => ⟨by
    rw [upd_ne (show b ≠ p from fun z => n (by rw [z]; exact List.mem_of_getElem? ep))]
    exact h, n⟩⟩
  have hi : i < h.length := (List.getElem?_eq_some_iff.mp ei).1
  refine ⟨⟨by simp [R.len], R.nd, fun j u q h1 h2 => ?_⟩, g⟩
  by_cases hj : i = j
  · subst hj
    rw [ep] at h2
    cases h2
    rw [List.getElem?_set_self hi] at h1
    cases h1
    exact ⟨ws, upd_same, r.grow g⟩
  · rw [List.getElem?_set_ne hj] at h1
    have rr := R.at' j u q h1 h2
    refine rr.grow g (upd_ne fun z => ?_)
    subst z
    have a1 := (List.getElem?_eq_some_iff.mp ep)
    have a2 := (List.getElem?_eq_some_iff.mp h2)
    exact hj ((List.getElem_inj R.nd).mp (a1.2.trans a2.2.symm))
end

/-! ### the environment -/
/-- the slots bear what the evaluator's names bear -/
structure REnv (K : PySem.W.Frag) (m : List Addr) (H : Hp) (st : L2.St) (ev : Ev) : Prop where
  len : st.length = ev.length
  at' : ∀ (i : Nat) x, ev[i]? = some (some x) → ∃ v, st[i]? = some (some v) ∧ Rep K m H v x
theorem REnv.grow {K : PySem.W.Frag} {m m' : List Addr} {H H' : Hp} {st : L2.St} {ev : Ev} (g : Grow m H m' H') (r : REnv K m H st ev) : REnv K m' H' st ev :=
  ⟨r.len, fun i x e => let ⟨v, h1, h2⟩ := r.at' i x e; ⟨v, h1, h2.grow g⟩⟩
theorem REnv.set {K : PySem.W.Frag} {m : List Addr} {H : Hp} {st : L2.St} {ev : Ev} {v : V} {x : PV} (i : Nat) (r : REnv K m H st ev) (rx : Rep K m H v x) : REnv K m H (st.set i (some v)) (ev.set i (some x)) :=
  ⟨by simp [r.len], fun j y e => by
    by_cases hj : i = j
    · subst hj
      have hi : i < ev.length := by
        have := (List.getElem?_eq_some_iff.mp e).1
        simpa using this
      rw [List.getElem?_set_self hi] at e
      cases e
      exact ⟨v, List.getElem?_set_self (by rw [r.len]; exact hi), rx⟩
    · rw [List.getElem?_set_ne hj] at e
      obtain ⟨u, h1, h2⟩ := r.at' j y e
      exact ⟨u, by rw [List.getElem?_set_ne hj]; exact h1, h2⟩⟩

/-- what is wanted of an error -/
abbrev XI := Nat → List PV → List Addr → Hp → Prop
/-- the machine's end stands for the evaluator's -/
def Post {a : Type} (K : PySem.W.Frag) (xi : XI) (m : List Addr) (H : Hp) (r : Res a) (R : a → List Addr → Hp → Prop) : Prop := match r with
  | .ok x h' => ∀ m' H', Grow m H m' H' → RelH K m' H' h' → R x m' H'
  | .exc c fs h' => ∀ m' H', Grow m H m' H' → RelH K m' H' h' → xi c fs m' H'
  | .stuck => False
theorem Post.grow {a : Type} {K : PySem.W.Frag} {xi : XI} {m m1 : List Addr} {H H1 : Hp} {r : Res a} {R : a → List Addr → Hp → Prop} (g : Grow m H m1 H1) (p : Post K xi m H r R) : Post K xi m1 H1 r R := by
  cases r with
  | ok x h' => exact fun m' H' g' => p m' H' (g.trans g')
  | exc c fs h' => exact fun m' H' g' => p m' H' (g.trans g')
  | stuck => exact p
theorem Post.mono {a : Type} {K : PySem.W.Frag} {xi : XI} {m : List Addr} {H : Hp} {r : Res a} {R R' : a → List Addr → Hp → Prop} (p : Post K xi m H r R) (k : ∀ x m' H', Grow m H m' H' → R x m' H' → R' x m' H') : Post K xi m H r R' := by
  cases r with
  | ok x h' => exact fun m' H' g' q => k x m' H' g' (p m' H' g' q)
  | exc c fs h' => exact p
  | stuck => exact p
/-- the first part's end, then the rest -/
theorem Post.bind {a b : Type} {K : PySem.W.Frag} {xi : XI} {m : List Addr} {H : Hp} {r : Res a} {f : a → IH → Res b} {R : b → List Addr → Hp → Prop} {R1 : a → List Addr → Hp → Prop} (p : Post K xi m H (r.bind f) R)
    (k : ∀ x h1 m1 H1, Grow m H m1 H1 → RelH K m1 H1 h1 → Post K xi m1 H1 (f x h1) R → R1 x m1 H1) : Post K xi m H r R1 := by
  cases r with
  | ok x h1 => exact fun m1 H1 g q => k x h1 m1 H1 g q (Post.grow g p)
  | exc c fs h' => exact p
  | stuck => exact p

/-- an expression's reading by the evaluator -/
def tE (K : PySem.W.Frag) (xi : XI) (f : Ev → IH → Res PV) : TE := fun st H Q => ∃ ev m h, REnv K m H st ev ∧ RelH K m H h ∧ Post K xi m H (f ev h) fun x m' H' => ∀ v, Rep K m' H' v x → Q v H'
def tT (K : PySem.W.Frag) (xi : XI) (f : Ev → IH → Res Bool) : TT := fun st H Q => ∃ ev m h, REnv K m H st ev ∧ RelH K m H h ∧ Post K xi m H (f ev h) fun x _ H' => Q x H'
def tA (K : PySem.W.Frag) (xi : XI) (f : Ev → IH → Res (List PV)) : TA := fun st H Q => ∃ ev m h, REnv K m H st ev ∧ RelH K m H h ∧ Post K xi m H (f ev h) fun xs m' H' => ∀ vs, Reps K m' H' vs xs → Q vs H'

theorem PEm {X : Cx} {e : Expr} {t t' : TE} (h : PE X e t) (k : ∀ st H Q, t' st H Q → t st H Q) : PE X e t' := ⟨fun pins s st H Q I q => h.run pins s st H Q I (k st H Q q)⟩
theorem PTm {X : Cx} {e : Expr} {t t' : TT} (h : PT X e t) (k : ∀ st H Q, t' st H Q → t st H Q) : PT X e t' := ⟨fun pins s st H Q I q => h.run pins s st H Q I (k st H Q q)⟩
theorem PWm {X : Cx} {e : Expr} {t t' : TT} (h : PW X e t) (k : ∀ st H Q, t' st H Q → t st H Q) : PW X e t' := ⟨fun wh pins s st H Q I q => h.run wh pins s st H Q I (k st H Q q)⟩
theorem PAm {X : Cx} {e : List Expr} {t t' : TA} (h : PA X e t) (k : ∀ st H Q, t' st H Q → t st H Q) : PA X e t' := ⟨fun pos pins s st H Q I q => h.run pos pins s st H Q I (k st H Q q)⟩
theorem PSm {X : Cx} {e : Stmt} {t t' : TS} (h : PS X e t) (k : ∀ D st H, t' D st H → t D st H) : PS X e t' := ⟨fun pins s st H D I q => h.run pins s st H D I (k D st H q)⟩
theorem PSsm {X : Cx} {e : List Stmt} {t t' : TS} (h : PSs X e t) (k : ∀ D st H, t' D st H → t D st H) : PSs X e t' := ⟨fun pins s st H D I q => h.run pins s st H D I (k D st H q)⟩
end Vm

set_option Elab.async false
set_option linter.all false
set_option maxRecDepth 100000
set_option maxHeartbeats 4000000
/-! VmC: the expressions, rule by rule. -/
namespace Vm
open PySem PySem.Spec PyProof.Rows L2

section
variable {X : Cx} {K : PySem.W.Frag} {xi : XI} {a b c e : Expr} {fa fb fc : Ev → IH → Res PV} {pos : Pos}

/-- the first part of a reading -/
theorem tE_bind {β : Type} {f : Ev → IH → Res PV} {g : PV → IH → Res β} {R : β → List Addr → Hp → Prop} {st : L2.St} {H : Hp} {Q : VK} {ev : Ev} {m : List Addr} {h : IH} (re : REnv K m H st ev) (rh : RelH K m H h)
    (p : Post K xi m H ((f ev h).bind g) R)
    (k : ∀ v x m1 H1 h1, Grow m H m1 H1 → REnv K m1 H1 st ev → RelH K m1 H1 h1 → Rep K m1 H1 v x → Post K xi m1 H1 (g x h1) R → Q v H1) : tE K xi f st H Q :=
  ⟨ev, m, h, re, rh, p.bind fun x h1 m1 H1 g1 q1 p1 v rv => k v x m1 H1 h1 g1 (re.grow g1) q1 rv p1⟩
theorem tA_bind {β : Type} {f : Ev → IH → Res (List PV)} {g : List PV → IH → Res β} {R : β → List Addr → Hp → Prop} {st : L2.St} {H : Hp} {Q : List V → Hp → Prop} {ev : Ev} {m : List Addr} {h : IH} (re : REnv K m H st ev) (rh : RelH K m H h)
    (p : Post K xi m H ((f ev h).bind g) R)
    (k : ∀ vs xs m1 H1 h1, Grow m H m1 H1 → REnv K m1 H1 st ev → RelH K m1 H1 h1 → Reps K m1 H1 vs xs → Post K xi m1 H1 (g xs h1) R → Q vs H1) : tA K xi f st H Q :=
  ⟨ev, m, h, re, rh, p.bind fun x h1 m1 H1 g1 q1 p1 v rv => k v x m1 H1 h1 g1 (re.grow g1) q1 rv p1⟩
theorem tT_bind {β : Type} {f : Ev → IH → Res Bool} {g : Bool → IH → Res β} {R : β → List Addr → Hp → Prop} {st : L2.St} {H : Hp} {Q : Bool → Hp → Prop} {ev : Ev} {m : List Addr} {h : IH} (re : REnv K m H st ev) (rh : RelH K m H h)
    (p : Post K xi m H ((f ev h).bind g) R)
    (k : ∀ x m1 H1 h1, Grow m H m1 H1 → REnv K m1 H1 st ev → RelH K m1 H1 h1 → Post K xi m1 H1 (g x h1) R → Q x H1) : tT K xi f st H Q :=
  ⟨ev, m, h, re, rh, p.bind fun x h1 m1 H1 g1 q1 p1 => k x m1 H1 h1 g1 (re.grow g1) q1 p1⟩
/-- an end that is there at once -/
theorem Post.now {α : Type} {m : List Addr} {H : Hp} {h : IH} {x : α} {R : α → List Addr → Hp → Prop} (p : Post K xi m H (.ok x h) R) (rh : RelH K m H h) : R x m H := p m H (Grow.refl m H) rh
theorem Post.ite {α : Type} {m : List Addr} {H : Hp} {c : Prop} [i : Decidable c] {r : Res α} {R : α → List Addr → Hp → Prop} (p : Post K xi m H (@_root_.ite _ c i r .stuck) R) : c ∧ Post K xi m H r R := by
  by_cases hc : c
  · rw [if_pos hc] at p
    exact ⟨hc, p⟩
  · rw [if_neg hc] at p
    exact p.elim
theorem Post.refl' {m : List Addr} {H : Hp} : Grow m H m H := Grow.refl m H

theorem se_var {i : Nat} {x : Str} (hN : X.N[i]? = some x) (hv : Vis X.env.scope x) (hd : (x == ("__debug__" : Str)) = false) (hcd : (x == ("__classdict__" : Str)) = false) :
    PE X (.Name x pos) (tE K xi fun ev h => match ev[i]? with | some (some x) => .ok x h | _ => .stuck) := by
  refine PEm (pe_var hN hv hd hcd) fun st H Q ⟨ev, m, h, re, rh, p⟩ => ?_
  dsimp only at p
  split at p
  · rename_i x' ex
    obtain ⟨v, h1, h2⟩ := re.at' i x' ex
    exact ⟨v, h1, p.now rh v h2⟩
  · exact p.elim
theorem se_con {v : V} {x : PV} (hp : PE X e (tC v)) (r : ∀ m H, Rep K m H v x) : PE X e (tE K xi fun _ h => .ok x h) :=
  PEm hp fun st H Q ⟨ev, m, h, re, rh, p⟩ => p.now rh v (r m H)

/-- an operator by values -/
def OpOk (K : PySem.W.Frag) (xi : XI) (f : PV → PV → IH → Res PV) (r : R2) : Prop :=
  ∀ (m : List Addr) (H : Hp) (h : IH) (x y : PV) (vx vy : V) (Q : VK), RelH K m H h → Rep K m H vx x → Rep K m H vy y → (Post K xi m H (f x y h) fun z m' H' => ∀ v, Rep K m' H' v z → Q v H') → r vx vy H Q
theorem tOp_of {f : PV → PV → IH → Res PV} {r : R2} (ok : OpOk K xi f r) {st : L2.St} {H : Hp} {Q : VK}
    (t : tE K xi (fun ev h => (fa ev h).bind fun x h1 => (fb ev h1).bind fun y h2 => f x y h2) st H Q) : tOp r (tE K xi fa) (tE K xi fb) st H Q := by
  obtain ⟨ev, m, h, re, rh, p⟩ := t
  refine tE_bind re rh p fun v x m1 H1 h1 g1 re1 rh1 rx p1 => ?_
  refine tE_bind re1 rh1 p1 fun w y m2 H2 h2 g2 re2 rh2 ry p2 => ?_
  exact ok m2 H2 h2 x y v w Q rh2 (rx.grow g2) ry p2
theorem se_bin {op : Operator} {f : PV → PV → IH → Res PV} {r : R2} (ho : OpR X (binaryOp op) r) (ok : OpOk K xi f r) (ha : PE X a (tE K xi fa)) (hb : PE X b (tE K xi fb)) :
    PE X (.BinOp a op b pos) (tE K xi fun ev h => (fa ev h).bind fun x h1 => (fb ev h1).bind fun y h2 => f x y h2) :=
  PEm (pe_op ho ha hb) fun st H Q t => tOp_of ok t
theorem se_cmp {op : CmpOp} {f : PV → PV → IH → Res PV} {r : R2} (ho : OpR X (compareOp op) r) (ok : OpOk K xi f r) (hm : behindInMarks op b = false) (ha : PE X a (tE K xi fa)) (hb : PE X b (tE K xi fb)) :
    PE X (.Compare a [op] [b] pos) (tE K xi fun ev h => (fa ev h).bind fun x h1 => (fb ev h1).bind fun y h2 => f x y h2) :=
  PEm (pe_cmpR ho ha hb hm) fun st H Q t => tOp_of ok t

/-! ### the operators -/
theorem big_iff {i : Int} : big i = true ↔ (-(2 ^ 64) < i ∧ i < 2 ^ 64) := by simp [big]
theorem lst_at {m : List Addr} {H : Hp} {h : IH} {v : V} {a : Nat} {xs : List PV} (rh : RelH K m H h) (r : Rep K m H v (.ref a)) (e : h[a]? = some (.lst xs)) : ∃ p vs, v = .ref p ∧ m[a]? = some p ∧ H p = some (.lst vs) ∧ Reps K m H vs xs := by
  cases r with
  | ref hp =>
    obtain ⟨vs, h1, h2⟩ := rh.at' a _ _ e hp
    exact ⟨_, vs, rfl, hp, h1, h2⟩
/-- a new list -/
theorem new_at {m : List Addr} {H : Hp} {h : IH} {vs : List V} {xs : List PV} {Q : VK} (rh : RelH K m H h) (r : Reps K m H vs xs) (p : Post K xi m H (new h xs) fun z m' H' => ∀ v, Rep K m' H' v z → Q v H') :
    xs.length ≤ sizeLine ∧ ∀ q, H q = none → Q (.ref q) (upd H q (.lst vs)) := by
  obtain ⟨hl, p⟩ := Post.ite p
  refine ⟨hl, fun q nq => ?_⟩
  obtain ⟨rl, gl⟩ := rh.laid nq r
  exact p _ _ gl rl _ (.ref (by rw [← rh.len]; simp))
theorem tup_at {m : List Addr} {H : Hp} {v : V} {xs : List PV} (r : Rep K m H v (.tup xs)) : ∃ p vs, v = .ref p ∧ SqT K H p vs ∧ Reps K m H vs xs := by
  cases r with
  | tup h1 h2 => exact ⟨_, _, rfl, h1, h2⟩
/-- a new tuple -/
theorem newT_at {m : List Addr} {H : Hp} {h : IH} {vs : List V} {xs : List PV} {Q : VK} (rh : RelH K m H h) (r : Reps K m H vs xs) (p : Post K xi m H (.ok (.tup xs) h) fun z m' H' => ∀ v, Rep K m' H' v z → Q v H') :
    ∀ q, H q = none → Q (.ref q) (upd H q (.tup vs)) := fun q nq =>
  p m _ (Grow.junk nq) (rh.junk nq) _ (.tup (.inl (.inl upd_same)) (r.grow (Grow.junk nq)))
theorem ok_add : OpOk K xi (binF .add) (fun x y H Q => (rI0 (fun i j => .int (i + j)) x y H Q ∨ (∃ i j, x = .str i ∧ y = .str j ∧ i.length + j.length ≤ sizeLine ∧ Q (.str (i ++ j)) H)) ∨ (rCatA K x y H Q ∨ rCat x y H Q)) := by
  intro m H h x y vx vy Q rh rx ry p
  cases x <;> cases y <;> try exact p.elim
  · rename_i i j
    cases rx; cases ry
    exact .inl (.inl ⟨i, j, rfl, rfl, p.now rh _ .int⟩)
  · rename_i i j
    cases rx; cases ry
    obtain ⟨hl, p⟩ := Post.ite p
    exact .inl (.inr ⟨i, j, rfl, rfl, hl, p.now rh _ .str⟩)
  · rename_i xs ys
    obtain ⟨a, vs, rfl, h1, r1⟩ := tup_at rx
    obtain ⟨b, ws, rfl, h2, r2⟩ := tup_at ry
    obtain ⟨hl, p⟩ := Post.ite (c := (xs ++ ys).length ≤ sizeLine) p
    refine .inr (.inl ⟨a, b, vs, ws, rfl, rfl, h1, h2, by rw [r1.length, r2.length, ← List.length_append]; exact hl, fun e => ?_, fun _ e => ?_, fun _ _ => newT_at rh (r1.append r2) p⟩)
    · subst e
      cases r1
      exact p.now rh _ ry
    · subst e
      cases r2
      rw [List.append_nil] at p
      exact p.now rh _ rx
  · rename_i a b
    have p' : Post K xi m H (match h[a]?, h[b]? with
      | some (.lst xs), some (.lst ys) => new h (xs ++ ys)
      | _, _ => .stuck) (fun z m' H' => ∀ v, Rep K m' H' v z → Q v H') := p
    clear p
    cases ea : h[a]? with
    | none => rw [ea] at p'; exact p'.elim
    | some oa =>
      cases eb : h[b]? with
      | none => rw [ea, eb] at p'; cases oa <;> exact p'.elim
      | some ob =>
        rw [ea, eb] at p'
        cases oa <;> cases ob <;> try exact p'.elim
        rename_i xs ys
        obtain ⟨pa, vs, rfl, _, h1, r1⟩ := lst_at rh rx ea
        obtain ⟨pb, ws, rfl, _, h2, r2⟩ := lst_at rh ry eb
        obtain ⟨hl, k⟩ := new_at rh (r1.append r2) p'
        exact .inr (.inr ⟨pa, pb, vs, ws, rfl, rfl, h1, h2, by rw [r1.length, r2.length, ← List.length_append]; exact hl, k⟩)
theorem ok_sub : OpOk K xi (binF .sub) (rI0 fun i j => .int (i - j)) := by
  intro m H h x y vx vy Q rh rx ry p
  cases x <;> cases y <;> try exact p.elim
  rename_i i j
  cases rx; cases ry
  exact ⟨i, j, rfl, rfl, p.now rh _ .int⟩
theorem Reps.rep {m : List Addr} {H : Hp} {vs : List V} {xs : List PV} (r : Reps K m H vs xs) : ∀ n : Nat, Reps K m H (List.replicate n vs).flatten (List.replicate n xs).flatten
  | 0 => .nil
  | n + 1 => by
    rw [List.replicate_succ, List.replicate_succ, List.flatten_cons, List.flatten_cons]
    exact r.append (Reps.rep r n)
theorem len_rep {α : Type} (xs : List α) (n : Nat) : (List.replicate n xs).flatten.length = xs.length * n := by
  induction n with
  | zero => rfl
  | succ n ih => rw [List.replicate_succ, List.flatten_cons, List.length_append, ih, Nat.mul_succ, Nat.add_comm]
theorem ok_mul : OpOk K xi (binF .mul) (fun x y H Q => rI CMul (fun i j => .int (i * j)) x y H Q ∨ rRep x y H Q) := by
  intro m H h x y vx vy Q rh rx ry p
  cases x <;> cases y <;> try exact p.elim
  · rename_i i j
    cases rx; cases ry
    obtain ⟨hb, p⟩ := Post.ite p
    rw [Bool.or_eq_true, big_iff, big_iff] at hb
    exact .inl ⟨i, j, rfl, rfl, hb, p.now rh _ .int⟩
  · rename_i a k
    cases ry
    have p' : Post K xi m H (match h[a]? with
      | some (.lst xs) => if -(2 ^ 63) ≤ k ∧ k < 2 ^ 63 then new h (List.replicate k.toNat xs).flatten else .stuck
      | _ => .stuck) (fun z m' H' => ∀ v, Rep K m' H' v z → Q v H') := p
    clear p
    cases ea : h[a]? with
    | none => rw [ea] at p'; exact p'.elim
    | some oa =>
      rw [ea] at p'
      cases oa <;> try exact p'.elim
      rename_i xs
      obtain ⟨pa, vs, rfl, _, h1, r1⟩ := lst_at rh rx ea
      obtain ⟨hk, p'⟩ := Post.ite p'
      obtain ⟨hl, kk⟩ := new_at rh (r1.rep k.toNat) p'
      exact .inr ⟨pa, k, vs, rfl, rfl, h1, hk.1, hk.2, by rw [r1.length, ← len_rep]; exact hl, kk⟩
theorem ok_fdiv : OpOk K xi (binF .fdiv) (rI CDiv fun i j => .int (i / j)) := by
  intro m H h x y vx vy Q rh rx ry p
  cases x <;> cases y <;> try exact p.elim
  rename_i i j
  cases rx; cases ry
  obtain ⟨hb, p⟩ := Post.ite p
  exact ⟨i, j, rfl, rfl, hb, p.now rh _ .int⟩
theorem ok_mod : OpOk K xi (binF .mod) (rI (fun _ j => 0 < j) fun i j => .int (i % j)) := by
  intro m H h x y vx vy Q rh rx ry p
  cases x <;> cases y <;> try exact p.elim
  rename_i i j
  cases rx; cases ry
  obtain ⟨hb, p⟩ := Post.ite p
  exact ⟨i, j, rfl, rfl, hb, p.now rh _ .int⟩
theorem ok_pow : OpOk K xi (binF .pow) (rI CPow fun i j => .int (i ^ j.toNat)) := by
  intro m H h x y vx vy Q rh rx ry p
  cases x <;> cases y <;> try exact p.elim
  rename_i i j
  cases rx; cases ry
  obtain ⟨hb, p⟩ := Post.ite p
  exact ⟨i, j, rfl, rfl, hb, p.now rh _ .int⟩
theorem dec_vi {i j : Int} : decide (V.int i = V.int j) = decide (i = j) := by
  by_cases h : i = j
  · subst h; simp
  · rw [decide_eq_false h, decide_eq_false fun z => h (V.int.inj z)]
theorem dec_vs {i j : Str} : decide (V.str i = V.str j) = decide (i = j) := by
  by_cases h : i = j
  · subst h; simp
  · rw [decide_eq_false h, decide_eq_false fun z => h (V.str.inj z)]
theorem seqO_cons {α : Type} {x : Option α} {r : List (Option α)} {ys : List α} (e : seqO (x :: r) = some ys) : ∃ y zs, x = some y ∧ seqO r = some zs ∧ ys = y :: zs := by
  cases x with
  | none => cases e
  | some y =>
    unfold seqO at e
    cases q : seqO r with
    | none => rw [q] at e; cases e
    | some zs => rw [q] at e; cases e; exact ⟨y, zs, rfl, rfl, rfl⟩
theorem data_all {m : List Addr} {H : Hp} {f : PV → Option PyData} (hf : ∀ (x : PV) (v : V) d, Rep K m H v x → f x = some d → Dp K H v d) : ∀ {xs : List PV} {vs : List V} {ds : List PyData}, Reps K m H vs xs → seqO (xs.map f) = some ds → DpAll K H vs ds
  | [], vs, ds, r, e => by
    cases r
    cases e
    exact .nil
  | x :: xs, vs, ds, r, e => by
    cases r with
    | cons r t =>
      obtain ⟨y, zs, e1, e2, rfl⟩ := seqO_cons e
      exact .cons (hf _ _ _ r e1) (data_all hf t e2)
theorem data_ok {m : List Addr} {H : Hp} {h : IH} (rh : RelH K m H h) : ∀ (n : Nat) (x : PV) (v : V) (d : PyData), Rep K m H v x → dataOf h n x = some d → Dp K H v d
  | 0, _, _, _, _, e => by cases e
  | n + 1, x, v, d, r, e => by
    have ih := data_ok rh n
    cases x with
    | non => cases r; cases e; exact .non
    | bl b => cases r; cases e; exact .bl _
    | int i => cases r; cases e; exact .int _
    | str s => cases r; cases e; exact .str _
    | tup xs =>
      cases r with
      | tup h1 h2 =>
        unfold dataOf at e
        dsimp only at e
        cases q : seqO (xs.map (dataOf h n)) with
        | none => rw [q] at e; cases e
        | some ds => rw [q] at e; cases e; exact .tup h1 (data_all ih h2 q)
    | fl xs =>
      cases r with
      | fl h1 h2 =>
        unfold dataOf at e
        dsimp only at e
        cases q : seqO (xs.map (dataOf h n)) with
        | none => rw [q] at e; cases e
        | some ds => rw [q] at e; cases e; exact .lst h1.sq (data_all ih h2 q)
    | ref a =>
      cases r with
      | ref hp =>
        unfold dataOf at e
        dsimp only at e
        cases hy : h[a]? with
        | none => rw [hy] at e; cases e
        | some u =>
          rw [hy] at e
          cases u with
          | dct _ => cases e
          | lst xs =>
            dsimp only at e
            obtain ⟨vs, h1, h2⟩ := rh.at' a _ _ hy hp
            cases q : seqO (xs.map (dataOf h n)) with
            | none => rw [q] at e; cases e
            | some ds => rw [q] at e; cases e; exact .lst (.inl (.inl h1)) (data_all ih h2 q)
theorem eqD_ok {neg : Bool} {m : List Addr} {H : Hp} {h : IH} {x y : PV} {vx vy : V} {Q : VK} (rh : RelH K m H h) (rx : Rep K m H vx x) (ry : Rep K m H vy y) (p : Post K xi m H (eqD neg x y h) fun z m' H' => ∀ v, Rep K m' H' v z → Q v H') :
    ∃ d e, Dp K H vx d ∧ Dp K H vy e ∧ SeqAt.shaped d = true ∧ SeqAt.shaped e = true ∧ Q (.bl (if neg then !PyData.eqv d e else PyData.eqv d e)) H := by
  unfold eqD at p
  cases e1 : dataOf h 40 x with
  | none => rw [e1] at p; exact p.elim
  | some d =>
    cases e2 : dataOf h 40 y with
    | none => rw [e1, e2] at p; exact p.elim
    | some e =>
      rw [e1, e2] at p
      obtain ⟨hs, p⟩ := Post.ite p
      exact ⟨d, e, data_ok rh 40 x vx d rx e1, data_ok rh 40 y vy e ry e2, hs.1, hs.2, p.now rh _ .bl⟩
theorem ok_eq : OpOk K xi (cmpF .eq) (fun x y H Q => rEq x y H Q ∨ rEqD K x y H Q) := by
  intro m H h x y vx vy Q rh rx ry p
  cases x <;> cases y <;> first
    | (cases rx; cases ry; exact .inl ⟨rfl, by rw [dec_vi]; exact p.now rh _ .bl⟩)
    | (cases rx; cases ry; exact .inl ⟨rfl, by rw [dec_vs]; exact p.now rh _ .bl⟩)
    | exact .inr (eqD_ok rh rx ry p)
theorem ok_ne : OpOk K xi (cmpF .ne) (fun x y H Q => rNe x y H Q ∨ rNeD K x y H Q) := by
  intro m H h x y vx vy Q rh rx ry p
  cases x <;> cases y <;> first
    | (cases rx; cases ry; exact .inl ⟨rfl, by rw [dec_vi]; exact p.now rh _ .bl⟩)
    | (cases rx; cases ry; exact .inl ⟨rfl, by rw [dec_vs]; exact p.now rh _ .bl⟩)
    | exact .inr (eqD_ok rh rx ry p)
theorem ok_ltc : OpOk K xi (cmpF .lt) (rI0 fun i j => .bl (decide (i < j))) := by
  intro m H h x y vx vy Q rh rx ry p
  cases x <;> cases y <;> try exact p.elim
  cases rx; cases ry
  exact ⟨_, _, rfl, rfl, p.now rh _ .bl⟩
theorem ok_lec : OpOk K xi (cmpF .le) (rI0 fun i j => .bl (decide (i ≤ j))) := by
  intro m H h x y vx vy Q rh rx ry p
  cases x <;> cases y <;> try exact p.elim
  cases rx; cases ry
  exact ⟨_, _, rfl, rfl, p.now rh _ .bl⟩
theorem ok_gtc : OpOk K xi (cmpF .gt) (rI0 fun i j => .bl (decide (j < i))) := by
  intro m H h x y vx vy Q rh rx ry p
  cases x <;> cases y <;> try exact p.elim
  cases rx; cases ry
  exact ⟨_, _, rfl, rfl, p.now rh _ .bl⟩
theorem ok_gec : OpOk K xi (cmpF .ge) (rI0 fun i j => .bl (decide (j ≤ i))) := by
  intro m H h x y vx vy Q rh rx ry p
  cases x <;> cases y <;> try exact p.elim
  cases rx; cases ry
  exact ⟨_, _, rfl, rfl, p.now rh _ .bl⟩

def bopS : BOp → Operator
  | .add => .Add | .sub => .Sub | .mul => .Mult | .fdiv => .FloorDiv | .mod => .Mod | .pow => .Pow
def copS : COp → CmpOp
  | .eq => .Eq | .ne => .NotEq | .lt => .Lt | .le => .LtE | .gt => .Gt | .ge => .GtE
/-- what a context must bear for all this -/
structure Fit (X : Cx) : Prop where
  calm : X.calm = true
  hu : X.A.units + 100 < cLine
theorem bop_all (ft : Fit X) (op : BOp) : ∃ r : R2, OpR X (binaryOp (bopS op)) r ∧ ∀ xi, OpOk X.K xi (binF op) r := by
  cases op
  · exact ⟨_, (op_add.or op_add_str).or (op_catA.or op_cat), fun _ => ok_add⟩
  · exact ⟨_, op_sub, fun _ => ok_sub⟩
  · exact ⟨_, op_mul.or op_rep, fun _ => ok_mul⟩
  · exact ⟨_, op_fdiv, fun _ => ok_fdiv⟩
  · exact ⟨_, op_mod, fun _ => ok_mod⟩
  · exact ⟨_, op_pow, fun _ => ok_pow⟩
theorem cop_all (ft : Fit X) (op : COp) : ∃ r : R2, OpR X (compareOp (copS op)) r ∧ ∀ xi, OpOk X.K xi (cmpF op) r := by
  cases op
  · exact ⟨_, op_eq.or (op_eqD (by have := ft.hu; omega)), fun _ => ok_eq⟩
  · exact ⟨_, op_ne.or (op_neD (by have := ft.hu; omega)), fun _ => ok_ne⟩
  · exact ⟨_, op_lt, fun _ => ok_ltc⟩
  · exact ⟨_, op_le, fun _ => ok_lec⟩
  · exact ⟨_, op_gt, fun _ => ok_gtc⟩
  · exact ⟨_, op_ge, fun _ => ok_gec⟩
theorem cop_mark (op : COp) (b : Expr) : behindInMarks (copS op) b = false := nomark b (by cases op <;> decide) (by cases op <;> decide)
end
end Vm

set_option Elab.async false
set_option linter.all false
set_option maxRecDepth 100000
set_option maxHeartbeats 4000000
/-! VmD: further expressions. -/
namespace Vm
open PySem PySem.Spec PyProof.Rows L2

section
variable {X : Cx} {xi : XI} {a b c e : Expr} {fa fb fc : Ev → IH → Res PV} {pos : Pos}

theorem se_neg {K : PySem.W.Frag} (ha : PE X a (tE K xi fa)) : PE X (.UnaryOp .USub a pos) (tE K xi fun ev h => (fa ev h).bind fun x h1 => match x with
    | .int i => .ok (.int (-i)) h1
    | _ => .stuck) := by
  refine PEm (pe_un un_neg ha) fun st H Q ⟨ev, m, h, re, rh, p⟩ => ?_
  refine tE_bind re rh p fun v x m1 H1 h1 g1 re1 rh1 rx p1 => ?_
  cases x <;> try exact p1.elim
  cases rx
  exact ⟨_, rfl, p1.now rh1 _ .int⟩
theorem isNon_of {K : PySem.W.Frag} {m : List Addr} {H : Hp} {v : V} {x : PV} (r : Rep K m H v x) : decide (v = .non) = isNon x := by
  cases r <;> rfl
theorem se_isn {K : PySem.W.Frag} {j : Nat} {pos' : Pos} (ha : PE X a (tE K xi fa)) : PE X (.Compare a [.Is] [.Constant .none j pos'] pos) (tE K xi fun ev h => (fa ev h).bind fun x h1 => .ok (.bl (isNon x)) h1) := by
  refine PEm (pe_cmp (pc_isN ha) rfl) fun st H Q ⟨ev, m, h, re, rh, p⟩ => ?_
  refine tE_bind re rh p fun v x m1 H1 h1 g1 re1 rh1 rx p1 => ?_
  rw [isNon_of rx]
  exact p1.now rh1 _ .bl
theorem se_notn {K : PySem.W.Frag} {j : Nat} {pos' : Pos} (ha : PE X a (tE K xi fa)) : PE X (.Compare a [.IsNot] [.Constant .none j pos'] pos) (tE K xi fun ev h => (fa ev h).bind fun x h1 => .ok (.bl (!isNon x)) h1) := by
  refine PEm (pe_cmp (pc_notN ha) rfl) fun st H Q ⟨ev, m, h, re, rh, p⟩ => ?_
  refine tE_bind re rh p fun v x m1 H1 h1 g1 re1 rh1 rx p1 => ?_
  rw [isNon_of rx]
  exact p1.now rh1 _ .bl

/-! ### and, or, not, if as values -/
def bandF (fa fb : Ev → IH → Res PV) : Ev → IH → Res PV := fun ev h => (fa ev h).bind fun x h1 => match x with
  | .bl true => fb ev h1
  | .bl false => .ok (.bl false) h1
  | _ => .stuck
def borF (fa fb : Ev → IH → Res PV) : Ev → IH → Res PV := fun ev h => (fa ev h).bind fun x h1 => match x with
  | .bl false => fb ev h1
  | .bl true => .ok (.bl true) h1
  | _ => .stuck
def notF (fa : Ev → IH → Res PV) : Ev → IH → Res PV := fun ev h => (fa ev h).bind fun x h1 => match x with
  | .bl b => .ok (.bl (!b)) h1
  | _ => .stuck
def iteF (fc fa fb : Ev → IH → Res PV) : Ev → IH → Res PV := fun ev h => (fc ev h).bind fun x h1 => match x with
  | .bl true => fa ev h1
  | .bl false => fb ev h1
  | _ => .stuck
variable {K : PySem.W.Frag} {rest : List Expr}
theorem se_band (ha : PE X a (tE K xi fa)) (hb : PE X (.BoolOp .And (b :: rest) pos) (tE K xi fb)) : PE X (.BoolOp .And (a :: b :: rest) pos) (tE K xi (bandF fa fb)) := by
  refine PEm (pe_and ha hb) fun st H Q ⟨ev, m, h, re, rh, p⟩ => ?_
  refine tE_bind re rh p fun v x m1 H1 h1 g1 re1 rh1 rx p1 => ?_
  cases x <;> try exact p1.elim
  rename_i t
  cases rx
  refine ⟨t, rfl, ?_⟩
  cases t with
  | true => exact ⟨ev, m1, h1, re1, rh1, p1⟩
  | false => exact p1.now rh1 _ .bl
theorem se_bor (ha : PE X a (tE K xi fa)) (hb : PE X (.BoolOp .Or (b :: rest) pos) (tE K xi fb)) : PE X (.BoolOp .Or (a :: b :: rest) pos) (tE K xi (borF fa fb)) := by
  refine PEm (pe_or ha hb) fun st H Q ⟨ev, m, h, re, rh, p⟩ => ?_
  refine tE_bind re rh p fun v x m1 H1 h1 g1 re1 rh1 rx p1 => ?_
  cases x <;> try exact p1.elim
  rename_i t
  cases rx
  refine ⟨t, rfl, ?_⟩
  cases t with
  | true => exact p1.now rh1 _ .bl
  | false => exact ⟨ev, m1, h1, re1, rh1, p1⟩
theorem se_not (ha : PE X a (tE K xi fa)) : PE X (.UnaryOp .Not a pos) (tE K xi (notF fa)) := by
  refine PEm (pe_not ha) fun st H Q ⟨ev, m, h, re, rh, p⟩ => ?_
  refine tE_bind re rh p fun v x m1 H1 h1 g1 re1 rh1 rx p1 => ?_
  cases x <;> try exact p1.elim
  cases rx
  exact ⟨_, rfl, p1.now rh1 _ .bl⟩

/-! ### tests -/
/-- the test of a value -/
def bF (f : Ev → IH → Res PV) : Ev → IH → Res Bool := fun ev h => (f ev h).bind fun x h1 => boolOf x h1
theorem boolOf_at {m : List Addr} {H : Hp} {x : PV} {h : IH} {R : Bool → List Addr → Hp → Prop} (p : Post K xi m H (boolOf x h) R) (rh : RelH K m H h) : ∃ b, x = .bl b ∧ R b m H := by
  cases x <;> try exact p.elim
  exact ⟨_, rfl, p.now rh⟩
/-- a value that is a bool, where the test is the value's -/
theorem st_val (ha : PE X a (tE K xi fa)) (he : ∀ whole, isTrue a X.env whole = (do let v ← whole; standAt a.pos; holding [v] (truthy v))) : PT X a (tT K xi (bF fa)) := by
  refine PTm (pt_val ha he) fun st H Q ⟨ev, m, h, re, rh, p⟩ => ?_
  refine tE_bind re rh p fun v x m1 H1 h1 g1 re1 rh1 rx p1 => ?_
  obtain ⟨t, rfl, q⟩ := boolOf_at p1 rh1
  cases rx
  exact ⟨t, rfl, q⟩
theorem tTest_of {f : Ev → IH → Res PV} {t : TE} (k : ∀ st H Q, tE K xi f st H Q → t st H Q) {st : L2.St} {H : Hp} {Q : Bool → Hp → Prop} (q : tT K xi (bF f) st H Q) : tTest t st H Q := by
  obtain ⟨ev, m, h, re, rh, p⟩ := q
  refine k _ _ _ (tE_bind re rh p fun v x m1 H1 h1 g1 re1 rh1 rx p1 => ?_)
  obtain ⟨t, rfl, q⟩ := boolOf_at p1 rh1
  cases rx
  exact ⟨t, rfl, q⟩
theorem st_cmp {op : CmpOp} {f : PV → PV → IH → Res PV} {r : R2} (ho : OpR X (compareOp op) r) (ok : OpOk K xi f r) (hm : behindInMarks op b = false) (ha : PE X a (tE K xi fa)) (hb : PE X b (tE K xi fb)) :
    PT X (.Compare a [op] [b] pos) (tT K xi (bF fun ev h => (fa ev h).bind fun x h1 => (fb ev h1).bind fun y h2 => f x y h2)) :=
  PTm (pt_cmpR ho ha hb hm) fun st H Q t => tTest_of (fun st H Q t => tOp_of ok t) t
theorem tChain_of {o1 o2 : COp} {r1 r2 : R2} (k1 : ∀ xi, OpOk K xi (cmpF o1) r1) (k2 : ∀ xi, OpOk K xi (cmpF o2) r2) {st : L2.St} {H : Hp} {Q : VK} (t : tE K xi (fun ev h => (fa ev h).bind fun x h1 => (fb ev h1).bind fun y h2 => (cmpF o1 x y h2).bind fun z h3 => match z with
      | .bl true => (fc ev h3).bind fun w h4 => cmpF o2 y w h4
      | .bl false => .ok (.bl false) h3
      | _ => .stuck) st H Q) : tChain r1 r2 (tE K xi fa) (tE K xi fb) (tE K xi fc) st H Q := by
  obtain ⟨ev, m, h, re, rh, p⟩ := t
  refine tE_bind re rh p fun v x m1 H1 h1 g1 re1 rh1 rx p1 => ?_
  refine tE_bind re1 rh1 p1 fun w y m2 H2 h2 g2 re2 rh2 ry p2 => ?_
  refine k1 xi m2 H2 h2 x y v w _ rh2 (rx.grow g2) ry (p2.bind fun z h3 m3 H3 g3 rh3 p3 u ru => ?_)
  cases z <;> try exact p3.elim
  rename_i t
  cases ru
  refine ⟨t, rfl, ?_⟩
  cases t with
  | false => exact p3.now rh3 _ .bl
  | true =>
    refine tE_bind ((re2.grow g3)) rh3 p3 fun w' z m4 H4 h4 g4 re4 rh4 rz p4 => ?_
    exact k2 xi m4 H4 h4 y z w w' _ rh4 ((ry.grow g3).grow g4) rz p4
theorem se_chain {o1 o2 : COp} (ft : Fit X) (hK : X.K = K) (ha : PE X a (tE K xi fa)) (hb : PE X b (tE K xi fb)) (hc : PE X c (tE K xi fc)) :
    PE X (.Compare a [copS o1, copS o2] [b, c] pos) (tE K xi fun ev h => (fa ev h).bind fun x h1 => (fb ev h1).bind fun y h2 => (cmpF o1 x y h2).bind fun z h3 => match z with
      | .bl true => (fc ev h3).bind fun w h4 => cmpF o2 y w h4
      | .bl false => .ok (.bl false) h3
      | _ => .stuck) := by
  subst hK
  obtain ⟨r1, q1, k1⟩ := cop_all ft o1
  obtain ⟨r2, q2, k2⟩ := cop_all ft o2
  exact PEm (pe_chain q1 q2 ha hb hc (by show behindInMarks (copS o2) c = false; exact cop_mark o2 c)) fun st H Q t => tChain_of k1 k2 t
theorem st_chain {o1 o2 : COp} (ft : Fit X) (hK : X.K = K) (ha : PE X a (tE K xi fa)) (hb : PE X b (tE K xi fb)) (hc : PE X c (tE K xi fc)) :
    PT X (.Compare a [copS o1, copS o2] [b, c] pos) (tT K xi (bF fun ev h => (fa ev h).bind fun x h1 => (fb ev h1).bind fun y h2 => (cmpF o1 x y h2).bind fun z h3 => match z with
      | .bl true => (fc ev h3).bind fun w h4 => cmpF o2 y w h4
      | .bl false => .ok (.bl false) h3
      | _ => .stuck)) := by
  subst hK
  obtain ⟨r1, q1, k1⟩ := cop_all ft o1
  obtain ⟨r2, q2, k2⟩ := cop_all ft o2
  exact PTm (pt_chain q1 q2 ha hb hc (by show behindInMarks (copS o2) c = false; exact cop_mark o2 c)) fun st H Q t => tTest_of (fun st H Q t => tChain_of k1 k2 t) t
theorem tB_of {f : Ev → IH → Res PV} {t : TE} (k : ∀ st H Q, tE K xi f st H Q → t st H Q) {st : L2.St} {H : Hp} {Q : Bool → Hp → Prop} (q : tT K xi (bF f) st H Q) : tB t st H Q := tTest_of k q
theorem st_isn {j : Nat} {pos' : Pos} (ha : PE X a (tE K xi fa)) : PT X (.Compare a [.Is] [.Constant .none j pos'] pos) (tT K xi (bF fun ev h => (fa ev h).bind fun x h1 => .ok (.bl (isNon x)) h1)) := by
  refine PTm (pt_cmp (pc_isN ha) rfl) fun st H Q t => tB_of (fun st H Q ⟨ev, m, h, re, rh, p⟩ => ?_) t
  refine tE_bind re rh p fun v x m1 H1 h1 g1 re1 rh1 rx p1 => ?_
  rw [isNon_of rx]
  exact p1.now rh1 _ .bl
theorem st_notn {j : Nat} {pos' : Pos} (ha : PE X a (tE K xi fa)) : PT X (.Compare a [.IsNot] [.Constant .none j pos'] pos) (tT K xi (bF fun ev h => (fa ev h).bind fun x h1 => .ok (.bl (!isNon x)) h1)) := by
  refine PTm (pt_cmp (pc_notN ha) rfl) fun st H Q t => tB_of (fun st H Q ⟨ev, m, h, re, rh, p⟩ => ?_) t
  refine tE_bind re rh p fun v x m1 H1 h1 g1 re1 rh1 rx p1 => ?_
  rw [isNon_of rx]
  exact p1.now rh1 _ .bl
/-- a test's first part, its value being x -/
theorem tT_of {β : Type} {f : Ev → IH → Res PV} {g : PV → IH → Res β} {R : β → List Addr → Hp → Prop} {st : L2.St} {H : Hp} {Q : Bool → Hp → Prop} {ev : Ev} {m : List Addr} {h : IH} (re : REnv K m H st ev) (rh : RelH K m H h)
    (p : Post K xi m H ((f ev h).bind g) R) (n : ∀ x h1, (∀ b, x ≠ .bl b) → g x h1 = .stuck)
    (k : ∀ b m1 H1 h1, Grow m H m1 H1 → REnv K m1 H1 st ev → RelH K m1 H1 h1 → Post K xi m1 H1 (g (.bl b) h1) R → Q b H1) : tT K xi (bF f) st H Q := by
  refine ⟨ev, m, h, re, rh, ?_⟩
  unfold bF
  cases e : f ev h with
  | ok x h1 =>
    rw [e] at p
    by_cases hx : ∃ b, x = .bl b
    · obtain ⟨b, rfl⟩ := hx
      exact fun m1 H1 g1 q1 => k b m1 H1 h1 g1 (re.grow g1) q1 (Post.grow g1 p)
    · rw [Res.bind_ok, n x h1 (fun b z => hx ⟨b, z⟩)] at p
      exact p.elim
  | exc c fs h1 =>
    rw [e] at p
    exact p
  | stuck =>
    rw [e] at p
    exact p
theorem bind_bind {α β γ : Type} (r : Res α) (f : α → IH → Res β) (g : β → IH → Res γ) : (r.bind f).bind g = r.bind fun x h => (f x h).bind g := by
  cases r <;> rfl
theorem sw_band (ha : PT X a (tT K xi (bF fa))) (hb : PW X (.BoolOp .And (b :: rest) pos) (tT K xi (bF fb))) : PW X (.BoolOp .And (a :: b :: rest) pos) (tT K xi (bF (bandF fa fb))) := by
  refine PWm (pw_and ha hb) fun st H Q ⟨ev, m, h, re, rh, p⟩ => ?_
  unfold bF bandF at p
  rw [bind_bind] at p
  refine tT_of re rh p (fun x h1 n => ?_) fun t m1 H1 h1 g1 re1 rh1 p1 => ?_
  · cases x <;> try rfl
    exact absurd rfl (n _)
  · cases t with
    | true => exact ⟨ev, m1, h1, re1, rh1, p1⟩
    | false => exact p1.now rh1
theorem sw_bor (ha : PT X a (tT K xi (bF fa))) (hb : PW X (.BoolOp .Or (b :: rest) pos) (tT K xi (bF fb))) : PW X (.BoolOp .Or (a :: b :: rest) pos) (tT K xi (bF (borF fa fb))) := by
  refine PWm (pw_or ha hb) fun st H Q ⟨ev, m, h, re, rh, p⟩ => ?_
  unfold bF borF at p
  rw [bind_bind] at p
  refine tT_of re rh p (fun x h1 n => ?_) fun t m1 H1 h1 g1 re1 rh1 p1 => ?_
  · cases x <;> try rfl
    exact absurd rfl (n _)
  · cases t with
    | true => exact p1.now rh1
    | false => exact ⟨ev, m1, h1, re1, rh1, p1⟩
theorem tT_andOne {f : Ev → IH → Res PV} {st : L2.St} {H : Hp} {Q : Bool → Hp → Prop} (t : tT K xi (bF f) st H Q) : (tT K xi (bF f)) st H Q := t
theorem st_not (ha : PT X a (tT K xi (bF fa))) : PT X (.UnaryOp .Not a pos) (tT K xi (bF (notF fa))) := by
  refine PTm (pt_not ha) fun st H Q ⟨ev, m, h, re, rh, p⟩ => ?_
  unfold bF notF at p
  rw [bind_bind] at p
  refine tT_of re rh p (fun x h1 n => ?_) fun t m1 H1 h1 g1 re1 rh1 p1 => ?_
  · cases x <;> try rfl
    exact absurd rfl (n _)
  · exact p1.now rh1
theorem se_ite (hc : PT X c (tT K xi (bF fc))) (ha : PE X a (tE K xi fa)) (hb : PE X b (tE K xi fb)) : PE X (.IfExp c a b pos) (tE K xi (iteF fc fa fb)) := by
  refine PEm (pe_ifExp hc ha hb) fun st H Q ⟨ev, m, h, re, rh, p⟩ => ?_
  refine tT_of re rh p (fun x h1 n => ?_) fun t m1 H1 h1 g1 re1 rh1 p1 => ?_
  · cases x <;> try rfl
    exact absurd rfl (n _)
  · cases t with
    | true => exact ⟨ev, m1, h1, re1, rh1, p1⟩
    | false => exact ⟨ev, m1, h1, re1, rh1, p1⟩

theorem st_ite (hc : PT X c (tT K xi (bF fc))) (ha : PT X a (tT K xi (bF fa))) (hb : PT X b (tT K xi (bF fb))) : PT X (.IfExp c a b pos) (tT K xi (bF (iteF fc fa fb))) := by
  refine ⟨fun pins s st H Q I ⟨ev, m, h, re, rh, p⟩ => ?_⟩
  unfold bF iteF at p
  rw [bind_bind] at p
  refine isTrue_IfExp (thn (hc.run pins s st H (fun t H1 => if t = true then tT K xi (bF fa) st H1 Q else tT K xi (bF fb) st H1 Q) I (tT_of re rh p (fun x h1 n => ?_) fun t m1 H1 h1 g1 re1 rh1 p1 => ?_)) fun t s1 ⟨H1, I1, q1⟩ => ?_)
  · cases x <;> try rfl
    exact absurd rfl (n _)
  · cases t with
    | true => exact ⟨ev, m1, h1, re1, rh1, p1⟩
    | false => exact ⟨ev, m1, h1, re1, rh1, p1⟩
  · cases t with
    | true => exact ha.run pins s1 st H1 Q I1 q1
    | false => exact hb.run pins s1 st H1 Q I1 q1

/-! ### arguments, displays -/
def notStar : Expr → Bool
  | .Starred .. => false
  | _ => true
theorem star_cons {e : Expr} {es : List Expr} {env : Env} (h : notStar e = true) : starEach (e :: es) env = (false, eval e env) :: starEach es env := by
  cases e <;> first | rfl | cases h
theorem sa_nil : PA X [] (tA K xi fun _ h => .ok [] h) := PAm pa_nil fun st H Q ⟨ev, m, h, re, rh, p⟩ => p.now rh _ .nil
theorem sa_cons {es : List Expr} {fs : Ev → IH → Res (List PV)} (hn : notStar e = true) (ha : PE X e (tE K xi fa)) (hr : PA X es (tA K xi fs)) :
    PA X (e :: es) (tA K xi fun ev h => (fa ev h).bind fun x h1 => (fs ev h1).bind fun xs h2 => .ok (x :: xs) h2) := by
  refine PAm (pa_cons ha hr (star_cons hn)) fun st H Q ⟨ev, m, h, re, rh, p⟩ => ?_
  refine tE_bind re rh p fun v x m1 H1 h1 g1 re1 rh1 rx p1 => ?_
  refine tA_bind re1 rh1 p1 fun vs xs m2 H2 h2 g2 re2 rh2 rxs p2 => ?_
  exact p2.now rh2 _ (.cons (rx.grow g2) rxs)
theorem plain_of {es : List Expr} {env : Env} {pos : Pos} (h : es.all notStar = true) : (backTo pos (starEach es env)).any (·.1) = false := by
  induction es with
  | nil => rfl
  | cons e es ih =>
    rw [List.all_cons, Bool.and_eq_true] at h
    rw [star_cons h.1]
    have := ih h.2
    simp [backTo] at this ⊢
    exact this
theorem se_tup {es : List Expr} {k : Nat} {fs : Ev → IH → Res (List PV)} (hs : PA X es (tA K xi fs)) : PE X (.Tuple es k pos) (tE K xi fun ev h => (fs ev h).bind fun xs h1 => newT h1 xs) := by
  refine PEm (pe_tup hs) fun st H Q ⟨ev, m, h, re, rh, p⟩ => ?_
  refine tA_bind re rh p fun vs xs m1 H1 h1 g1 re1 rh1 rxs p1 => ?_
  obtain ⟨hl, p1⟩ := Post.ite p1
  refine ⟨by rw [rxs.length]; exact hl, fun q nq => ?_⟩
  exact p1 m1 _ (Grow.junk nq) (rh1.junk nq) _ (.tup (.inl (.inl upd_same)) (rxs.grow (Grow.junk nq)))
theorem se_lst {es : List Expr} {fs : Ev → IH → Res (List PV)} (hs : PA X es (tA K xi fs)) : PE X (.List es pos) (tE K xi fun ev h => (fs ev h).bind fun xs h1 => new h1 xs) := by
  refine PEm (pe_lst hs) fun st H Q ⟨ev, m, h, re, rh, p⟩ => ?_
  refine tA_bind re rh p fun vs xs m1 H1 h1 g1 re1 rh1 rxs p1 => ?_
  obtain ⟨hl, p1⟩ := Post.ite p1
  refine ⟨by rw [rxs.length]; exact hl, fun q nq => ?_⟩
  obtain ⟨rl, gl⟩ := rh1.laid nq rxs
  exact p1 _ _ gl rl _ (.ref (by rw [← rh1.len]; simp))

/-! ### subscripts -/
/-- what is read as a list or a tuple -/
theorem rd_ok {m : List Addr} {H : Hp} {h : IH} {x : PV} {v : V} {xs : List PV} (rh : RelH K m H h) (r : Rep K m H v x) (e : rd h x = some xs) : ∃ p vs, v = .ref p ∧ (SqL K H p vs ∨ SqT K H p vs) ∧ Reps K m H vs xs := by
  cases x with
  | tup ys => cases r with | tup h1 h2 => cases e; exact ⟨_, _, rfl, .inr h1, h2⟩
  | fl ys => cases r with | fl h1 h2 => cases e; exact ⟨_, _, rfl, .inl h1.sq, h2⟩
  | ref a =>
    cases r with
    | ref hp =>
      cases hy : h[a]? with
      | none => simp [rd, hy] at e
      | some o =>
        cases o with
        | lst ys =>
          simp [rd, hy] at e
          subst e
          obtain ⟨vs, h1, h2⟩ := rh.at' a _ _ hy hp
          exact ⟨_, vs, rfl, .inl (.inl (.inl h1)), h2⟩
        | dct ys => simp [rd, hy] at e
  | _ => cases e
theorem atI_rep {m : List Addr} {H : Hp} {vs : List V} {xs : List PV} {j : Int} {x : PV} (r : Reps K m H vs xs) (e : atI xs j = some x) : ∃ v, atI vs j = some v ∧ Rep K m H v x := by
  unfold atI at e ⊢
  rw [r.length]
  cases hk : ixN xs.length j with
  | none => rw [hk] at e; cases e
  | some k =>
    rw [hk] at e
    exact r.get e
theorem ok_ix (hK : X.K = K) : OpOk K xi ixF (rIx X.K) := by
  subst hK
  intro m H h x y vx vy Q rh rx ry p
  have gen : ∀ j, y = .int j → (Post X.K xi m H (match rd h x with
    | some xs => match atI xs j with
      | some v => .ok v h
      | none => .stuck
    | none => .stuck) fun z m' H' => ∀ v, Rep X.K m' H' v z → Q v H') → rIx X.K vx vy H Q := fun j ej p' => by
    clear p
    subst ej
    cases ry
    cases e : rd h x with
    | none => rw [e] at p'; exact p'.elim
    | some xs =>
      rw [e] at p'
      obtain ⟨a, vs, rfl, hs, rv⟩ := rd_ok rh rx e
      dsimp only at p'
      cases e2 : atI xs j with
      | none => rw [e2] at p'; exact p'.elim
      | some z =>
        rw [e2] at p'
        have p := p'
        obtain ⟨v, h1, h2⟩ := atI_rep rv e2
        rcases hs with hs | hs
        · exact .inl ⟨a, vs, j, v, rfl, rfl, hs, h1, p.now rh _ h2⟩
        · exact .inr (.inl ⟨a, vs, j, v, rfl, rfl, hs, h1, p.now rh _ h2⟩)
  cases y <;> try (cases x <;> exact p.elim)
  rename_i j
  cases x <;> try exact gen j rfl p
  rename_i z
  cases rx; cases ry
  obtain ⟨hl, p⟩ := Post.ite p
  cases e2 : atI z.cps.toList j with
  | none => rw [e2] at p; exact p.elim
  | some c =>
    rw [e2] at p
    exact .inr (.inr ⟨z, j, c, rfl, rfl, hl, e2, p.now rh _ .str⟩)
def plainIx : Expr → Bool
  | .Slice .. => false
  | _ => true
theorem plainIx_of {e : Expr} (h : plainIx e = true) : PlainIx e := by
  intro o i
  cases e <;> first | rfl | cases h
theorem se_ix (hK : X.K = K) (hb' : plainIx b = true) (ha : PE X a (tE K xi fa)) (hb : PE X b (tE K xi fb)) :
    PE X (.Subscript a b pos) (tE K xi fun ev h => (fa ev h).bind fun x h1 => (fb ev h1).bind fun y h2 => ixF x y h2) :=
  PEm (pe_ix ix_seq ha hb (plainIx_of hb')) fun st H Q t => tOp_of (ok_ix hK) t

/-! ### slices -/
theorem cutP_eq {m : List Addr} {H : Hp} {vs : List V} {xs : List PV} (r : Reps K m H vs xs) (lo hi : Option Int) : Reps K m H (cutV vs lo hi) (cutP xs lo hi) := by
  unfold cutV cutP
  rw [r.length]
  exact (r.drop _).take _
def tO (K : PySem.W.Frag) (xi : XI) (f : Ev → IH → Res (Option Int)) : TO := fun st H Q => ∃ ev m h, REnv K m H st ev ∧ RelH K m H h ∧ Post K xi m H (f ev h) fun o _ H' => Q o H'
theorem POm {e : Option Expr} {t t' : TO} (h : PO X e t) (k : ∀ st H Q, t' st H Q → t st H Q) : PO X e t' := ⟨fun pins s st H Q I q => h.run pins s st H Q I (k st H Q q)⟩
theorem so_none : PO X none (tO K xi fun _ h => .ok none h) := POm po_none fun st H Q ⟨ev, m, h, re, rh, p⟩ => p.now rh
theorem so_some (ha : PE X a (tE K xi fa)) : PO X (some a) (tO K xi fun ev h => (fa ev h).bind fun x h1 => match x with
    | .int i => .ok (some i) h1
    | _ => .stuck) := POm (po_some ha) fun st H Q ⟨ev, m, h, re, rh, p⟩ => by
  refine tE_bind re rh p fun v x m1 H1 h1 g1 re1 rh1 rx p1 => ?_
  cases x <;> try exact p1.elim
  cases rx
  exact ⟨_, rfl, p1.now rh1⟩
theorem se_slc {fl fu : Ev → IH → Res (Option Int)} {lo hi : Option Expr} {p2 : Pos} (hK : X.K = K) (ha : PE X a (tE K xi fa)) (hl : PO X lo (tO K xi fl)) (hu : PO X hi (tO K xi fu)) :
    PE X (.Subscript a (.Slice lo hi none p2) pos) (tE K xi fun ev h => (fa ev h).bind fun x h1 => (fl ev h1).bind fun l h2 => (fu ev h2).bind fun u h3 => slcF x l u h3) := by
  subst hK
  refine PEm (pe_slice (sl_list.or (sl_tupA.or C8.sl_txt)) ha hl hu) fun st H Q ⟨ev, m, h, re, rh, p⟩ => ?_
  refine tE_bind re rh p fun v x m1 H1 h1 g1 re1 rh1 rx p1 => ?_
  refine ⟨ev, m1, h1, re1, rh1, p1.bind fun l h2 m2 H2 g2 rh2 p2 => ?_⟩
  refine ⟨ev, m2, h2, re1.grow g2, rh2, p2.bind fun u h3 m3 H3 g3 rh3 p3 => ?_⟩
  have rx3 := (rx.grow g2).grow g3
  cases x <;> try exact p3.elim
  · cases rx
    obtain ⟨hz, p3⟩ := Post.ite p3
    exact .inr (.inr ⟨_, rfl, hz, p3.now rh3 _ .str⟩)
  · rename_i xs
    obtain ⟨q, vs, rfl, h1', r1⟩ := tup_at rx3
    refine .inr (.inl ⟨q, vs, rfl, h1', fun hw => ?_, fun _ => newT_at rh3 (cutP_eq r1 l u) p3⟩)
    have e : cutP xs l u = xs := by
      unfold cutP
      rw [← r1.length, hw.1, hw.2, List.drop_zero, r1.length]
      exact List.take_of_length_le (by omega)
    have p4 : Post X.K xi m3 H3 (.ok (.tup (cutP xs l u)) h3) fun z m' H' => ∀ v, Rep X.K m' H' v z → Q v H' := p3
    rw [e] at p4
    exact p4.now rh3 _ rx3
  · cases rx3 with
    | fl hs r1 =>
      obtain ⟨_, k⟩ := new_at rh3 (cutP_eq r1 l u) p3
      exact .inl ⟨_, _, rfl, hs.sq, k⟩
  · rename_i a
    have p4 : Post X.K xi m3 H3 (match h3[a]? with
    | some (.lst xs) => new h3 (cutP xs l u)
    | _ => .stuck) fun z m' H' => ∀ v, Rep X.K m' H' v z → Q v H' := p3
    cases ea : h3[a]? with
    | none => rw [ea] at p4; exact p4.elim
    | some oa =>
      rw [ea] at p4
      cases oa <;> try exact p4.elim
      rename_i xs
      obtain ⟨pa, vs, rfl, _, h1, r1⟩ := lst_at rh3 rx3 ea
      obtain ⟨_, k⟩ := new_at rh3 (cutP_eq r1 l u) p4
      exact .inl ⟨_, _, rfl, .inl (.inl h1), k⟩
end
end Vm

set_option Elab.async false
set_option linter.all false
set_option maxRecDepth 100000
set_option maxHeartbeats 4000000
/-! VmE: targets, walks, comprehensions. -/
namespace Vm
open PySem PySem.Spec PyProof.Rows L2

/-! ### targets -/
/-- but for the slots at is the same -/
def Off (is : List Nat) (st st' : L2.St) : Prop := st'.length = st.length ∧ ∀ j : Nat, j ∉ is → st'[j]? = st[j]?
theorem Off.refl (is : List Nat) (st : L2.St) : Off is st st := ⟨rfl, fun _ _ => rfl⟩
theorem Off.set {is : List Nat} {st : L2.St} {i : Nat} {v : Option V} (h : i ∈ is) : Off is st (st.set i v) :=
  ⟨by simp, fun j hj => List.getElem?_set_ne fun e => hj (by rw [← e]; exact h)⟩
theorem Off.trans {is : List Nat} {a b c : L2.St} (h : Off is a b) (k : Off is b c) : Off is a c := ⟨k.1.trans h.1, fun j hj => (k.2 j hj).trans (h.2 j hj)⟩
theorem Off.mono {is js : List Nat} {a b : L2.St} (h : Off is a b) (k : ∀ i ∈ is, i ∈ js) : Off js a b := ⟨h.1, fun j hj => h.2 j fun z => hj (k j z)⟩
theorem wipe_get (st : L2.St) : ∀ (vs : List Nat) (j : Nat), (wipe st vs)[j]? = if j ∈ vs then st[j]?.map (fun _ => none) else st[j]?
  | [], j => by simp [wipe]
  | v :: vs, j => by
    have ih := wipe_get st vs j
    unfold wipe
    by_cases hj : v = j
    · subst hj
      have hl := wipe_length st vs
      by_cases hv : v < st.length
      · rw [List.getElem?_set_self (by rw [hl]; exact hv), if_pos List.mem_cons_self, List.getElem?_eq_getElem hv]
        rfl
      · rw [List.getElem?_eq_none (by simp; omega), if_pos List.mem_cons_self, List.getElem?_eq_none (by omega)]
        rfl
    · rw [List.getElem?_set_ne hj, ih]
      by_cases hm : j ∈ vs
      · rw [if_pos hm, if_pos (List.mem_cons_of_mem _ hm)]
      · rw [if_neg hm, if_neg (fun z => by
          rcases List.mem_cons.mp z with z | z
          · exact hj z.symm
          · exact hm z)]
theorem wipe_off {is : List Nat} {a b : L2.St} (h : Off is a b) : wipe b is = wipe a is := by
  apply List.ext_getElem?
  intro j
  rw [wipe_get, wipe_get]
  by_cases hj : j ∈ is
  · rw [if_pos hj, if_pos hj]
    by_cases hl : j < a.length
    · rw [List.getElem?_eq_getElem hl, List.getElem?_eq_getElem (by rw [h.1]; exact hl)]
      rfl
    · have h1 := h.1
      rw [List.getElem?_eq_none (show a.length ≤ j by omega), List.getElem?_eq_none (show b.length ≤ j by omega)]
  · rw [if_neg hj, if_neg hj, h.2 j hj]
theorem wipe_Off (is : List Nat) (a : L2.St) : Off is a (wipe a is) := ⟨wipe_length a is, fun j hj => by rw [wipe_get, if_neg hj]⟩
theorem REnv.wipe {K : PySem.W.Frag} {m : List Addr} {H : Hp} {st : L2.St} {ev : Ev} (r : REnv K m H st ev) : ∀ (is : List Nat), REnv K m H (wipe st is) (wipeE ev is)
  | [] => r
  | v :: vs => by
    have q := REnv.wipe r vs
    refine ⟨by unfold L2.wipe wipeE; rw [List.length_set, List.length_set]; exact q.len, fun i x e => ?_⟩
    unfold wipeE at e
    by_cases hv : v = i
    · subst hv
      by_cases hl : v < (wipeE ev vs).length
      · rw [List.getElem?_set_self hl] at e; cases e
      · rw [List.getElem?_eq_none (by simpa using hl)] at e; cases e
    · rw [List.getElem?_set_ne hv] at e
      obtain ⟨u, h1, h2⟩ := q.at' i x e
      exact ⟨u, by unfold L2.wipe; rw [List.getElem?_set_ne hv]; exact h1, h2⟩

def tG (K : PySem.W.Frag) (t : Tg) : TG := fun v st H Q => ∃ ev m h x ev', REnv K m H st ev ∧ RelH K m H h ∧ Rep K m H v x ∧ bindT t x h ev = some ev' ∧ ∀ st', REnv K m H st' ev' → Off t.slots st st' → Q st' H
def tGs (K : PySem.W.Frag) (is : List Nat) : TGs := fun vs st H Q => ∃ ev m xs ev', REnv K m H st ev ∧ Reps K m H vs xs ∧ setAll is xs ev = some ev' ∧ ∀ st', REnv K m H st' ev' → Off is st st' → Q st' H
theorem PGm {X : Cx} {e : Expr} {t t' : TG} (h : PG X e t) (k : ∀ v st H Q, t' v st H Q → t v st H Q) : PG X e t' := ⟨fun pins s st H v u Q I r q => h.run pins s st H v u Q I r (k v st H Q q)⟩
theorem PGsm {X : Cx} {e : List Expr} {t t' : TGs} (h : PGs X e t) (k : ∀ v st H Q, t' v st H Q → t v st H Q) : PGs X e t' := ⟨fun pins s st H v u Q I r q => h.run pins s st H v u Q I r (k v st H Q q)⟩
theorem PGor {X : Cx} {e : Expr} {t t' : TG} (h : PG X e t) (h' : PG X e t') : PG X e (fun v st H Q => t v st H Q ∨ t' v st H Q) :=
  ⟨fun pins s st H v u Q I r q => q.elim (fun q => h.run pins s st H v u Q I r q) fun q => h'.run pins s st H v u Q I r q⟩
section
variable {X : Cx} {K : PySem.W.Frag} {pos : Pos}
theorem sg_one {i : Nat} {x : Str} (hN : X.N.Nodup) (hi : X.N[i]? = some x) (hx : Loc X.env.scope x) (hf : X.fn x = true ∨ X.env.scope.names.lookup x = some .local) : PG X (.Name x pos) (tG K (.one i)) :=
  PGm (pg_name hN hi hx hf) fun v st H Q ⟨ev, m, h, y, ev', re, rh, rx, e, k⟩ => by
    cases e
    exact k _ (re.set i rx) (Off.set (by simp [Tg.slots]))
theorem sgs_nil : PGs X [] (tGs K []) := PGsm pgs_nil fun vs st H Q ⟨ev, m, xs, ev', re, rx, e, k⟩ => by
  cases rx with
  | nil => cases e; exact ⟨rfl, k _ re (Off.refl _ _)⟩
  | cons _ _ => cases e
theorem sgs_cons {i : Nat} {is : List Nat} {x : Str} {es : List Expr} (hN : X.N.Nodup) (hi : X.N[i]? = some x) (hx : Loc X.env.scope x) (hf : X.fn x = true ∨ X.env.scope.names.lookup x = some .local) (h : PGs X es (tGs K is)) :
    PGs X (.Name x pos :: es) (tGs K (i :: is)) := by
  refine PGsm (pgs_cons (pg_name hN hi hx hf) h (by rfl)) fun vs st H Q ⟨ev, m, xs, ev', re, rx, e, k⟩ => ?_
  cases rx with
  | nil => cases e
  | cons r t =>
    refine ⟨_, _, rfl, ev.set i (some _), m, _, ev', re.set i r, t, e, fun st' re' o => k st' re' ?_⟩
    exact (Off.set List.mem_cons_self).trans (o.mono fun _ z => List.mem_cons_of_mem _ z)
theorem setAll_len : ∀ {is : List Nat} {xs : List PV} {ev ev' : Ev}, setAll is xs ev = some ev' → xs.length = is.length
  | [], [], _, _, _ => rfl
  | [], _ :: _, _, _, h => by cases h
  | _ :: _, [], _, _, h => by cases h
  | i :: is, x :: xs, ev, ev', h => by
    rw [List.length_cons, List.length_cons, setAll_len (is := is) (xs := xs) (ev := ev.set i (some x)) h]
def namesOnly : List Expr → Bool
  | [] => true
  | .Name _ _ :: es => namesOnly es
  | _ => false
theorem each_name {x : Str} {p : Pos} {es : List Expr} {env : Env} : ∃ f, assignEach (.Name x p :: es) env = (false, f) :: assignEach es env := ⟨_, rfl⟩
theorem names_each {env : Env} : ∀ {es : List Expr}, namesOnly es = true → (assignEach es env).length = es.length ∧ (assignEach es env).findIdx? (·.1) = none := by
  intro es
  induction es with
  | nil => intro _; exact ⟨rfl, rfl⟩
  | cons e es ih =>
    intro h
    cases e <;> try (cases h)
    obtain ⟨h1, h2⟩ := ih h
    obtain ⟨f, ef⟩ := each_name (x := _) (p := _) (es := es) (env := env)
    rw [ef]
    refine ⟨by rw [List.length_cons, List.length_cons, h1], ?_⟩
    rw [List.findIdx?_cons, h2]
    rfl
theorem sg_many {is : List Nat} {es : List Expr} {k : Nat} (hc : X.calm = true) (hK : X.K = K) (hn : namesOnly es = true) (hl : es.length = is.length) (h : PGs X es (tGs K is)) : PG X (.Tuple es k pos) (tG K (.many is)) := by
  subst hK
  obtain ⟨n1, n2⟩ := names_each (env := X.env) hn
  refine PGm (PGor (pg_lst hc h (by rw [n1, hl]) n2) (pg_tup hc h (by rw [n1, hl]) n2)) fun v st H Q ⟨ev, m, h, y, ev', re, rh, rx, e, k⟩ => ?_
  unfold bindT at e
  dsimp only at e
  cases e2 : rd h y with
  | none => rw [e2] at e; cases e
  | some xs =>
    rw [e2] at e
    obtain ⟨a, vs, rfl, hs, rv⟩ := rd_ok rh rx e2
    have hlen : vs.length = is.length := rv.length.trans (setAll_len e)
    rcases hs with hs | hs
    · exact .inl ⟨a, vs, rfl, hs, hlen, ev, m, xs, ev', re, rv, e, k⟩
    · exact .inr ⟨a, vs, rfl, hs, hlen, ev, m, xs, ev', re, rv, e, k⟩
end

/-! ### walks -/
/-- the machine's walk J is the walk of src -/
def ItOk (K : PySem.W.Frag) (m0 : List Addr) (H0 : Hp) (J : L2.It) (src : Src) : Prop :=
  ∀ (m : List Addr) (H : Hp) (h : IH) (k : Nat), Grow m0 H0 m H → RelH K m H h →
    (src.get h k = some none → J.stop k H) ∧ ∀ x, src.get h k = some (some x) → J.go k H ∧ ∀ v H', J.yld k H v H' → Grow m H m H' ∧ RelH K m H' h ∧ Rep K m H' v x
def tI (K : PySem.W.Frag) (xi : XI) (f : Ev → IH → Res Src) : TI := fun st H R => ∃ ev m h, REnv K m H st ev ∧ RelH K m H h ∧ Post K xi m H (f ev h) fun src m' H' => ∀ J, ItOk K m' H' J src → R J H'
theorem PIm {X : Cx} {tg e : Expr} {t t' : TI} (h : PI X tg e t) (k : ∀ st H R, t' st H R → t st H R) : PI X tg e t' := ⟨fun pins s st H R I q => h.run pins s st H R I (k st H R q)⟩
theorem PIor {X : Cx} {tg e : Expr} {t t' : TI} (h : PI X tg e t) (h' : PI X tg e t') : PI X tg e (fun st H R => t st H R ∨ t' st H R) :=
  ⟨fun pins s st H R I q => q.elim (fun q => h.run pins s st H R I q) fun q => h'.run pins s st H R I q⟩
section
variable {X : Cx} {K : PySem.W.Frag} {xi : XI} {tg a b : Expr} {pos p : Pos} {fa fb : Ev → IH → Res PV}
theorem it_rng {m0 : List Addr} {H0 : Hp} {lo : Int} {n : Nat} : ItOk K m0 H0 (Itr lo n) (.items (rngs lo n)) := by
  intro m H h k g rh
  refine ⟨fun e => ?_, fun x e => ?_⟩
  · have e' : (rngs lo n)[k]? = none := Option.some.inj e
    rw [List.getElem?_eq_none_iff] at e'
    simp [rngs] at e'
    exact e'
  · have e' : (rngs lo n)[k]? = some x := Option.some.inj e
    obtain ⟨hk, hx⟩ := List.getElem?_eq_some_iff.mp e'
    simp [rngs] at hk hx
    subst hx
    refine ⟨hk, fun v H' y => ?_⟩
    obtain ⟨rfl, rfl⟩ := y
    exact ⟨Grow.refl _ _, rh, .int⟩
theorem si_rng (hg : Gl X "range") (hm : X.mg "range" = none) (hn : notStar a = true) (ha : PE X a (tE K xi fa)) : PI X tg (.Call (.Name "range" p) [a] [] pos) (tI K xi fun ev h => (fa ev h).bind fun x h1 => match x with
    | .int j => if -(2 ^ 62) ≤ j ∧ j < 2 ^ 62 then .ok (.items (rngs 0 j.toNat)) h1 else .stuck
    | _ => .stuck) := by
  refine PIm (pi_range1 hg hm (pa_cons ha pa_nil (star_cons hn)) (star_cons hn)) fun st H R ⟨ev, m, h, re, rh, q⟩ => ?_
  refine tE_bind re rh q fun v x m1 H1 h1 g1 re1 rh1 rx p1 => ?_
  cases x <;> try exact p1.elim
  rename_i j
  cases rx
  obtain ⟨hb, p1⟩ := Post.ite p1
  exact ⟨j, rfl, hb.1, hb.2, p1.now rh1 _ it_rng⟩
theorem si_rng2 (hg : Gl X "range") (hm : X.mg "range" = none) (hn : notStar a = true) (hn2 : notStar b = true) (ha : PE X a (tE K xi fa)) (hb : PE X b (tE K xi fb)) : PI X tg (.Call (.Name "range" p) [a, b] [] pos)
    (tI K xi fun ev h => (fa ev h).bind fun x h1 => (fb ev h1).bind fun y h2 => match x, y with
    | .int i, .int j => if -(2 ^ 62) ≤ i ∧ i < 2 ^ 62 ∧ -(2 ^ 62) ≤ j ∧ j < 2 ^ 62 then .ok (.items (rngs i (j - i).toNat)) h2 else .stuck
    | _, _ => .stuck) := by
  refine PIm (pi_range2 hg hm (pa_cons ha (pa_cons hb pa_nil (star_cons hn2)) (star_cons hn)) (by rw [star_cons hn, star_cons hn2]; rfl) (star_cons hn2)) fun st H R ⟨ev, m, h, re, rh, q⟩ => ?_
  refine tE_bind re rh q fun v x m1 H1 h1 g1 re1 rh1 rx p1 => ?_
  refine tE_bind re1 rh1 p1 fun w y m2 H2 h2 g2 re2 rh2 ry p2 => ?_
  cases x <;> cases y <;> try exact p2.elim
  rename_i i j
  cases rx
  cases ry
  obtain ⟨hb, p2⟩ := Post.ite p2
  exact ⟨i, j, rfl, hb, p2.now rh2 _ it_rng⟩
theorem it_list {m0 : List Addr} {H0 : Hp} {q : Addr} {vs : List V} {xs : List PV} (hs : SqF K H0 q vs) (r : Reps K m0 H0 vs xs) : ItOk K m0 H0 (Itl K q) (.items xs) := by
  intro m H h k g rh
  have hs' := (hs.keep g.kp).sq
  have r' := r.grow g
  refine ⟨fun e => ?_, fun x e => ?_⟩
  · have e' : xs[k]? = none := Option.some.inj e
    exact ⟨vs, hs', by rw [r.length]; exact List.getElem?_eq_none_iff.mp e'⟩
  · have e' : xs[k]? = some x := Option.some.inj e
    obtain ⟨v, h1, h2⟩ := r'.get e'
    refine ⟨⟨vs, v, hs', h1⟩, fun u H' y => ?_⟩
    obtain ⟨rfl, y⟩ := y
    have := y vs hs'
    rw [h1] at this
    cases this
    exact ⟨Grow.refl _ _, rh, h2⟩
theorem it_tup {m0 : List Addr} {H0 : Hp} {q : Addr} {vs : List V} {xs : List PV} (hs : SqT K H0 q vs) (r : Reps K m0 H0 vs xs) : ItOk K m0 H0 (Itt K q) (.items xs) := by
  intro m H h k g rh
  have hs' := Vm.SqT.keep g.kp hs
  have r' := r.grow g
  refine ⟨fun e => ?_, fun x e => ?_⟩
  · have e' : xs[k]? = none := Option.some.inj e
    exact ⟨vs, hs', by rw [r.length]; exact List.getElem?_eq_none_iff.mp e'⟩
  · have e' : xs[k]? = some x := Option.some.inj e
    obtain ⟨v, h1, h2⟩ := r'.get e'
    refine ⟨⟨vs, v, hs', h1⟩, fun u H' y => ?_⟩
    obtain ⟨rfl, y⟩ := y
    have := y vs hs'
    rw [h1] at this
    cases this
    exact ⟨Grow.refl _ _, rh, h2⟩
theorem it_heap {m0 : List Addr} {H0 : Hp} {q : Addr} {i : Nat} (hq : m0[i]? = some q) : ItOk K m0 H0 (Itl K q) (.heap i) := by
  intro m H h k g rh
  have hq' := g.at hq
  have key : ∀ o, Src.get (.heap i) h k = some o → ∃ xs vs, h[i]? = some (.lst xs) ∧ xs[k]? = o ∧ H q = some (.lst vs) ∧ Reps K m H vs xs := fun o e => by
    cases hy : h[i]? with
    | none => simp [Src.get, hy] at e
    | some u =>
      cases u with
      | lst xs =>
        simp [Src.get, hy] at e
        obtain ⟨vs, h1, h2⟩ := rh.at' i _ _ hy hq'
        exact ⟨xs, vs, rfl, e, h1, h2⟩
      | dct _ => simp [Src.get, hy] at e
  refine ⟨fun e => ?_, fun x e => ?_⟩
  · obtain ⟨xs, vs, h0, e', h1, r⟩ := key _ e
    exact ⟨vs, .inl (.inl h1), by rw [r.length]; exact List.getElem?_eq_none_iff.mp e'⟩
  · obtain ⟨xs, vs, h0, e', h1, r⟩ := key _ e
    obtain ⟨v, h2, h3⟩ := r.get e'
    refine ⟨⟨vs, v, .inl (.inl h1), h2⟩, fun u H' y => ?_⟩
    obtain ⟨rfl, y⟩ := y
    have := y vs (.inl (.inl h1))
    rw [h2] at this
    cases this
    exact ⟨Grow.refl _ _, rh, h3⟩
theorem key_heap {K : PySem.W.Frag} {m0 m : List Addr} {H0 H : Hp} {h : IH} {q : Addr} {i : Nat} (hq : m0[i]? = some q) (g : Grow m0 H0 m H) (rh : RelH K m H h) {xs : List PV} (e : h[i]? = some (.lst xs)) : ∃ vs, H q = some (.lst vs) ∧ Reps K m H vs xs := rh.at' i _ _ e (g.at hq)
theorem it_enum {m0 : List Addr} {H0 : Hp} {q : Addr} {i : Nat} (hq : m0[i]? = some q) : ItOk K m0 H0 (Ite K q) (.enum i) := by
  intro m H h k g rh
  have key : ∀ o, Src.get (.enum i) h k = some o → ∃ xs vs, h[i]? = some (.lst xs) ∧ (xs[k]?.map fun x => PV.tup [.int k, x]) = o ∧ H q = some (.lst vs) ∧ Reps K m H vs xs := fun o e => by
    cases hy : h[i]? with
    | none => simp [Src.get, hy] at e
    | some u =>
      cases u with
      | lst xs =>
        simp [Src.get, hy] at e
        obtain ⟨vs, h1, h2⟩ := key_heap hq g rh hy
        exact ⟨xs, vs, rfl, e, h1, h2⟩
      | dct _ => simp [Src.get, hy] at e
  refine ⟨fun e => ?_, fun x e => ?_⟩
  · obtain ⟨xs, vs, h0, e', h1, r⟩ := key _ e
    have e' : xs[k]? = none := by simpa using e'
    exact ⟨vs, .inl (.inl h1), by rw [r.length]; exact List.getElem?_eq_none_iff.mp e'⟩
  · obtain ⟨xs, vs, h0, e', h1, r⟩ := key _ e
    cases ex : xs[k]? with
    | none => rw [ex] at e'; cases e'
    | some y =>
      rw [ex] at e'
      cases e'
      obtain ⟨v, h2, h3⟩ := r.get ex
      refine ⟨⟨vs, v, .inl (.inl h1), h2⟩, fun u H' yl => ?_⟩
      obtain ⟨T, w, rfl, nT, rfl, yl⟩ := yl
      have := yl vs (.inl (.inl h1))
      rw [h2] at this
      cases this
      exact ⟨Grow.junk nT, rh.junk nT, .tup (.inl (.inl upd_same)) (.cons .int (.cons (h3.grow (Grow.junk nT)) .nil))⟩
theorem it_zip {m0 : List Addr} {H0 : Hp} {q q2 : Addr} {i j : Nat} (hq : m0[i]? = some q) (hq2 : m0[j]? = some q2) : ItOk K m0 H0 (Itz K q q2) (.zip i j) := by
  intro m H h k g rh
  have key : ∀ o, Src.get (.zip i j) h k = some o → ∃ xs ys vs ws, (match xs[k]?, ys[k]? with
      | some x, some y => some (PV.tup [x, y])
      | _, _ => none) = o ∧ H q = some (.lst vs) ∧ Reps K m H vs xs ∧ H q2 = some (.lst ws) ∧ Reps K m H ws ys := fun o e => by
    cases hy : h[i]? with
    | none => simp [Src.get, hy] at e
    | some u =>
      cases u with
      | dct _ => simp [Src.get, hy] at e
      | lst xs =>
        cases hy2 : h[j]? with
        | none => simp [Src.get, hy, hy2] at e
        | some u =>
          cases u with
          | dct _ => simp [Src.get, hy, hy2] at e
          | lst ys =>
            simp only [Src.get, hy, hy2] at e
            obtain ⟨vs, h1, h2⟩ := key_heap hq g rh hy
            obtain ⟨ws, h3, h4⟩ := key_heap hq2 g rh hy2
            exact ⟨xs, ys, vs, ws, Option.some.inj e, h1, h2, h3, h4⟩
  refine ⟨fun e => ?_, fun x e => ?_⟩
  · obtain ⟨xs, ys, vs, ws, e', h1, r1, h2, r2⟩ := key _ e
    refine ⟨vs, ws, .inl (.inl h1), .inl (.inl h2), ?_⟩
    rw [r1.length, r2.length]
    cases ex : xs[k]? with
    | none => exact .inl (List.getElem?_eq_none_iff.mp ex)
    | some x =>
      cases ey : ys[k]? with
      | none => exact .inr (List.getElem?_eq_none_iff.mp ey)
      | some y => rw [ex, ey] at e'; cases e'
  · obtain ⟨xs, ys, vs, ws, e', h1, r1, h2, r2⟩ := key _ e
    cases ex : xs[k]? with
    | none => rw [ex] at e'; cases e'
    | some x0 =>
      cases ey : ys[k]? with
      | none => rw [ex, ey] at e'; cases e'
      | some y0 =>
        rw [ex, ey] at e'
        cases e'
        obtain ⟨v, a1, a2⟩ := r1.get ex
        obtain ⟨w, b1, b2⟩ := r2.get ey
        refine ⟨⟨vs, ws, v, w, .inl (.inl h1), .inl (.inl h2), a1, b1⟩, fun u H' yl => ?_⟩
        obtain ⟨T, v', w', rfl, nT, rfl, y1, y2⟩ := yl
        have z1 := y1 vs (.inl (.inl h1))
        have z2 := y2 ws (.inl (.inl h2))
        rw [a1] at z1
        rw [b1] at z2
        cases z1
        cases z2
        exact ⟨Grow.junk nT, rh.junk nT, .tup (.inl (.inl upd_same)) (.cons (a2.grow (Grow.junk nT)) (.cons (b2.grow (Grow.junk nT)) .nil))⟩
theorem si_enum {elts : List Expr} {kk : Nat} {tpos : Pos} (hK : X.K = K) (hg : Gl X "enumerate") (hm : X.mg "enumerate" = none) (hn : notStar a = true) (ha : PE X a (tE K xi fa)) : PI X (.Tuple elts kk tpos) (.Call (.Name "enumerate" p) [a] [] pos) (tI K xi fun ev h => (fa ev h).bind fun x h1 => enumF x h1) := by
  subst hK
  refine PIm (pi_enum hg hm (pa_cons ha pa_nil (star_cons hn)) (star_cons hn)) fun st H R ⟨ev, m, h, re, rh, q⟩ => ?_
  refine tE_bind re rh q fun v x m1 H1 h1 g1 re1 rh1 rx p1 => ?_
  cases x <;> try exact p1.elim
  rename_i i
  cases rx with
  | ref hq =>
    cases hy : h1[i]? with
    | none => simp only [enumF, hy] at p1; exact p1.elim
    | some u =>
      cases u with
      | dct _ => simp only [enumF, hy] at p1; exact p1.elim
      | lst xs =>
        simp only [enumF, hy] at p1
        obtain ⟨vs, e1, r1⟩ := rh1.at' i _ _ hy hq
        exact ⟨_, vs, rfl, .inl (.inl e1), p1.now rh1 _ (it_enum hq)⟩
theorem si_zip {elts : List Expr} {kk : Nat} {tpos : Pos} (hK : X.K = K) (hg : Gl X "zip") (hm : X.mg "zip" = none) (hn : notStar a = true) (hn2 : notStar b = true) (ha : PE X a (tE K xi fa)) (hb : PE X b (tE K xi fb)) : PI X (.Tuple elts kk tpos) (.Call (.Name "zip" p) [a, b] [] pos)
    (tI K xi fun ev h => (fa ev h).bind fun x h1 => (fb ev h1).bind fun y h2 => zipF x y h2) := by
  subst hK
  refine PIm (pi_zip hg hm (pa_cons ha (pa_cons hb pa_nil (star_cons hn2)) (star_cons hn)) (by rw [star_cons hn, star_cons hn2]) (by rw [star_cons hn2]; rfl)) fun st H R ⟨ev, m, h, re, rh, q⟩ => ?_
  refine tE_bind re rh q fun v x m1 H1 h1 g1 re1 rh1 rx p1 => ?_
  refine tE_bind re1 rh1 p1 fun w y m2 H2 h2 g2 re2 rh2 ry p2 => ?_
  cases x <;> cases y <;> try exact p2.elim
  rename_i i j
  have rx2 := rx.grow g2
  cases rx2 with
  | ref hq =>
    cases ry with
    | ref hq2 =>
      cases hy : h2[i]? with
      | none => simp only [zipF, hy] at p2; exact p2.elim
      | some u =>
        cases u with
        | dct _ => simp only [zipF, hy] at p2; exact p2.elim
        | lst xs =>
          cases hy2 : h2[j]? with
          | none => simp only [zipF, hy, hy2] at p2; exact p2.elim
          | some u =>
            cases u with
            | dct _ => simp only [zipF, hy, hy2] at p2; exact p2.elim
            | lst ys =>
              simp only [zipF, hy, hy2] at p2
              obtain ⟨vs, e1, r1⟩ := rh2.at' i _ _ hy hq
              obtain ⟨ws, e2, r2⟩ := rh2.at' j _ _ hy2 hq2
              exact ⟨_, _, vs, ws, rfl, .inl (.inl e1), .inl (.inl e2), p2.now rh2 _ (it_zip hq hq2)⟩
theorem si_seq (hK : X.K = K) (ha : PE X a (tE K xi fa)) : PI X tg a (tI K xi fun ev h => (fa ev h).bind fun x h1 => match x with
    | .tup xs => .ok (.items xs) h1
    | .fl xs => .ok (.items xs) h1
    | .ref b => match h1[b]? with
      | some (.lst _) => .ok (.heap b) h1
      | _ => .stuck
    | _ => .stuck) := by
  subst hK
  refine PIm (PIor (pi_list ha) (pi_tup ha)) fun st H R ⟨ev, m, h, re, rh, q⟩ => ?_
  dsimp only at q
  cases e : fa ev h with
  | stuck => rw [e] at q; exact q.elim
  | exc c fs h1 =>
    refine .inl ⟨ev, m, h, re, rh, ?_⟩
    rw [e] at q ⊢
    exact q
  | ok x h1 =>
    rw [e] at q
    rw [Res.bind_ok] at q
    cases x <;> dsimp only at q <;> try exact q.elim
    · rename_i xs
      refine .inr ⟨ev, m, h, re, rh, ?_⟩
      rw [e]
      intro m1 H1 g1 rh1 v rv
      cases rv with
      | tup h1 h2 => exact ⟨_, rfl, ⟨_, h1⟩, q m1 H1 g1 rh1 _ (it_tup h1 h2)⟩
    · rename_i xs
      refine .inl ⟨ev, m, h, re, rh, ?_⟩
      rw [e]
      intro m1 H1 g1 rh1 v rv
      cases rv with
      | fl h1 h2 => exact ⟨_, rfl, ⟨_, h1.sq⟩, q m1 H1 g1 rh1 _ (it_list h1 h2)⟩
    · rename_i i
      refine .inl ⟨ev, m, h, re, rh, ?_⟩
      rw [e]
      intro m1 H1 g1 rh1 v rv
      cases rv with
      | ref hp =>
        cases hy : h1[i]? with
        | none => rw [hy] at q; exact q.elim
        | some o =>
          cases o with
          | dct _ => rw [hy] at q; exact q.elim
          | lst xs =>
            rw [hy] at q
            obtain ⟨vs, hv, _⟩ := rh1.at' i _ _ hy hp
            exact ⟨_, rfl, ⟨vs, .inl (.inl hv)⟩, q m1 H1 g1 rh1 _ (it_heap hp)⟩
end
end Vm

set_option Elab.async false
set_option linter.all false
set_option maxRecDepth 100000
set_option maxHeartbeats 4000000
/-! VmF: comprehensions. -/
namespace Vm
open PySem PySem.Spec PyProof.Rows L2

def xi0 : XI := fun _ _ _ _ => False

def lcF (t : Tg) (fi : Ev → IH → Res Src) (fc fe : Ev → IH → Res PV) : Ev → IH → Res PV := fun ev h => (fi ev h).bind fun src h1 =>
  (lcLoop src (lcTurn t (wipeE ev t.slots) fc fe) (src.fuel h1) 0 [] h1).bind fun acc h2 => .ok (.ref h2.length) (h2 ++ [.lst acc])

theorem lcTurn_ok {t : Tg} {ev : Ev} {fc fe : Ev → IH → Res PV} {y : PV} {h h' : IH} {o : Option PV} (e : lcTurn t ev fc fe y h = .ok o h') :
    ∃ ev1 b h3, bindT t y h ev = some ev1 ∧ fc ev1 h = .ok (.bl b) h3 ∧ ((b = true ∧ ∃ z, fe ev1 h3 = .ok z h' ∧ o = some z) ∨ (b = false ∧ h' = h3 ∧ o = none)) := by
  unfold lcTurn at e
  cases e1 : bindT t y h ev with
  | none => rw [e1] at e; cases e
  | some ev1 =>
    rw [e1] at e
    cases e2 : fc ev1 h with
    | exc c fs h3 => simp [e2, Res.calm] at e
    | stuck => simp [e2, Res.calm] at e
    | ok c h3 =>
      cases c <;> try (simp [e2, Res.calm] at e; done)
      rename_i b
      cases b with
      | false =>
        simp [e2, Res.calm] at e
        obtain ⟨rfl, rfl⟩ := e
        exact ⟨ev1, false, _, rfl, e2, .inr ⟨rfl, rfl, rfl⟩⟩
      | true =>
        cases e3 : fe ev1 h3 with
        | exc c fs h4 => simp [e2, e3, Res.calm] at e
        | stuck => simp [e2, e3, Res.calm] at e
        | ok z h4 =>
          simp [e2, e3, Res.calm] at e
          obtain ⟨rfl, rfl⟩ := e
          exact ⟨ev1, true, h3, rfl, e2, .inl ⟨rfl, z, e3, rfl⟩⟩
theorem calm_no {α : Type} (r : Res α) : (∃ o h, r.calm = .ok o h) ∨ r.calm = .stuck := by
  cases r with
  | ok o h' => exact .inl ⟨o, h', rfl⟩
  | exc _ _ _ => exact .inr rfl
  | stuck => exact .inr rfl
theorem lcTurn_no {t : Tg} {ev : Ev} {fc fe : Ev → IH → Res PV} {y : PV} {h : IH} : (∃ o h', lcTurn t ev fc fe y h = .ok o h') ∨ lcTurn t ev fc fe y h = .stuck := calm_no _

section
variable {X : Cx} {K : PySem.W.Frag} {xi : XI} {t : Tg} {fi : Ev → IH → Res Src} {fc fe : Ev → IH → Res PV} {tt : TT}
theorem tLc_of (htt : ∀ st H Q, tT K xi0 (bF fc) st H Q → tt st H Q) {st : L2.St} {H : Hp} {Q : VK} (q : tE K xi (lcF t fi fc fe) st H Q) : tLc (tI K xi fi) (tG K t) tt (tE K xi0 fe) t.slots st H Q := by
  obtain ⟨ev, m, h, re, rh, p⟩ := q
  unfold lcF at p
  refine ⟨ev, m, h, re, rh, p.bind fun src h1 m1 H1 g1 rh1 p1 J itok D nD => ?_⟩
  have reA := re.grow g1
  let W : Nat → Nat → Hp → Prop := fun i n H2 => ∃ mu h2 acc vacc, Grow m1 H1 mu H2 ∧ RelH K mu H2 h2 ∧ H2 D = some (.lst vacc) ∧ D ∉ mu ∧ Reps K mu H2 vacc acc ∧
    Post K xi m1 H1 ((lcLoop src (lcTurn t (wipeE ev t.slots) fc fe) n i acc h2).bind fun acc h2 => .ok (.ref h2.length) (h2 ++ [.lst acc])) fun x m' H' => ∀ v, Rep K m' H' v x → Q v H'
  refine ⟨W, ⟨src.fuel h1, m1, h1, [], [], Grow.junk nD, rh1.junk nD, upd_same, fun z => ?_, .nil, p1⟩, fun i n H2 w => ?_⟩
  · obtain ⟨u, hu⟩ := rh1.mem z
    rw [nD] at hu; cases hu
  obtain ⟨mu, h2, acc, vacc, g2, rh2, eD, hD, ra, p2⟩ := w
  cases n with
  | zero => exact p2.elim
  | succ n =>
    obtain ⟨stp, gon⟩ := itok mu H2 h2 i g2 rh2
    unfold lcLoop at p2
    cases eg : src.get h2 i with
    | none => rw [eg] at p2; exact p2.elim
    | some o =>
      rw [eg] at p2
      cases o with
      | none =>
        refine .inl ⟨stp eg, ?_⟩
        dsimp only [Res.bind_ok] at p2
        exact p2 _ _ (g2.take nD) (rh2.take eD hD ra) _ (.ref (by rw [← rh2.len]; simp))
      | some x =>
        obtain ⟨go, yl⟩ := gon x eg
        dsimp only at p2
        rw [bind_bind] at p2
        rcases lcTurn_no (t := t) (ev := wipeE ev t.slots) (fc := fc) (fe := fe) (y := x) (h := h2) with ⟨o, h3, et⟩ | et
        · rw [et, Res.bind_ok] at p2
          obtain ⟨ev1, b, h4, eb, ec, alt⟩ := lcTurn_ok et
          refine .inr ⟨go, W (i + 1) n, fun H' w => ⟨n, Nat.lt_succ_self n, w⟩, fun v H3 y => ?_⟩
          obtain ⟨g3, rh3, rx⟩ := yl v H3 y
          have reW := ((reA.grow g2).grow g3).wipe t.slots
          refine ⟨wipeE ev t.slots, mu, h2, x, ev1, reW, rh3, rx, eb, fun st' re' off => ⟨?_, htt _ _ _ ?_⟩⟩
          · rw [wipe_off off, wipe_off (wipe_Off t.slots st)]
          · refine ⟨ev1, mu, h2, re', rh3, ?_⟩
            unfold bF
            rw [ec, Res.bind_ok]
            intro m4 H4 g4 rh4
            obtain ⟨eD4, hD4⟩ := g4.fr D _ (g3.fr D _ eD hD).1 (g3.fr D _ eD hD).2
            have g24 := (g2.trans g3).trans g4
            rcases alt with ⟨rfl, z, ez, rfl⟩ | ⟨rfl, rfl, rfl⟩
            · rw [if_pos rfl]
              refine ⟨ev1, m4, h4, re'.grow g4, rh4, ?_⟩
              rw [ez]
              intro m5 H5 g5 rh5 w rw'
              obtain ⟨eD5, hD5⟩ := g5.fr D _ eD4 hD4
              dsimp only at p2
              by_cases hl : acc.length < sizeLine
              · rw [if_pos hl] at p2
                refine ⟨vacc, eD5, by rw [ra.length]; exact hl, m5, h3, acc ++ [z], vacc ++ [w], (g24.trans g5).own nD, rh5.own eD5 hD5, upd_same, hD5, ?_, p2⟩
                exact ((((ra.grow g3).grow g4).grow g5).append (.cons rw' .nil)).grow0 ⟨[], by simp⟩ (Keep.wrote eD5)
              · rw [if_neg hl] at p2
                exact p2.elim
            · rw [if_neg Bool.false_ne_true]
              dsimp only at p2
              exact ⟨m4, h3, acc, vacc, g24, rh4, eD4, hD4, (ra.grow g3).grow g4, p2⟩
        · rw [et] at p2
          exact p2.elim
end
end Vm

set_option Elab.async false
set_option linter.all false
set_option maxRecDepth 100000
set_option maxHeartbeats 4000000
/-! VmG: calls, statements. -/
namespace Vm
open PySem PySem.Spec PyProof.Rows L2

/-- a def's promise by the evaluator -/
def spOf (K : PySem.W.Frag) (n : Nat) (F : List PV → IH → Res PV) : Sp := fun vs H Q _ => vs.length = n ∧ ∃ m h xs, RelH K m H h ∧ Reps K m H vs xs ∧ Post K xi0 m H (F xs h) fun x m' H' => ∀ v, Rep K m' H' v x → Q v H'

def noComp : Expr → Bool
  | .ListComp .. => false
  | .SetComp .. => false
  | .DictComp .. => false
  | _ => true
theorem swaps_of {e : Expr} (h : noComp e = true) (t : Option Expr) (l : Nat) (env : Env) : swapsWith e t l env = pure false := by
  cases e <;> first | rfl | cases h
def noTup : Expr → Bool
  | .Tuple .. => false
  | _ => true
theorem swapped_of {t e : Expr} {env : Env} (h : noTup e = true) : swappedStores [t] e env = pure none := by
  cases e <;> first | (cases h; done) | (cases t <;> rfl)
theorem swapped_name {x : Str} {p : Pos} {e : Expr} {env : Env} : swappedStores [.Name x p] e env = pure none := by
  cases e <;> rfl
theorem swapped_sub {o i : Expr} {p : Pos} {e : Expr} {env : Env} : swappedStores [.Subscript o i p] e env = pure none := by
  cases e <;> rfl
def noSet : Expr → Bool
  | .Set .. => false
  | _ => true
theorem folded_of {e : Expr} {env : Env} (h : noSet e = true) (x : Value) : foldedSetIterable e env x = pure x := by
  cases e <;> first | rfl | cases h

section
variable {X : Cx} {K : PySem.W.Frag} {xi : XI} {a b c e : Expr} {fa fb fc : Ev → IH → Res PV} {pos p : Pos} {x : Str}
theorem se_call {f : Addr} {fd : FuncData} {ps : List Str} {k : Nat} {F : List PV → IH → Res PV} {es : List Expr} {fs : Ev → IH → Res (List PV)}
    (G : FnOk X.prog X.w X.K X.mg X.base CX0 k f fd ps (spOf K ps.length F)) (hr : Room k X.A) (hg : Gl X x) (hm : X.mg x = some (.ref f)) (hk : PySem.W.keepIn X.K (.ref f) = true) (hb : Binds X.K fd ps [])
    (ha : PA X (e :: es) (tA K xi0 fs)) (hfs : ∀ ev h xs h1, fs ev h = .ok xs h1 → xs.length = ps.length) (hst : (e :: es).all notStar = true) (hdb : (x == ("__debug__" : Str)) = false) :
    PE X (.Call (.Name x p) (e :: es) [] pos) (tE K xi0 fun ev h => (fs ev h).bind fun xs h1 => F xs h1) := by
  rw [List.all_cons, Bool.and_eq_true] at hst
  refine PEm (pe_call G hr hg hm hk hb .nil pass0 ha hdb (star_cons hst.1) (plain_of hst.2)) fun st H Q ⟨ev, m, h, re, rh, q⟩ => ?_
  dsimp only at q
  refine ⟨ev, m, h, re, rh, ?_⟩
  cases e : fs ev h with
  | stuck => rw [e] at q; exact q.elim
  | exc c fs h1 => rw [e] at q; exact q
  | ok xs h1 =>
    rw [e, Res.bind_ok] at q
    intro m1 H1 g1 rh1 vs rvs
    rw [List.append_nil]
    exact ⟨by rw [rvs.length, hfs _ _ _ _ e], m1, h1, xs, rh1, rvs, Post.grow g1 q⟩

/-- a built-in's call by values -/
def BiOk (K : PySem.W.Frag) (F : List PV → IH → Res PV) (r : List V → Hp → VK → Prop) : Prop :=
  ∀ (xi : XI) (m : List Addr) (H : Hp) (h : IH) (xs : List PV) (vs : List V) (Q : VK), RelH K m H h → Reps K m H vs xs → (Post K xi m H (F xs h) fun z m' H' => ∀ v, Rep K m' H' v z → Q v H') → r vs H Q
theorem tCB_of {F : List PV → IH → Res PV} {r : List V → Hp → VK → Prop} (ok : BiOk K F r) {fs : Ev → IH → Res (List PV)} {st : L2.St} {H : Hp} {Q : VK} (t : tE K xi (fun ev h => (fs ev h).bind fun xs h1 => F xs h1) st H Q) : tCB r (tA K xi fs) st H Q := by
  obtain ⟨ev, m, h, re, rh, q⟩ := t
  exact tA_bind re rh q fun vs xs m1 H1 h1 g1 re1 rh1 rx p1 => ok xi m1 H1 h1 xs vs Q rh1 rx p1
theorem se_biB {id : String} {F : List PV → IH → Res PV} {r : List V → Hp → VK → Prop} {es : List Expr} {fs : Ev → IH → Res (List PV)} (hc : CallR X (.builtin id) r) (ok : BiOk K F r) (hg : Gl X x) (hm : X.mg x = none) (hv : bootBuiltins x = some (.builtin id))
    (ha : PA X (e :: es) (tA K xi fs)) (hst : (e :: es).all notStar = true) (hn : x ≠ "__name__") (hdb : (x == ("__debug__" : Str)) = false) :
    PE X (.Call (.Name x p) (e :: es) [] pos) (tE K xi fun ev h => (fs ev h).bind fun xs h1 => F xs h1) := by
  rw [List.all_cons, Bool.and_eq_true] at hst
  exact PEm (pe_callB hc hg hm hv ha hn hdb (star_cons hst.1) (plain_of hst.2)) fun st H Q t => tCB_of ok t
theorem se_biT {T : String} {F : List PV → IH → Res PV} {r : List V → Hp → VK → Prop} {es : List Expr} {fs : Ev → IH → Res (List PV)} (hc : CallR X (.type T) r) (ok : BiOk K F r) (hg : Gl X x) (hm : X.mg x = none) (hv : bootBuiltins x = some (.type T))
    (ha : PA X (e :: es) (tA K xi fs)) (hst : (e :: es).all notStar = true) (hn : x ≠ "__name__") (hdb : (x == ("__debug__" : Str)) = false) :
    PE X (.Call (.Name x p) (e :: es) [] pos) (tE K xi fun ev h => (fs ev h).bind fun xs h1 => F xs h1) := by
  rw [List.all_cons, Bool.and_eq_true] at hst
  exact PEm (pe_callTy hc hg hm hv ha hn hdb (star_cons hst.1) (plain_of hst.2)) fun st H Q t => tCB_of ok t

/-! ### statements -/
def toD (K : PySem.W.Frag) (D : Ends) : Fl → List Addr → Hp → Prop := fun o m' H' => match o with
  | .nx ev' => ∀ st', REnv K m' H' st' ev' → D.nx st' H'
  | .rt x => ∀ v, Rep K m' H' v x → D.rt v H'
def tS (K : PySem.W.Frag) (xi : XI) (f : Ev → IH → Res Fl) : TS := fun D st H => ∃ ev m h, REnv K m H st ev ∧ RelH K m H h ∧ Post K xi m H (f ev h) (toD K D)
variable {tgt : Tg} {tg : Expr}
def asgF (t : Tg) (fa : Ev → IH → Res PV) : Ev → IH → Res Fl := fun ev h => (fa ev h).bind fun x h1 => match bindT t x h1 ev with
  | some ev' => .ok (.nx ev') h1
  | none => .stuck
theorem tG_post {t : Tg} {m : List Addr} {H : Hp} {h : IH} {x : PV} {v : V} {ev : Ev} {st : L2.St} {D : Ends} (re : REnv K m H st ev) (rh : RelH K m H h) (rx : Rep K m H v x)
    (q : Post K xi m H (match bindT t x h ev with
      | some ev' => .ok (.nx ev') h
      | none => .stuck : Res Fl) (toD K D)) : tG K t v st H D.nx := by
  cases e : bindT t x h ev with
  | none => rw [e] at q; exact q.elim
  | some ev' =>
    rw [e] at q
    exact ⟨ev, m, h, x, ev', re, rh, rx, e, fun st' re' _ => q.now rh st' re'⟩
theorem ss_asg (hn : noComp e = true) (hw : swappedStores [tg] e X.env = pure none) (ht : notStar tg = true) (ha : PE X e (tE K xi fa)) (hg : PG X tg (tG K tgt)) : PS X (.Assign [tg] e pos) (tS K xi (asgF tgt fa)) := by
  refine PSm (ps_asg ha hg (swaps_of hn _ _ _) hw (by cases tg <;> first | rfl | cases ht)) fun D st H ⟨ev, m, h, re, rh, q⟩ => ?_
  exact tE_bind re rh q fun v x m1 H1 h1 g1 re1 rh1 rx p1 => tG_post re1 rh1 rx p1
/-- name = [..] -/
theorem ss_lcs {t : TE} {i : Nat} (hp : PS X (.Assign [tg] e pos) (tAsg t (gName i))) (k : ∀ st H Q, tE K xi fa st H Q → t st H Q) : PS X (.Assign [tg] e pos) (tS K xi (asgF (.one i) fa)) := by
  refine PSm hp fun D st H ⟨ev, m, h, re, rh, q⟩ => k _ _ _ ?_
  exact tE_bind re rh q fun v x m1 H1 h1 g1 re1 rh1 rx p1 => p1.now rh1 _ (re1.set i rx)
theorem ss_drop (hn : noComp e = true) (ha : PE X e (tE K xi fa)) : PS X (.Expr e pos) (tS K xi fun ev h => (fa ev h).bind fun _ h1 => .ok (.nx ev) h1) := by
  refine PSm (ps_expr ha (swaps_of hn _ _ _)) fun D st H ⟨ev, m, h, re, rh, q⟩ => ?_
  exact tE_bind re rh q fun v x m1 H1 h1 g1 re1 rh1 rx p1 => p1.now rh1 _ re1
theorem ss_ret (ha : PE X e (tE K xi fa)) : PS X (.Return (some e) pos) (tS K xi fun ev h => (fa ev h).bind fun x h1 => .ok (.rt x) h1) := by
  refine PSm (ps_ret ha) fun D st H ⟨ev, m, h, re, rh, q⟩ => ?_
  exact tE_bind re rh q fun v x m1 H1 h1 g1 re1 rh1 rx p1 => p1.now rh1 _ rx
theorem ss_retn : PS X (.Return none pos) (tS K xi fun ev h => (Res.ok PV.non h).bind fun x h1 => .ok (.rt x) h1) :=
  PSm ps_retN fun D st H ⟨ev, m, h, re, rh, q⟩ => q.now rh _ .non
theorem ss_pass : PS X (.Pass pos) (tS K xi fun ev h => (Res.ok PV.non h).bind fun _ h1 => .ok (.nx ev) h1) :=
  PSm ps_pass fun D st H ⟨ev, m, h, re, rh, q⟩ => q.now rh _ re
theorem ss_doc {s : Str} {j : Nat} {p1 p2 : Pos} : PS X (.Expr (.Constant (.str s) j p1) p2) (tS K xi fun ev h => (Res.ok PV.non h).bind fun _ h1 => .ok (.nx ev) h1) :=
  PSm ps_doc fun D st H ⟨ev, m, h, re, rh, q⟩ => q.now rh _ re
/-- a, b = x, y -/
theorem ss_par {i j : Nat} {x y : Str} {px py pt pt2 : Pos} {kt k2 : Nat} (hc : X.calm = true) (hN : X.N.Nodup) (hi : X.N[i]? = some x) (hj : X.N[j]? = some y) (hij : i ≠ j)
    (hx : X.env.scope.names.lookup x = some .local) (hy : X.env.scope.names.lookup y = some .local) (hna : notStar a = true) (hnb : notStar b = true) (ha : PE X a (tE K xi fa)) (hb : PE X b (tE K xi fb))
    (hw : swappedStores [.Tuple [.Name x px, .Name y py] kt pt] (.Tuple [a, b] k2 pt2) X.env = pure (some [x, y])) :
    PS X (.Assign [.Tuple [.Name x px, .Name y py] kt pt] (.Tuple [a, b] k2 pt2) pos) (tS K xi fun ev h => (fa ev h).bind fun x h1 => (fb ev h1).bind fun y h2 => .ok (.nx ((ev.set i (some x)).set j (some y))) h2) := by
  refine PSm (ps_par hc hN hi hj hij hx hy (pa_cons ha (pa_cons hb pa_nil (star_cons hnb)) (star_cons hna)) hw rfl) fun D st H ⟨ev, m, h, re, rh, q⟩ => ?_
  refine tE_bind re rh q fun v x m1 H1 h1 g1 re1 rh1 rx p1 => ?_
  refine tE_bind re1 rh1 p1 fun w y m2 H2 h2 g2 re2 rh2 ry p2 => ?_
  exact ⟨v, w, rfl, p2.now rh2 _ ((re2.set i (rx.grow g2)).set j ry)⟩
theorem putF_at {m : List Addr} {H : Hp} {h : IH} {x y z : PV} {vx vy vz : V} {R : Unit → List Addr → Hp → Prop} {Q : Hp → Prop} (rh : RelH K m H h) (rx : Rep K m H vx x) (ry : Rep K m H vy y) (rz : Rep K m H vz z) (q : Post K xi m H (putF x y z h) R)
    (k : ∀ m' H', Grow m H m' H' → RelH K m' H' ((match putF x y z h with | .ok _ h' => h' | _ => h)) → R () m' H' → Q H') : rSetL vx vy vz H Q := by
  cases x <;> cases y <;> try exact q.elim
  rename_i r j
  cases rx with
  | ref hp =>
    cases ry
    unfold putF at q k
    dsimp only at q k
    cases eh : h[r]? with
    | none => rw [eh] at q; exact q.elim
    | some o =>
      cases o with
      | dct _ => rw [eh] at q; exact q.elim
      | lst xs =>
        rw [eh] at q k
        dsimp only at q k
        obtain ⟨vs, hv, rv⟩ := rh.at' r _ _ eh hp
        cases ex : ixN xs.length j with
        | none => rw [ex] at q; exact q.elim
        | some n =>
          rw [ex] at q k
          obtain ⟨rl, gl⟩ := rh.wrote eh hp (rv.set rz n)
          refine ⟨_, vs, j, n, rfl, rfl, hv, by rw [rv.length]; exact ex, ?_⟩
          exact k m _ gl rl (q m _ gl rl)
theorem putF_ok {m : List Addr} {H : Hp} {h : IH} {x y z : PV} {vx vy vz : V} {R : Fl → List Addr → Hp → Prop} {ev : Ev} {st : L2.St} {Q : Hp → Prop} (re : REnv K m H st ev) (rh : RelH K m H h) (rx : Rep K m H vx x) (ry : Rep K m H vy y) (rz : Rep K m H vz z)
    (q : Post K xi m H ((putF x y z h).bind fun _ h4 => .ok (.nx ev) h4) R) (k : ∀ m' H', REnv K m' H' st ev → R (.nx ev) m' H' → Q H') : rSetL vx vy vz H Q := by
  refine putF_at (R := fun _ m' H' => R (.nx ev) m' H') rh rx ry rz (q.bind fun _ h1 m1 H1 g1 rh1 p1 => p1.now rh1) fun m' H' g _ r => k m' H' (re.grow g) r
/-- o[i] = v -/
theorem ss_put {o i : Expr} {fo fi fv : Ev → IH → Res PV} {tpos : Pos} (hn : noComp e = true) (hi : plainIx i = true) (hv : PE X e (tE K xi fv)) (ho : PE X o (tE K xi fo)) (hi' : PE X i (tE K xi fi)) :
    PS X (.Assign [.Subscript o i tpos] e pos) (tS K xi fun ev h => (fv ev h).bind fun z h1 => (fo ev h1).bind fun x h2 => (fi ev h2).bind fun y h3 => (putF x y z h3).bind fun _ h4 => .ok (.nx ev) h4) := by
  refine PSm (ps_asg hv (pg_sub ho hi' set_list (by intro v; cases i <;> first | rfl | cases hi)) (by show swapsWith e (some (.Subscript o i tpos)) pos.line X.env = pure false; exact swaps_of hn _ _ _) swapped_sub rfl) fun D st H ⟨ev, m, h, re, rh, q⟩ => ?_
  refine tE_bind re rh q fun vz z m1 H1 h1 g1 re1 rh1 rz p1 => ?_
  refine tE_bind re1 rh1 p1 fun vx x m2 H2 h2 g2 re2 rh2 rx p2 => ?_
  refine tE_bind re2 rh2 p2 fun vy y m3 H3 h3 g3 re3 rh3 ry p3 => ?_
  exact putF_ok re3 rh3 (rx.grow g3) ry ((rz.grow g2).grow g3) p3 fun m' H' re' r => r st re'

def ipR : BOp → TIp
  | .add => fun x y H Q => rI0 (fun i j => .int (i + j)) x y H Q ∨ (∃ i j, x = .str i ∧ y = .str j ∧ i.length + j.length ≤ sizeLine ∧ Q (.str (i ++ j)) H)
  | .sub => rI0 fun i j => .int (i - j)
  | .mul => rI CMul fun i j => .int (i * j)
  | .fdiv => rI CDiv fun i j => .int (i / j)
  | .mod => rI (fun _ j => 0 < j) fun i j => .int (i % j)
  | .pow => fun _ _ _ _ => False
theorem ip_all (op : BOp) : PIp X (bopS op) (ipR op) := by
  cases op
  · exact OpR.or iop_add iop_add_str
  · exact iop_sub
  · exact iop_mul
  · exact iop_fdiv
  · exact iop_mod
  · intro _ _ _ _ _ _ _ _ _ _ _ _ h; exact h.elim
theorem ok_ip (op : BOp) (hp : op ≠ .pow) : OpOk K xi (augF op) (ipR op) := by
  cases op
  · intro m H h x y vx vy Q rh rx ry p
    cases x <;> cases y <;> try exact p.elim
    · rename_i i j
      cases rx; cases ry
      exact .inl ⟨i, j, rfl, rfl, p.now rh _ .int⟩
    · rename_i i j
      cases rx; cases ry
      obtain ⟨hl, p⟩ := Post.ite p
      exact .inr ⟨i, j, rfl, rfl, hl, p.now rh _ .str⟩
  · intro m H h x y vx vy Q rh rx ry p
    cases x <;> cases y <;> try exact p.elim
    cases rx; cases ry
    exact ⟨_, _, rfl, rfl, p.now rh _ .int⟩
  · intro m H h x y vx vy Q rh rx ry p
    cases x <;> cases y <;> try exact p.elim
    cases rx; cases ry
    obtain ⟨hb, p⟩ := Post.ite p
    rw [Bool.or_eq_true, big_iff, big_iff] at hb
    exact ⟨_, _, rfl, rfl, hb, p.now rh _ .int⟩
  · intro m H h x y vx vy Q rh rx ry p
    cases x <;> cases y <;> try exact p.elim
    cases rx; cases ry
    obtain ⟨hb, p⟩ := Post.ite p
    exact ⟨_, _, rfl, rfl, hb, p.now rh _ .int⟩
  · intro m H h x y vx vy Q rh rx ry p
    cases x <;> cases y <;> try exact p.elim
    cases rx; cases ry
    obtain ⟨hb, p⟩ := Post.ite p
    exact ⟨_, _, rfl, rfl, hb, p.now rh _ .int⟩
  · exact absurd rfl hp
/-- name op= e -/
theorem ss_augv {i : Nat} {x : Str} {op : BOp} {pos' : Pos} (hp : op ≠ .pow) (hN : X.N.Nodup) (hi : X.N[i]? = some x) (hx : Loc X.env.scope x) (hf : X.fn x = true ∨ X.env.scope.names.lookup x = some .local) (ha : PE X e (tE K xi fa)) :
    PS X (.AugAssign (.Name x pos') (bopS op) e pos) (tS K xi fun ev h => match ev[i]? with
      | some (some x) => (fa ev h).bind fun y h1 => (augF op x y h1).bind fun z h2 => .ok (.nx (ev.set i (some z))) h2
      | _ => .stuck) := by
  refine PSm (ps_aug hN hi hx ha (ip_all op) hf) fun D st H ⟨ev, m, h, re, rh, q⟩ => ?_
  dsimp only at q
  split at q
  · rename_i x' ex
    obtain ⟨v, h1, h2⟩ := re.at' i x' ex
    refine ⟨v, h1, tE_bind re rh q fun vy y m1 H1 h1 g1 re1 rh1 ry p1 => ?_⟩
    refine ok_ip (xi := xi) op hp m1 H1 h1 x' y v vy _ rh1 (h2.grow g1) ry (p1.bind fun z h2 m2 H2 g2 rh2 p2 w rw' => ?_)
    exact p2.now rh2 _ ((re1.grow g2).set i rw')
  · exact q.elim
theorem get_list : PGet X (rIxL X.K) := by
  intro pins s st H o i ov iv Q I ro ri h
  obtain ⟨p, xs, i, z, rfl, rfl, hq, he, q⟩ := h
  cases ro
  obtain ⟨t, rfl⟩ := ri
  obtain ⟨its, r, pl, hz⟩ := I.list hq
  obtain ⟨j, h1, h2, h3, h4, h5⟩ := atI_get he
  obtain ⟨w, ew, rw'⟩ := r.get h2
  have hl := r.length
  have hn := line63
  have fin : EP X pins st Q w s := ⟨z, H, I, rw', q⟩
  by_cases h0 : 0 ≤ i
  · have hj : i.toNat = j := by
      rw [seqIndex_of h0 h5] at h1
      exact Option.some.inj h1
    exact wpAny_getItem_list pl.isList h0 (by omega) (by rw [hj]; simpa using ew) fin
  · have hj : (i + (its.toArray.size : Int)).toNat = j := by
      rw [seqIndex_neg (by omega) h4] at h1
      rw [List.size_toArray, ← hl]
      exact Option.some.inj h1
    exact wpAny_getItem_list_neg pl.isList (by omega) (by rw [List.size_toArray] <;> omega) (by omega) (by rw [hj]; simpa using ew) fin
/-- ixF of a list that is written to -/
theorem ixF_list {m : List Addr} {H : Hp} {h : IH} {x y : PV} {vx vy : V} {Q : VK} {R : PV → List Addr → Hp → Prop} (rh : RelH K m H h) (rx : Rep K m H vx x) (ry : Rep K m H vy y) (hr : ∃ r, x = .ref r) (q : Post K xi m H (ixF x y h) R)
    (k : ∀ v z, Rep K m H v z → R z m H → Q v H) : rIxL K vx vy H Q := by
  obtain ⟨r, rfl⟩ := hr
  cases y <;> try exact q.elim
  rename_i j
  unfold ixF at q
  dsimp only at q
  cases e : rd h (.ref r) with
  | none => rw [e] at q; exact q.elim
  | some xs =>
    rw [e] at q
    dsimp only at q
    cases rx with
    | ref hp =>
      cases ry
      cases hy : h[r]? with
      | none => simp [rd, hy] at e
      | some o =>
        cases o with
        | dct _ => simp [rd, hy] at e
        | lst ys =>
          simp [rd, hy] at e
          subst e
          obtain ⟨vs, hv, rv⟩ := rh.at' r _ _ hy hp
          cases e2 : atI ys j with
          | none => rw [e2] at q; exact q.elim
          | some z =>
            rw [e2] at q
            obtain ⟨v, h1, h2⟩ := atI_rep rv e2
            exact ⟨_, vs, j, v, rfl, rfl, .inl (.inl hv), h1, k v z h2 (q.now rh)⟩
theorem put_ref {x y z : PV} {h : IH} (n : ∀ r, x ≠ .ref r) : putF x y z h = .stuck := by
  cases x <;> try rfl
  exact absurd rfl (n _)
/-- o[i] op= e -/
theorem ss_augp {o i : Expr} {fo fi fv : Ev → IH → Res PV} {op : BOp} {tpos : Pos} (hK : X.K = K) (hp : op ≠ .pow) (hi : plainIx i = true) (ho : PE X o (tE K xi0 fo)) (hi' : PE X i (tE K xi0 fi)) (hv : PE X e (tE K xi0 fv)) :
    PS X (.AugAssign (.Subscript o i tpos) (bopS op) e pos) (tS K xi0 fun ev h => (fo ev h).bind fun x h1 => match x with
      | .ref r => (fi ev h1).bind fun y h2 => (ixF (.ref r) y h2).bind fun old h3 => (fv ev h3).bind fun v h4 => (augF op old v h4).bind fun z h5 => (putF (.ref r) y z h5).bind fun _ h6 => .ok (.nx ev) h6
      | _ => .stuck) := by
  subst hK
  refine PSm (ps_augS ho hi' get_list hv (ip_all op) set_list (by intros; cases i <;> first | rfl | cases hi)) fun D st H ⟨ev, m, h, re, rh, q⟩ => ?_
  refine tE_bind re rh q fun vx x m1 H1 h1 g1 re1 rh1 rx p1 => ?_
  cases x <;> try exact p1.elim
  rename_i r
  refine tE_bind re1 rh1 p1 fun vy y m2 H2 h2 g2 re2 rh2 ry p2 => ?_
  refine ixF_list (xi := xi0) (R := fun old m' H' => ∃ h3, RelH X.K m' H' h3 ∧ Grow m2 H2 m' H' ∧ Post X.K xi0 m' H' ((fv ev h3).bind fun v h4 => (augF op old v h4).bind fun z h5 => (putF (.ref r) y z h5).bind fun _ h6 => .ok (.nx ev) h6) (toD X.K D)) rh2 (rx.grow g2) ry ⟨r, rfl⟩
    (p2.bind fun old h3 m3 H3 g3 rh3 p3 => ⟨h3, rh3, g3, p3⟩) fun vo old ro ⟨h3, rh3, _, p3⟩ => ?_
  refine tE_bind re2 rh3 p3 fun vv v m4 H4 h4 g4 re4 rh4 rv p4 => ?_
  refine ok_ip (xi := xi0) op hp m4 H4 h4 old v vo vv _ rh4 (ro.grow g4) rv (p4.bind fun z h5 m5 H5 g5 rh5 p5 w rw' => ?_)
  exact putF_ok (re4.grow g5) rh5 (((rx.grow g2).grow g4).grow g5) ((ry.grow g4).grow g5) rw' p5 fun m' H' re' r => r st re'
/-- o.append(e) -/
theorem ss_app {o : Expr} {fo : Ev → IH → Res PV} {apos cpos : Pos} (hn : notStar e = true) (hline : (apos.endLine == cpos.line) = true) (hbase : attributeBase o "append" X.env (eval o X.env) = eval o X.env) (ho : PE X o (tE K xi0 fo)) (ha : PE X e (tE K xi0 fa)) (hK : X.K = K) :
    PS X (.Expr (.Call (.Attribute o "append" apos) [e] [] cpos) pos) (tS K xi0 fun ev h => (fo ev h).bind fun x h1 => match x with
      | .ref r => (match h1[r]? with
        | some (.lst _) => (fa ev h1).bind fun y h2 => (appF (.ref r) y h2).bind fun _ h3 => .ok (.nx ev) h3
        | _ => .stuck)
      | _ => .stuck) := by
  subst hK
  refine PSm (ps_expr (pe_bm PySem.F.plainAttrs_list PySem.F.slot_list_append PySem.F.type_list_append mt_append ho (pa_cons ha pa_nil (star_cons hn)) hbase (by rw [star_cons hn]; rfl) hline (star_cons hn) rfl) rfl) fun D st H ⟨ev, m, h, re, rh, q⟩ => ?_
  refine tE_bind re rh q fun vx x m1 H1 h1 g1 re1 rh1 rx p1 => ?_
  cases x <;> try exact p1.elim
  rename_i r
  cases rx with
  | ref hp =>
    dsimp only at p1
    cases eh : h1[r]? with
    | none => rw [eh] at p1; exact p1.elim
    | some ob =>
      cases ob with
      | dct _ => rw [eh] at p1; exact p1.elim
      | lst xs =>
        rw [eh] at p1
        obtain ⟨vs, hv, _⟩ := rh1.at' r _ _ eh hp
        refine ⟨.inl ⟨rfl, vs, .inl (.inl hv)⟩, ?_⟩
        refine tE_bind re1 rh1 p1 fun vy y m2 H2 h2 g2 re2 rh2 ry p2 => ?_
        have hp2 := g2.at hp
        unfold appF at p2
        dsimp only at p2
        cases eh2 : h2[r]? with
        | none => rw [eh2] at p2; exact p2.elim
        | some ob =>
          cases ob with
          | dct _ => rw [eh2] at p2; exact p2.elim
          | lst ys =>
            rw [eh2] at p2
            dsimp only at p2
            obtain ⟨vs2, hv2, rv2⟩ := rh2.at' r _ _ eh2 hp2
            by_cases hl : ys.length < sizeLine
            · rw [if_pos hl] at p2
              obtain ⟨rl, gl⟩ := rh2.wrote eh2 hp2 (rv2.append (.cons ry .nil))
              refine ⟨_, vs2, vy, rfl, rfl, hv2, by rw [rv2.length]; exact hl, ?_⟩
              exact p2 m2 _ gl rl st (re2.grow gl)
            · rw [if_neg hl] at p2; exact p2.elim

/-! ### blocks, if, for, while -/
theorem sss_nil : PSs X [] (tS K xi fun ev h => .ok (.nx ev) h) := PSsm pss_nil fun D st H ⟨ev, m, h, re, rh, q⟩ => q.now rh _ re
theorem sss_cons {s : Stmt} {ss : List Stmt} {f g : Ev → IH → Res Fl} (h1 : PS X s (tS K xi f)) (h2 : PSs X ss (tS K xi g)) : PSs X (s :: ss) (tS K xi fun ev h => (f ev h).bind fun o h1 => match o with
    | .nx ev' => g ev' h1
    | .rt y => .ok (.rt y) h1) := by
  refine PSsm (pss_cons h1 h2) fun D st H ⟨ev, m, h, re, rh, q⟩ => ⟨ev, m, h, re, rh, q.bind fun o h1 m1 H1 g1 rh1 p1 => ?_⟩
  cases o with
  | nx ev' => exact fun st' re' => ⟨ev', m1, h1, re', rh1, p1⟩
  | rt x => exact fun v rv => p1.now rh1 v rv
theorem ss_if {as bs : List Stmt} {f g : Ev → IH → Res Fl} (hc : PT X c (tT K xi (bF fc))) (h1 : PSs X as (tS K xi f)) (h2 : PSs X bs (tS K xi g)) : PS X (.If c as bs pos) (tS K xi fun ev h => (fc ev h).bind fun x h1 => match x with
    | .bl true => f ev h1
    | .bl false => g ev h1
    | _ => .stuck) := by
  refine PSm (ps_if hc h1 h2) fun D st H ⟨ev, m, h, re, rh, q⟩ => ?_
  refine tT_of re rh q (fun x h1 n => ?_) fun t m1 H1 h1 g1 re1 rh1 p1 => ?_
  · cases x <;> try rfl
    exact absurd rfl (n _)
  · cases t with
    | true => exact ⟨ev, m1, h1, re1, rh1, p1⟩
    | false => exact ⟨ev, m1, h1, re1, rh1, p1⟩
theorem ss_for {iter : Expr} {body : List Stmt} {fi : Ev → IH → Res Src} {f : Ev → IH → Res Fl} (hp : PassesOwn (model X.prog X.w) X.A X.env X.xe) (hc : X.calm = true) (hns : noSet iter = true) (hi : PI X tg iter (tI K xi fi)) (hg : PG X tg (tG K tgt)) (hb : PSs X body (tS K xi f)) :
    PS X (.For tg iter body [] pos) (tS K xi fun ev h => (fi ev h).bind fun src h1 => forLoop src (forTurn tgt f) (src.fuel h1) 0 ev h1) := by
  refine PSm (ps_for hp hc hi hg hb (folded_of hns)) fun D st H ⟨ev, m, h, re, rh, q⟩ => ?_
  refine ⟨ev, m, h, re, rh, q.bind fun src h1 m1 H1 g1 rh1 p1 J itok => ?_⟩
  let W : Nat → Nat → L2.St → Hp → Prop := fun i n st2 H2 => ∃ ev2 mu h2, Grow m1 H1 mu H2 ∧ REnv K mu H2 st2 ev2 ∧ RelH K mu H2 h2 ∧ Post K xi m1 H1 (forLoop src (forTurn tgt f) n i ev2 h2) (toD K D)
  refine ⟨W, ⟨src.fuel h1, ev, m1, h1, Grow.refl _ _, re.grow g1, rh1, p1⟩, fun i n st2 H2 w => ?_⟩
  obtain ⟨ev2, mu, h2, g2, re2, rh2, p2⟩ := w
  cases n with
  | zero => exact p2.elim
  | succ n =>
    obtain ⟨stp, gon⟩ := itok mu H2 h2 i g2 rh2
    unfold forLoop at p2
    cases eg : src.get h2 i with
    | none => rw [eg] at p2; exact p2.elim
    | some o =>
      rw [eg] at p2
      cases o with
      | none => exact .inl ⟨stp eg, p2 _ _ g2 rh2 _ re2⟩
      | some x =>
        obtain ⟨go, yl⟩ := gon x eg
        dsimp only at p2
        unfold forTurn at p2
        cases eb : bindT tgt x h2 ev2 with
        | none => rw [eb] at p2; exact p2.elim
        | some ev3 =>
          rw [eb] at p2
          dsimp only at p2
          refine .inr ⟨go, W (i + 1) n, fun st' H' w => ⟨n, Nat.lt_succ_self n, w⟩, fun v H3 y => ?_⟩
          obtain ⟨g3, rh3, rx⟩ := yl v H3 y
          refine ⟨ev2, mu, h2, x, ev3, re2.grow g3, rh3, rx, eb, fun st' re' _ => ⟨ev3, mu, h2, re', rh3, ?_⟩⟩
          cases e4 : f ev3 h2 with
          | stuck => rw [e4] at p2; exact p2.elim
          | exc c fs h4 =>
            rw [e4] at p2
            exact fun m4 H4 g4 rh4 => p2 m4 H4 ((g2.trans g3).trans g4) rh4
          | ok o h4 =>
            rw [e4, Res.bind_ok] at p2
            intro m4 H4 g4 rh4
            cases o with
            | nx ev4 => exact fun st4 re4 => ⟨ev4, m4, h4, (g2.trans g3).trans g4, re4, rh4, p2⟩
            | rt z => exact p2 m4 H4 ((g2.trans g3).trans g4) rh4
theorem ss_whl {body : List Stmt} {f : Ev → IH → Res Fl} (hp : PassesOwn (model X.prog X.w) X.A X.env X.xe) (hc : PT X c (tT K xi (bF fc))) (hb : PSs X body (tS K xi f)) (N : Nat) :
    PS X (.While c body [] pos) (tS K xi fun ev h => whlLoop fc f N ev h) := by
  refine PSm (ps_while hp hc hb) fun D st H ⟨ev, m, h, re, rh, q⟩ => ?_
  let W : Nat → L2.St → Hp → Prop := fun n st2 H2 => ∃ ev2 mu h2, Grow m H mu H2 ∧ REnv K mu H2 st2 ev2 ∧ RelH K mu H2 h2 ∧ Post K xi m H (whlLoop fc f n ev2 h2) (toD K D)
  refine ⟨W, ⟨N, ev, m, h, Grow.refl _ _, re, rh, q⟩, fun n st2 H2 w => ?_⟩
  obtain ⟨ev2, mu, h2, g2, re2, rh2, p2⟩ := w
  cases n with
  | zero => exact p2.elim
  | succ n =>
    unfold whlLoop at p2
    refine ⟨ev2, mu, h2, re2, rh2, ?_⟩
    unfold bF
    cases e3 : fc ev2 h2 with
    | stuck => rw [e3] at p2; exact p2.elim
    | exc c fs h4 =>
      rw [e3] at p2
      exact fun m4 H4 g4 rh4 => p2 m4 H4 (g2.trans g4) rh4
    | ok b h3 =>
      rw [e3, Res.bind_ok] at p2
      cases b <;> try exact p2.elim
      rename_i b
      rw [Res.bind_ok]
      intro m3 H3 g3 rh3
      cases b with
      | false =>
        rw [if_neg Bool.false_ne_true]
        exact p2 m3 H3 (g2.trans g3) rh3 _ (re2.grow g3)
      | true =>
        rw [if_pos rfl]
        refine ⟨W n, fun st' H' w => ⟨n, Nat.lt_succ_self n, w⟩, ev2, m3, h3, re2.grow g3, rh3, ?_⟩
        dsimp only at p2
        cases e4 : f ev2 h3 with
        | stuck => rw [e4] at p2; exact p2.elim
        | exc c fs h4 =>
          rw [e4] at p2
          exact fun m4 H4 g4 rh4 => p2 m4 H4 ((g2.trans g3).trans g4) rh4
        | ok o h4 =>
          rw [e4, Res.bind_ok] at p2
          intro m4 H4 g4 rh4
          cases o with
          | nx ev4 => exact fun st4 re4 => ⟨ev4, m4, h4, (g2.trans g3).trans g4, re4, rh4, p2⟩
          | rt z => exact p2 m4 H4 ((g2.trans g3).trans g4) rh4
end
end Vm

set_option Elab.async false
set_option linter.all false
set_option maxRecDepth 100000
set_option maxHeartbeats 8000000
/-! VmP: set(list of ints), sorted of it; the least of a list of pairs. -/
namespace Vm
open PySem PySem.Spec PyProof.Rows L2

/-! ### set(xs) of a list of ints -/
/-- an empty set, as it is made -/
abbrev noneIn (w : World) : Obj := { cls := .type "set", dict := none, data := .set #[] 0 (.fresh 0 0 (!w.params.followText "set-order")) }
section
variable {P : Program} {w : World} {A : Around} {E : Value → Shared → Prop} {s : Shared}
theorem set_listI {l : Addr} {us : Array Value} (ns : List Int) {Q : Value → Shared → Prop} (hh : A.handled = none) (hl : s.heap.IsList l us) (hi : IntsAre us.toList ns) (hb : ns.length + 1 < scanBound)
    (q : ∀ (g : Heap) (tk c : Nat), SetR w g s.heap.objs.size (fun j => decide (j ∈ ns)) c → c ≤ ns.length → (∀ b o, s.heap.get? b = some o → g.get? b = some o) → Q (.ref s.heap.objs.size) { s with heap := g, toks := tk }) :
    wpAny (model P w) A (call (.type "set") [.ref l]) Q E s := by
  have hn : us.size = ns.length := by have z := hi.length; rwa [Array.length_toList] at z
  obtain ⟨c0, tl, m1⟩ := PySem.F.called_set.mro
  have m2 := PySem.F.called_set.made
  have m3 := PySem.F.called_set.sub
  refine wpAny_call (codeAny_of_tree ?_)
  show wpAny _ _ (callAny (.type "set") _) _ _ _
  refine wpAny_pure ⟨Code.quiet_builtin _ (by decide +kernel), codeAny_builtin PySem.F.entry_type_call ?_⟩
  rw [Around.under_plain (weight_type_call_type "set" [.ref l] []) rfl]
  have m4 := PySem.F.called_set.notType
  have m5 := PySem.F.called_set.canCreate
  have m6 := PySem.F.typeCall_set_1 (.ref l)
  repeat (any_goals (first | assumption | wp_step))
  refine codeAny_mono (code_set_led1 (.ref l) (E := E) (Q₁ := fun x t => x = .ref s.heap.objs.size ∧ t = { s with heap := s.heap.push (noneIn w) }) ⟨rfl, rfl⟩) fun r t hr => ?_
  rcases r with e | fl
  · exact hr
  cases fl <;> try exact hr.elim
  obtain ⟨rfl, rfl⟩ := hr
  generalize hg0 : s.heap.push (noneIn w) = g0
  have z0 : g0.objs.size = s.heap.objs.size + 1 := by rw [← hg0]; exact Heap.size_push ..
  have oS : g0.get? s.heap.objs.size = some (noneIn w) := by rw [← hg0]; exact Heap.get?_push_size _ rfl
  have k0 : ∀ b o, s.heap.get? b = some o → g0.get? b = some o := fun b o e => by rw [← hg0]; exact Heap.get?_push_of_some _ e
  have tS : Shared.TypeIs { s with heap := g0 } (.ref s.heap.objs.size) "set" := ⟨_, oS, rfl⟩
  have m7 := PySem.F.called_set.init.lookup
  have m8 := PySem.F.called_set.init.bind (.ref s.heap.objs.size)
  repeat (any_goals (first | assumption | wp_step))
  refine codeAny_mono (codeAny_call_builtin (R := wants (fun r t => r = .none ∧ ∃ g tk c, t = { s with heap := g, toks := tk } ∧ SetR w g s.heap.objs.size (fun j => decide (j ∈ ns)) c ∧ c ≤ ns.length ∧ (∀ b o, s.heap.get? b = some o → g.get? b = some o)) E)
    PySem.F.called_set.init.plain PySem.F.entry_set_init (check_set_init_1 tS ?_)) fun r t hr => ?_
  · obtain ⟨⟨c1, d1, e1, f1⟩, o1, h1, n1, h2⟩ := hl
    simp only at h1 h2
    subst h1 h2
    have o2 := k0 _ _ o1
    have b1 := PySem.F.sub_list_set
    have b2 := PySem.F.sub_list_frozenset
    have b3 : (Value.type "list" == Value.type "dict") = false := by decide
    have l0 : g0.IsList l us := ⟨_, o2, rfl, n1, rfl⟩
    have lS := Heap.lt_size o1
    unfold Builtin.«set.__init__» noKeywords Builtin.Frozenset.updateFrom
    generalize hw : pyIter = walk
    wp_walk
    subst hw
    refine wpAny_pyIter_list l0 (wpAny_bind (wpAny_runValue ?_))
    have nI : l ≠ g0.objs.size := by (rw [z0]; exact Nat.ne_of_lt (Nat.lt_succ_of_lt lS))
    have nS : s.heap.objs.size ∉ [g0.objs.size, l] := by
      intro z
      rcases List.mem_cons.mp z with z | z
      · exact Nat.ne_of_lt (by rw [z0]; exact Nat.lt_succ_self _) z
      · exact Nat.ne_of_gt lS (List.mem_singleton.mp z)
    refine set_update_ints ((Walks.list (by simp [hh]) _ l nI us).toS) s.heap.objs.size nS ns hn hb (fun i v hv => ?_) (us.size - 0) 0 _ (by omega) (Nat.zero_le _) ⟨⟨_, Heap.get?_push_size _ rfl, rfl, rfl⟩, l0.push _⟩ ?_ ?_
    · obtain ⟨t, e⟩ := PyProof.Rows.IntsAre.int_at hi i v (by rw [Array.getElem?_toList]; exact hv)
      have lt : i < ns.length := by rw [← hn]; exact (Array.getElem?_eq_some_iff.mp hv).1
      refine ⟨ns[i], t, List.getElem?_eq_getElem lt, ?_⟩
      rw [e, List.getD_eq_getElem?_getD, List.getElem?_eq_getElem lt] <;> rfl
    · exact ⟨0, Nat.le_refl 0, setR_new_at (Heap.get?_push_of_some _ oS)⟩
    · rintro ⟨g, ge, dr, tk, os⟩ c mv hc hR
      obtain rfl : ge = s.gens := mv.gens
      obtain rfl : dr = s.drawn := mv.drawn
      obtain rfl : os = s.os := mv.os
      show wpAny _ _ _ _ _ _
      refine wpAny_pure ?_
      show wpAny _ _ (ret Value.none) _ _ _
      refine wpAny_pure ⟨rfl, g, tk, c, rfl, hR, by omega, fun b o e => mv.heap b o (fun z => ?_) (Heap.get?_push_of_some _ (k0 b o e))⟩
      have lb := Heap.lt_size e
      rcases List.mem_cons.mp z with z | z
      · exact Nat.ne_of_lt lb z
      · exact Nat.ne_of_lt (by rw [z0]; exact Nat.lt_succ_of_lt lb) (List.mem_singleton.mp z)
  · rcases r with e | fl
    · exact hr
    cases fl <;> try exact hr.elim
    obtain ⟨rfl, g, tk, c, rfl, hR, hc, hk⟩ := hr
    repeat (any_goals (first | assumption | wp_step))
    exact q _ _ _ hR hc hk
end
section
variable {X : Cx}
def rSetL (K : PySem.W.Frag) (w : World) : List V → Hp → VK → Prop := fun vs H Q => ∃ (a : Addr) (ns : List Int), vs = [V.ref a] ∧ (SqL K H a (ns.map V.int) ∨ SqT K H a (ns.map V.int)) ∧ ns.length + 1 < scanBound ∧
  ∀ (p : Addr) (c : Nat), c ≤ ns.length → H p = none → Q (.ref p) (upd H p (SetO w p (fun j => decide (j ∈ ns)) c))
theorem cr_setL (hc : X.calm = true) : CallR X (.type "set") (rSetL X.K X.w) := by
  intro pins s st H vs us Q I r h
  obtain ⟨a, ns, rfl, hs, hb, q⟩ := h
  rw [Vals.ref1 r]
  rcases hs with hs | hs
  · obtain ⟨its, rv, hl, _⟩ := I.list hs
    refine set_listI ns (I.ok.hd hc) hl.isList (by simpa using rv.ints) hb fun g tk c R hc' hk => ?_
    exact ⟨.ref _, _, I.laid (t' := tk) (o := SetO X.w s.heap.objs.size (fun j => decide (j ∈ ns)) c) hk (Nat.le_refl _) (setO_new R), rfl, q _ c hc' (I.hok.fresh (Nat.le_refl _))⟩
  · obtain ⟨its, rv, hl, _⟩ := I.tuple hs
    refine call_set_tupI ns (I.ok.hd hc) hl (by simpa using rv.ints) hb fun g tk c R hc' hk => ?_
    exact ⟨.ref _, _, I.laid (t' := tk) (o := SetO X.w s.heap.objs.size (fun j => decide (j ∈ ns)) c) hk (Nat.le_refl _) (setO_new R), rfl, q _ c hc' (I.hok.fresh (Nat.le_refl _))⟩
end
end Vm

set_option Elab.async false
set_option linter.all false
set_option maxRecDepth 100000
set_option maxHeartbeats 4000000
/-! VmK: further calls: list(range(n)), t[:n].count(x), sorted(set(xs)), min of pairs. -/
namespace Vm
open PySem PySem.Spec PyProof.Rows L2

/-! ### list(range(n)) -/
section
variable {K : PySem.W.Frag}
/-- what is read as ints -/
theorem ints_at {m : List Addr} {H : Hp} {h : IH} {x : PV} {v : V} {ns : List Int} (rh : RelH K m H h) (r : Rep K m H v x) (e : (rd h x).bind intsOf = some ns) : ∃ p, v = .ref p ∧ (SqL K H p (ns.map V.int) ∨ SqT K H p (ns.map V.int)) := by
  cases e1 : rd h x with
  | none => rw [e1] at e; cases e
  | some xs =>
    rw [e1] at e
    obtain ⟨a, vs, rfl, hs, rv⟩ := rd_ok rh r e1
    have e2 := intsOf_eq (show intsOf xs = some ns from e)
    subst e2
    rw [rv.ints] at hs
    exact ⟨a, rfl, hs⟩
end
theorem reps_rng {K : PySem.W.Frag} {m : List Addr} {H : Hp} (n : Int) : Reps K m H (rgV 0 n) (rngs 0 n.toNat) := by
  have e1 : rgV 0 n = ((List.range n.toNat).map fun (i : Nat) => (0 + (i : Int))).map V.int := by
    unfold rgV
    rw [List.map_map, Int.sub_zero]
    rfl
  have e2 : rngs 0 n.toNat = ((List.range n.toNat).map fun (i : Nat) => (0 + (i : Int))).map PV.int := by
    unfold rngs
    rw [List.map_map]
    rfl
  rw [e1, e2]
  exact Reps.ofInts _
section
variable {X : Cx} {xi : XI} {a b e : Expr} {fa fb fe : Ev → IH → Res PV} {p p2 pos cpos apos : Pos}
theorem se_lrng (hc : X.calm = true) (hg : Gl X "list") (hm : X.mg "list" = none) (hg2 : Gl X "range") (hm2 : X.mg "range" = none) (hn : notStar a = true) (ha : PE X a (tE X.K xi fa)) :
    PE X (.Call (.Name "list" p) [.Call (.Name "range" p2) [a] [] cpos] [] pos) (tE X.K xi fun ev h => (fa ev h).bind fun x h1 => lrngF x h1) := by
  refine PEm (pe_listRg hc hg hm (prg_1 hg2 hm2 ha (star_cons hn)) rfl) fun st H Q ⟨ev, m, h, re, rh, q⟩ => ?_
  refine tE_bind re rh q fun v x m1 H1 h1 g1 re1 rh1 rx p1 => ?_
  cases x <;> try exact p1.elim
  rename_i n
  cases rx
  obtain ⟨hb, p1⟩ := Post.ite p1
  refine ⟨n, rfl, ⟨by decide, by decide, hb.1, hb.2.1, by rw [Int.sub_zero]; exact hb.2.2⟩, (new_at rh1 (reps_rng n) p1).2⟩

/-! ### t[:n].count(k), of ints -/
theorem countP_eqU {k : Int} : ∀ {ns : List Int} {us : List Value}, Vals (ns.map V.int) us → us.countP (eqU (.int k)) = ns.count k
  | [], _, .nil => rfl
  | n :: ns, _, .cons r t => by
    obtain ⟨tk, rfl⟩ := r
    rw [List.countP_cons, countP_eqU t, List.count_cons]
    show _ + (if (n == k) = true then 1 else 0) = _
    rfl
theorem se_scnt (hn : notStar e = true) (hline : (apos.endLine == cpos.line) = true) (ha : PE X a (tE X.K xi fa)) (hb : PE X b (tE X.K xi fb)) (he : PE X e (tE X.K xi fe)) {p3 : Pos} :
    PE X (.Call (.Attribute (.Subscript a (.Slice none (some b) none p2) p3) "count" apos) [e] [] cpos) (tE X.K xi fun ev h => (fa ev h).bind fun x h1 => (fb ev h1).bind fun u h2 => scntG fe ev x u h2) := by
  refine ⟨fun pins s st H Q I ⟨ev, m, h, re, rh, q⟩ => ?_⟩
  refine wpAny_Call_method_late rfl (by rw [star_cons hn]; rfl) hline rfl ?_
  refine Subscript_ (thn (ha.run pins s st H _ I (tE_bind re rh q fun v x m1 H1 h1 g1 re1 rh1 rx p1 => (⟨m1, h1, x, re1, rh1, rx, p1⟩ : ∃ m1 h1 x, REnv X.K m1 H1 st ev ∧ RelH X.K m1 H1 h1 ∧ Rep X.K m1 H1 v x ∧
    Post X.K xi m1 H1 ((fb ev h1).bind fun u h2 => scntG fe ev x u h2) fun x m' H' => ∀ v, Rep X.K m' H' v x → Q v H'))) fun v s1 ⟨x, H1, I1, r1, m1, h1, xp, re1, rh1, rx, p1⟩ => ?_)
  refine wpAny_Slice ?_
  rw [evalPart_none]
  refine wpAny_pure ?_
  have pb : PO X (some b) (tPart (tE X.K xi fb)) := po_some hb
  refine thn (pb.run pins s1 st H1 (fun o H2 => ∃ n m2 h2, o = some n ∧ REnv X.K m2 H2 st ev ∧ RelH X.K m2 H2 h2 ∧ Rep X.K m2 H2 x xp ∧ Post X.K xi m2 H2 (scntG fe ev xp (.int n) h2) fun x m' H' => ∀ v, Rep X.K m' H' v x → Q v H') I1 (tE_bind re1 rh1 p1 fun w u m2 H2 h2 g2 re2 rh2 ru p2 => ?_)) fun vu s2 ⟨o, H2, I2, pu, n, m2, h2, eo, re2, rh2, rx2, p2⟩ => ?_
  · cases u <;> try (cases xp <;> exact p2.elim)
    rename_i n
    cases ru
    exact ⟨n, rfl, n, m2, h2, rfl, re2, rh2, rx.grow g2, p2⟩
  subst eo
  obtain ⟨xs, rfl⟩ : ∃ xs, xp = .tup xs := by cases xp <;> first | exact ⟨_, rfl⟩ | exact p2.elim
  obtain ⟨hw, p2⟩ := Post.ite p2
  obtain ⟨ad, vs, rfl, hs, rv⟩ := tup_at rx2
  cases r1
  refine wpAny_pure ?_
  have I3 : L2.Inv X pins st H2 { s2 with heap := s2.heap.push { cls := .type "slice", data := .fields #[.none, vu, .none] } } := I2.kept (t' := s2.toks) fun b ob q => Heap.get?_push_of_some _ q
  obtain ⟨its, r, ht, hz⟩ := I3.tuple hs
  have hlen : its.toArray.size = xs.length := by rw [List.size_toArray, ← r.length, rv.length]
  refine tail_any (ops := [.ref s2.heap.objs.size, .ref ad]) ht.typeIs PyProof.Rows.slot_tuple_getitem.lookup ?_ (by with_unfolding_all rfl)
  refine HT.getItem_tuple_cut ht (Heap.IsSliceOf.new ..) .none pu (by rw [hlen]; exact fun z => hw z.2) ?_ (by rw [hlen, ← rv.length]; exact hz)
  dsimp only
  generalize hT : (s2.heap.push { cls := .type "slice", data := .fields #[.none, vu, .none] }).objs.size = T
  generalize hcut : ((its.toArray.toList.drop (HT.sIx its.toArray.size 0 none)).take (HT.sIx its.toArray.size its.toArray.size (some n) - HT.sIx its.toArray.size 0 none)) = cut
  have oT : ((s2.heap.push { cls := .type "slice", data := .fields #[.none, vu, .none] }).push { cls := .type "tuple", data := .seq cut.toArray }).get? T = some { cls := .type "tuple", data := .seq cut.toArray } := by
    rw [← hT]
    exact Heap.get?_push_size _ rfl
  have hcutV : Vals (vs.take (HT.sIx xs.length xs.length (some n))) cut := by
    rw [← hcut, hlen, HT.sIx_none]
    have := (r.drop 0).take (HT.sIx xs.length xs.length (some n) - 0)
    simpa using this
  have hlc : (vs.take (HT.sIx xs.length xs.length (some n))).length ≤ sizeLine := Nat.le_trans (by rw [List.length_take]; exact Nat.min_le_right _ _) hz
  have hTn : H2 T = none := by rw [← hT]; exact I3.hok.fresh (Nat.le_refl _)
  have I4 : L2.Inv X pins st (upd H2 T (.tup (vs.take (HT.sIx xs.length xs.length (some n))))) { s2 with heap := (s2.heap.push { cls := .type "slice", data := .fields #[.none, vu, .none] }).push { cls := .type "tuple", data := .seq cut.toArray } } := by
    rw [← hT]
    exact I3.laid (t' := s2.toks) (fun b ob q => Heap.get?_push_of_some _ q) (Nat.le_refl _) ⟨hlc, cut, hcutV, IsTup.new _ _⟩
  refine ⟨"tuple", "tuple.count", PySem.F.plainAttrs_tuple, PySem.F.slot_tuple_count, PySem.F.type_tuple_count, ⟨_, oT, rfl⟩, fun b hb => ?_, ?_⟩
  · cases hb
    exact ⟨_, oT, rfl⟩
  have g3 : Grow m2 H2 m2 (upd H2 T (.tup (vs.take (HT.sIx xs.length xs.length (some n))))) := Grow.junk hTn
  have hA := (pa_cons he pa_nil (star_cons hn)).run cpos pins _ st _ (fun ys H5 => ∃ y m5 h5 vy, ys = [vy] ∧ RelH X.K m5 H5 h5 ∧ Rep X.K m5 H5 vy y ∧ H5 T = some (.tup (vs.take (HT.sIx xs.length xs.length (some n)))) ∧ Post X.K xi m5 H5 (scntF (.tup xs) (.int n) y h5) fun x m' H' => ∀ v, Rep X.K m' H' v x → Q v H') I4
    (tE_bind (re2.grow g3) (rh2.junk hTn) (Post.grow g3 p2) fun w y m5 H5 h5 g5 re5 rh5 ry p5 => ⟨y, m5, h5, w, rfl, rh5, ry, g5.kp.tup _ _ upd_same, p5⟩)
  rw [star_cons hn] at hA ⊢
  refine Calls.callWith_builtin rfl (Calls.evalArgs_plain (thn hA fun us s5 ⟨ys, H5, I5, r5, y, m5, h5, vy, ey, rh5, ry, eT, p5⟩ => ?_))
  subst ey
  obtain ⟨uy, rfl, ruy⟩ := vals1 r5
  cases y <;> try exact p5.elim
  rename_i k
  cases ry
  obtain ⟨tk, rfl⟩ := ruy
  unfold scntF at p5
  dsimp only at p5
  cases ei : intsOf xs with
  | none => rw [ei] at p5; exact p5.elim
  | some ns =>
    rw [ei] at p5
    dsimp only at p5
    obtain ⟨_, p5⟩ := Post.ite p5
    obtain ⟨hz5, its5, rv5, o5, ho5, hc5, n5, hd5⟩ := I5.hok T _ eT
    obtain ⟨cls, dd, data, sl⟩ := o5
    simp only at hc5 hd5
    subst hc5 hd5
    have e1 := intsOf_eq ei
    subst e1
    have e2 := rv.ints
    subst e2
    rw [← List.map_take] at rv5
    refine call_meets PySem.F.slot_tuple_count ⟨_, ho5, rfl⟩ PySem.F.entry_tuple_count (PySem.F.args_tuple_count_2 _ _) (SeqAt.tuple_countAt T its5.toArray n5 dd sl (.int k tk) (eqU (.int k))) ⟨ho5, fun y hy => ?_, ?_⟩
    · exact mem_eqAt (x := .int k) ⟨tk, rfl⟩ rfl rv5 (List.all_eq_true.mpr fun z hz => by
        obtain ⟨i, _, rfl⟩ := List.mem_map.mp hz
        rfl) y (by simpa using hy)
    · refine ⟨.int _, H5, I5.tok _, ⟨_, rfl⟩, ?_⟩
      rw [show (its5.toArray.toList.countP (eqU (.int k))) = _ from countP_eqU rv5]
      exact p5.now rh5 _ .int
end

/-! ### sorted(set(xs)) -/
theorem insS_mem {k j : Int} : ∀ {xs : List Int}, j ∈ insS k xs ↔ j = k ∨ j ∈ xs
  | [] => by simp [insS]
  | x :: xs => by
    unfold insS
    split
    · simp
    · split
      · rename_i e
        subst e
        simp
      · rw [List.mem_cons, insS_mem (xs := xs), List.mem_cons]
        constructor
        · rintro (h | h | h) <;> simp [h]
        · rintro (h | h | h) <;> simp [h]
theorem insS_asc {k : Int} : ∀ {xs : List Int}, xs.Pairwise (· < ·) → (insS k xs).Pairwise (· < ·)
  | [], _ => by simp [insS]
  | x :: xs, h => by
    obtain ⟨h1, h2⟩ := List.pairwise_cons.mp h
    unfold insS
    split
    · rename_i e
      refine List.pairwise_cons.mpr ⟨fun y hy => ?_, h⟩
      rcases List.mem_cons.mp hy with rfl | hy
      · exact e
      · have := h1 y hy; omega
    · split
      · exact h
      · refine List.pairwise_cons.mpr ⟨fun y hy => ?_, insS_asc h2⟩
        rcases insS_mem.mp hy with rfl | hy
        · omega
        · exact h1 y hy
theorem ssetL_mem {j : Int} : ∀ {ns : List Int}, j ∈ ssetL ns ↔ j ∈ ns
  | [] => by simp [ssetL]
  | n :: ns => by
    show j ∈ insS n (ssetL ns) ↔ _
    rw [insS_mem, ssetL_mem, List.mem_cons]
theorem ssetL_asc : ∀ {ns : List Int}, (ssetL ns).Pairwise (· < ·)
  | [] => by simp [ssetL]
  | n :: ns => insS_asc ssetL_asc
theorem asc_one : ∀ {xs ys : List Int}, xs.Pairwise (· < ·) → ys.Pairwise (· < ·) → (∀ k, k ∈ xs ↔ k ∈ ys) → xs = ys
  | [], [], _, _, _ => rfl
  | [], y :: ys, _, _, h => by
    have := (h y).mpr List.mem_cons_self
    cases this
  | x :: xs, [], _, _, h => by
    have := (h x).mp List.mem_cons_self
    cases this
  | x :: xs, y :: ys, hx, hy, h => by
    obtain ⟨a1, a2⟩ := List.pairwise_cons.mp hx
    obtain ⟨b1, b2⟩ := List.pairwise_cons.mp hy
    have e : x = y := by
      rcases List.mem_cons.mp ((h x).mp List.mem_cons_self) with e | e
      · exact e
      · rcases List.mem_cons.mp ((h y).mpr List.mem_cons_self) with e2 | e2
        · exact e2.symm
        · have := a1 y e2
          have := b1 x e
          omega
    subst e
    rw [asc_one a2 b2 fun k => ?_]
    have hk := h k
    rw [List.mem_cons, List.mem_cons] at hk
    constructor
    · intro m
      rcases hk.mp (.inr m) with e | m2
      · have := a1 k m; omega
      · exact m2
    · intro m
      rcases hk.mpr (.inr m) with e | m2
      · have := b1 k m; omega
      · exact m2
section
variable {X : Cx} {xi : XI} {a : Expr} {fa : Ev → IH → Res PV} {p p2 pos cpos : Pos}
theorem se_sset (hc : X.calm = true) (hg : Gl X "sorted") (hm : X.mg "sorted" = none) (hg2 : Gl X "set") (hm2 : X.mg "set" = none) (hn : notStar a = true) (ha : PE X a (tE X.K xi fa)) :
    PE X (.Call (.Name "sorted" p) [.Call (.Name "set" p2) [a] [] cpos] [] pos) (tE X.K xi fun ev h => (fa ev h).bind fun x h1 => ssetF x h1) := by
  have inner := pe_callTy (pos := cpos) (p := p2) (cr_setL hc) hg2 hm2 (by rfl) (pa_cons ha pa_nil (star_cons hn)) (by decide) (by decide) (star_cons hn) (plain_of (es := []) rfl)
  have outer := pe_callB (pos := pos) (p := p) (cr_sortedSet hc) hg hm (by rfl) (pa_cons inner pa_nil (star_cons rfl)) (by decide) (by decide) (star_cons rfl) (plain_of (es := []) rfl)
  refine PEm outer fun st H Q ⟨ev, m, h, re, rh, q⟩ => ?_
  refine tE_bind re rh q fun v x m1 H1 h1 g1 re1 rh1 rx p1 => ?_
  unfold ssetF at p1
  cases e : (rd h1 x).bind intsOf with
  | none => rw [e] at p1; exact p1.elim
  | some ns =>
    rw [e] at p1
    obtain ⟨hl, p1⟩ := Post.ite p1
    obtain ⟨b, rfl, hs⟩ := ints_at rh1 rx e
    refine ⟨b, ns, rfl, hs, by unfold scanBound; omega, fun l c hcn hl1 => ⟨l, _, c, rfl, upd_same, by omega, fun ns' l2 asc mem len hl2 => ?_⟩⟩
    have es : ns' = ssetL ns := asc_one asc ssetL_asc fun k => by
      rw [mem k, ssetL_mem]
      simp
    subst es
    obtain ⟨r, g⟩ := RelH.laid (rh1.junk hl1) hl2 (Reps.ofInts (ssetL ns))
    have ne : l2 ≠ l := fun z => by rw [z, upd_same] at hl2; cases hl2
    have hl2' := hl2
    exact (new_at (rh1.junk hl1) (Reps.ofInts (ssetL ns)) (Post.grow (Grow.junk hl1) p1)).2 l2 hl2
end

/-! ### isinstance(x, int) -/
theorem kit_all (t : Ty) : ∀ a ∈ (["NoneType", "bool", "int", "str", "tuple", "list", "dict"] : List String), kitB a t.word = some (decide (a = t.word) || (decide (a = "bool") && decide (t = .int))) := by
  cases t <;> decide +kernel
theorem tyOf_mem {h : IH} {x : PV} {a : String} (e : tyOf h x = some a) : a ∈ (["NoneType", "bool", "int", "str", "tuple", "list", "dict"] : List String) := by
  cases x with
  | ref i =>
    cases hy : h[i]? with
    | none => simp [tyOf, hy] at e
    | some u => cases u <;> (simp [tyOf, hy] at e; subst e; decide)
  | _ => cases e; decide
theorem ty_of {K : PySem.W.Frag} {m : List Addr} {H : Hp} {h : IH} {x : PV} {v : V} {a : String} (rh : RelH K m H h) (r : Rep K m H v x) (e : tyOf h x = some a) : TyX K H v (.type a) := by
  cases x with
  | non => cases r; cases e; exact .base .non
  | bl b => cases r; cases e; exact .base (.bl _)
  | int i => cases r; cases e; exact .base (.int _)
  | str i => cases r; cases e; exact .base (.str _)
  | tup xs =>
    cases e
    cases r with
    | tup h1 h2 =>
      rcases h1 with (h1 | ⟨o, h1⟩) | ⟨o, its, n, h1, hc, _⟩
      · exact .base (.tup h1)
      · exact .fTuple h1
      · exact .kTuple h1 hc
  | fl xs =>
    cases e
    cases r with
    | fl h1 h2 =>
      rcases h1 with ⟨o, h1⟩ | ⟨o, its, n, h1, hc, _⟩
      · exact .base (.frz h1)
      · exact .kList h1 hc
  | ref i =>
    cases r with
    | ref hp =>
      cases hy : h[i]? with
      | none => simp [tyOf, hy] at e
      | some u =>
        have q := rh.at' i _ _ hy hp
        cases u with
        | lst ys =>
          simp [tyOf, hy] at e
          subst e
          obtain ⟨vs, h1, _⟩ := q
          exact .base (.lst h1)
        | dct ys =>
          simp [tyOf, hy] at e
          subst e
          obtain ⟨ws, h1, _⟩ := q
          exact .base (.dK h1)
def Ty.name : Ty → Str
  | .int => "int" | .bool => "bool" | .str => "str" | .tuple => "tuple" | .list => "list"
theorem Ty.boot (t : Ty) : bootBuiltins t.name = some (.type t.word) := by cases t <;> decide +kernel
section
variable {X : Cx} {xi : XI} {a : Expr} {fa : Ev → IH → Res PV} {p p2 pos : Pos}
theorem se_isin (t : Ty) (hg : Gl X "isinstance") (hm : X.mg "isinstance" = none) (hg2 : Gl X t.name) (hm2 : X.mg t.name = none) (hn : notStar a = true) (ha : PE X a (tE X.K xi fa)) :
    PE X (.Call (.Name "isinstance" p) [a, .Name t.name p2] [] pos) (tE X.K xi fun ev h => (fa ev h).bind fun x h1 => isF t x h1) := by
  have hw : PE X (.Name t.name p2) (tC (.ty t.word)) := pe_bltn hg2 hm2 t.boot rfl (by cases t <;> decide) (by cases t <;> decide)
  have q := pe_callB (pos := pos) (p := p) call_isi hg hm boot_isinstance (pa_cons ha (pa_cons hw pa_nil (star_cons rfl)) (star_cons hn)) (by decide) (by decide) (star_cons hn) (plain_of (es := [.Name t.name p2]) rfl)
  refine PEm q fun st H Q ⟨ev, m, h, re, rh, q⟩ => ?_
  refine tE_bind re rh q fun v x m1 H1 h1 g1 re1 rh1 rx p1 => ?_
  unfold isF at p1
  cases e : tyOf h1 x with
  | none => rw [e] at p1; exact p1.elim
  | some n =>
    rw [e] at p1
    exact ⟨v, .ty t.word, .type n, .type t.word, _, rfl, .ty t.word, ty_of rh1 rx e, kit_ty (kit_all t n (tyOf_mem e)), p1.now rh1 _ .bl⟩
end
end Vm

set_option Elab.async false
set_option linter.all false
set_option maxRecDepth 100000
set_option maxHeartbeats 8000000
/-! VmH: the evaluator's text against the program's, and that the evaluator tells true of expressions. -/
namespace Vm
open PySem PySem.Spec PyProof.Rows L2

/-- the names of a def by slot, the defs with how many parameters, the built-ins -/
structure Tb where
  N : List Str
  T : List (Str × Nat)
  B : List Str

def visB (sc : Scope) (x : Str) : Bool := match sc.names.lookup x with
  | some .local => true
  | some .cell => true
  | some .free => true
  | _ => false
theorem visB_ok {sc : Scope} {x : Str} (h : visB sc x = true) : Vis sc x := by
  unfold visB at h
  unfold Vis
  split at h <;> first | (rename_i e; simp [e]; done) | cases h
def globB (sc : Scope) (x : Str) : Bool := decide (sc.names.lookup x = some .globalImplicit)
def okName (x : Str) : Bool := !(x == ("__debug__" : Str)) && !(x == ("__classdict__" : Str))
/-- a name that is stored in a def's body -/
def locB (sc : Scope) (x : Str) : Bool := match sc.names.lookup x with
  | some .local => true
  | some .cell => true
  | _ => false
/-- .. in a comprehension's block -/
def locC (scope sc : Scope) (x : Str) : Bool := match (relS scope sc).names.lookup x with
  | some .local => true
  | some .cell => decide (scope.names.lookup x = some .cell)
  | _ => false
def chkNames (N : List Str) (loc : Str → Bool) : List Nat → List Expr → Bool
  | [], [] => true
  | i :: is, .Name x _ :: es => decide (N[i]? = some x) && loc x && chkNames N loc is es
  | _, _ => false
def chkTg (N : List Str) (loc : Str → Bool) : Tg → Expr → Bool
  | .one i, .Name x _ => decide (N[i]? = some x) && loc x
  | .many is, .Tuple es _ _ => chkNames N loc is es
  | _, _ => false
def ownNs : List Nat → List Expr → List (Str × Nat)
  | i :: is, .Name x _ :: es => (x, i) :: ownNs is es
  | _, _ => []
def ownOf : Tg → Expr → List (Str × Nat)
  | .one i, .Name x _ => [(x, i)]
  | .many is, .Tuple es _ _ => ownNs is es
  | _, _ => []
theorem ownNs_slots {N : List Str} {loc : Str → Bool} : ∀ {is : List Nat} {es : List Expr}, chkNames N loc is es = true → (ownNs is es).map (·.2) = is
  | [], [], _ => rfl
  | [], _ :: _, h => by cases h
  | i :: is, [], h => by cases h
  | i :: is, e :: es, h => by
    cases e <;> try (cases h; done)
    unfold chkNames at h
    rw [Bool.and_eq_true] at h
    show i :: (ownNs is es).map (·.2) = i :: is
    rw [ownNs_slots h.2]
theorem ownOf_slots {N : List Str} {loc : Str → Bool} {t : Tg} {e : Expr} (h : chkTg N loc t e = true) : (ownOf t e).map (·.2) = t.slots := by
  cases t <;> cases e <;> try (cases h; done)
  · rfl
  · exact ownNs_slots h
theorem chkNames_only {N : List Str} {loc : Str → Bool} : ∀ {is : List Nat} {es : List Expr}, chkNames N loc is es = true → namesOnly es = true ∧ es.length = is.length
  | [], [], _ => ⟨rfl, rfl⟩
  | [], _ :: _, h => by cases h
  | i :: is, [], h => by cases h
  | i :: is, e :: es, h => by
    cases e <;> try (cases h; done)
    unfold chkNames at h
    rw [Bool.and_eq_true] at h
    obtain ⟨h1, h2⟩ := chkNames_only h.2
    exact ⟨h1, by rw [List.length_cons, List.length_cons, h2]⟩
theorem snd_names {X : Cx} {K : PySem.W.Frag} {loc : Str → Bool} (nd : X.N.Nodup) (hl : ∀ x, loc x = true → L2.Loc X.env.scope x ∧ (X.fn x = true ∨ X.env.scope.names.lookup x = some .local)) :
    ∀ {is : List Nat} {es : List Expr}, chkNames X.N loc is es = true → PGs X es (tGs K is)
  | [], [], _ => sgs_nil
  | [], _ :: _, h => by cases h
  | i :: is, [], h => by cases h
  | i :: is, e :: es, h => by
    cases e <;> try (cases h; done)
    unfold chkNames at h
    rw [Bool.and_eq_true, Bool.and_eq_true, decide_eq_true_eq] at h
    obtain ⟨⟨h1, h2⟩, h3⟩ := h
    obtain ⟨a, b⟩ := hl _ h2
    exact sgs_cons nd h1 a b (snd_names nd hl h3)
theorem snd_tg {X : Cx} {loc : Str → Bool} (nd : X.N.Nodup) (hc : X.calm = true) (hl : ∀ x, loc x = true → L2.Loc X.env.scope x ∧ (X.fn x = true ∨ X.env.scope.names.lookup x = some .local)) {t : Tg} {e : Expr} (h : chkTg X.N loc t e = true) : PG X e (tG X.K t) := by
  cases t <;> cases e <;> try (cases h; done)
  · unfold chkTg at h
    rw [Bool.and_eq_true, decide_eq_true_eq] at h
    obtain ⟨a, b⟩ := hl _ h.2
    exact sg_one nd h.1 a b
  · obtain ⟨h1, h2⟩ := chkNames_only h
    exact sg_many hc rfl h1 h2 (snd_names nd hl h)

def Es.len : Es → Nat
  | .nil => 0
  | .cons _ es => es.len + 1
/-- what unpacks the pairs of a walk by twos -/
def tgOk : It → Expr → Bool
  | .enum _, .Tuple _ _ _ => true
  | .enum _, _ => false
  | .zip _ _, .Tuple _ _ _ => true
  | .zip _ _, _ => false
  | _, _ => true
mutual
def chkE (c : Tb) : E → Scope → Expr → Bool
  | .var i => fun sc y => match y with
    | .Name x _ => decide (c.N[i]? = some x) && visB sc x && okName x
    | _ => false
  | .int i => fun _ y => match y with
    | .Constant (.int j) _ _ => decide (i = j)
    | _ => false
  | .str i => fun _ y => match y with
    | .Constant (.str j) _ _ => decide (i = j)
    | _ => false
  | .bl i => fun _ y => match y with
    | .Constant (.bool j) _ _ => decide (i = j)
    | _ => false
  | .non => fun _ y => match y with
    | .Constant .none _ _ => true
    | _ => false
  | .bin op a b => fun sc y => match y with
    | .BinOp x o z _ => decide (o = bopS op) && chkE c a sc x && chkE c b sc z
    | _ => false
  | .neg a => fun sc y => match y with
    | .UnaryOp .USub x _ => chkE c a sc x
    | _ => false
  | .cmp op a b => fun sc y => match y with
    | .Compare x [o] [z] _ => decide (o = copS op) && chkE c a sc x && chkE c b sc z
    | _ => false
  | .chain o1 o2 a b d => fun sc y => match y with
    | .Compare x [p, q] [z, u] _ => decide (p = copS o1) && decide (q = copS o2) && chkE c a sc x && chkE c b sc z && chkE c d sc u
    | _ => false
  | .isn a => fun sc y => match y with
    | .Compare x [.Is] [.Constant .none _ _] _ => chkE c a sc x
    | _ => false
  | .notn a => fun sc y => match y with
    | .Compare x [.IsNot] [.Constant .none _ _] _ => chkE c a sc x
    | _ => false
  | .band a b => fun sc y => match y with
    | .BoolOp .And (x :: z :: r) p => chkE c a sc x && (match r with
      | [] => chkE c b sc z
      | u :: r => chkE c b sc (.BoolOp .And (z :: u :: r) p))
    | _ => false
  | .bor a b => fun sc y => match y with
    | .BoolOp .Or (x :: z :: r) p => chkE c a sc x && (match r with
      | [] => chkE c b sc z
      | u :: r => chkE c b sc (.BoolOp .Or (z :: u :: r) p))
    | _ => false
  | .not a => fun sc y => match y with
    | .UnaryOp .Not x _ => chkE c a sc x
    | _ => false
  | .ite d a b => fun sc y => match y with
    | .IfExp t x z _ => chkE c d sc t && chkE c a sc x && chkE c b sc z
    | _ => false
  | .tup es => fun sc y => match y with
    | .Tuple xs _ _ => chkEs c es sc xs
    | _ => false
  | .lst es => fun sc y => match y with
    | .List xs _ => chkEs c es sc xs
    | _ => false
  | .ix a i => fun sc y => match y with
    | .Subscript x z _ => plainIx z && chkE c a sc x && chkE c i sc z
    | _ => false
  | .call f es => fun sc y => match y with
    | .Call (.Name x _) (z :: zs) [] _ => decide (c.T[f]? = some (x, es.len)) && globB sc x && okName x && chkEs c es sc (z :: zs)
    | _ => false
  | .bi b es => fun sc y => match y with
    | .Call (.Name x _) (z :: zs) [] _ => decide (c.B[b]? = some x) && globB sc x && okName x && chkEs c es sc (z :: zs)
    | _ => false
  | .lc elt tg it cond => fun sc y => match y with
    | .ListComp e [⟨t, iter, ifs, a⟩] scope _ => decide (a = 0) && noSet iter && chkIt c it sc iter && tgOk it t && blkC c.N sc scope (ownOf tg t) && chkTg c.N (locC scope sc) tg t && (match ifs with
      | [] => (match cond with
        | .bl true => true
        | _ => false)
      | [f] => chkE c cond (relS scope sc) f
      | _ => false) && chkE c elt (relS scope sc) e
    | _ => false
  | .slc a lo hi => fun sc y => match y with
    | .Subscript x (.Slice l u none _) _ => chkE c a sc x && chkPt c lo sc l && chkPt c hi sc u
    | _ => false
  | .isin t a => fun sc y => match y with
    | .Call (.Name x _) [z, .Name w _] [] _ => decide (x = ("isinstance" : Str)) && decide (w = t.name) && globB sc x && globB sc w && chkE c a sc z
    | _ => false
  | .lrng a => fun sc y => match y with
    | .Call (.Name x _) [.Call (.Name x2 _) [z] [] _] [] _ => decide (x = ("list" : Str)) && decide (x2 = ("range" : Str)) && globB sc x && globB sc x2 && chkE c a sc z
    | _ => false
  | .sset a => fun sc y => match y with
    | .Call (.Name x _) [.Call (.Name x2 _) [z] [] _] [] _ => decide (x = ("sorted" : Str)) && decide (x2 = ("set" : Str)) && globB sc x && globB sc x2 && chkE c a sc z
    | _ => false
  | .scnt a u e => fun sc y => match y with
    | .Call (.Attribute (.Subscript x (.Slice none (some z) none _) _) f apos) [k] [] cpos => decide (f = ("count" : Str)) && (apos.endLine == cpos.line) && chkE c a sc x && chkE c u sc z && chkE c e sc k
    | _ => false
def chkEs (c : Tb) : Es → Scope → List Expr → Bool
  | .nil => fun _ ys => match ys with
    | [] => true
    | _ => false
  | .cons e es => fun sc ys => match ys with
    | y :: ys => chkE c e sc y && chkEs c es sc ys
    | _ => false
def chkIt (c : Tb) : It → Scope → Expr → Bool
  | .rng a => fun sc y => match y with
    | .Call (.Name x _) [z] [] _ => decide (x = ("range" : Str)) && globB sc x && chkE c a sc z
    | _ => false
  | .rng2 a b => fun sc y => match y with
    | .Call (.Name x _) [z, u] [] _ => decide (x = ("range" : Str)) && globB sc x && chkE c a sc z && chkE c b sc u
    | _ => false
  | .seq a => fun sc y => chkE c a sc y
  | .enum a => fun sc y => match y with
    | .Call (.Name x _) [z] [] _ => decide (x = ("enumerate" : Str)) && globB sc x && chkE c a sc z
    | _ => false
  | .zip a b => fun sc y => match y with
    | .Call (.Name x _) [z, u] [] _ => decide (x = ("zip" : Str)) && globB sc x && chkE c a sc z && chkE c b sc u
    | _ => false
def chkPt (c : Tb) : Pt → Scope → Option Expr → Bool
  | .no => fun _ y => match y with
    | none => true
    | _ => false
  | .yes a => fun sc y => match y with
    | some z => chkE c a sc z
    | _ => false
end

/-- a built-in keeps what the evaluator does -/
def BiGood (X : Cx) (x : Str) (F : List PV → IH → Res PV) : Prop :=
  (∃ id r, bootBuiltins x = some (.builtin id) ∧ CallR X (.builtin id) r ∧ BiOk X.K F r) ∨ (∃ T r, bootBuiltins x = some (.type T) ∧ CallR X (.type T) r ∧ BiOk X.K F r)
/-- a def keeps what the evaluator does -/
def DefGood (X : Cx) (x : Str) (n : Nat) (F : List PV → IH → Res PV) : Prop :=
  ∃ f fd ps k, X.mg x = some (.ref f) ∧ PySem.W.keepIn X.K (.ref f) = true ∧ Binds X.K fd ps [] ∧ Room k X.A ∧ ps.length = n ∧ FnOk X.prog X.w X.K X.mg X.base CX0 k f fd ps (spOf X.K ps.length F)
/-- names of built-ins that the language has by itself -/
def coreN : List Str := ["list", "sorted", "set", "enumerate", "zip", "isinstance", "int", "bool", "str", "tuple"]
/-- the context of an expression -/
structure Okc (c : Tb) (G B : Fns) (X : Cx) : Prop where
  ft : Fit X
  N : X.N = c.N
  nd : X.N.Nodup
  rng : X.mg "range" = none
  more : ∀ x ∈ coreN, X.mg x = none
  fn : ∀ (i : Nat) x n, c.T[i]? = some (x, n) → DefGood X x n (G i)
  bi : ∀ (i : Nat) x, c.B[i]? = some x → X.mg x = none ∧ x ≠ "__name__"
abbrev BiAll (c : Tb) (B : Fns) : Prop := ∀ (X : Cx), Fit X → ∀ (i : Nat) x, c.B[i]? = some x → BiGood X x (B i)

def isBop : Expr → Bool
  | .BoolOp .. => true
  | _ => false
structure Snd (X : Cx) (y : Expr) (f : Ev → IH → Res PV) : Prop where
  e : PE X y (tE X.K xi0 f)
  t : PT X y (tT X.K xi0 (bF f))
  w : isBop y = true → PW X y (tT X.K xi0 (bF f))
  s : notStar y = true

theorem glob_ok {X : Cx} {x : Str} (h : globB X.env.scope x = true) : Gl X x := by
  unfold globB at h
  rw [decide_eq_true_eq] at h
  exact h
theorem okName_d {x : Str} (h : okName x = true) : (x == ("__debug__" : Str)) = false ∧ (x == ("__classdict__" : Str)) = false := by
  unfold okName at h
  simpa using h
theorem evEs_len {G B : Fns} : ∀ (es : Es) (ev : Ev) (h : IH) (xs : List PV) (h1 : IH), evEs G B es ev h = .ok xs h1 → xs.length = es.len
  | .nil, _, _, _, _, e => by cases e; rfl
  | .cons e es, ev, h, xs, h1, q => by
    unfold evEs at q
    cases e1 : evE G B e ev h with
    | stuck => rw [e1] at q; cases q
    | exc _ _ _ => rw [e1] at q; cases q
    | ok x h2 =>
      rw [e1, Res.bind_ok] at q
      cases e2 : evEs G B es ev h2 with
      | stuck => rw [e2] at q; cases q
      | exc _ _ _ => rw [e2] at q; cases q
      | ok ys h3 =>
        rw [e2] at q
        cases q
        rw [List.length_cons, evEs_len es ev h2 ys _ e2]
        rfl
theorem Okc.blk {c : Tb} {G B : Fns} {X : Cx} (ok : Okc c G B X) (s : Shared) (H : Hp) (scope : Scope) (cenv : Env) (fp : List Addr) : Okc c G B (X.blk s H scope cenv fp) :=
  ⟨⟨ok.ft.calm, ok.ft.hu⟩, ok.N, ok.nd, ok.rng, ok.more, ok.fn, ok.bi⟩

theorem snd_of {X : Cx} {y : Expr} {f : Ev → IH → Res PV} (e : PE X y (tE X.K xi0 f)) (he : ∀ whole, isTrue y X.env whole = (do let v ← whole; standAt y.pos; holding [v] (truthy v)))
    (w : isBop y = false) (s : notStar y = true) : Snd X y f := ⟨e, st_val e he, fun z => (by rw [w] at z; cases z), s⟩
theorem locC_ok {scope sc : Scope} {x : Str} (h : locC scope sc x = true) : L2.Loc (relS scope sc) x ∧ ((scope.names.lookup x == some .cell) = true ∨ (relS scope sc).names.lookup x = some .local) := by
  unfold locC at h
  unfold L2.Loc
  split at h
  · rename_i e
    exact ⟨.inl e, .inr e⟩
  · rename_i e
    exact ⟨.inr e, .inl (by simpa using h)⟩
  · cases h
section
variable {c : Tb} {G B : Fns} (hB : BiAll c B)
include hB
mutual
theorem sndE : ∀ (e : E) (X : Cx) (y : Expr), Okc c G B X → chkE c e X.env.scope y = true → Snd X y (evE G B e)
  | .var i, X, y, ok, hc => by
    cases y <;> try (cases hc; done)
    rename_i x p
    simp only [chkE, Bool.and_eq_true, decide_eq_true_eq] at hc
    obtain ⟨⟨h1, h2⟩, h3⟩ := hc
    exact snd_of (se_var (by rw [ok.N]; exact h1) (visB_ok h2) (okName_d h3).1 (okName_d h3).2) (fun _ => rfl) rfl rfl
  | .int i, X, y, ok, hc => by
    cases y <;> try (cases hc; done)
    rename_i v k p
    cases v <;> try (cases hc; done)
    simp only [chkE, decide_eq_true_eq] at hc
    subst hc
    exact snd_of (se_con pe_int fun _ _ => .int) (fun _ => rfl) rfl rfl
  | .str i, X, y, ok, hc => by
    cases y <;> try (cases hc; done)
    rename_i v k p
    cases v <;> try (cases hc; done)
    simp only [chkE, decide_eq_true_eq] at hc
    subst hc
    exact snd_of (se_con pe_str fun _ _ => .str) (fun _ => rfl) rfl rfl
  | .bl i, X, y, ok, hc => by
    cases y <;> try (cases hc; done)
    rename_i v k p
    cases v <;> try (cases hc; done)
    simp only [chkE, decide_eq_true_eq] at hc
    subst hc
    exact snd_of (se_con pe_bl fun _ _ => .bl) (fun _ => rfl) rfl rfl
  | .non, X, y, ok, hc => by
    cases y <;> try (cases hc; done)
    rename_i v k p
    cases v <;> try (cases hc; done)
    exact snd_of (se_con pe_non fun _ _ => .non) (fun _ => rfl) rfl rfl
  | .bin op a b, X, y, ok, hc => by
    cases y <;> try (cases hc; done)
    simp only [chkE, Bool.and_eq_true, decide_eq_true_eq] at hc
    obtain ⟨⟨rfl, h1⟩, h2⟩ := hc
    obtain ⟨r, q, k⟩ := bop_all ok.ft op
    exact snd_of (se_bin q (k xi0) (sndE a X _ ok h1).e (sndE b X _ ok h2).e) (fun _ => rfl) rfl rfl
  | .neg a, X, y, ok, hc => by
    cases y <;> try (cases hc; done)
    rename_i o x p
    cases o <;> try (cases hc; done)
    exact snd_of (se_neg (sndE a X _ ok hc).e) (fun _ => rfl) rfl rfl
  | .cmp op a b, X, y, ok, hc => by
    cases y <;> try (cases hc; done)
    rename_i x os zs p
    rcases os with _ | ⟨o, _ | ⟨_, _⟩⟩ <;> try (cases hc; done)
    rcases zs with _ | ⟨z, _ | ⟨_, _⟩⟩ <;> try (cases hc; done)
    simp only [chkE, Bool.and_eq_true, decide_eq_true_eq] at hc
    obtain ⟨⟨rfl, h1⟩, h2⟩ := hc
    obtain ⟨r, q, k⟩ := cop_all ok.ft op
    exact ⟨se_cmp q (k xi0) (cop_mark op _) (sndE a X _ ok h1).e (sndE b X _ ok h2).e, st_cmp q (k xi0) (cop_mark op _) (sndE a X _ ok h1).e (sndE b X _ ok h2).e, fun z => (nomatch z), rfl⟩
  | .chain o1 o2 a b d, X, y, ok, hc => by
    cases y <;> try (cases hc; done)
    rename_i x os zs p
    rcases os with _ | ⟨o, _ | ⟨q, _ | ⟨_, _⟩⟩⟩ <;> try (cases hc; done)
    rcases zs with _ | ⟨z, _ | ⟨u, _ | ⟨_, _⟩⟩⟩ <;> try (cases hc; done)
    simp only [chkE, Bool.and_eq_true, decide_eq_true_eq] at hc
    obtain ⟨⟨⟨⟨rfl, rfl⟩, h1⟩, h2⟩, h3⟩ := hc
    exact ⟨se_chain ok.ft rfl (sndE a X _ ok h1).e (sndE b X _ ok h2).e (sndE d X _ ok h3).e, st_chain ok.ft rfl (sndE a X _ ok h1).e (sndE b X _ ok h2).e (sndE d X _ ok h3).e, fun z => (nomatch z), rfl⟩
  | .isn a, X, y, ok, hc => by
    cases y <;> try (cases hc; done)
    rename_i x os zs p
    rcases os with _ | ⟨o, _ | ⟨_, _⟩⟩ <;> try (first | (cases hc; done) | (cases o <;> (cases hc; done)))
    cases o <;> try (cases hc; done)
    rcases zs with _ | ⟨z, _ | ⟨_, _⟩⟩ <;> try (first | (cases hc; done) | (cases z <;> first | (cases hc; done) | (rename_i v _ _; cases v <;> (cases hc; done))))
    cases z <;> try (cases hc; done)
    rename_i v _ _
    cases v <;> try (cases hc; done)
    exact ⟨se_isn (sndE a X _ ok hc).e, st_isn (sndE a X _ ok hc).e, fun z => (nomatch z), rfl⟩
  | .notn a, X, y, ok, hc => by
    cases y <;> try (cases hc; done)
    rename_i x os zs p
    rcases os with _ | ⟨o, _ | ⟨_, _⟩⟩ <;> try (first | (cases hc; done) | (cases o <;> (cases hc; done)))
    cases o <;> try (cases hc; done)
    rcases zs with _ | ⟨z, _ | ⟨_, _⟩⟩ <;> try (first | (cases hc; done) | (cases z <;> first | (cases hc; done) | (rename_i v _ _; cases v <;> (cases hc; done))))
    cases z <;> try (cases hc; done)
    rename_i v _ _
    cases v <;> try (cases hc; done)
    exact ⟨se_notn (sndE a X _ ok hc).e, st_notn (sndE a X _ ok hc).e, fun z => (nomatch z), rfl⟩
  | .band a b, X, y, ok, hc => by
    cases y <;> try (cases hc; done)
    rename_i o zs p
    cases o <;> try (cases hc; done)
    rcases zs with _ | ⟨x, _ | ⟨z, r⟩⟩ <;> try (cases hc; done)
    simp only [chkE, Bool.and_eq_true] at hc
    obtain ⟨h1, h2⟩ := hc
    have A := sndE a X _ ok h1
    cases r with
    | nil =>
      have Q := sndE b X _ ok h2
      have W := sw_band (pos := p) A.t (rest := []) (pw_and1 Q.t)
      exact ⟨se_band A.e (pe_one Q.e), W.pt, fun _ => W, rfl⟩
    | cons u r =>
      have Q := sndE b X _ ok h2
      have W := sw_band (pos := p) A.t (Q.w rfl)
      exact ⟨se_band A.e Q.e, W.pt, fun _ => W, rfl⟩
  | .bor a b, X, y, ok, hc => by
    cases y <;> try (cases hc; done)
    rename_i o zs p
    cases o <;> try (cases hc; done)
    rcases zs with _ | ⟨x, _ | ⟨z, r⟩⟩ <;> try (cases hc; done)
    simp only [chkE, Bool.and_eq_true] at hc
    obtain ⟨h1, h2⟩ := hc
    have A := sndE a X _ ok h1
    cases r with
    | nil =>
      have Q := sndE b X _ ok h2
      have W := sw_bor (pos := p) A.t (rest := []) (pw_or1 Q.t)
      exact ⟨se_bor A.e (pe_one Q.e), W.pt, fun _ => W, rfl⟩
    | cons u r =>
      have Q := sndE b X _ ok h2
      have W := sw_bor (pos := p) A.t (Q.w rfl)
      exact ⟨se_bor A.e Q.e, W.pt, fun _ => W, rfl⟩
  | .not a, X, y, ok, hc => by
    cases y <;> try (cases hc; done)
    rename_i o x p
    cases o <;> try (cases hc; done)
    exact ⟨se_not (sndE a X _ ok hc).e, st_not (sndE a X _ ok hc).t, fun z => (nomatch z), rfl⟩
  | .ite d a b, X, y, ok, hc => by
    cases y <;> try (cases hc; done)
    simp only [chkE, Bool.and_eq_true] at hc
    obtain ⟨⟨h1, h2⟩, h3⟩ := hc
    exact ⟨se_ite (sndE d X _ ok h1).t (sndE a X _ ok h2).e (sndE b X _ ok h3).e, st_ite (sndE d X _ ok h1).t (sndE a X _ ok h2).t (sndE b X _ ok h3).t, fun z => (nomatch z), rfl⟩
  | .tup es, X, y, ok, hc => by
    cases y <;> try (cases hc; done)
    exact snd_of (se_tup (sndEs es X _ ok hc).1) (fun _ => rfl) rfl rfl
  | .lst es, X, y, ok, hc => by
    cases y <;> try (cases hc; done)
    exact snd_of (se_lst (sndEs es X _ ok hc).1) (fun _ => rfl) rfl rfl
  | .ix a i, X, y, ok, hc => by
    cases y <;> try (cases hc; done)
    simp only [chkE, Bool.and_eq_true] at hc
    obtain ⟨⟨h1, h2⟩, h3⟩ := hc
    exact snd_of (se_ix rfl h1 (sndE a X _ ok h2).e (sndE i X _ ok h3).e) (fun _ => rfl) rfl rfl
  | .call f es, X, y, ok, hc => by
    cases y <;> try (cases hc; done)
    rename_i fn zs kw p
    cases fn <;> try (cases hc; done)
    cases zs <;> try (cases hc; done)
    cases kw <;> try (cases hc; done)
    simp only [chkE, Bool.and_eq_true, decide_eq_true_eq] at hc
    obtain ⟨⟨⟨h1, h2⟩, h3⟩, h4⟩ := hc
    obtain ⟨f, fd, ps, k, g1, g2, g3, g4, g5, g6⟩ := ok.fn _ _ _ h1
    have S := sndEs es X _ ok h4
    exact snd_of (se_call g6 g4 (glob_ok h2) g1 g2 g3 S.1 (fun ev h xs h1 e => by rw [evEs_len es ev h xs h1 e, g5]) S.2 (okName_d h3).1) (fun _ => rfl) rfl rfl
  | .bi b es, X, y, ok, hc => by
    cases y <;> try (cases hc; done)
    rename_i fn zs kw p
    cases fn <;> try (cases hc; done)
    cases zs <;> try (cases hc; done)
    cases kw <;> try (cases hc; done)
    simp only [chkE, Bool.and_eq_true, decide_eq_true_eq] at hc
    obtain ⟨⟨⟨h1, h2⟩, h3⟩, h4⟩ := hc
    obtain ⟨m1, m2⟩ := ok.bi _ _ h1
    have S := sndEs es X _ ok h4
    rcases hB X ok.ft _ _ h1 with ⟨id, r, b1, b2, b3⟩ | ⟨T, r, b1, b2, b3⟩
    · exact snd_of (se_biB b2 b3 (glob_ok h2) m1 b1 S.1 S.2 m2 (okName_d h3).1) (fun _ => rfl) rfl rfl
    · exact snd_of (se_biT b2 b3 (glob_ok h2) m1 b1 S.1 S.2 m2 (okName_d h3).1) (fun _ => rfl) rfl rfl
  | .lc elt tg it cond, X, y, ok, hc => by
    cases y <;> try (cases hc; done)
    rename_i e gs scope p
    rcases gs with _ | ⟨⟨t, iter, ifs, a⟩, _ | ⟨_, _⟩⟩ <;> try (cases hc; done)
    simp only [chkE, Bool.and_eq_true, decide_eq_true_eq] at hc
    obtain ⟨⟨⟨⟨⟨⟨⟨rfl, h2⟩, h3⟩, ht0⟩, h4⟩, h5⟩, h6⟩, h7⟩ := hc
    have hi := sndIt it X _ t ok h3 ht0
    have hb : BlkOk X.N X.env.scope scope (ownOf tg t) := by rw [ok.N]; exact blkOk_by h4
    have hg : ∀ (s : Shared) (H : Hp) (C : Addr) (cl : List (Str × Addr)) (fp : List Addr), PG (X.blk s H scope (compEnvC scope cl C X.env) fp) t (tG X.K tg) := fun s H C cl fp =>
      snd_tg (X := X.blk s H scope (compEnvC scope cl C X.env) fp) (loc := locC scope X.env.scope) ok.nd ok.ft.calm (fun x hx => locC_ok hx) (by rw [show (X.blk s H scope (compEnvC scope cl C X.env) fp).N = c.N from ok.N]; exact h5)
    have he : ∀ (s : Shared) (H : Hp) (C : Addr) (cl : List (Str × Addr)) (fp : List Addr), PE (X.blk s H scope (compEnvC scope cl C X.env) fp) e (tE X.K xi0 (evE G B elt)) := fun s H C cl fp => (sndE elt (X.blk s H scope (compEnvC scope cl C X.env) fp) e (ok.blk ..) h7).e
    have fin : ∀ (tt : TT), (∀ (s : Shared) (H : Hp) (C : Addr) (cl : List (Str × Addr)) (fp : List Addr), PTs (X.blk s H scope (compEnvC scope cl C X.env) fp) ifs tt) → (∀ st H Q, tT X.K xi0 (bF (evE G B cond)) st H Q → tt st H Q) → Snd X (.ListComp e [⟨t, iter, ifs, 0⟩] scope p) (evE G B (.lc elt tg it cond)) := fun tt ht htt => by
      refine snd_of (PEm (pe_lc ok.ft.calm ok.nd hi hb hg ht he (folded_of h2)) fun st H Q q => ?_) (fun _ => rfl) rfl rfl
      rw [ownOf_slots h5]
      exact tLc_of htt q
    rcases ifs with _ | ⟨f, _ | ⟨_, _⟩⟩ <;> try (cases h6; done)
    · cases cond <;> try (cases h6; done)
      rename_i b
      cases b <;> try (cases h6; done)
      refine fin tYes (fun s H C cl fp => pts_nil) fun st H Q q => ?_
      obtain ⟨ev, m, h, re, rh, q⟩ := q
      exact q.now rh
    · exact fin _ (fun s H C cl fp => pts_one (sndE cond (X.blk s H scope (compEnvC scope cl C X.env) fp) f (ok.blk ..) h6).t) fun st H Q q => q
  | .slc a lo hi, X, y, ok, hc => by
    cases y <;> try (cases hc; done)
    rename_i x sl p
    cases sl <;> try (cases hc; done)
    rename_i l u st p2
    cases st <;> try (cases hc; done)
    simp only [chkE, Bool.and_eq_true] at hc
    obtain ⟨⟨h1, h2⟩, h3⟩ := hc
    exact snd_of (se_slc rfl (sndE a X _ ok h1).e (sndPt lo X _ ok h2) (sndPt hi X _ ok h3)) (fun _ => rfl) rfl rfl
  | .isin t a, X, y, ok, hc => by
    unfold chkE at hc
    split at hc
    · simp only [Bool.and_eq_true, decide_eq_true_eq] at hc
      obtain ⟨⟨⟨⟨rfl, rfl⟩, h3⟩, h4⟩, h5⟩ := hc
      have A := sndE a X _ ok h5
      exact snd_of (se_isin t (glob_ok h3) (ok.more _ (by decide)) (glob_ok h4) (ok.more _ (by cases t <;> decide)) A.s A.e) (fun _ => rfl) rfl rfl
    · cases hc
  | .lrng a, X, y, ok, hc => by
    unfold chkE at hc
    split at hc
    · simp only [Bool.and_eq_true, decide_eq_true_eq] at hc
      obtain ⟨⟨⟨⟨rfl, rfl⟩, h3⟩, h4⟩, h5⟩ := hc
      have A := sndE a X _ ok h5
      exact snd_of (se_lrng ok.ft.calm (glob_ok h3) (ok.more _ (by decide)) (glob_ok h4) ok.rng A.s A.e) (fun _ => rfl) rfl rfl
    · cases hc
  | .sset a, X, y, ok, hc => by
    unfold chkE at hc
    split at hc
    · simp only [Bool.and_eq_true, decide_eq_true_eq] at hc
      obtain ⟨⟨⟨⟨rfl, rfl⟩, h3⟩, h4⟩, h5⟩ := hc
      have A := sndE a X _ ok h5
      exact snd_of (se_sset ok.ft.calm (glob_ok h3) (ok.more _ (by decide)) (glob_ok h4) (ok.more _ (by decide)) A.s A.e) (fun _ => rfl) rfl rfl
    · cases hc
  | .scnt a u e, X, y, ok, hc => by
    unfold chkE at hc
    split at hc
    · simp only [Bool.and_eq_true, decide_eq_true_eq] at hc
      obtain ⟨⟨⟨⟨rfl, h2⟩, h3⟩, h4⟩, h5⟩ := hc
      have A := sndE e X _ ok h5
      exact snd_of (se_scnt A.s h2 (sndE a X _ ok h3).e (sndE u X _ ok h4).e A.e) (fun _ => rfl) rfl rfl
    · cases hc
theorem sndEs : ∀ (es : Es) (X : Cx) (ys : List Expr), Okc c G B X → chkEs c es X.env.scope ys = true → PA X ys (tA X.K xi0 (evEs G B es)) ∧ ys.all notStar = true
  | .nil, X, ys, ok, hc => by
    cases ys <;> try (cases hc; done)
    exact ⟨sa_nil, rfl⟩
  | .cons e es, X, ys, ok, hc => by
    cases ys <;> try (cases hc; done)
    simp only [chkEs, Bool.and_eq_true] at hc
    have A := sndE e X _ ok hc.1
    have S := sndEs es X _ ok hc.2
    exact ⟨sa_cons A.s A.e S.1, by rw [List.all_cons, A.s, S.2]; rfl⟩
theorem sndIt : ∀ (it : It) (X : Cx) (y : Expr) (tg : Expr), Okc c G B X → chkIt c it X.env.scope y = true → tgOk it tg = true → PI X tg y (tI X.K xi0 (evIt G B it))
  | .rng a, X, y, tg, ok, hc, _ => by
    cases y <;> try (cases hc; done)
    rename_i fn zs kw p
    cases fn <;> try (cases hc; done)
    rcases zs with _ | ⟨z, _ | ⟨_, _⟩⟩ <;> try (cases hc; done)
    cases kw <;> try (cases hc; done)
    simp only [chkIt, Bool.and_eq_true, decide_eq_true_eq] at hc
    obtain ⟨⟨rfl, h2⟩, h3⟩ := hc
    have A := sndE a X _ ok h3
    exact si_rng (glob_ok h2) ok.rng A.s A.e
  | .rng2 a b, X, y, tg, ok, hc, _ => by
    cases y <;> try (cases hc; done)
    rename_i fn zs kw p
    cases fn <;> try (cases hc; done)
    rcases zs with _ | ⟨z, _ | ⟨u, _ | ⟨_, _⟩⟩⟩ <;> try (cases hc; done)
    cases kw <;> try (cases hc; done)
    simp only [chkIt, Bool.and_eq_true, decide_eq_true_eq] at hc
    obtain ⟨⟨⟨rfl, h2⟩, h3⟩, h4⟩ := hc
    have A := sndE a X _ ok h3
    have A2 := sndE b X _ ok h4
    exact si_rng2 (glob_ok h2) ok.rng A.s A2.s A.e A2.e
  | .seq a, X, y, tg, ok, hc, _ => si_seq rfl (sndE a X _ ok hc).e
  | .enum a, X, y, tg, ok, hc, ht => by
    cases tg <;> try (cases ht; done)
    unfold chkIt at hc
    split at hc
    · simp only [Bool.and_eq_true, decide_eq_true_eq] at hc
      obtain ⟨⟨rfl, h2⟩, h3⟩ := hc
      have A := sndE a X _ ok h3
      exact si_enum rfl (glob_ok h2) (ok.more _ (by decide)) A.s A.e
    · cases hc
  | .zip a b, X, y, tg, ok, hc, ht => by
    cases tg <;> try (cases ht; done)
    unfold chkIt at hc
    split at hc
    · simp only [Bool.and_eq_true, decide_eq_true_eq] at hc
      obtain ⟨⟨⟨rfl, h2⟩, h3⟩, h4⟩ := hc
      have A := sndE a X _ ok h3
      have A2 := sndE b X _ ok h4
      exact si_zip rfl (glob_ok h2) (ok.more _ (by decide)) A.s A2.s A.e A2.e
    · cases hc
theorem sndPt : ∀ (a : Pt) (X : Cx) (y : Option Expr), Okc c G B X → chkPt c a X.env.scope y = true → PO X y (tO X.K xi0 (evPt G B a))
  | .no, X, y, ok, hc => by
    cases y <;> try (cases hc; done)
    exact so_none
  | .yes a, X, y, ok, hc => by
    cases y <;> try (cases hc; done)
    exact so_some (sndE a X _ ok hc).e
end
end
end Vm

set_option Elab.async false
set_option linter.all false
set_option maxRecDepth 100000
set_option maxHeartbeats 8000000
/-! VmI: statements, defs, a whole text. -/
namespace Vm
open PySem PySem.Spec PyProof.Rows L2

def noSuper : Expr → Bool
  | .Call .. => false
  | _ => true
theorem base_of {o : Expr} {f : Str} {env : Env} (h : noSuper o = true) : attributeBase o f env (eval o env) = eval o env := by
  cases o <;> first | rfl | cases h
theorem sw_cell {elt : Expr} {gs : List Comprehension} {scope : Scope} {pos py : Pos} {y : Str} {l : Nat} {env : Env} (hy : env.scope.names.lookup y = some .cell) : swapsWith (.ListComp elt gs scope pos) (some (.Name y py)) l env = pure false := by
  have ky : env.kindOf y = some .cell := hy
  have e : (NameKind.cell == NameKind.local) = false := by decide
  unfold swapsWith
  simp only [ky]
  simp [e]
theorem sw_par {x y : Str} {px py pt pt2 : Pos} {kt k2 : Nat} {u v : Expr} {env : Env} (hk : env.scope.kind = .function) (hx : env.scope.names.lookup x = some .local) (hy : env.scope.names.lookup y = some .local)
    (hl : (py.line == px.line) = true) (hxy : (x == y) = false) (hu : notStar u = true) (hv : notStar v = true) (h1 : ([u, v].all (foldedForSure 8)) = false) (h2 : ([u, v].all (constantsAlone 8)) = false) :
    swappedStores [.Tuple [.Name x px, .Name y py] kt pt] (.Tuple [u, v] k2 pt2) env = pure (some [x, y]) := by
  have hb : env.blockKind = .function := by unfold Env.blockKind; rw [hk]; rfl
  have kx : env.kindOf x = some .local := hx
  have ky : env.kindOf y = some .local := hy
  have hl' : py.line = px.line := by simpa using hl
  have hyx : (y == x) = false := by
    cases e : y == x with
    | false => rfl
    | true => rw [eq_of_beq e] at hxy; simp at hxy
  have ed : [x, y].eraseDups = [x, y] := by
    simp [List.eraseDups_cons, hxy, hyx]
  unfold swappedStores
  simp only [h1, h2]
  simp [kx, ky, hl', Expr.pos, ed, hb, List.filterMap_cons]
  intro h
  rcases h with h | h
  · cases u <;> first | (cases h; done) | (cases hu; done)
  · cases v <;> first | (cases h; done) | (cases hv; done)
def chkX (c : Tb) (sc : Scope) : Sx → Stmt → Bool
  | .set t e, st => (match st with
    | .Assign [.Name x p] y _ => (match t with
      | .one i => chkTg c.N (locB sc) t (.Name x p) && chkE c e sc y && (noComp y || (match y with
        | .ListComp elt gs scope q => decide (sc.names.lookup x = some .cell) || (decide (sc.names.lookup x = some .local) && (p.line == q.line) && !(scope.names.any fun (n, k) => n == x && (k == .local || k == .cell)))
        | _ => false))
      | _ => false)
    | .Assign [.Tuple es k p] y _ => noComp y && noTup y && chkTg c.N (locB sc) t (.Tuple es k p) && chkE c e sc y
    | _ => false)
  | .par i j a b, st => (match st with
    | .Assign [.Tuple [.Name x px, .Name y py] _ _] (.Tuple [u, v] _ _) _ => decide (c.N[i]? = some x) && decide (c.N[j]? = some y) && decide (i ≠ j) && decide (sc.names.lookup x = some .local) && decide (sc.names.lookup y = some .local) &&
        chkE c a sc u && chkE c b sc v && (py.line == px.line) && !(x == y) && !([u, v].all (foldedForSure 8)) && !([u, v].all (constantsAlone 8))
    | _ => false)
  | .put a i v, st => (match st with
    | .Assign [.Subscript o z _] y _ => noComp y && plainIx z && chkE c v sc y && chkE c a sc o && chkE c i sc z
    | _ => false)
  | .augv i op e, st => (match st with
    | .AugAssign (.Name x _) o y _ => decide (o = bopS op) && decide (op ≠ .pow) && decide (c.N[i]? = some x) && locB sc x && chkE c e sc y
    | _ => false)
  | .augp a i op e, st => (match st with
    | .AugAssign (.Subscript o z _) q y _ => decide (q = bopS op) && decide (op ≠ .pow) && plainIx z && chkE c a sc o && chkE c i sc z && chkE c e sc y
    | _ => false)
  | .ret e, st => (match st with
    | .Return (some y) _ => chkE c e sc y
    | .Return none _ => (match e with
      | .non => true
      | _ => false)
    | _ => false)
  | .drop e, st => (match st with
    | .Expr y _ => noComp y && chkE c e sc y
    | .Pass _ => (match e with
      | .non => true
      | _ => false)
    | _ => false)
  | .app a e, st => (match st with
    | .Expr (.Call (.Attribute o f apos) [y] [] cpos) _ => decide (f = ("append" : Str)) && (apos.endLine == cpos.line) && noSuper o && chkE c a sc o && chkE c e sc y
    | _ => false)
  | .never, _ => true
mutual
def chkS (c : Tb) (sc : Scope) : S → Stmt → Bool
  | .x s => fun st => chkX c sc s st
  | .ifs d a b => fun st => match st with
    | .If t x y _ => chkE c d sc t && chkSs c sc a x && chkSs c sc b y
    | _ => false
  | .for tg it b => fun st => match st with
    | .For t iter x [] _ => noSet iter && chkTg c.N (locB sc) tg t && (chkIt c it sc iter && tgOk it t) && chkSs c sc b x
    | _ => false
  | .whl d b => fun st => match st with
    | .While t x [] _ => chkE c d sc t && chkSs c sc b x
    | _ => false
def chkSs (c : Tb) (sc : Scope) : Ss → List Stmt → Bool
  | .nil => fun st => match st with
    | [] => true
    | _ => false
  | .cons s ss => fun st => match st with
    | x :: xs => chkS c sc s x && chkSs c sc ss xs
    | _ => false
end

structure Okd (c : Tb) (G B : Fns) (X : Cx) : Prop where
  ok : Okc c G B X
  kind : X.env.scope.kind = .function
  all : ∀ x, X.fn x = true
  pass : PassesOwn (model X.prog X.w) X.A X.env X.xe
theorem locB_ok {c : Tb} {G B : Fns} {X : Cx} (ok : Okd c G B X) {x : Str} (h : locB X.env.scope x = true) : L2.Loc X.env.scope x ∧ (X.fn x = true ∨ X.env.scope.names.lookup x = some .local) := by
  refine ⟨?_, .inl (ok.all x)⟩
  unfold locB at h
  unfold L2.Loc
  split at h <;> first | (rename_i e; simp [e]; done) | cases h
section
variable {c : Tb} {G B : Fns} (hB : BiAll c B)
include hB
theorem sndX {X : Cx} (ok : Okd c G B X) {s : Sx} {st : Stmt} (hc : chkX c X.env.scope s st = true) : PS X st (tS X.K xi0 (evX G B s)) := by
  have tgo : ∀ {t : Tg} {e : Expr}, chkTg c.N (locB X.env.scope) t e = true → PG X e (tG X.K t) := fun h => snd_tg ok.ok.nd ok.ok.ft.calm (fun x hx => locB_ok ok hx) (by rw [ok.ok.N]; exact h)
  cases s with
  | set t e =>
    cases st <;> try (cases hc; done)
    rename_i ts y pos
    rcases ts with _ | ⟨tg, _ | ⟨_, _⟩⟩ <;> try (first | (cases hc; done) | (cases tg <;> (cases hc; done)))
    cases tg <;> try (cases hc; done)
    · rename_i x p
      cases t with
      | many is => cases hc
      | one i =>
        simp only [chkX, Bool.and_eq_true] at hc
        obtain ⟨⟨h1, h2⟩, h3⟩ := hc
        by_cases hn : noComp y = true
        · exact ss_asg hn swapped_name rfl (sndE hB e X _ ok.ok h2).e (tgo h1)
        · cases y <;> try (exact absurd rfl hn)
          · rename_i elt gs scope q
            simp only [noComp, Bool.false_or, Bool.or_eq_true, Bool.and_eq_true, decide_eq_true_eq] at h3
            have h1' := h1
            unfold chkTg at h1'
            rw [Bool.and_eq_true, decide_eq_true_eq] at h1'
            obtain ⟨hi, hl⟩ := h1'
            obtain ⟨l1, l2⟩ := locB_ok ok hl
            rcases h3 with h3 | ⟨⟨h3, h4⟩, h5⟩
            · exact ss_lcs (ps_set ok.ok.nd (by rw [ok.ok.N]; exact hi) l1 (sndE hB e X _ ok.ok h2).e (sw_cell h3) l2) fun st H Q q => q
            · -- the list is stored by the comprehension's own end
              have sw : swapsWith (.ListComp elt gs scope q) (some (.Name x p)) pos.line X.env = pure true := sw_true ok.kind h3 h4 (by simpa using h5)
              cases e <;> try (cases h2; done)
              rename_i elt' tg' it cond
              rcases gs with _ | ⟨⟨t, iter, ifs, a⟩, _ | ⟨_, _⟩⟩ <;> try (cases h2; done)
              simp only [chkE, Bool.and_eq_true, decide_eq_true_eq] at h2
              obtain ⟨⟨⟨⟨⟨⟨⟨rfl, k2⟩, k3⟩, kt⟩, k4⟩, k5⟩, k6⟩, k7⟩ := h2
              have hit := sndIt hB it X _ t ok.ok k3 kt
              have hb : BlkOk X.N X.env.scope scope (ownOf tg' t) := by rw [ok.ok.N]; exact blkOk_by k4
              have hg : ∀ (s : Shared) (H : Hp) (C : Addr) (cl : List (Str × Addr)) (fp : List Addr), PG (X.blk s H scope (compEnvC scope cl C X.env) fp) t (tG X.K tg') := fun s H C cl fp =>
                snd_tg (X := X.blk s H scope (compEnvC scope cl C X.env) fp) (loc := locC scope X.env.scope) ok.ok.nd ok.ok.ft.calm (fun x hx => locC_ok hx) (by rw [show (X.blk s H scope (compEnvC scope cl C X.env) fp).N = c.N from ok.ok.N]; exact k5)
              have he : ∀ (s : Shared) (H : Hp) (C : Addr) (cl : List (Str × Addr)) (fp : List Addr), PE (X.blk s H scope (compEnvC scope cl C X.env) fp) elt (tE X.K xi0 (evE G B elt')) := fun s H C cl fp => (sndE hB elt' (X.blk s H scope (compEnvC scope cl C X.env) fp) elt (ok.ok.blk ..) k7).e
              have fin : ∀ (tt : TT), (∀ (s : Shared) (H : Hp) (C : Addr) (cl : List (Str × Addr)) (fp : List Addr), PTs (X.blk s H scope (compEnvC scope cl C X.env) fp) ifs tt) → (∀ st H Q, tT X.K xi0 (bF (evE G B cond)) st H Q → tt st H Q) →
                  PS X (.Assign [.Name x p] (.ListComp elt [⟨t, iter, ifs, 0⟩] scope q) pos) (tS X.K xi0 (evX G B (.set (.one i) (.lc elt' tg' it cond)))) := fun tt ht htt => by
                refine ss_lcs (ps_setLc ok.ok.ft.calm ok.ok.nd (by rw [ok.ok.N]; exact hi) h3 sw hit hb hg ht he (folded_of k2)) fun st H Q q => ?_
                rw [ownOf_slots k5]
                exact tLc_of htt q
              rcases ifs with _ | ⟨f, _ | ⟨_, _⟩⟩ <;> try (cases k6; done)
              · cases cond <;> try (cases k6; done)
                rename_i b
                cases b <;> try (cases k6; done)
                refine fin tYes (fun s H C cl fp => pts_nil) fun st H Q q => ?_
                obtain ⟨ev, m, h, re, rh, q⟩ := q
                exact q.now rh
              · exact fin _ (fun s H C cl fp => pts_one (sndE hB cond (X.blk s H scope (compEnvC scope cl C X.env) fp) f (ok.ok.blk ..) k6).t) fun st H Q q => q
          · cases e <;> (cases h2; done)
          · cases e <;> (cases h2; done)
    · simp only [chkX, Bool.and_eq_true] at hc
      obtain ⟨⟨⟨h1, h2⟩, h3⟩, h4⟩ := hc
      exact ss_asg h1 (swapped_of h2) rfl (sndE hB e X _ ok.ok h4).e (tgo h3)
  | par i j a b =>
    unfold chkX at hc
    dsimp only at hc
    split at hc
    · simp only [Bool.and_eq_true, decide_eq_true_eq, Bool.not_eq_true'] at hc
      obtain ⟨⟨⟨⟨⟨⟨⟨⟨⟨⟨h1, h2⟩, h3⟩, h4⟩, h5⟩, h6⟩, h7⟩, h8⟩, h9⟩, h10⟩, h11⟩ := hc
      have A := sndE hB a X _ ok.ok h6
      have Q := sndE hB b X _ ok.ok h7
      exact ss_par ok.ok.ft.calm ok.ok.nd (by rw [ok.ok.N]; exact h1) (by rw [ok.ok.N]; exact h2) h3 h4 h5 A.s Q.s A.e Q.e (sw_par ok.kind h4 h5 h8 h9 A.s Q.s h10 h11)
    · cases hc
  | put a i v =>
    cases st <;> try (cases hc; done)
    rename_i ts y pos
    rcases ts with _ | ⟨tg, _ | ⟨_, _⟩⟩ <;> try (first | (cases hc; done) | (cases tg <;> (cases hc; done)))
    cases tg <;> try (cases hc; done)
    simp only [chkX, Bool.and_eq_true] at hc
    obtain ⟨⟨⟨⟨h1, h2⟩, h3⟩, h4⟩, h5⟩ := hc
    exact ss_put h1 h2 (sndE hB v X _ ok.ok h3).e (sndE hB a X _ ok.ok h4).e (sndE hB i X _ ok.ok h5).e
  | augv i op e =>
    cases st <;> try (cases hc; done)
    rename_i tg o y pos
    cases tg <;> try (cases hc; done)
    simp only [chkX, Bool.and_eq_true, decide_eq_true_eq] at hc
    obtain ⟨⟨⟨⟨rfl, h2⟩, h3⟩, h4⟩, h5⟩ := hc
    obtain ⟨l1, l2⟩ := locB_ok ok h4
    exact ss_augv h2 ok.ok.nd (by rw [ok.ok.N]; exact h3) l1 l2 (sndE hB e X _ ok.ok h5).e
  | augp a i op e =>
    cases st <;> try (cases hc; done)
    rename_i tg o y pos
    cases tg <;> try (cases hc; done)
    simp only [chkX, Bool.and_eq_true, decide_eq_true_eq] at hc
    obtain ⟨⟨⟨⟨⟨rfl, h2⟩, h3⟩, h4⟩, h5⟩, h6⟩ := hc
    exact ss_augp rfl h2 h3 (sndE hB a X _ ok.ok h4).e (sndE hB i X _ ok.ok h5).e (sndE hB e X _ ok.ok h6).e
  | ret e =>
    cases st <;> try (cases hc; done)
    rename_i y pos
    cases y with
    | some y => exact ss_ret (sndE hB e X _ ok.ok hc).e
    | none =>
      cases e <;> try (cases hc; done)
      exact ss_retn
  | drop e =>
    cases st <;> try (cases hc; done)
    · simp only [chkX, Bool.and_eq_true] at hc
      exact ss_drop hc.1 (sndE hB e X _ ok.ok hc.2).e
    · cases e <;> try (cases hc; done)
      exact ss_pass
  | app a e =>
    cases st <;> try (cases hc; done)
    rename_i y pos
    cases y <;> try (cases hc; done)
    rename_i f zs kw cpos
    cases f <;> try (cases hc; done)
    rcases zs with _ | ⟨z, _ | ⟨_, _⟩⟩ <;> try (cases hc; done)
    cases kw <;> try (cases hc; done)
    simp only [chkX, Bool.and_eq_true, decide_eq_true_eq] at hc
    obtain ⟨⟨⟨⟨rfl, h2⟩, h3⟩, h4⟩, h5⟩ := hc
    have A := sndE hB e X _ ok.ok h5
    exact ss_app A.s h2 (base_of h3) (sndE hB a X _ ok.ok h4).e A.e rfl
  | never => exact ⟨fun pins s st H D I ⟨ev, m, h, re, rh, q⟩ => q.elim⟩
mutual
theorem sndS : ∀ (s : S) (X : Cx) (st : Stmt), Okd c G B X → chkS c X.env.scope s st = true → PS X st (tS X.K xi0 (evS G B s))
  | .x s, X, st, ok, hc => sndX hB ok hc
  | .ifs d a b, X, st, ok, hc => by
    cases st <;> try (cases hc; done)
    simp only [chkS, Bool.and_eq_true] at hc
    obtain ⟨⟨h1, h2⟩, h3⟩ := hc
    exact ss_if (sndE hB d X _ ok.ok h1).t (sndSs a X _ ok h2) (sndSs b X _ ok h3)
  | .for tg it b, X, st, ok, hc => by
    cases st <;> try (cases hc; done)
    rename_i t iter x el p
    cases el <;> try (cases hc; done)
    simp only [chkS, Bool.and_eq_true] at hc
    obtain ⟨⟨⟨h1, h2⟩, h3, ht⟩, h4⟩ := hc
    exact ss_for ok.pass ok.ok.ft.calm h1 (sndIt hB it X _ t ok.ok h3 ht) (snd_tg ok.ok.nd ok.ok.ft.calm (fun x hx => locB_ok ok hx) (by rw [ok.ok.N]; exact h2)) (sndSs b X _ ok h4)
  | .whl d b, X, st, ok, hc => by
    cases st <;> try (cases hc; done)
    rename_i t x el p
    cases el <;> try (cases hc; done)
    simp only [chkS, Bool.and_eq_true] at hc
    exact ss_whl ok.pass (sndE hB d X _ ok.ok hc.1).t (sndSs b X _ ok hc.2) 100000
theorem sndSs : ∀ (ss : Ss) (X : Cx) (st : List Stmt), Okd c G B X → chkSs c X.env.scope ss st = true → PSs X st (tS X.K xi0 (evSs G B ss))
  | .nil, X, st, ok, hc => by
    cases st <;> try (cases hc; done)
    exact sss_nil
  | .cons s ss, X, st, ok, hc => by
    cases st <;> try (cases hc; done)
    simp only [chkSs, Bool.and_eq_true] at hc
    exact sss_cons (sndS s X _ ok hc.1) (sndSs ss X _ ok hc.2)
end
end

/-! ### defs -/
/-- a def as the evaluator has it -/
structure DefT where
  name : Str
  ps : List Str
  N : List Str
  body : Ss
  st : Stmt
def chkD (T : List (Str × Nat)) (B : List Str) (d : DefT) : Bool :=
  (match (defScope d.st).kind with | .function => true | _ => false) && !(defScope d.st).isCoroutine && !(defScope d.st).isGenerator && decide d.N.Nodup && decide (d.N.take d.ps.length = d.ps) &&
    (d.ps.all fun x => locB (defScope d.st) x) && ((defScope d.st).names.all fun y => decide (y.2 ≠ .free)) && chkSs ⟨d.N, T, B⟩ (defScope d.st) d.body (defBody d.st)
theorem chkD_scope {T : List (Str × Nat)} {B : List Str} {d : DefT} (h : chkD T B d = true) : FnScope d.N d.ps (defScope d.st) := by
  unfold chkD at h
  simp only [Bool.and_eq_true, decide_eq_true_eq, List.all_eq_true, Bool.not_eq_true'] at h
  obtain ⟨⟨⟨⟨⟨⟨⟨h1, h2⟩, h3⟩, h4⟩, h5⟩, h6⟩, h7⟩, h8⟩ := h
  refine ⟨?_, h2, h3, h4, h5, fun x hx => ?_, fun y hy => h7 y hy⟩
  · split at h1
    · rename_i e; exact e
    · cases h1
  · have := h6 x hx
    unfold locB at this
    split at this <;> first | (rename_i e; simp [e]; done) | cases this
theorem chkD_body {T : List (Str × Nat)} {B : List Str} {d : DefT} (h : chkD T B d = true) : chkSs ⟨d.N, T, B⟩ (defScope d.st) d.body (defBody d.st) = true := by
  unfold chkD at h
  rw [Bool.and_eq_true] at h
  exact h.2

section
variable {P : Program} {w : World} {K : PySem.W.Frag} {mg : Str → Option Value} {base : Heap}
/-- where the defs stand -/
structure Stand (K : PySem.W.Frag) (mg : Str → Option Value) (ds : List DefT) (Bn : List Str) (f : Nat → Addr) (fd : Nat → FuncData) : Prop where
  at' : ∀ (i : Nat) d, ds[i]? = some d → FunD K d.name d.name (defArgs d.st) (defBody d.st) (defScope d.st) [] [] (f i) (fd i)
  gl : ∀ (i : Nat) d, ds[i]? = some d → mg d.name = some (.ref (f i))
  bind : ∀ (i : Nat) d, ds[i]? = some d → Binds K (fd i) d.ps []
  bi : ∀ x ∈ Bn, mg x = none ∧ x ≠ "__name__"
  rng : mg "range" = none
  more : ∀ x ∈ coreN, mg x = none

def tab (ds : List DefT) : List (Str × Nat) := ds.map fun d => (d.name, d.ps.length)
def sem (B : Fns) (ds : List DefT) : Nat → Fns
  | 0 => fun _ _ _ => .stuck
  | n + 1 => fun i xs h => match ds[i]? with
    | some d => evF (sem B ds n) B d.N.length d.body xs h
    | none => .stuck
theorem start_env {m : List Addr} {H : Hp} {N : List Str} {vs : List V} {xs : List PV} (r : Reps K m H vs xs) : REnv K m H (L2.start N vs) (xs.map some ++ List.replicate (N.length - xs.length) none) := by
  have hl := r.length
  refine ⟨by simp [L2.start, hl], fun i x e => ?_⟩
  unfold L2.start
  by_cases hi : i < xs.length
  · rw [List.getElem?_append_left (by simpa using hi), List.getElem?_map] at e
    cases ex : xs[i]? with
    | none => rw [ex] at e; cases e
    | some y =>
      rw [ex] at e
      cases e
      obtain ⟨v, h1, h2⟩ := r.get ex
      exact ⟨v, by rw [List.getElem?_append_left (by simp; omega), List.getElem?_map, h1]; rfl, h2⟩
  · rw [List.getElem?_append_right (by simpa using hi)] at e
    obtain ⟨_, z⟩ := List.getElem?_eq_some_iff.mp e
    simp at z
theorem def_ok {ds : List DefT} {Bn : List Str} {B : Fns} {f : Nat → Addr} {fd : Nat → FuncData} (S : Stand K mg ds Bn f fd) (hB : ∀ c : Tb, c.B = Bn → BiAll c B) {i : Nat} {d : DefT} (hd : ds[i]? = some d) (hc : chkD (tab ds) Bn d = true) {n : Nat} {G : Fns}
    (hG : ∀ (j : Nat) e, ds[j]? = some e → FnOk P w K mg base CX0 n (f j) (fd j) e.ps (spOf K e.ps.length (G j))) : FnOk P w K mg base CX0 (n + 1) (f i) (fd i) d.ps (spOf K d.ps.length fun xs h => evF G B d.N.length d.body xs h) := by
  refine (S.at' i d hd).ok (chkD_scope hc) (fun vs H Q E h => h.1) fun cdv A outer s H vs Q E hr h => ?_
  obtain ⟨hl, m, h, xs, rh, rxs, p⟩ := h
  refine ⟨tS K xi0 (evSs G B d.body), PSs.nox ?_, (xs.map some ++ List.replicate (d.N.length - xs.length) none), m, h, start_env rxs, rh, ?_⟩
  · have ok : Okd ⟨d.N, tab ds, Bn⟩ G B (cxOf CX0 P w K mg base d.N d.name (defScope d.st) (f i) cdv A outer s H E).nox := by
      refine ⟨⟨⟨rfl, ?_⟩, rfl, (chkD_scope hc).nd, S.rng, S.more, fun j x k e => ?_, fun j x e => S.bi x (List.mem_of_getElem? e)⟩, (chkD_scope hc).kind, fun _ => rfl, PassesOwn.never⟩
      · have := hr.un
        show (A.deeper _).units + 100 < cLine
        omega
      · have e' : (ds.map fun d => (d.name, d.ps.length))[j]? = some (x, k) := e
        rw [List.getElem?_map] at e'
        cases ej : ds[j]? with
        | none => rw [ej] at e'; cases e'
        | some u =>
          rw [ej] at e'
          cases e'
          exact ⟨f j, fd j, u.ps, n, S.gl j u ej, (S.at' j u ej).kp, S.bind j u ej, hr, rfl, hG j u ej⟩
    exact sndSs (hB _ rfl) d.body _ _ ok (chkD_body hc)
  · unfold evF at p
    refine p.bind fun o h1 m1 H1 g1 rh1 p1 => ?_
    cases o with
    | nx ev => exact fun st' _ => p1.now rh1 _ .non
    | rt x => exact fun v rv => p1.now rh1 v rv
theorem sem_ok {ds : List DefT} {Bn : List Str} {B : Fns} {f : Nat → Addr} {fd : Nat → FuncData} (S : Stand K mg ds Bn f fd) (hB : ∀ c : Tb, c.B = Bn → BiAll c B) (hc : ds.all (chkD (tab ds) Bn) = true) :
    ∀ (n i : Nat) d, ds[i]? = some d → FnOk P w K mg base CX0 n (f i) (fd i) d.ps (spOf K d.ps.length (sem B ds n i))
  | 0, i, d, _ => ⟨fun vs H Q E h => h.1, fun A outer s H args us vs Q E _ _ _ _ h => by
      obtain ⟨_, m, h, xs, rh, rxs, p⟩ := h
      exact p.elim⟩
  | n + 1, i, d, hd => by
    have q := def_ok (P := P) (w := w) (base := base) S hB hd (List.all_eq_true.mp hc d (List.mem_of_getElem? hd)) (sem_ok S hB hc n)
    have e : sem B ds (n + 1) i = fun xs h => evF (sem B ds n) B d.N.length d.body xs h := by
      funext xs h
      show (match ds[i]? with
        | some d => evF (sem B ds n) B d.N.length d.body xs h
        | none => .stuck) = _
      rw [hd]
    rw [e]
    exact q
end
end Vm

set_option Elab.async false
set_option linter.all false
set_option maxRecDepth 100000
set_option maxHeartbeats 4000000
/-! VmJ: built-ins. -/
namespace Vm
open PySem PySem.Spec PyProof.Rows L2

def minL : List Int → Int
  | [] => 0
  | [x] => x
  | x :: y :: r => let m := minL (y :: r); if m < x then m else x
def maxL : List Int → Int
  | [] => 0
  | [x] => x
  | x :: y :: r => let m := maxL (y :: r); if m > x then m else x
theorem minL_mem : ∀ {ns : List Int}, ns ≠ [] → minL ns ∈ ns ∧ ∀ y ∈ ns, minL ns ≤ y
  | [], h => absurd rfl h
  | [x], _ => ⟨by simp [minL], by simp [minL]⟩
  | x :: y :: r, _ => by
    obtain ⟨h1, h2⟩ := minL_mem (ns := y :: r) (by simp)
    unfold minL
    dsimp only
    by_cases h : minL (y :: r) < x
    · rw [if_pos h]
      refine ⟨List.mem_cons_of_mem _ h1, fun z hz => ?_⟩
      rcases List.mem_cons.mp hz with rfl | hz
      · omega
      · exact h2 z hz
    · rw [if_neg h]
      refine ⟨List.mem_cons_self, fun z hz => ?_⟩
      rcases List.mem_cons.mp hz with rfl | hz
      · omega
      · have := h2 z hz; omega
theorem maxL_mem : ∀ {ns : List Int}, ns ≠ [] → maxL ns ∈ ns ∧ ∀ y ∈ ns, y ≤ maxL ns
  | [], h => absurd rfl h
  | [x], _ => ⟨by simp [maxL], by simp [maxL]⟩
  | x :: y :: r, _ => by
    obtain ⟨h1, h2⟩ := maxL_mem (ns := y :: r) (by simp)
    unfold maxL
    dsimp only
    by_cases h : maxL (y :: r) > x
    · rw [if_pos h]
      refine ⟨List.mem_cons_of_mem _ h1, fun z hz => ?_⟩
      rcases List.mem_cons.mp hz with rfl | hz
      · omega
      · exact h2 z hz
    · rw [if_neg h]
      refine ⟨List.mem_cons_self, fun z hz => ?_⟩
      rcases List.mem_cons.mp hz with rfl | hz
      · omega
      · have := h2 z hz; omega

def biLen : List PV → IH → Res PV
  | [.str z], h => if z.length ≤ sizeLine then .ok (.int z.length) h else .stuck
  | [x], h => match rd h x with
    | some xs => .ok (.int xs.length) h
    | none => .stuck
  | _, _ => .stuck
def biSum : List PV → IH → Res PV
  | [x], h => match (rd h x).bind intsOf with
    | some ns => .ok (.int ns.sum) h
    | none => .stuck
  | _, _ => .stuck
def biTuple : List PV → IH → Res PV
  | [x], h => match rd h x with
    | some xs => .ok (.tup xs) h
    | none => .stuck
  | _, _ => .stuck
def biList : List PV → IH → Res PV
  | [x], h => match rd h x with
    | some xs => new h xs
    | none => .stuck
  | _, _ => .stuck
def biDivmod : List PV → IH → Res PV
  | [.int i, .int j], h => if 0 < j ∧ j < 1073741824 then .ok (.tup [.int (i / j), .int (i % j)]) h else .stuck
  | _, _ => .stuck
def biAbs : List PV → IH → Res PV
  | [.int i], h => .ok (.int (if i < 0 then -i else i)) h
  | _, _ => .stuck

def biInt : List PV → IH → Res PV
  | [.int i], h => .ok (.int i) h
  | [.bl b], h => .ok (.int (if b then 1 else 0)) h
  | _, _ => .stuck

theorem Reps.one {K : PySem.W.Frag} {m : List Addr} {H : Hp} {vs : List V} {x : PV} (r : Reps K m H vs [x]) : ∃ v, vs = [v] ∧ Rep K m H v x := by
  cases r with
  | cons r t => cases t; exact ⟨_, rfl, r⟩
theorem Reps.two {K : PySem.W.Frag} {m : List Addr} {H : Hp} {vs : List V} {x y : PV} (r : Reps K m H vs [x, y]) : ∃ v w, vs = [v, w] ∧ Rep K m H v x ∧ Rep K m H w y := by
  cases r with
  | cons r t =>
    obtain ⟨w, rfl, q⟩ := t.one
    exact ⟨_, w, rfl, r, q⟩
section
variable {K : PySem.W.Frag}
theorem bk_len : BiOk K biLen (fun xs H Q => (∃ p ys, xs = [.ref p] ∧ (SqL K H p ys ∨ SqT K H p ys) ∧ Q (.int ys.length) H) ∨ (∃ z, xs = [.str z] ∧ z.length ≤ sizeLine ∧ Q (.int z.length) H)) := by
  intro xi m H h xs vs Q rh rx p
  rcases xs with _ | ⟨x, _ | ⟨_, _⟩⟩
  · exact p.elim
  · obtain ⟨v, rfl, r⟩ := rx.one
    have gen : (Post K xi m H (match rd h x with
      | some xs => .ok (.int xs.length) h
      | none => .stuck) fun z m' H' => ∀ v, Rep K m' H' v z → Q v H') → ∃ p ys, [v] = [V.ref p] ∧ (SqL K H p ys ∨ SqT K H p ys) ∧ Q (.int ys.length) H := fun p' => by
      clear p
      cases e : rd h x with
      | none => rw [e] at p'; exact p'.elim
      | some xs =>
        rw [e] at p'
        obtain ⟨a, vs, rfl, hs, rv⟩ := rd_ok rh r e
        exact ⟨a, vs, rfl, hs, by rw [rv.length]; exact p'.now rh _ .int⟩
    cases x <;> try exact .inl (gen p)
    cases r
    obtain ⟨hl, p⟩ := Post.ite p
    exact .inr ⟨_, rfl, hl, p.now rh _ .int⟩
  · cases x <;> exact p.elim
theorem bk_sum : BiOk K biSum (fun vs H Q => rSum K vs H Q ∨ ∃ (a : Addr) (ns : List Int), vs = [V.ref a] ∧ SqT K H a (ns.map V.int) ∧ Q (.int ns.sum) H) := by
  intro xi m H h xs vs Q rh rx p
  rcases xs with _ | ⟨x, _ | ⟨_, _⟩⟩ <;> try exact p.elim
  obtain ⟨v, rfl, r⟩ := rx.one
  unfold biSum at p
  dsimp only at p
  cases e : (rd h x).bind intsOf with
  | none => rw [e] at p; exact p.elim
  | some ns =>
    rw [e] at p
    obtain ⟨a, rfl, hs | hs⟩ := ints_at rh r e
    · exact .inl ⟨a, ns, rfl, hs, p.now rh _ .int⟩
    · exact .inr ⟨a, ns, rfl, hs, p.now rh _ .int⟩
theorem bk_tuple : BiOk K biTuple (fun xs H Q => ∃ p ys, xs = [.ref p] ∧ ((SqL K H p ys ∧ ∀ l, H l = none → Q (.ref l) (upd H l (.tup ys))) ∨ (SqT K H p ys ∧ Q (.ref p) H))) := by
  intro xi m H h xs vs Q rh rx p
  rcases xs with _ | ⟨x, _ | ⟨_, _⟩⟩ <;> try exact p.elim
  obtain ⟨v, rfl, r⟩ := rx.one
  unfold biTuple at p
  dsimp only at p
  cases e : rd h x with
  | none => rw [e] at p; exact p.elim
  | some xs =>
    rw [e] at p
    obtain ⟨a, vs, rfl, hs | hs, rv⟩ := rd_ok rh r e
    · exact ⟨a, vs, rfl, .inl ⟨hs, newT_at rh rv p⟩⟩
    · exact ⟨a, vs, rfl, .inr ⟨hs, p.now rh _ (.tup hs rv)⟩⟩
theorem bk_list : BiOk K biList (fun xs H Q => ∃ p ys, xs = [.ref p] ∧ (SqL K H p ys ∨ SqT K H p ys) ∧ ∀ l, H l = none → Q (.ref l) (upd H l (.lst ys))) := by
  intro xi m H h xs vs Q rh rx p
  rcases xs with _ | ⟨x, _ | ⟨_, _⟩⟩ <;> try exact p.elim
  obtain ⟨v, rfl, r⟩ := rx.one
  unfold biList at p
  dsimp only at p
  cases e : rd h x with
  | none => rw [e] at p; exact p.elim
  | some xs =>
    rw [e] at p
    obtain ⟨a, vs, rfl, hs, rv⟩ := rd_ok rh r e
    exact ⟨a, vs, rfl, hs, (new_at rh rv p).2⟩
theorem bk_divmod : BiOk K biDivmod (fun xs H Q => ∃ i j, xs = [.int i, .int j] ∧ CDiv i j ∧ ∀ p, H p = none → Q (.ref p) (upd H p (.tup [.int (i / j), .int (i % j)]))) := by
  intro xi m H h xs vs Q rh rx p
  rcases xs with _ | ⟨x, _ | ⟨y, _ | ⟨_, _⟩⟩⟩ <;> try (first | exact p.elim | (cases x <;> exact p.elim) | (cases x <;> cases y <;> exact p.elim))
  cases x <;> cases y <;> try exact p.elim
  obtain ⟨v, w, rfl, r1, r2⟩ := rx.two
  cases r1
  cases r2
  obtain ⟨hc, p⟩ := Post.ite p
  exact ⟨_, _, rfl, hc, newT_at rh (.cons .int (.cons .int .nil)) p⟩
theorem bk_int : BiOk K biInt (fun xs H Q => (∃ i, xs = [.int i] ∧ Q (.int i) H) ∨ ∃ k, xs = [.bl k] ∧ Q (.int (if k then 1 else 0)) H) := by
  intro xi m H h xs vs Q rh rx p
  rcases xs with _ | ⟨x, _ | ⟨_, _⟩⟩ <;> try (first | exact p.elim | (cases x <;> exact p.elim))
  cases x <;> try exact p.elim
  · obtain ⟨v, rfl, r⟩ := rx.one
    cases r
    exact .inr ⟨_, rfl, p.now rh _ .int⟩
  · obtain ⟨v, rfl, r⟩ := rx.one
    cases r
    exact .inl ⟨_, rfl, p.now rh _ .int⟩
theorem bk_abs : BiOk K biAbs (fun xs H Q => ∃ i, xs = [.int i] ∧ Q (.int (if i < 0 then -i else i)) H) := by
  intro xi m H h xs vs Q rh rx p
  rcases xs with _ | ⟨x, _ | ⟨_, _⟩⟩ <;> try (first | exact p.elim | (cases x <;> exact p.elim))
  cases x <;> try exact p.elim
  obtain ⟨v, rfl, r⟩ := rx.one
  cases r
  exact ⟨_, rfl, p.now rh _ .int⟩
end

/-! ### sum of a tuple -/
section
variable {prog : Program} {w : World} {A : Around} {E : Value → Shared → Prop} {s : Shared} {l : Addr}
theorem iter_tup {xs : Array (Int × Tok)} {Q : Value → Shared → Prop} (ht : s.heap.IsTuple l (intItems xs))
    (h : ∀ s2 : Shared, s2 = { s with heap := s.heap.push { cls := .type "tuple_iterator", data := .fields #[.ref l, .int 0 0] } } → (s2.heap.IsTupleIter s.heap.objs.size l 0 ∧ s2.heap.IsTuple l (intItems xs)) → (∀ b ∈ [s.heap.objs.size, l], b < s2.heap.objs.size) → l ≠ s.heap.objs.size → Q (.ref s.heap.objs.size) s2) :
    wpAny (model prog w) A (pyIter (.ref l)) Q E s := by
  have lt : l < s.heap.objs.size := by obtain ⟨o, e, _⟩ := ht; exact Heap.lt_size e
  refine wpAny_pyIter_tuple ht (h _ rfl ⟨⟨_, Heap.get?_push_size _ rfl, rfl, rfl⟩, ?_⟩ (fun b hb => ?_) (Nat.ne_of_lt lt))
  · obtain ⟨o, e, c, n, d⟩ := ht
    exact ⟨o, Heap.get?_push_of_some _ e, c, n, d⟩
  · show b < (s.heap.push _).objs.size
    rw [Heap.size_push]
    rcases List.mem_cons.mp hb with rfl | hb
    · exact Nat.lt_succ_self _
    · have : b = l := by simpa using hb
      subst this
      exact Nat.lt_succ_of_lt lt
theorem sum_tup {its : List Value} {ns : List Int} {Q : Value → Shared → Prop} (hh : A.handled = none) (ht : s.heap.IsTuple l its.toArray) (hi : IntsAre its ns)
    (h : ∀ h' tk t', (∀ b o, s.heap.get? b = some o → h'.get? b = some o) → Q (.int ns.sum t') { s with heap := h', toks := tk }) : wpAny (model prog w) A (call (.builtin "sum") [.ref l]) Q E s := by
  obtain ⟨xs, e⟩ := hi.allInts.items
  have hn : numsOf (intItems xs).toList = ns := by rw [← e]; exact hi.numsOf
  rw [nums_intItems] at hn
  rw [e] at ht
  refine PySem.call_sum_walkG (iter_tup ht fun s2 e2 st hfp hl => ?_)
  subst e2
  refine ⟨_, _, _, _, _, _, numAt xs, rfl, Walks.tuple (A := A.in1) hh _ l hl (intItems xs), st, hfp, (fun _ _ => intItems_at), fun h' tk t' hk => ?_⟩
  have q := h h' tk t' fun b o eb => hk b o (fun hm => by
    have : b = s.heap.objs.size := by simpa using hm
    subst this
    exact absurd (Heap.lt_size eb) (Nat.lt_irrefl _)) (Heap.get?_push_of_some _ eb)
  have e3 : preSum (numAt xs) xs.size = ns.sum := by
    rw [preSum_eq, List.take_of_length_le (by simp), hn]
  rw [← e3] at q
  simpa [intItems] using q
end
theorem cr_sumT {X : Cx} (hc : X.calm = true) : CallR X (.builtin "sum") (fun vs H Q => ∃ (a : Addr) (ns : List Int), vs = [V.ref a] ∧ SqT X.K H a (ns.map V.int) ∧ Q (.int ns.sum) H) := by
  intro pins s st H vs us Q I r h
  obtain ⟨a, ns, rfl, hs, q⟩ := h
  obtain ⟨its, rv, ht, _⟩ := I.tuple hs
  rw [Vals.ref1 r]
  exact sum_tup (I.ok.hd hc) ht rv.ints fun h' tk t' hk => ⟨.int _, H, I.kept hk, ⟨_, rfl⟩, q⟩
end Vm

set_option Elab.async false
set_option linter.all false
set_option maxRecDepth 100000
set_option maxHeartbeats 8000000
/-! VmQ: the least of a list of pairs of ints. -/
namespace Vm
open PySem PySem.Spec PyProof.Rows L2

/-- what stood there stands there still, but wr and S -/
abbrev Still (wr : List Addr) (S : Addr) (g g' : Heap) : Prop := ∀ b o, b ∉ wr → b ≠ S → g.get? b = some o → g'.get? b = some o
theorem Still.trans {wr : List Addr} {S : Addr} {g g1 g2 : Heap} (a : Still wr S g g1) (b : Still wr S g1 g2) : Still wr S g g2 := fun c o h1 h2 e => b c o h1 h2 (a c o h1 h2 e)
section
variable {prog : Program} {w : World} {A : Around} {R : Result → Shared → Prop} {I S : Addr} {fp wr : List Addr} {n : Nat} {P : Nat → Value → Prop} {St : Nat → Heap → Prop} {Gd : Heap → Prop}
/-- a compare that rests on what stands in the heap -/
abbrev CmpG (prog : Program) (w : World) (A : Around) (Gd : Heap → Prop) (P : Nat → Value → Prop) (bt : Nat → Nat → Bool) : Prop :=
  ∀ i j x y (s : Shared) (Q E : Value → Shared → Prop), Gd s.heap → P i x → P j y → Q (.bool (bt i j)) s → wpAny (model prog w) A (richCompare .Lt x y) Q E s
theorem least_loop (W : Walks prog w A.in1 I fp wr n P St) (bt : Nat → Nat → Bool) (hG : ∀ g g', Gd g → Still wr S g g' → Gd g') (hcmp : CmpG prog w A.in1 Gd P bt) (nS : S ∉ fp) :
    ∀ (k j : Nat) (s : Shared) (x : Value) (c : Nat), n = k + (j + 1) → St (j + 1) s.heap → Gd s.heap → P (argBest bt j) x → s.heap.get? S = some { cls := .type "list", dict := none, data := .seq #[x, x] c, slots := #[] } →
    (∀ y g tk, P (argBest bt (n - 1)) y → Still wr S s.heap g → R (.ok (.ret y)) { s with heap := g, toks := tk }) → codeAny (model prog w) A (.builtin "min.loop" ⟨[.ref I, .none, .ref S], []⟩) R s
  | 0, j, s, x, c, hn, st, gd, px, oS, fin => by
    refine codeAny_builtin PySem.F.entry_min_loop ?_
    rw [Around.under_plainId PySem.F.plain_min_loop _]
    show wpAny _ A.in1 (seqItems? (.ref S) >>= _) _ _ s
    refine wpAny_bind (wpAny_seqItems oS rfl ?_)
    show wpAny _ A.in1 (tryCatch (pyNext (.ref I)) _ >>= _) _ _ s
    have ej : n = j + 1 := by omega
    refine wpAny_bind (wpAny_tryCatch (W.done s _ _ (by rw [ej]; exact st) fun g tk kp => ?_))
    have oS' := kp S _ (fun z => nS (W.sub _ z)) oS
    show wpAny _ A.in1 (updateSeq S (fun _ => #[]) >>= _) _ _ _
    refine wpAny_bind (wpAny_updateSeq oS' rfl (wpAny_bind (wpAny_letGo (wpAny_pure (fin x _ tk (by rw [ej]; exact px) fun b o h1 h2 e => ?_)))))
    exact (Heap.get?_update_other _ _ (Ne.symm h2)).trans (kp b o h1 e)
  | k + 1, j, s, x, c, hn, st, gd, px, oS, fin => by
    refine codeAny_builtin PySem.F.entry_min_loop ?_
    rw [Around.under_plainId PySem.F.plain_min_loop _]
    show wpAny _ A.in1 (seqItems? (.ref S) >>= _) _ _ s
    refine wpAny_bind (wpAny_seqItems oS rfl ?_)
    show wpAny _ A.in1 (tryCatch (pyNext (.ref I)) _ >>= _) _ _ s
    have lj : j + 1 < n := by omega
    refine wpAny_bind (wpAny_tryCatch (W.item (j + 1) s _ _ lj st fun v g tk pv st' kp => ?_))
    have oS' := kp S _ (fun z => nS (W.sub _ z)) oS
    have k1 : Still wr S s.heap g := fun b o h1 _ e => kp b o h1 e
    show wpAny _ A.in1 (tryCatch (holding [v, v] (richCompare .Lt v x >>= _)) _ >>= _) _ _ _
    refine wpAny_bind (wpAny_tryCatch (wpAny_holding (wpAny_bind (hcmp (j + 1) (argBest bt j) v x _ _ _ (hG _ _ gd k1) pv px ?_))))
    refine wpAny_bind (wpAny_holding (wpAny_truthy_bool (wpAny_bind (wpAny_letGo (wpAny_pure ?_)))))
    have hname : (toString "min" ++ toString ".loop" : String) = "min.loop" := by decide
    cases hb : bt (j + 1) (argBest bt j) with
    | true =>
      simp only [if_true]
      refine wpAny_bind (wpAny_updateSeq oS' rfl (wpAny_bind (wpAny_letGo ?_)))
      rw [hname]
      have k2 : ∀ f, Still wr S g (g.update S f) := fun f b o _ h2 e => (Heap.get?_update_other _ _ (Ne.symm h2)).trans e
      refine wpAny_pure ⟨plainId_quiet PySem.F.plain_min_loop _, least_loop W bt hG hcmp nS k (j + 1) _ v _ (by omega) (W.frame _ _ _ st' fun b hbf o e => ?_) (hG _ _ gd (k1.trans (k2 _))) (by simp only [argBest, hb, if_true]; exact pv) (Heap.get?_update_self _ oS' rfl)
        fun y g2 tk2 py k3 => fin y g2 tk2 py ((k1.trans (k2 _)).trans k3)⟩
      exact (Heap.get?_update_other _ _ (fun z : S = b => nS (by rw [z]; exact hbf))).trans e
    | false =>
      simp only [Bool.false_eq_true, if_false]
      refine wpAny_bind (wpAny_letGo ?_)
      rw [hname]
      exact wpAny_pure ⟨plainId_quiet PySem.F.plain_min_loop _, least_loop W bt hG hcmp nS k (j + 1) _ x c (by omega) st' (hG _ _ gd k1) (by simp only [argBest, hb, Bool.false_eq_true, if_false]; exact px) oS' fun y g2 tk2 py k3 => fin y g2 tk2 py (k1.trans k3)⟩
theorem least_first (W : Walks prog w A.in1 I fp wr n P St) (bt : Nat → Nat → Bool) (hG : ∀ g g', Gd g → Still wr S g g' → Gd g') (hcmp : CmpG prog w A.in1 Gd P bt) (nS : S ∉ fp) (hn : 0 < n) {s : Shared} {c : Nat} (st : St 0 s.heap) (gd : Gd s.heap)
    (oS : s.heap.get? S = some { cls := .type "list", dict := none, data := .seq #[] c, slots := #[] }) (fin : ∀ y g tk, P (argBest bt (n - 1)) y → Still wr S s.heap g → R (.ok (.ret y)) { s with heap := g, toks := tk }) :
    codeAny (model prog w) A (.builtin "min.loop" ⟨[.ref I, .none, .ref S], []⟩) R s := by
  refine codeAny_builtin PySem.F.entry_min_loop ?_
  rw [Around.under_plainId PySem.F.plain_min_loop _]
  show wpAny _ A.in1 (seqItems? (.ref S) >>= _) _ _ s
  refine wpAny_bind (wpAny_seqItems oS rfl ?_)
  show wpAny _ A.in1 (tryCatch (pyNext (.ref I)) _ >>= _) _ _ s
  refine wpAny_bind (wpAny_tryCatch (W.item 0 s _ _ hn st fun v g tk pv st' kp => ?_))
  have oS' := kp S _ (fun z => nS (W.sub _ z)) oS
  have hname : (toString "min" ++ toString ".loop" : String) = "min.loop" := by decide
  show wpAny _ A.in1 (updateSeq S (fun _ => #[v, v]) >>= _) _ _ _
  refine wpAny_bind (wpAny_updateSeq oS' rfl ?_)
  rw [hname]
  have k2 : ∀ f, Still wr S s.heap (g.update S f) := fun f b o h1 h2 e => (Heap.get?_update_other _ _ (Ne.symm h2)).trans (kp b o h1 e)
  refine wpAny_pure ⟨plainId_quiet PySem.F.plain_min_loop _, least_loop W bt hG hcmp nS (n - 1) 0 _ v _ (by omega) (W.frame _ _ _ st' fun b hbf o e => ?_) (hG _ _ gd (k2 _)) pv (Heap.get?_update_self _ oS' rfl) fun y g2 tk2 py k3 => fin y g2 tk2 py ((k2 _).trans k3)⟩
  exact (Heap.get?_update_other _ _ (fun z : S = b => nS (by rw [z]; exact hbf))).trans e
end
section
variable {prog : Program} {w : World} {A : Around} {E : Value → Shared → Prop} {s : Shared}
/-- min(xs) of a list, by a compare that rests on the heap -/
theorem least_list {l : Addr} {us : Array Value} {bt : Nat → Nat → Bool} {Gd : Heap → Prop} {Q : Value → Shared → Prop} (hh : A.handled = none) (hl : s.heap.IsList l us) (hn : 0 < us.size)
    (gd : Gd s.heap) (hG : ∀ g g', Gd g → (∀ b o, b < s.heap.objs.size → g.get? b = some o → g'.get? b = some o) → Gd g') (hcmp : CmpG prog w A.in1 Gd (fun i v => us[i]? = some v) bt)
    (fin : ∀ y g tk, us[argBest bt (us.size - 1)]? = some y → (∀ b o, s.heap.get? b = some o → g.get? b = some o) → Q y { s with heap := g, toks := tk }) : wpAny (model prog w) A (call (.builtin "min") [.ref l]) Q E s := by
  have hname : (toString "min" ++ toString ".loop" : String) = "min.loop" := by decide
  refine call_function_tree PySem.F.kind_min PySem.F.plain_min PySem.F.entry_min (PySem.F.args_min1 _) ?_
  show wpAny _ A.in1 (Builtin.Builtins.bindParams "min" ["key", "default"] 0 ⟨[], []⟩ >>= _) _ _ s
  refine wpAny_bind (wpAny_of_eq (show Builtin.Builtins.bindParams "min" ["key", "default"] 0 ⟨[], []⟩ = pure [none, none] from rfl) ?_)
  refine wpAny_bind (wpAny_pure (wpAny_bind (wpAny_pyIter_list hl (wpAny_bind (wpAny_newObj_type ?_)))))
  have lt : l < s.heap.objs.size := by obtain ⟨o, e, _⟩ := hl; exact Heap.lt_size e
  have nI : l ≠ s.heap.objs.size := Nat.ne_of_lt lt
  generalize hg1 : s.heap.push { cls := .type "list_iterator", data := .fields #[.ref l, .int 0 0] } = g1
  have z1 : g1.objs.size = s.heap.objs.size + 1 := by rw [← hg1]; exact Heap.size_push ..
  have k1 : ∀ b o, s.heap.get? b = some o → g1.get? b = some o := fun b o e => by rw [← hg1]; exact Heap.get?_push_of_some _ e
  have st1 : g1.IsListIter s.heap.objs.size l 0 ∧ g1.IsList l us := by
    rw [← hg1]
    exact ⟨⟨_, Heap.get?_push_size _ rfl, rfl, rfl⟩, hl.push _⟩
  have nS : g1.objs.size ∉ [s.heap.objs.size, l] := by
    rw [z1]
    intro z
    rcases List.mem_cons.mp z with z | z
    · exact Nat.ne_of_gt (Nat.lt_succ_self _) z
    · exact Nat.ne_of_gt (Nat.lt_succ_of_lt lt) (List.mem_singleton.mp z)
  have W := Walks.list (prog := prog) (w := w) (A := A.in1) hh s.heap.objs.size l nI us
  rw [hname]
  refine wpAny_pure ⟨plainId_quiet PySem.F.plain_min_loop _, least_first (Gd := Gd) W bt (fun g g' gg kk => hG g g' gg fun b o hb e => kk b o (fun z => ?_) (fun z => ?_) e) hcmp nS hn (W.frame _ _ _ st1 fun b _ o e => Heap.get?_push_of_some _ e)
    (hG _ _ gd fun b o _ e => Heap.get?_push_of_some _ (k1 b o e)) (Heap.get?_push_size _ rfl) fun y g tk py kk => fin y g tk py fun b o e => kk b o (fun z => ?_) (fun z => ?_) (Heap.get?_push_of_some _ (k1 b o e))⟩
  · exact Nat.ne_of_lt hb (List.mem_singleton.mp z)
  · rw [z] at hb
    exact Nat.not_lt.mpr (by rw [z1]; exact Nat.le_succ _) hb
  · exact Nat.ne_of_lt (Heap.lt_size e) (List.mem_singleton.mp z)
  · have hb := Heap.lt_size e
    rw [z] at hb
    exact Nat.not_lt.mpr (by rw [z1]; exact Nat.le_succ _) hb
end
end Vm

set_option Elab.async false
set_option linter.all false
set_option maxRecDepth 100000
set_option maxHeartbeats 8000000
/-! VmR: min, max. -/
namespace Vm
open PySem PySem.Spec PyProof.Rows L2

def rowsOf : List PV → Option (List (List Int))
  | [] => some []
  | .tup xs :: r => (intsOf xs).bind fun ns => (rowsOf r).map (ns :: ·)
  | _ => none
theorem rowsOf_eq : ∀ {xs : List PV} {rs : List (List Int)}, rowsOf xs = some rs → xs = rs.map fun ns => .tup (ns.map PV.int)
  | [], rs, h => by cases h; rfl
  | x :: xs, rs, h => by
    cases x <;> try (cases h; done)
    unfold rowsOf at h
    rename_i ys
    cases e : intsOf ys with
    | none => rw [e] at h; cases h
    | some ns =>
      rw [e] at h
      cases e2 : rowsOf xs with
      | none => rw [e2] at h; cases h
      | some ms =>
        rw [e2] at h
        cases h
        rw [rowsOf_eq e2, intsOf_eq e]
        rfl
@[simp] theorem rowsOf_map : ∀ rs : List (List Int), rowsOf (rs.map fun ns => .tup (ns.map PV.int)) = some rs
  | [] => rfl
  | n :: ns => by
    show (intsOf (n.map PV.int)).bind _ = _
    rw [intsOf_map]
    show (rowsOf (ns.map fun ns => .tup (ns.map PV.int))).map (n :: ·) = _
    rw [rowsOf_map ns]
    rfl
def leastI (rs : List (List Int)) : Nat := argBest (fun i j => HT.lexLt (rs.getD i []) (rs.getD j [])) (rs.length - 1)
def leastR (rs : List (List Int)) : List Int := rs.getD (leastI rs) []
theorem argBest_le (bt : Nat → Nat → Bool) : ∀ k, argBest bt k ≤ k
  | 0 => Nat.le_refl 0
  | k + 1 => by
    unfold argBest
    split
    · exact Nat.le_refl _
    · exact Nat.le_succ_of_le (argBest_le bt k)
theorem leastI_lt {rs : List (List Int)} (h : 0 < rs.length) : leastI rs < rs.length := by
  have := argBest_le (fun i j => HT.lexLt (rs.getD i []) (rs.getD j [])) (rs.length - 1)
  unfold leastI
  omega
theorem leastR_mem {rs : List (List Int)} (h : 0 < rs.length) : leastR rs ∈ rs := by
  unfold leastR
  rw [List.getD_eq_getElem?_getD, List.getElem?_eq_getElem (leastI_lt h)]
  exact List.getElem_mem _
def biMin : List PV → IH → Res PV
  | [.int i, .int j], h => .ok (.int (if j < i then j else i)) h
  | [.tup _], _ => .stuck
  | [x], h => match rd h x with
    | some xs => (match intsOf xs with
      | some ns => if 0 < ns.length then .ok (.int (minL ns)) h else .stuck
      | none => match rowsOf xs with
        | some rs => if 0 < rs.length then .ok (.tup ((leastR rs).map PV.int)) h else .stuck
        | none => .stuck)
    | none => .stuck
  | _, _ => .stuck
def biMax : List PV → IH → Res PV
  | [.int i, .int j], h => .ok (.int (if j > i then j else i)) h
  | [.tup _], _ => .stuck
  | [x], h => match (rd h x).bind intsOf with
    | some ns => if 0 < ns.length then .ok (.int (maxL ns)) h else .stuck
    | none => .stuck
  | _, _ => .stuck
theorem valsR : ∀ {ps : List V} {us : List Value} {i : Nat} {v : Value}, Vals ps us → us[i]? = some v → ∃ p, ps[i]? = some p ∧ L2.RelV p v
  | _, _, i, v, .nil, e => by simp at e
  | _, _, 0, v, .cons r t, e => by cases e; exact ⟨_, rfl, r⟩
  | p :: ps, u :: us, i + 1, v, .cons r t, e => by
    have q := valsR (ps := ps) (us := us) (i := i) t (by simpa using e)
    simpa using q
section
variable {X : Cx}
def rMinR (K : PySem.W.Frag) : List V → Hp → VK → Prop := fun vs H Q => ∃ (a : Addr) (ps : List V) (rs : List (List Int)), vs = [V.ref a] ∧ SqL K H a ps ∧ ps.length = rs.length ∧ 0 < rs.length ∧
  (∀ (i : Nat) p, ps[i]? = some p → ∃ b, p = .ref b ∧ SqT K H b ((rs.getD i []).map V.int)) ∧ ∀ p, ps[leastI rs]? = some p → Q p H
theorem cr_minR (ft : Fit X) : CallR X (.builtin "min") (rMinR X.K) := by
  intro pins s st H vs us Q I r h
  obtain ⟨a, ps, rs, rfl, hs, hlen, h0, hr, q⟩ := h
  obtain ⟨its, rv, hl, _⟩ := I.list hs
  rw [Vals.ref1 r]
  have zl : its.toArray.size = rs.length := by rw [List.size_toArray, ← rv.length, hlen]
  have at1 : ∀ (i : Nat) v, its.toArray[i]? = some v → ∃ b, v = .ref b ∧ SqT X.K H b ((rs.getD i []).map V.int) := fun i v e => by
    have e' : its[i]? = some v := by simpa using e
    obtain ⟨p, e1, e2⟩ := valsR rv e'
    obtain ⟨b, rfl, hb⟩ := hr i p e1
    cases e2
    exact ⟨b, rfl, hb⟩
  refine least_list (bt := fun i j => HT.lexLt (rs.getD i []) (rs.getD j [])) (Gd := fun g => ∀ (i : Nat) b, its.toArray[i]? = some (.ref b) → b < s.heap.objs.size ∧ ∃ zs : List Value, IsTup g b zs.toArray ∧ IntsAre zs (rs.getD i []))
    (I.ok.hd ft.calm) hl.isList (by rw [zl]; exact h0) (fun i b e => ?_) (fun g g' gg kk i b e => ?_) (fun i j x y s2 Q2 E2 gd ex ey q2 => ?_) fun y g tk ey kk => ?_
  · obtain ⟨b', e1, hb⟩ := at1 i _ e
    cases e1
    obtain ⟨zs, r1, p1, _⟩ := I.tuple hb
    refine ⟨?_, zs, p1, r1.ints⟩
    obtain ⟨o, e2, _⟩ := p1
    exact Heap.lt_size e2
  · obtain ⟨lt, zs, ⟨o, e1, e2⟩, z⟩ := gg i b e
    exact ⟨lt, zs, ⟨o, kk b o lt e1, e2⟩, z⟩
  · obtain ⟨b, rfl, _⟩ := at1 i _ ex
    obtain ⟨d, rfl, _⟩ := at1 j _ ey
    obtain ⟨_, zs, p1, i1⟩ := gd i b ex
    obtain ⟨_, ws, p2, i2⟩ := gd j d ey
    have hu := ft.hu
    exact HT.lt_tupInts p1 p2 (by simpa using i1) (by simpa using i2) (by show X.A.units + 1 < cLine; omega) q2
  · rw [zl] at ey
    have e' : its[leastI rs]? = some y := by simpa [leastI] using ey
    obtain ⟨p, e1, e2⟩ := valsR rv e'
    exact ⟨p, H, I.kept kk, e2, q p e1⟩
theorem CallR.or {f : Value} {r1 r2 : List V → Hp → VK → Prop} (h1 : CallR X f r1) (h2 : CallR X f r2) : CallR X f fun vs H Q => r1 vs H Q ∨ r2 vs H Q := by
  intro pins s st H vs us Q I r h
  rcases h with h | h
  · exact h1 pins s st H vs us Q I r h
  · exact h2 pins s st H vs us Q I r h
end
section
variable {K : PySem.W.Frag}
theorem seqL_at {m : List Addr} {H : Hp} {h : IH} {x : PV} {v : V} {xs : List PV} (rh : RelH K m H h) (r : Rep K m H v x) (nt : ∀ ys, x ≠ .tup ys) (e : rd h x = some xs) : ∃ p vs, v = .ref p ∧ SqL K H p vs ∧ Reps K m H vs xs := by
  cases x with
  | tup ys => exact absurd rfl (nt ys)
  | fl ys => cases r with | fl h1 h2 => cases e; exact ⟨_, _, rfl, h1.sq, h2⟩
  | ref a =>
    cases r with
    | ref hp =>
      cases hy : h[a]? with
      | none => simp [rd, hy] at e
      | some o =>
        cases o with
        | lst ys =>
          simp [rd, hy] at e
          subst e
          obtain ⟨vs, h1, h2⟩ := rh.at' a _ _ hy hp
          exact ⟨_, vs, rfl, .inl (.inl h1), h2⟩
        | dct ys => simp [rd, hy] at e
  | _ => cases e
theorem bk_min : BiOk K biMin (fun vs H Q => (∃ i j, vs = [.int i, .int j] ∧ Q (.int (if j < i then j else i)) H) ∨ (rMin K vs H Q ∨ rMinR K vs H Q)) := by
  intro xi m H h xs vs Q rh rx p
  rcases xs with _ | ⟨x, _ | ⟨y, _ | ⟨_, _⟩⟩⟩
  · exact p.elim
  · obtain ⟨v, rfl, r⟩ := rx.one
    have gen : (∀ ys, x ≠ .tup ys) → (Post K xi m H (match rd h x with
      | some xs => (match intsOf xs with
        | some ns => if 0 < ns.length then .ok (.int (minL ns)) h else .stuck
        | none => match rowsOf xs with
          | some rs => if 0 < rs.length then .ok (.tup ((leastR rs).map PV.int)) h else .stuck
          | none => .stuck)
      | none => .stuck) fun z m' H' => ∀ v, Rep K m' H' v z → Q v H') → rMin K [v] H Q ∨ rMinR K [v] H Q := fun nt p' => by
      clear p
      cases e : rd h x with
      | none => rw [e] at p'; exact p'.elim
      | some xs =>
        rw [e] at p'
        dsimp only at p'
        obtain ⟨a, vs, rfl, hs, rv⟩ := seqL_at rh r nt e
        cases e1 : intsOf xs with
        | some ns =>
          have e2 := intsOf_eq e1
          rw [e1] at p'
          obtain ⟨h0, p2⟩ := Post.ite p'
          clear e1 p'
          subst e2
          rw [rv.ints] at hs
          refine .inl ⟨a, ns, rfl, hs, h0, fun k hk hm => ?_⟩
          have ne : ns ≠ [] := fun z => by rw [z] at h0; exact absurd h0 (by simp)
          obtain ⟨g1, g2⟩ := minL_mem ne
          have ek : k = minL ns := by
            have := hm _ g1
            have := g2 _ hk
            omega
          rw [ek]
          exact p2.now rh _ .int
        | none =>
          rw [e1] at p'
          dsimp only at p'
          cases e2 : rowsOf xs with
          | none => rw [e2] at p'; exact p'.elim
          | some rs =>
            rw [e2] at p'
            obtain ⟨h0, p'⟩ := Post.ite p'
            have e3 := rowsOf_eq e2
            subst e3
            have hl := rv.length
            rw [List.length_map] at hl
            have atp : ∀ (i : Nat) p, vs[i]? = some p → ∃ b ws, p = .ref b ∧ SqT K H b ws ∧ Reps K m H ws ((rs.getD i []).map PV.int) ∧ Rep K m H p (.tup ((rs.getD i []).map PV.int)) := fun i p e => by
              have li : i < rs.length := by rw [← hl]; exact (List.getElem?_eq_some_iff.mp e).1
              have ex : (rs.map fun ns => PV.tup (ns.map PV.int))[i]? = some (.tup ((rs.getD i []).map PV.int)) := by
                rw [List.getElem?_map, List.getElem?_eq_getElem li, List.getD_eq_getElem?_getD, List.getElem?_eq_getElem li]
                rfl
              obtain ⟨p2, e1, e2⟩ := rv.get ex
              rw [e] at e1
              cases e1
              obtain ⟨b, ws, rfl, h1, h2⟩ := tup_at e2
              exact ⟨b, ws, rfl, h1, h2, e2⟩
            refine .inr ⟨a, vs, rs, rfl, hs, hl, h0, fun i p e => ?_, fun p e => ?_⟩
            · obtain ⟨b, ws, rfl, h1, h2, _⟩ := atp i p e
              rw [h2.ints] at h1
              exact ⟨b, rfl, h1⟩
            · obtain ⟨b, ws, _, _, _, h3⟩ := atp _ p e
              exact p'.now rh _ h3
    cases x <;> first | exact .inr (gen (fun ys z => nomatch z) p) | exact p.elim
  · cases x <;> cases y <;> try exact p.elim
    obtain ⟨v, w, rfl, r1, r2⟩ := rx.two
    cases r1
    cases r2
    exact .inl ⟨_, _, rfl, p.now rh _ .int⟩
  · cases x <;> cases y <;> exact p.elim
theorem bk_max : BiOk K biMax (fun vs H Q => (∃ i j, vs = [.int i, .int j] ∧ Q (.int (if j > i then j else i)) H) ∨ rMax K vs H Q) := by
  intro xi m H h xs vs Q rh rx p
  rcases xs with _ | ⟨x, _ | ⟨y, _ | ⟨_, _⟩⟩⟩
  · exact p.elim
  · obtain ⟨v, rfl, r⟩ := rx.one
    have gen : (∀ ys, x ≠ .tup ys) → (Post K xi m H (match (rd h x).bind intsOf with
      | some ns => if 0 < ns.length then .ok (.int (maxL ns)) h else .stuck
      | none => .stuck) fun z m' H' => ∀ v, Rep K m' H' v z → Q v H') → rMax K [v] H Q := fun nt p' => by
      clear p
      cases e : rd h x with
      | none => rw [e] at p'; exact p'.elim
      | some xs =>
        rw [e] at p'
        obtain ⟨a, vs, rfl, hs, rv⟩ := seqL_at rh r nt e
        rw [Option.bind_some] at p'
        cases e1 : intsOf xs with
        | none => rw [e1] at p'; exact p'.elim
        | some ns =>
          rw [e1] at p'
          obtain ⟨h0, p'⟩ := Post.ite p'
          have e2 := intsOf_eq e1
          subst e2
          rw [rv.ints] at hs
          refine ⟨a, ns, rfl, hs, h0, fun k hk hm => ?_⟩
          have ne : ns ≠ [] := fun z => by rw [z] at h0; exact absurd h0 (by simp)
          obtain ⟨g1, g2⟩ := maxL_mem ne
          have ek : k = maxL ns := by
            have := hm _ g1
            have := g2 _ hk
            omega
          rw [ek]
          exact p'.now rh _ .int
    cases x <;> first | exact .inr (gen (fun ys z => nomatch z) p) | exact p.elim
  · cases x <;> cases y <;> try exact p.elim
    obtain ⟨v, w, rfl, r1, r2⟩ := rx.two
    cases r1
    cases r2
    exact .inl ⟨_, _, rfl, p.now rh _ .int⟩
  · cases x <;> cases y <;> exact p.elim
end

/-! ### the table -/
def Bn : List Str := ["len", "sum", "tuple", "list", "divmod", "abs", "min", "max", "int"]
def Bf : Fns := fun i => match i with
  | 0 => biLen
  | 1 => biSum
  | 2 => biTuple
  | 3 => biList
  | 4 => biDivmod
  | 5 => biAbs
  | 6 => biMin
  | 7 => biMax
  | 8 => biInt
  | _ => fun _ _ => .stuck
theorem hBi : ∀ c : Tb, c.B = Bn → BiAll c Bf := by
  intro c hc X ft i x hx
  rw [hc] at hx
  rcases i with _ | _ | _ | _ | _ | _ | _ | _ | _ | i
  · cases hx; exact .inl ⟨"len", _, rfl, call_len_seq.or call_len_str, bk_len⟩
  · cases hx; exact .inl ⟨"sum", _, rfl, (cr_sum ft.calm).or (cr_sumT ft.calm), bk_sum⟩
  · cases hx; exact .inr ⟨"tuple", _, rfl, call_tuple_of, bk_tuple⟩
  · cases hx; exact .inr ⟨"list", _, rfl, call_list_of, bk_list⟩
  · cases hx; exact .inl ⟨"divmod", _, rfl, call_divmod, bk_divmod⟩
  · cases hx; exact .inl ⟨"abs", _, rfl, call_abs, bk_abs⟩
  · cases hx; exact .inl ⟨"min", _, rfl, (call_min2 ft.calm).or ((cr_min ft.calm).or (cr_minR ft)), bk_min⟩
  · cases hx; exact .inl ⟨"max", _, rfl, (call_max2 ft.calm).or (cr_max ft.calm), bk_max⟩
  · cases hx; exact .inr ⟨"int", _, rfl, call_int1, bk_int⟩
  · simp [Bn] at hx
end Vm

set_option Elab.async false
set_option linter.all false
set_option maxRecDepth 100000
set_option maxHeartbeats 4000000
/-! VmS: from the head to the evaluator. -/
namespace Vm
open PySem PySem.Spec PyProof.Rows L2

def ddOf (d : DefT) : He.DefD := ⟨(d.name, none), d.name, d.name, defArgs d.st, defBody d.st, defScope d.st, [], []⟩
def Bfree : List Str := ["len", "sum", "tuple", "list", "divmod", "abs", "min", "max", "range", "sorted", "set", "enumerate", "zip", "isinstance", "int", "bool", "str"]
def faOf (ds : List DefT) : List He.Fa := (ds.map fun d => He.Fa.glo d.name) ++ Bfree.map He.Fa.free
theorem facts_in {fa : List He.Fa} {fn : List He.DefD} {K : PySem.W.Frag} (c : He.SaysD fa fn K) {f : He.Fa} (h : f ∈ fa) : f.ok K = true := by
  obtain ⟨i, hi, e⟩ := List.mem_iff_getElem.mp h
  exact c.fact i (f := f) (by rw [List.getElem?_eq_getElem hi, e])
/-- a def's call binds its parameters -/
abbrev BindsD (K : PySem.W.Frag) (ds : List DefT) : Prop := ∀ (i : Nat) d f fd, ds[i]? = some d → FunD K d.name d.name (defArgs d.st) (defBody d.st) (defScope d.st) [] [] f fd → Binds K fd d.ps []
theorem stand_of {ds : List DefT} {K : PySem.W.Frag} {h : Heap} {mg : Str → Option Value} (X : K.In h) (G : h.Ns mainGlobals mg) (c : He.SaysD (faOf ds) (ds.map ddOf) K) (hb : BindsD K ds) :
    ∃ f fd, Stand K mg ds Bn f fd := by
  have one : ∀ i : Nat, ∃ p : Addr × FuncData, ∀ d, ds[i]? = some d → FunD K d.name d.name (defArgs d.st) (defBody d.st) (defScope d.st) [] [] p.1 p.2 ∧ mg d.name = some (.ref p.1) := fun i => by
    cases e : ds[i]? with
    | none => exact ⟨(0, default), fun d z => nomatch z⟩
    | some d =>
      obtain ⟨fd, F⟩ := c.def_ i (d := ddOf d) (by rw [List.getElem?_map, e]; rfl)
      refine ⟨(He.ga K d.name, fd), fun d' z => ?_⟩
      cases z
      exact ⟨F, He.glo_ok X G (facts_in c (List.mem_append_left _ (List.mem_map.mpr ⟨d, List.mem_of_getElem? e, rfl⟩)))⟩
  have fr : ∀ x, x ∈ Bfree → mg x = none := fun x hx => He.free_ok X G (facts_in c (List.mem_append_right _ (List.mem_map.mpr ⟨x, hx, rfl⟩)))
  obtain ⟨p, hp⟩ := Classical.axiomOfChoice one
  refine ⟨fun i => (p i).1, fun i => (p i).2, ⟨fun i d e => (hp i d e).1, fun i d e => (hp i d e).2, fun i d e => hb i d _ _ e (hp i d e).1, fun x hx => ⟨fr x ?_, ?_⟩, fr _ (by decide), fun x hx => fr x ?_⟩⟩
  rotate_left 2
  · revert x
    decide
  · revert x
    decide
  · revert x
    decide
/-- the law's end, by the evaluator's -/
theorem end_of {K : PySem.W.Frag} {F : List PV → IH → Res PV} {ns : List Int} {H : Hp} {a : Addr} {E : XK} (hO : Only H) (hS : SqL K H a (ns.map V.int)) (he : ∃ h', F [.fl (ns.map PV.int)] [] = .ok (.bl true) h') :
    spOf K 1 F [.ref a] H (fun v _ => v = .bl true) E := by
  obtain ⟨h', e⟩ := he
  have sf : SqF K H a (ns.map V.int) := by
    rcases hS with (hl | ⟨o, hl⟩) | hl
    · rcases hO a with z | ⟨o, xs, z⟩
      · rw [z] at hl; cases hl
      · rw [z] at hl; cases hl
    · exact .inl ⟨o, hl⟩
    · exact .inr hl
  refine ⟨rfl, [], [], [.fl (ns.map PV.int)], ⟨rfl, List.nodup_nil, fun i o p z => by simp at z⟩, .cons (.fl sf (Reps.ofInts ns)) .nil, ?_⟩
  rw [e]
  intro m' H' _ _ v r
  cases r
  rfl
end Vm

set_option Elab.async false
set_option linter.all false
set_option maxRecDepth 100000
set_option maxHeartbeats 4000000
/-! VmT: going through the evaluator. -/
namespace Vm
open PySem PySem.Spec PyProof.Rows L2
theorem Res.bind_assoc {α β γ : Type} (r : Res α) (f : α → IH → Res β) (g : β → IH → Res γ) : (r.bind f).bind g = r.bind fun a h => (f a h).bind g := by
  cases r <;> rfl
theorem Res.calm_of {α : Type} {r : Res α} {Q : α → IH → Prop} (h : r.Ok Q) : r.calm.Ok Q := by
  cases r with
  | ok a h1 => exact h
  | exc => exact h.elim
  | stuck => exact h.elim
/-- more was made -/
def Ext (h h' : IH) : Prop := ∃ z, h' = h ++ z
theorem Ext.refl (h : IH) : Ext h h := ⟨[], by simp⟩
theorem Ext.trans {a b c : IH} (x : Ext a b) (y : Ext b c) : Ext a c := by
  obtain ⟨u, rfl⟩ := x
  obtain ⟨v, rfl⟩ := y
  exact ⟨u ++ v, by simp⟩
theorem Ext.app (h z : IH) : Ext h (h ++ z) := ⟨z, rfl⟩
theorem Ext.get {h h' : IH} (x : Ext h h') {i : Nat} {o : HV} (q : h[i]? = some o) : h'[i]? = some o := by
  obtain ⟨z, rfl⟩ := x
  rw [List.getElem?_append_left (List.getElem?_eq_some_iff.mp q).1]
  exact q
theorem Ext.len {h h' : IH} (x : Ext h h') : h.length ≤ h'.length := by
  obtain ⟨z, rfl⟩ := x
  simp
@[simp] theorem at_end (h : IH) (o : HV) : (h ++ [o])[h.length]? = some o := by simp
/-- what stood there stands there, but f -/
def But (f : Nat) (h h' : IH) : Prop := h.length ≤ h'.length ∧ ∀ i : Nat, i < h.length → i ≠ f → h'[i]? = h[i]?
theorem But.refl (f : Nat) (h : IH) : But f h h := ⟨Nat.le_refl _, fun _ _ _ => rfl⟩
theorem But.trans {f : Nat} {a b c : IH} (x : But f a b) (y : But f b c) : But f a c := ⟨Nat.le_trans x.1 y.1, fun i hi hf => (y.2 i (Nat.lt_of_lt_of_le hi x.1) hf).trans (x.2 i hi hf)⟩
theorem But.of {f : Nat} {h h' : IH} (x : Ext h h') : But f h h' := by
  obtain ⟨z, rfl⟩ := x
  exact ⟨by simp, fun i hi _ => List.getElem?_append_left hi⟩
theorem But.get {f : Nat} {h h' : IH} (x : But f h h') {i : Nat} {o : HV} (n : i ≠ f) (q : h[i]? = some o) : h'[i]? = some o := by
  rw [x.2 i (List.getElem?_eq_some_iff.mp q).1 n]
  exact q
theorem But.set {f : Nat} {h : IH} {o : HV} : But f h (h.set f o) := ⟨by simp, fun i hi n => by rw [List.getElem?_set]; simp [Ne.symm n]⟩

theorem size_ok {n : Nat} (h : n ≤ 1000000) : n ≤ sizeLine := by
  rw [sizeLine_eq]
  omega
theorem new_ok {h : IH} {xs : List PV} (l : xs.length ≤ 1000000) : new h xs = .ok (.ref h.length) (h ++ [.lst xs]) := if_pos (size_ok l)
theorem newT_ok {h : IH} {xs : List PV} (l : xs.length ≤ 1000000) : newT h xs = .ok (.tup xs) h := if_pos (size_ok l)
theorem atI_ok {xs : List PV} {s : Int} {v : PV} (h0 : 0 ≤ s) (e : xs[s.toNat]? = some v) : atI xs s = some v := by
  have lt := (List.getElem?_eq_some_iff.mp e).1
  unfold atI ixN
  rw [if_pos h0, if_pos (by omega)]
  exact e
theorem ixF_rd {h : IH} {x : PV} {xs : List PV} {s : Int} {v : PV} (e : rd h x = some xs) (h0 : 0 ≤ s) (k : xs[s.toNat]? = some v) : ixF x (.int s) h = .ok v h := by
  have q := atI_ok h0 k
  cases x <;> first | (cases e; done) | (simp only [ixF, e, q])
theorem ints_at_i {ws : List Int} {s : Int} (h0 : 0 ≤ s) (h1 : s < ws.length) : (ws.map PV.int)[s.toNat]? = some (.int (ws.getD s.toNat 0)) := by
  have lt : s.toNat < ws.length := by omega
  rw [List.getElem?_map, List.getElem?_eq_getElem lt, List.getD_eq_getElem?_getD, List.getElem?_eq_getElem lt]
  rfl
theorem ixF_tup {ws : List Int} {s : Int} {h : IH} (h0 : 0 ≤ s) (h1 : s < ws.length) : ixF (.tup (ws.map PV.int)) (.int s) h = .ok (.int (ws.getD s.toNat 0)) h := ixF_rd rfl h0 (ints_at_i h0 h1)
theorem rd_ref {h : IH} {a : Nat} {xs : List PV} (e : h[a]? = some (.lst xs)) : rd h (.ref a) = some xs := by simp [rd, e]
theorem ixF_ref {ws : List Int} {s : Int} {h : IH} {a : Nat} (e : h[a]? = some (.lst (ws.map PV.int))) (h0 : 0 ≤ s) (h1 : s < ws.length) : ixF (.ref a) (.int s) h = .ok (.int (ws.getD s.toNat 0)) h := ixF_rd (rd_ref e) h0 (ints_at_i h0 h1)
@[simp] theorem Bf_len {ws : List PV} {h : IH} : Bf 0 [.tup ws] h = .ok (.int ws.length) h := rfl
theorem Bf_len_ref {xs : List PV} {h : IH} {a : Nat} (e : h[a]? = some (.lst xs)) : Bf 0 [.ref a] h = .ok (.int xs.length) h := by
  show biLen [.ref a] h = _
  simp [biLen, rd_ref e]
@[simp] theorem Bf_sum {ws : List Int} {h : IH} : Bf 1 [.tup (ws.map PV.int)] h = .ok (.int ws.sum) h := by
  show biSum [.tup (ws.map PV.int)] h = _
  simp [biSum, rd]
@[simp] theorem Bf_divmod {i j : Int} {h : IH} : Bf 4 [.int i, .int j] h = if 0 < j ∧ j < 1073741824 then .ok (.tup [.int (i / j), .int (i % j)]) h else .stuck := rfl
theorem Bf_tuple {xs : List PV} {h : IH} {a : Nat} (e : h[a]? = some (.lst xs)) : Bf 2 [.ref a] h = .ok (.tup xs) h := by
  show biTuple [.ref a] h = _
  simp [biTuple, rd_ref e]
@[simp] theorem Bf_min2 {i j : Int} {h : IH} : Bf 6 [.int i, .int j] h = .ok (.int (if j < i then j else i)) h := rfl
theorem Bf_min_rows {rs : List (List Int)} {h : IH} {a : Nat} (e : h[a]? = some (.lst (rs.map fun ns => .tup (ns.map PV.int)))) (h0 : 0 < rs.length) : Bf 6 [.ref a] h = .ok (.tup ((leastR rs).map PV.int)) h := by
  show biMin [.ref a] h = _
  have n : intsOf (rs.map fun ns => PV.tup (ns.map PV.int)) = none := by
    cases rs with
    | nil => simp at h0
    | cons r rs => rfl
  simp only [biMin, rd_ref e, n, rowsOf_map, h0, if_true]
/-! ### loops -/
theorem lc_inv {xs : List PV} {src : Src} {f : PV → IH → Res (Option PV)} (J : Nat → List PV → IH → Prop) (hsrc : ∀ (k : Nat) acc h, J k acc h → src.get h k = some xs[k]?) (hl : xs.length ≤ 1000000)
    (hf : ∀ (k : Nat) x acc h, xs[k]? = some x → J k acc h → (f x h).Ok fun o h1 => match o with
      | some y => J (k + 1) (acc ++ [y]) h1
      | none => J (k + 1) acc h1) : ∀ n k acc h, n = xs.length + 1 - k → k ≤ xs.length → acc.length ≤ k → J k acc h → (lcLoop src f n k acc h).Ok fun acc h1 => J xs.length acc h1
  | 0, k, acc, h, hn, hk, _, _ => by omega
  | n + 1, k, acc, h, hn, hk, ha, j => by
    unfold lcLoop
    rw [hsrc k acc h j]
    by_cases lt : k < xs.length
    · rw [List.getElem?_eq_getElem lt]
      dsimp only
      refine Res.ok_bind ((hf k _ acc h (List.getElem?_eq_getElem lt) j).mono fun o h1 q => ?_)
      cases o with
      | some y =>
        dsimp only at q ⊢
        rw [if_pos (by rw [sizeLine_eq]; omega)]
        exact lc_inv J hsrc hl hf n (k + 1) _ h1 (by omega) (by omega) (by simp; omega) q
      | none => exact lc_inv J hsrc hl hf n (k + 1) _ h1 (by omega) (by omega) (by omega) q
    · have : k = xs.length := by omega
      subst this
      rw [List.getElem?_eq_none (Nat.le_refl _)]
      exact j
theorem for_inv {xs : List PV} {src : Src} {f : PV → Ev → IH → Res Fl} (J : Nat → Ev → IH → Prop) {Q : Fl → IH → Prop} (hsrc : ∀ (k : Nat) ev h, J k ev h → src.get h k = some xs[k]?)
    (hf : ∀ (k : Nat) x ev h, xs[k]? = some x → J k ev h → (f x ev h).Ok fun o h1 => match o with
      | .nx ev' => J (k + 1) ev' h1
      | .rt y => Q (.rt y) h1) (hend : ∀ ev h, J xs.length ev h → Q (.nx ev) h) : ∀ n k ev h, n = xs.length + 1 - k → k ≤ xs.length → J k ev h → (forLoop src f n k ev h).Ok Q
  | 0, k, ev, h, hn, hk, _ => by omega
  | n + 1, k, ev, h, hn, hk, j => by
    unfold forLoop
    rw [hsrc k ev h j]
    by_cases lt : k < xs.length
    · rw [List.getElem?_eq_getElem lt]
      dsimp only
      refine Res.ok_bind ((hf k _ ev h (List.getElem?_eq_getElem lt) j).mono fun o h1 q => ?_)
      cases o with
      | nx ev' => exact for_inv J hsrc hf hend n (k + 1) _ h1 (by omega) (by omega) q
      | rt y => exact q
    · have : k = xs.length := by omega
      subst this
      rw [List.getElem?_eq_none (Nat.le_refl _)]
      exact hend _ _ j
/-- a comprehension whose turns make nothing but more -/
theorem lc_pure {src : Src} {xs : List PV} {f : PV → IH → Res (Option PV)} {h0 : IH} {n : Nat} (g : PV → Option PV) (hsrc : ∀ (k : Nat) h, Ext h0 h → src.get h k = some xs[k]?) (hn : n = xs.length + 1) (hl : xs.length ≤ 1000000)
    (hf : ∀ (k : Nat) x h, xs[k]? = some x → Ext h0 h → (f x h).Ok fun o h1 => o = g x ∧ Ext h0 h1) : (lcLoop src f n 0 [] h0).Ok fun acc h1 => acc = xs.filterMap g ∧ Ext h0 h1 := by
  subst hn
  refine (lc_inv (src := src) (fun k acc h => acc = (xs.take k).filterMap g ∧ Ext h0 h) (fun k _ h j => hsrc k h j.2) hl (fun k x acc h e j => ?_) _ 0 [] h0 rfl (Nat.zero_le _) (Nat.le_refl _) ⟨rfl, Ext.refl _⟩).mono fun acc h1 q => ?_
  · refine (hf k x h e j.2).mono fun o h1 q => ?_
    have e2 : (xs.take (k + 1)).filterMap g = (xs.take k).filterMap g ++ (match g x with | some y => [y] | none => []) := by
      rw [List.take_add_one, e, List.filterMap_append]
      congr 1
      show [x].filterMap g = _
      cases hg : g x <;> simp [List.filterMap_cons, hg]
    cases o with
    | some y =>
      dsimp only
      rw [e2, ← q.1, j.1]
      exact ⟨rfl, q.2⟩
    | none =>
      dsimp only
      rw [e2, ← q.1, j.1]
      exact ⟨by simp, q.2⟩
  · rw [List.take_of_length_le (Nat.le_refl _)] at q
    exact q
theorem get_items {xs : List PV} {h0 : IH} : ∀ (k : Nat) h, Ext h0 h → (Src.items xs).get h k = some xs[k]? := fun _ _ _ => rfl
theorem get_heap {xs : List PV} {h0 : IH} {a : Nat} (e : h0[a]? = some (.lst xs)) : ∀ (k : Nat) h, Ext h0 h → (Src.heap a).get h k = some xs[k]? := fun k h x => by
  have q := x.get e
  simp only [Src.get, q]
theorem fuel_heap {xs : List PV} {h : IH} {a : Nat} (e : h[a]? = some (.lst xs)) : (Src.heap a).fuel h = xs.length + 1 := by
  simp only [Src.fuel, e]
theorem fm_filter {p : Int → Bool} {e : Int → PV} {g : PV → Option PV} : ∀ {l : List Int}, (∀ s ∈ l, g (.int s) = if p s then some (e s) else none) → (l.map PV.int).filterMap g = (l.filter p).map e
  | [], _ => rfl
  | s :: l, h => by
    have ih := fm_filter (p := p) (e := e) (g := g) (l := l) fun s hs => h s (List.mem_cons_of_mem _ hs)
    have h1 := h s List.mem_cons_self
    rw [List.map_cons, List.filterMap_cons, h1, ih, List.filter_cons]
    cases p s <;> rfl
theorem rngs_len (i : Int) (n : Nat) : (rngs i n).length = n := by simp [rngs]
theorem rngs_at {i : Int} {n k : Nat} {x : PV} (e : (rngs i n)[k]? = some x) : k < n ∧ x = .int (i + k) := by
  obtain ⟨h1, h2⟩ := List.getElem?_eq_some_iff.mp e
  rw [rngs_len] at h1
  refine ⟨h1, ?_⟩
  rw [← h2]
  simp [rngs]
theorem rngs0_at {n k : Nat} {x : PV} (e : (rngs 0 n)[k]? = some x) : k < n ∧ x = .int k := by
  obtain ⟨h1, h2⟩ := rngs_at e
  exact ⟨h1, by rw [h2, Int.zero_add]⟩
theorem mul_one {h : IH} {a : Nat} {x : PV} {k : Int} (e : h[a]? = some (.lst [x])) (k0 : 0 ≤ k) (k1 : k ≤ 1000) : binF .mul (.ref a) (.int k) h = .ok (.ref h.length) (h ++ [.lst (List.replicate k.toNat x)]) := by
  have c : -(2 ^ 63) ≤ k ∧ k < 2 ^ 63 := by omega
  have f : (List.replicate k.toNat [x]).flatten = List.replicate k.toNat x := by
    generalize k.toNat = n
    induction n with
    | zero => rfl
    | succ n ih => rw [List.replicate_succ, List.flatten_cons, ih]; rfl
  have n := new_ok (h := h) (xs := List.replicate k.toNat x) (by rw [List.length_replicate]; omega)
  simp only [binF, e, f, n]
  rw [if_pos c]
theorem Ext.set {h h' : IH} (x : Ext h h') {i : Nat} {o : HV} (l : h.length ≤ i) : Ext h (h'.set i o) := by
  obtain ⟨z, rfl⟩ := x
  exact ⟨z.set (i - h.length) o, by rw [List.set_append_right _ _ l]⟩
theorem set_same {h : IH} {i : Nat} {o p : HV} (e : h[i]? = some p) : (h.set i o)[i]? = some o := by
  rw [List.getElem?_set]
  simp [(List.getElem?_eq_some_iff.mp e).1]
theorem set_other {h : IH} {i j : Nat} {o : HV} (n : i ≠ j) : (h.set i o)[j]? = h[j]? := by
  rw [List.getElem?_set]
  simp [n]
theorem map_set {xs : List Int} {i : Nat} {v : Int} : (xs.map PV.int).set i (.int v) = (xs.set i v).map PV.int := by
  rw [List.map_set]
theorem lrng_ok {h : IH} {n : Int} (l : 0 ≤ n) (u : n ≤ 1000) : lrngF (.int n) h = .ok (.ref h.length) (h ++ [.lst (rngs 0 n.toNat)]) := by
  have c : -(2 ^ 62) ≤ n ∧ n < 2 ^ 62 ∧ n.toNat ≤ 2 ^ 24 := by omega
  have e := new_ok (h := h) (xs := rngs 0 n.toNat) (by rw [rngs_len]; omega)
  simp only [lrngF, e]
  rw [if_pos c]
theorem insS_len {k : Int} : ∀ {xs : List Int}, (insS k xs).length ≤ xs.length + 1
  | [] => by simp [insS]
  | x :: xs => by
    unfold insS
    split
    · simp
    · split
      · simp
      · have := insS_len (k := k) (xs := xs)
        simp only [List.length_cons]
        omega
theorem ssetL_len : ∀ {ns : List Int}, (ssetL ns).length ≤ ns.length
  | [] => by simp [ssetL]
  | n :: ns => by
    have a := ssetL_len (ns := ns)
    have b := insS_len (k := n) (xs := ssetL ns)
    show (insS n (ssetL ns)).length ≤ _
    simp only [List.length_cons]
    omega
theorem sset_ok {h : IH} {a : Nat} {ns : List Int} (e : h[a]? = some (.lst (ns.map PV.int))) (l : ns.length < 64) : ssetF (.ref a) h = .ok (.ref h.length) (h ++ [.lst ((ssetL ns).map PV.int)]) := by
  have n := new_ok (h := h) (xs := (ssetL ns).map PV.int) (by rw [List.length_map]; have := ssetL_len (ns := ns); omega)
  simp only [ssetF, rd_ref e, Option.bind_some, intsOf_map, n]
  rw [if_pos l]
theorem putF_ok' {h : IH} {a : Nat} {xs : List PV} {j : Int} {v : PV} (e : h[a]? = some (.lst xs)) (h0 : 0 ≤ j) (h1 : j < xs.length) : putF (.ref a) (.int j) v h = .ok () (h.set a (.lst (xs.set j.toNat v))) := by
  have : ixN xs.length j = some j.toNat := by unfold ixN; rw [if_pos h0, if_pos h1]
  simp only [putF, e, this]
theorem appF_ok {h : IH} {a : Nat} {xs : List PV} {v : PV} (e : h[a]? = some (.lst xs)) (l : xs.length < 1000000) : appF (.ref a) v h = .ok () (h.set a (.lst (xs ++ [v]))) := by
  have : xs.length < sizeLine := by rw [sizeLine_eq]; omega
  simp only [appF, e, this, if_true]
/-! ### one operation -/
section
variable {i j : Int} {h : IH}
@[simp] theorem b_add : binF .add (.int i) (.int j) h = .ok (.int (i + j)) h := rfl
@[simp] theorem b_sub : binF .sub (.int i) (.int j) h = .ok (.int (i - j)) h := rfl
theorem mul_r (l : -1000000000 < j) (u : j < 1000000000) : binF .mul (.int i) (.int j) h = .ok (.int (i * j)) h := by
  have : big j = true := by unfold big; exact decide_eq_true (by omega)
  simp only [binF, this, Bool.or_true, if_true]
theorem mul_l (l : -1000000000 < i) (u : i < 1000000000) : binF .mul (.int i) (.int j) h = .ok (.int (i * j)) h := by
  have : big i = true := by unfold big; exact decide_eq_true (by omega)
  simp only [binF, this, Bool.true_or, if_true]
theorem fdiv_ok (l : 0 < j) (u : j < 1073741824) : binF .fdiv (.int i) (.int j) h = .ok (.int (i / j)) h := if_pos ⟨l, u⟩
theorem mod_ok (l : 0 < j) : binF .mod (.int i) (.int j) h = .ok (.int (i % j)) h := if_pos l
theorem pow_ok (l : 0 ≤ j) (u : j ≤ 1000) (b : 0 ≤ i) (t : i < 18446744073709551616) : binF .pow (.int i) (.int j) h = .ok (.int (i ^ j.toNat)) h := if_pos ⟨l, by omega, by omega⟩
@[simp] theorem a_add : augF .add (.int i) (.int j) h = .ok (.int (i + j)) h := rfl
@[simp] theorem c_eq : cmpF .eq (.int i) (.int j) h = .ok (.bl (decide (i = j))) h := rfl
@[simp] theorem c_ne : cmpF .ne (.int i) (.int j) h = .ok (.bl (!decide (i = j))) h := rfl
@[simp] theorem c_lt : cmpF .lt (.int i) (.int j) h = .ok (.bl (decide (i < j))) h := rfl
@[simp] theorem c_le : cmpF .le (.int i) (.int j) h = .ok (.bl (decide (i ≤ j))) h := rfl
@[simp] theorem c_gt : cmpF .gt (.int i) (.int j) h = .ok (.bl (decide (j < i))) h := rfl
@[simp] theorem c_ge : cmpF .ge (.int i) (.int j) h = .ok (.bl (decide (j ≤ i))) h := rfl
end
theorem sem_at {B : Fns} {ds : List DefT} {n i L : Nat} {d : DefT} {b : Ss} {xs : List PV} {h : IH} (e : ds[i]? = some d) (hN : d.N.length = L) (hb : d.body = b) : sem B ds (n + 1) i xs h = evF (sem B ds n) B L b xs h := by
  subst hN hb
  show (match ds[i]? with
    | some d => evF (sem B ds n) B d.N.length d.body xs h
    | none => .stuck) = _
  rw [e]
theorem rng_if {α : Type} {j : Int} {A B : α} (l : 0 ≤ j) (u : j ≤ 1000000) : (if -(2 ^ 62) ≤ j ∧ j < 2 ^ 62 then A else B) = A := if_pos (by omega)
end Vm

set_option Elab.async false
set_option linter.all false
set_option maxRecDepth 100000
set_option maxHeartbeats 1000000
/-! VmU: more of going through the evaluator: kinds, pairs, lists as wholes. -/
namespace Vm
open PySem PySem.Spec PyProof.Rows L2
@[simp] theorem isF_int {i : Int} {h : IH} : isF .int (.int i) h = .ok (.bl true) h := by simp [isF, tyOf, Ty.word]
@[simp] theorem isF_bool {i : Int} {h : IH} : isF .bool (.int i) h = .ok (.bl false) h := by simp [isF, tyOf, Ty.word]
@[simp] theorem isF_tuple {xs : List PV} {h : IH} : isF .tuple (.tup xs) h = .ok (.bl true) h := by simp [isF, tyOf, Ty.word]
theorem Bf_sum_ref {ws : List Int} {h : IH} {a : Nat} (e : h[a]? = some (.lst (ws.map PV.int))) : Bf 1 [.ref a] h = .ok (.int ws.sum) h := by
  show biSum [.ref a] h = _
  simp [biSum, rd_ref e]
theorem Bf_list {xs : List PV} {h : IH} (l : xs.length ≤ 1000000) : Bf 3 [.tup xs] h = .ok (.ref h.length) (h ++ [.lst xs]) := by
  show biList [.tup xs] h = _
  simp only [biList, rd, new_ok l]
@[simp] theorem Bf_int_bl {b : Bool} {h : IH} : Bf 8 [.bl b] h = .ok (.int (if b then 1 else 0)) h := rfl
/-! ### pairs -/
def pairsE (cs : List Int) : List PV := (List.range cs.length).map fun (i : Nat) => PV.tup [.int i, .int (cs.getD i 0)]
def pairsZ (cs es : List Int) : List PV := (List.range cs.length).map fun (i : Nat) => PV.tup [.int (cs.getD i 0), .int (es.getD i 0)]
theorem pairsE_at {cs : List Int} {k : Nat} {x : PV} (e : (pairsE cs)[k]? = some x) : k < cs.length ∧ x = .tup [.int k, .int (cs.getD k 0)] := by
  unfold pairsE at e
  rw [List.getElem?_map] at e
  by_cases l : k < cs.length
  · rw [List.getElem?_range l] at e
    cases e
    exact ⟨l, rfl⟩
  · rw [List.getElem?_eq_none (by simp; omega)] at e
    cases e
theorem pairsZ_at {cs es : List Int} {k : Nat} {x : PV} (e : (pairsZ cs es)[k]? = some x) : k < cs.length ∧ x = .tup [.int (cs.getD k 0), .int (es.getD k 0)] := by
  unfold pairsZ at e
  rw [List.getElem?_map] at e
  by_cases l : k < cs.length
  · rw [List.getElem?_range l] at e
    cases e
    exact ⟨l, rfl⟩
  · rw [List.getElem?_eq_none (by simp; omega)] at e
    cases e
theorem get_enum {cs : List Int} {h : IH} {a : Nat} (e : h[a]? = some (.lst (cs.map PV.int))) (k : Nat) : (Src.enum a).get h k = some (pairsE cs)[k]? := by
  simp only [Src.get, e]
  unfold pairsE
  congr 1
  rw [List.getElem?_map, List.getElem?_map]
  by_cases l : k < cs.length
  · rw [List.getElem?_range l, List.getElem?_eq_getElem l]
    simp [List.getElem?_eq_getElem l]
  · rw [List.getElem?_eq_none (by omega), List.getElem?_eq_none (by simp; omega)]
    rfl
theorem get_zip {cs es : List Int} {h : IH} {a b : Nat} (hl : es.length = cs.length) (e : h[a]? = some (.lst (cs.map PV.int))) (e2 : h[b]? = some (.lst (es.map PV.int))) (k : Nat) : (Src.zip a b).get h k = some (pairsZ cs es)[k]? := by
  simp only [Src.get, e, e2]
  unfold pairsZ
  congr 1
  rw [List.getElem?_map, List.getElem?_map, List.getElem?_map]
  by_cases l : k < cs.length
  · rw [List.getElem?_range l, List.getElem?_eq_getElem l, List.getElem?_eq_getElem (by omega : k < es.length)]
    simp [List.getElem?_eq_getElem l, List.getElem?_eq_getElem (by omega : k < es.length)]
  · rw [List.getElem?_eq_none (by omega : cs.length ≤ k), List.getElem?_eq_none (by omega : es.length ≤ k), List.getElem?_eq_none (show (List.range cs.length).length ≤ k by simp; omega)]
    rfl
theorem fuel_enum {xs : List PV} {h : IH} {a : Nat} (e : h[a]? = some (.lst xs)) : (Src.enum a).fuel h = xs.length + 1 := by simp only [Src.fuel, e]
theorem fuel_zip {xs : List PV} {h : IH} {a b : Nat} (e : h[a]? = some (.lst xs)) : (Src.zip a b).fuel h = xs.length + 1 := by simp only [Src.fuel, e]
theorem pairsE_len {cs : List Int} : (pairsE cs).length = cs.length := by simp [pairsE]
theorem pairsZ_len {cs es : List Int} : (pairsZ cs es).length = cs.length := by simp [pairsZ]
theorem enumF_ok {xs : List PV} {h : IH} {a : Nat} (e : h[a]? = some (.lst xs)) : enumF (.ref a) h = .ok (.enum a) h := by simp only [enumF, e]
theorem zipF_ok {xs ys : List PV} {h : IH} {a b : Nat} (e : h[a]? = some (.lst xs)) (e2 : h[b]? = some (.lst ys)) : zipF (.ref a) (.ref b) h = .ok (.zip a b) h := by simp only [zipF, e, e2]
/-! ### lists of ints as wholes -/
theorem seqO_ints {h : IH} {n : Nat} : ∀ cs : List Int, seqO ((cs.map PV.int).map (dataOf h (n + 1))) = some (cs.map PyData.int)
  | [] => rfl
  | c :: cs => by
    show (seqO ((cs.map PV.int).map (dataOf h (n + 1)))).map _ = _
    rw [seqO_ints cs]
    rfl
theorem data_ints {h : IH} {a : Nat} {cs : List Int} (e : h[a]? = some (.lst (cs.map PV.int))) : dataOf h 40 (.ref a) = some (.list (cs.map PyData.int)) := by
  have q := seqO_ints (h := h) (n := 38) cs
  show (match h[a]? with
    | some (.lst xs) => (seqO (xs.map (dataOf h 39))).map PyData.list
    | _ => none) = _
  rw [e]
  show (seqO ((cs.map PV.int).map (dataOf h 39))).map PyData.list = _
  rw [q]
  rfl
theorem lay_ints : ∀ cs : List Int, PyData.canLayAll0 (cs.map PyData.int) = true
  | [] => by simp [PyData.canLayAll0]
  | c :: cs => by
    have := lay_ints cs
    simp [PyData.canLayAll0, PyData.canLay0] at this ⊢
    exact this
theorem deep_ints : ∀ cs : List Int, PyData.depthAll (cs.map PyData.int) ≤ 1
  | [] => by simp [PyData.depthAll]
  | c :: cs => by
    have := deep_ints cs
    simp [PyData.depthAll, PyData.depth] at this ⊢
    omega
theorem shaped_ints (cs : List Int) : SeqAt.shaped (.list (cs.map PyData.int)) = true := by
  have a := lay_ints cs
  have b := deep_ints cs
  have d : PyData.depth (.list (cs.map PyData.int)) ≤ 64 := by
    simp only [PyData.depth]
    omega
  unfold SeqAt.shaped
  rw [Bool.and_eq_true]
  exact ⟨by simpa [PyData.canLay0] using a, decide_eq_true d⟩
theorem eqv_ints : ∀ cs : List Int, PyData.eqvAll (cs.map PyData.int) (cs.map PyData.int) = true
  | [] => by simp [PyData.eqvAll]
  | c :: cs => by
    have := eqv_ints cs
    simp [PyData.eqvAll, PyData.eqv] at this ⊢
    exact this
theorem eq_lists {h : IH} {a b : Nat} {cs : List Int} (e : h[a]? = some (.lst (cs.map PV.int))) (e2 : h[b]? = some (.lst (cs.map PV.int))) : cmpF .eq (.ref a) (.ref b) h = .ok (.bl true) h ∧ cmpF .ne (.ref a) (.ref b) h = .ok (.bl false) h := by
  have q : PyData.eqv (.list (cs.map PyData.int)) (.list (cs.map PyData.int)) = true := by simpa [PyData.eqv] using eqv_ints cs
  have s := shaped_ints cs
  constructor
  · show eqD false (.ref a) (.ref b) h = _
    simp only [eqD, data_ints e, data_ints e2, s, q]
    simp
  · show eqD true (.ref a) (.ref b) h = _
    simp only [eqD, data_ints e, data_ints e2, s, q]
    simp
end Vm

set_option Elab.async false
set_option linter.all false
set_option maxRecDepth 100000
set_option maxHeartbeats 4000000
/-! M26: rounds by their windows, in numbers alone. -/
namespace Rd
open Vm
/-! ### sums of lists -/
theorem sum_mul {c C : Int} : ∀ {hs ws : List Int}, hs.length = ws.length → (∀ i : Nat, i < ws.length → c * ws.getD i 0 ≤ hs.getD i 0 * C) → c * ws.sum ≤ hs.sum * C
  | [], [], _, _ => by simp
  | [], _ :: _, h, _ => by cases h
  | _ :: _, [], h, _ => by cases h
  | x :: hs, y :: ws, h, k => by
    have h0 := k 0 (by simp)
    have hr := sum_mul (hs := hs) (ws := ws) (c := c) (C := C) (by simpa using h) (fun i hi => by have := k (i + 1) (by simpa using hi); simpa using this)
    simp only [List.sum_cons, Int.mul_add, Int.add_mul]
    simp only [List.getD_cons_zero] at h0
    omega
theorem sum_le : ∀ {hs ws : List Int}, hs.length = ws.length → (∀ i : Nat, i < ws.length → hs.getD i 0 ≤ ws.getD i 0) → hs.sum ≤ ws.sum
  | [], [], _, _ => by simp
  | [], _ :: _, h, _ => by cases h
  | _ :: _, [], h, _ => by cases h
  | x :: hs, y :: ws, h, k => by
    have h0 := k 0 (by simp)
    have hr := sum_le (hs := hs) (ws := ws) (by simpa using h) (fun i hi => by have := k (i + 1) (by simpa using hi); simpa using this)
    simp only [List.sum_cons]
    simp only [List.getD_cons_zero] at h0
    omega
theorem sum_eq : ∀ {hs ws : List Int}, hs.length = ws.length → (∀ i : Nat, i < ws.length → hs.getD i 0 ≤ ws.getD i 0) → hs.sum = ws.sum → ∀ i : Nat, hs.getD i 0 = ws.getD i 0
  | [], [], _, _, _, _ => by simp
  | [], _ :: _, h, _, _, _ => by cases h
  | _ :: _, [], h, _, _, _ => by cases h
  | x :: hs, y :: ws, h, k, e, i => by
    have h0 := k 0 (by simp)
    have kr : ∀ i : Nat, i < ws.length → hs.getD i 0 ≤ ws.getD i 0 := fun i hi => by have := k (i + 1) (by simpa using hi); simpa using this
    have hr := sum_le (hs := hs) (ws := ws) (by simpa using h) kr
    simp only [List.sum_cons] at e
    simp only [List.getD_cons_zero] at h0
    cases i with
    | zero => simp only [List.getD_cons_zero]; omega
    | succ i =>
      have := sum_eq (hs := hs) (ws := ws) (by simpa using h) kr (by omega) i
      simpa using this
theorem sum_set {v : Int} : ∀ {hs : List Int} {i : Nat}, i < hs.length → (hs.set i v).sum = hs.sum - hs.getD i 0 + v
  | [], i, h => by simp at h
  | x :: hs, 0, h => by simp only [List.set_cons_zero, List.sum_cons, List.getD_cons_zero]; omega
  | x :: hs, i + 1, h => by
    have := sum_set (v := v) (hs := hs) (i := i) (by simpa using h)
    simp only [List.set_cons_succ, List.sum_cons, List.getD_cons_succ, this]
    omega
theorem getD_set {hs : List Int} {i j : Nat} {v : Int} (h : i < hs.length) : (hs.set i v).getD j 0 = if i = j then v else hs.getD j 0 := by
  rw [List.getD_eq_getElem?_getD, List.getElem?_set, List.getD_eq_getElem?_getD]
  by_cases e : i = j
  · subst e; simp [h]
  · simp [e]
theorem sum_pos : ∀ {ws : List Int}, (∀ x ∈ ws, 1 ≤ x) → (ws.length : Int) ≤ ws.sum
  | [], _ => by simp
  | x :: ws, h => by
    have := sum_pos (ws := ws) (fun y hy => h y (List.mem_cons_of_mem _ hy))
    have := h x List.mem_cons_self
    simp only [List.length_cons, List.sum_cons]
    omega
theorem sum_top {b : Int} : ∀ {ws : List Int}, (∀ x ∈ ws, x ≤ b) → ws.sum ≤ b * ws.length
  | [], _ => by simp
  | x :: ws, h => by
    have := sum_top (ws := ws) (b := b) (fun y hy => h y (List.mem_cons_of_mem _ hy))
    have := h x List.mem_cons_self
    simp only [List.length_cons, List.sum_cons, Int.natCast_add, Int.mul_add]
    simp only [Int.natCast_one, Int.mul_one]
    omega

/-! ### weights -/
structure Good (ws : List Int) : Prop where
  some : 1 ≤ ws.length
  few : ws.length ≤ 6
  each : ∀ x ∈ ws, 1 ≤ x ∧ x ≤ 20
def wt (ws : List Int) (s : Int) : Int := ws.getD s.toNat 0
theorem Good.at {ws : List Int} (g : Good ws) {i : Nat} (h : i < ws.length) : 1 ≤ ws.getD i 0 ∧ ws.getD i 0 ≤ 20 := by
  rw [List.getD_eq_getElem?_getD, List.getElem?_eq_getElem h]
  exact g.each _ (List.getElem_mem h)
theorem Good.sum {ws : List Int} (g : Good ws) : 1 ≤ ws.sum ∧ ws.sum ≤ 120 := by
  have h1 := sum_pos (ws := ws) (fun x h => (g.each x h).1)
  have h2 := sum_top (ws := ws) (b := 20) (fun x h => (g.each x h).2)
  have := g.some
  have := g.few
  omega
theorem Good.wt {ws : List Int} (g : Good ws) {s : Int} (h0 : 0 ≤ s) (h : s < ws.length) : 1 ≤ wt ws s ∧ wt ws s ≤ 20 := g.at (i := s.toNat) (by omega)

/-! ### the round -/
def fstT (ws hs : List Int) (s : Int) : Int := hs.getD s.toNat 0 * ws.sum / wt ws s
def lstT (ws hs : List Int) (s : Int) : Int := -(-((hs.getD s.toNat 0 + 1) * ws.sum) / wt ws s) - 1
def seats (m : Nat) : List Int := (List.range m).map fun (i : Nat) => (i : Int)
def begun (ws hs : List Int) (t : Int) : List Int := (seats ws.length).filter fun s => decide (fstT ws hs s ≤ t)
def due (ws hs : List Int) (t : Int) : Int := (leastR ((begun ws hs t).map fun s => [lstT ws hs s, s])).getD 1 0
def rnd (ws : List Int) : Nat → List Int × List Int
  | 0 => (List.replicate ws.length 0, [])
  | k + 1 => ((rnd ws k).1.set (due ws (rnd ws k).1 k).toNat ((rnd ws k).1.getD (due ws (rnd ws k).1 k).toNat 0 + 1), (rnd ws k).2 ++ [due ws (rnd ws k).1 k])
def roundL (ws : List Int) : List Int := (rnd ws ws.sum.toNat).2
theorem seats_mem {m : Nat} {s : Int} : s ∈ seats m ↔ 0 ≤ s ∧ s < m := by
  unfold seats
  rw [List.mem_map]
  constructor
  · rintro ⟨i, hi, rfl⟩
    rw [List.mem_range] at hi
    omega
  · rintro ⟨h1, h2⟩
    exact ⟨s.toNat, List.mem_range.mpr (by omega), by omega⟩
theorem begun_mem {ws hs : List Int} {t s : Int} : s ∈ begun ws hs t ↔ (0 ≤ s ∧ s < ws.length) ∧ fstT ws hs s ≤ t := by
  unfold begun
  rw [List.mem_filter, seats_mem, decide_eq_true_eq]
theorem due_mem {ws hs : List Int} {t : Int} (h : begun ws hs t ≠ []) : due ws hs t ∈ begun ws hs t := by
  have hp : 0 < ((begun ws hs t).map fun s => [lstT ws hs s, s]).length := by
    rw [List.length_map]
    exact List.length_pos_iff.mpr h
  obtain ⟨s, hs, e⟩ := List.mem_map.mp (leastR_mem hp)
  unfold due
  rw [← e]
  simpa using hs
theorem begun_ne {ws hs : List Int} {k : Int} (g : Good ws) (hl : hs.length = ws.length) (hk : hs.sum = k) : begun ws hs k ≠ [] := by
  intro z
  have hs0 := g.sum
  have q : (k + 1) * ws.sum ≤ hs.sum * ws.sum := sum_mul hl fun i hi => by
    have n : ¬ (i : Int) ∈ begun ws hs k := by rw [z]; simp
    rw [begun_mem] at n
    have n2 : k + 1 ≤ fstT ws hs i := by
      have : ¬ fstT ws hs i ≤ k := fun h => n ⟨⟨by omega, by omega⟩, h⟩
      omega
    have p := (g.at hi).1
    unfold fstT wt at n2
    rw [Int.toNat_natCast] at n2
    exact (Int.le_ediv_iff_mul_le (by omega)).mp n2
  rw [hk] at q
  have : (k + 1) * ws.sum = k * ws.sum + ws.sum := by rw [Int.add_mul, Int.one_mul]
  omega
structure RInv (ws : List Int) (k : Nat) (hs made : List Int) : Prop where
  hl : hs.length = ws.length
  ml : made.length = k
  sum : hs.sum = k
  top : ∀ i : Nat, i < ws.length → 0 ≤ hs.getD i 0 ∧ hs.getD i 0 ≤ ws.getD i 0
  cnt : ∀ i : Nat, i < ws.length → (made.count (i : Int) : Int) = hs.getD i 0
  mem : ∀ x ∈ made, 0 ≤ x ∧ x < ws.length
theorem rep_sum (n : Nat) : (List.replicate n (0 : Int)).sum = 0 := by
  induction n with
  | zero => rfl
  | succ n ih => rw [List.replicate_succ, List.sum_cons, ih]; rfl
theorem rnd_inv {ws : List Int} (g : Good ws) : ∀ k : Nat, (k : Int) ≤ ws.sum → RInv ws k (rnd ws k).1 (rnd ws k).2
  | 0, _ => by
    have z : ∀ i : Nat, (List.replicate ws.length (0 : Int)).getD i 0 = 0 := fun i => by
      rw [List.getD_eq_getElem?_getD, List.getElem?_replicate]
      split <;> rfl
    refine ⟨by simp [rnd], rfl, rep_sum _, fun i hi => ?_, fun i hi => ?_, fun x hx => by cases hx⟩
    · show 0 ≤ (List.replicate ws.length (0 : Int)).getD i 0 ∧ _
      have e := z i
      have := (g.at hi).1
      constructor
      · show 0 ≤ (List.replicate ws.length (0 : Int)).getD i 0
        rw [e]; exact Int.le_refl 0
      · show (List.replicate ws.length (0 : Int)).getD i 0 ≤ _
        rw [e]; omega
    · exact (z i).symm
  | k + 1, h => by
    have I := rnd_inv g k (by omega)
    have hm := due_mem (begun_ne g I.hl I.sum)
    have hd := begun_mem.mp hm
    generalize hD : due ws (rnd ws k).1 k = s at hm hd
    obtain ⟨⟨s0, s1⟩, hf⟩ := hd
    have e1 : (rnd ws (k + 1)).1 = (rnd ws k).1.set s.toNat ((rnd ws k).1.getD s.toNat 0 + 1) := by
      show (rnd ws k).1.set (due ws (rnd ws k).1 k).toNat _ = _
      rw [hD]
    have e2 : (rnd ws (k + 1)).2 = (rnd ws k).2 ++ [s] := by
      show (rnd ws k).2 ++ [due ws (rnd ws k).1 k] = _
      rw [hD]
    have sl : s.toNat < (rnd ws k).1.length := by rw [I.hl]; omega
    have slw : s.toNat < ws.length := by omega
    have w0 := (g.at slw)
    have lt : (rnd ws k).1.getD s.toNat 0 < ws.getD s.toNat 0 := by
      -- a seat that had all its turns begins anew only behind the round
      have t0 := (I.top _ slw).2
      rcases Int.lt_or_eq_of_le t0 with a | a
      · exact a
      · exfalso
        unfold fstT wt at hf
        rw [a, Int.mul_ediv_cancel_left _ (by omega)] at hf
        omega
    refine ⟨by rw [e1, List.length_set]; exact I.hl, by rw [e2]; simp [I.ml], ?_, fun i hi => ?_, fun i hi => ?_, fun x hx => ?_⟩
    · rw [e1, sum_set sl, I.sum]
      omega
    · rw [e1, getD_set sl]
      have := I.top i hi
      split
      · rename_i e
        subst e
        omega
      · exact this
    · rw [e1, e2, getD_set sl, List.count_append, Int.natCast_add, I.cnt i hi]
      split
      · rename_i e
        subst e
        have e3 : ((s.toNat : Nat) : Int) = s := by omega
        rw [e3]
        simp
      · rename_i e
        have : ([s].count (i : Int)) = 0 := by
          rw [List.count_eq_zero]
          intro z
          have := List.mem_singleton.mp z
          omega
        rw [this]
        simp
    · rw [e2] at hx
      rcases List.mem_append.mp hx with hx | hx
      · exact I.mem x hx
      · have := List.mem_singleton.mp hx
        subst this
        exact ⟨s0, s1⟩
structure Whole (ws R : List Int) : Prop where
  len : (R.length : Int) = ws.sum
  mem : ∀ x ∈ R, 0 ≤ x ∧ x < ws.length
  cnt : ∀ s : Int, 0 ≤ s → s < ws.length → (R.count s : Int) = wt ws s
theorem round_whole {ws : List Int} (g : Good ws) : Whole ws (roundL ws) := by
  have hs := g.sum
  have I := rnd_inv g ws.sum.toNat (by omega)
  have e := sum_eq I.hl (fun i hi => (I.top i hi).2) (by rw [I.sum]; omega)
  refine ⟨by show ((rnd ws ws.sum.toNat).2.length : Int) = _; rw [I.ml]; omega, I.mem, fun s h0 h1 => ?_⟩
  have c := I.cnt s.toNat (by omega)
  have e3 : ((s.toNat : Nat) : Int) = s := by omega
  rw [e3, e] at c
  exact c

/-! ### places -/
def placesN (s : Int) (R : List Int) (n : Nat) : List Nat := (List.range n).filter fun t => decide (R[t]? = some s)
theorem take_cnt {s : Int} {R : List Int} {n : Nat} (h : n < R.length) : (R.take (n + 1)).count s = (R.take n).count s + if R[n]? = some s then 1 else 0 := by
  rw [List.take_add_one, List.getElem?_eq_getElem h, List.count_append]
  congr 1
  show [R[n]].count s = _
  rw [List.count_singleton]
  by_cases e : R[n] = s
  · rw [if_pos (beq_iff_eq.mpr e), if_pos (congrArg some e)]
  · rw [if_neg (fun z => e (beq_iff_eq.mp z)), if_neg (fun z => e (Option.some.inj z))]
theorem places_all {s : Int} {R : List Int} : ∀ n : Nat, n ≤ R.length → (placesN s R n).length = (R.take n).count s ∧
    (∀ r p : Nat, (placesN s R n)[r]? = some p → p < n ∧ R[p]? = some s ∧ (R.take p).count s = r) ∧ (∀ t : Nat, t < n → R[t]? = some s → (placesN s R n)[(R.take t).count s]? = some t)
  | 0, _ => by simp [placesN]
  | n + 1, h => by
    obtain ⟨h1, h2, h3⟩ := places_all (s := s) (R := R) n (by omega)
    have e : placesN s R (n + 1) = placesN s R n ++ if R[n]? = some s then [n] else [] := by
      unfold placesN
      rw [List.range_succ, List.filter_append]
      congr 1
      by_cases z : R[n]? = some s <;> simp [z]
    have tc := take_cnt (s := s) (R := R) (n := n) (by omega)
    rw [e]
    by_cases z : R[n]? = some s
    · rw [if_pos z] at tc ⊢
      refine ⟨by rw [List.length_append, h1, tc]; rfl, fun r p hp => ?_, fun t ht hs => ?_⟩
      · by_cases hr : r < (placesN s R n).length
        · rw [List.getElem?_append_left hr] at hp
          obtain ⟨a, b, c⟩ := h2 r p hp
          exact ⟨by omega, b, c⟩
        · rw [List.getElem?_append_right (by omega)] at hp
          obtain ⟨hl, hv⟩ := List.getElem?_eq_some_iff.mp hp
          have hl' : r - (placesN s R n).length = 0 := by simpa using hl
          have : p = n := by simpa [hl'] using hv.symm
          subst this
          exact ⟨by omega, z, by omega⟩
      · by_cases hn : t = n
        · subst hn
          rw [← h1, List.getElem?_append_right (Nat.le_refl _), Nat.sub_self]
          rfl
        · have q := h3 t (by omega) hs
          rw [List.getElem?_append_left (List.getElem?_eq_some_iff.mp q).1]
          exact q
    · rw [if_neg z] at tc ⊢
      rw [List.append_nil]
      refine ⟨by rw [h1, tc]; rfl, fun r p hp => ?_, fun t ht hs => ?_⟩
      · obtain ⟨a, b, c⟩ := h2 r p hp
        exact ⟨by omega, b, c⟩
      · have : t ≠ n := fun y => z (by rw [← y]; exact hs)
        exact h3 t (by omega) hs
/-! ### turns -/
def how (ws : List Int) (s k : Int) : Int := k / ws.sum * wt ws s + (((roundL ws).take (k % ws.sum).toNat).count s : Nat)
def places (ws : List Int) (s : Int) : List Nat := placesN s (roundL ws) (roundL ws).length
def nth (ws : List Int) (s j : Int) : Int := (j - 1) / wt ws s * ws.sum + ((places ws s).getD ((j - 1) % wt ws s).toNat 0 : Nat)
section
variable {ws : List Int} (g : Good ws) {s : Int} (s0 : 0 ≤ s) (s1 : s < ws.length)
include g s0 s1
theorem places_len : ((places ws s).length : Int) = wt ws s := by
  have w := round_whole g
  unfold places
  rw [(places_all _ (Nat.le_refl _)).1, List.take_length]
  exact w.cnt s s0 s1
theorem place_at {r : Nat} (h : (r : Int) < wt ws s) : ∃ p : Nat, (places ws s).getD r 0 = p ∧ (p : Int) < ws.sum ∧ (roundL ws)[p]? = some s ∧ ((roundL ws).take p).count s = r := by
  have w := round_whole g
  have hl := places_len g s0 s1
  have lt : r < (places ws s).length := by omega
  obtain ⟨a, b, c⟩ := (places_all (s := s) (R := roundL ws) _ (Nat.le_refl _)).2.1 r _ (List.getElem?_eq_getElem lt)
  refine ⟨(places ws s)[r], ?_, ?_, b, c⟩
  · rw [List.getD_eq_getElem?_getD, List.getElem?_eq_getElem lt]
    rfl
  · have := w.len
    have a' : (places ws s)[r] < (roundL ws).length := a
    omega
theorem how_at {q : Int} {p : Nat} (h : (p : Int) ≤ ws.sum) : how ws s (q * ws.sum + p) = q * wt ws s + ((roundL ws).take p).count s := by
  have hs := g.sum
  unfold how
  rcases Int.lt_or_eq_of_le h with a | a
  · have e1 : (q * ws.sum + p) / ws.sum = q := by
      rw [Int.add_comm, Int.add_mul_ediv_right _ _ (by omega), Int.ediv_eq_zero_of_lt (by omega) a]
      omega
    have e2 : (q * ws.sum + p) % ws.sum = p := by
      rw [Int.add_comm, Int.add_mul_emod_self_right, Int.emod_eq_of_lt (by omega) a]
    rw [e1, e2, Int.toNat_natCast]
  · have e1 : (q * ws.sum + p) / ws.sum = q + 1 := by
      rw [a, show q * ws.sum + ws.sum = (q + 1) * ws.sum by rw [Int.add_mul, Int.one_mul], Int.mul_ediv_cancel _ (by omega)]
    have e2 : (q * ws.sum + p) % ws.sum = 0 := by
      rw [a, show q * ws.sum + ws.sum = (q + 1) * ws.sum by rw [Int.add_mul, Int.one_mul], Int.mul_emod_left]
    have w := round_whole g
    have e3 : (roundL ws).take p = roundL ws := List.take_of_length_le (by have := w.len; omega)
    rw [e1, e2, e3, w.cnt s s0 s1, Int.add_mul]
    simp
theorem nth_facts {j : Int} (hj : 1 ≤ j) : ∃ (q : Int) (p : Nat), nth ws s j = q * ws.sum + p ∧ 0 ≤ q ∧ (p : Int) < ws.sum ∧ (roundL ws)[p]? = some s ∧ q * wt ws s + ((roundL ws).take p).count s = j - 1 := by
  have w := g.wt s0 s1
  have r0 := Int.emod_nonneg (j - 1) (show wt ws s ≠ 0 by omega)
  have r1 := Int.emod_lt_of_pos (j - 1) (show 0 < wt ws s by omega)
  obtain ⟨p, e1, e2, e3, e4⟩ := place_at g s0 s1 (r := ((j - 1) % wt ws s).toNat) (by omega)
  refine ⟨(j - 1) / wt ws s, p, ?_, Int.ediv_nonneg (by omega) (by omega), e2, e3, ?_⟩
  · unfold nth
    rw [e1]
  · rw [e4]
    have := Int.mul_ediv_add_emod (j - 1) (wt ws s)
    rw [Int.mul_comm] at this
    omega
theorem nth_nonneg {j : Int} (hj : 1 ≤ j) : 0 ≤ nth ws s j := by
  obtain ⟨q, p, e, q0, _⟩ := nth_facts g s0 s1 hj
  have := Int.mul_nonneg q0 (show 0 ≤ ws.sum by have := g.sum; omega)
  omega
theorem nth_seat {j : Int} (hj : 1 ≤ j) : (roundL ws)[(nth ws s j % ws.sum).toNat]? = some s := by
  obtain ⟨q, p, e, q0, h1, h2, _⟩ := nth_facts g s0 s1 hj
  rw [e, Int.add_comm, Int.add_mul_emod_self_right, Int.emod_eq_of_lt (by omega) h1, Int.toNat_natCast]
  exact h2
theorem how_nth {j : Int} (hj : 1 ≤ j) : how ws s (nth ws s j) = j - 1 := by
  obtain ⟨q, p, e, q0, h1, h2, h3⟩ := nth_facts g s0 s1 hj
  rw [e, how_at g s0 s1 (by omega)]
  exact h3
theorem how_nth1 {j : Int} (hj : 1 ≤ j) : how ws s (nth ws s j + 1) = j := by
  obtain ⟨q, p, e, q0, h1, h2, h3⟩ := nth_facts g s0 s1 hj
  have e2 : q * ws.sum + (p : Int) + 1 = q * ws.sum + ((p + 1 : Nat) : Int) := by omega
  rw [e, e2, how_at g s0 s1 (by omega), take_cnt (List.getElem?_eq_some_iff.mp h2).1, if_pos h2]
  omega
theorem how_zero : how ws s 0 = 0 := by
  have := how_at g s0 s1 (q := 0) (p := 0) (by have := g.sum; omega)
  simpa using this
theorem nth_small {t : Nat} (ht : (roundL ws)[t]? = some s) : nth ws s (((roundL ws).take (t + 1)).count s) = t := by
  have lt := (List.getElem?_eq_some_iff.mp ht).1
  have w := round_whole g
  have wc := w.cnt s s0 s1
  have wp := g.wt s0 s1
  have e1 : (((roundL ws).take (t + 1)).count s : Int) - 1 = (((roundL ws).take t).count s : Nat) := by
    rw [take_cnt lt, if_pos ht]
    omega
  have b : (((roundL ws).take t).count s : Int) < wt ws s := by
    have le : ((roundL ws).take (t + 1)).count s ≤ (roundL ws).count s := List.Sublist.count_le s (List.take_sublist ..)
    rw [take_cnt lt, if_pos ht] at le
    omega
  unfold nth
  rw [e1, Int.ediv_eq_zero_of_lt (by omega) b, Int.emod_eq_of_lt (by omega) b, Int.toNat_natCast]
  have q := (places_all (s := s) (R := roundL ws) _ (Nat.le_refl _)).2.2 t lt ht
  have q' : (places ws s)[((roundL ws).take t).count s]? = some t := q
  rw [List.getD_eq_getElem?_getD, q']
  simp
end
end Rd

set_option Elab.async false
set_option linter.all false
set_option maxRecDepth 100000
set_option maxHeartbeats 0
namespace K26
open PySem PySem.Spec PyProof.Rows L2 Vm
/-! ### the text -/
abbrev prog : Program := PySem.Challenge.pw_almsrow_k26_whole_turns_there_and_back
def topS (i : Nat) : Stmt := prog.main.body.getD i (.Pass ⟨0, 0, 0, 0⟩)
def b_law : Ss := .cons (.x (.set (.one 1) (.call 14 (.cons (.var 0) .nil)))) (.cons (.x (.ret (.band (.call 19 (.cons (.var 1) (.cons (.call 16 (.cons (.var 1) .nil)) .nil))) (.call 19 (.cons (.var 1) (.cons (.call 16 (.cons (.var 1) .nil)) .nil)))))) .nil)
abbrev d_law : DefT := ⟨"law", ["_law_script"], ["_law_script", "_law_feed_here"], b_law, topS 27⟩
def b_first_of : Ss := .cons (.x (.drop (.call 4 (.cons (.var 0) (.cons (.var 1) .nil))))) (.cons (.x (.drop (.call 5 (.cons (.var 2) (.cons (.int 1) .nil))))) (.cons (.x (.ret (.bin .fdiv (.bin .mul (.bin .sub (.var 2) (.int 1)) (.bi 1 (.cons (.var 0) .nil))) (.ix (.var 0) (.var 1))))) .nil))
abbrev d_first_of : DefT := ⟨"first_of", ["weights", "seat", "j"], ["weights", "seat", "j"], b_first_of, topS 5⟩
def b_last_of : Ss := .cons (.x (.drop (.call 4 (.cons (.var 0) (.cons (.var 1) .nil))))) (.cons (.x (.drop (.call 5 (.cons (.var 2) (.cons (.int 1) .nil))))) (.cons (.x (.ret (.bin .sub (.call 6 (.cons (.bin .mul (.var 2) (.bi 1 (.cons (.var 0) .nil))) (.cons (.ix (.var 0) (.var 1)) .nil))) (.int 1)))) .nil))
abbrev d_last_of : DefT := ⟨"last_of", ["weights", "seat", "j"], ["weights", "seat", "j"], b_last_of, topS 6⟩
def b_is_seat : Ss := .cons (.x (.ret (.chain .le .lt (.int 0) (.var 1) (.bi 0 (.cons (.var 0) .nil))))) .nil
abbrev d_is_seat : DefT := ⟨"is_seat", ["weights", "seat"], ["weights", "seat"], b_is_seat, topS 7⟩
def b_need_seat : Ss := .cons (.ifs (.not (.call 3 (.cons (.var 0) (.cons (.var 1) .nil)))) (.cons (.x .never) .nil) (.nil)) .nil
abbrev d_need_seat : DefT := ⟨"need_seat", ["weights", "seat"], ["weights", "seat"], b_need_seat, topS 8⟩
def b_need_number : Ss := .cons (.ifs (.cmp .lt (.var 0) (.var 1)) (.cons (.x .never) .nil) (.nil)) .nil
abbrev d_need_number : DefT := ⟨"need_number", ["number", "least"], ["number", "least"], b_need_number, topS 9⟩
def b_rounded_up : Ss := .cons (.x (.ret (.neg (.bin .fdiv (.neg (.var 0)) (.var 1))))) .nil
abbrev d_rounded_up : DefT := ⟨"rounded_up", ["number", "by"], ["number", "by"], b_rounded_up, topS 10⟩
def b_round_of : Ss := .cons (.x (.set (.one 1) (.lst (.nil)))) (.cons (.x (.set (.one 2) (.bin .mul (.lst (.cons (.int 0) .nil)) (.bi 0 (.cons (.var 0) .nil))))) (.cons (.for (.one 3) (.rng (.bi 1 (.cons (.var 0) .nil))) (.cons (.x (.set (.one 4) (.call 8 (.cons (.var 0) (.cons (.var 2) (.cons (.var 3) .nil)))))) (.cons (.x (.augp (.var 2) (.var 4) .add (.int 1))) (.cons (.x (.app (.var 1) (.var 4))) .nil)))) (.cons (.x (.ret (.bi 2 (.cons (.var 1) .nil)))) .nil)))
abbrev d_round_of : DefT := ⟨"round_of", ["weights"], ["weights", "made", "had", "t", "seat"], b_round_of, topS 12⟩
def b__due_seat : Ss := .cons (.x (.set (.one 3) (.lc (.var 4) (.one 4) (.rng (.bi 0 (.cons (.var 0) .nil))) (.cmp .le (.call 1 (.cons (.var 0) (.cons (.var 4) (.cons (.bin .add (.ix (.var 1) (.var 4)) (.int 1)) .nil)))) (.var 2))))) (.cons (.x (.ret (.ix (.bi 6 (.cons (.lc (.tup (.cons (.call 2 (.cons (.var 0) (.cons (.var 4) (.cons (.bin .add (.ix (.var 1) (.var 4)) (.int 1)) .nil)))) (.cons (.var 4) .nil))) (.one 4) (.seq (.var 3)) (.bl true)) .nil)) (.int 1)))) .nil)
abbrev d__due_seat : DefT := ⟨"_due_seat", ["weights", "had", "t"], ["weights", "had", "t", "begun", "seat"], b__due_seat, topS 13⟩
def b_seat_of : Ss := .cons (.x (.drop (.call 5 (.cons (.var 1) (.cons (.int 0) .nil))))) (.cons (.x (.ret (.ix (.call 7 (.cons (.var 0) .nil)) (.bin .mod (.var 1) (.bi 1 (.cons (.var 0) .nil)))))) .nil)
abbrev d_seat_of : DefT := ⟨"seat_of", ["weights", "t"], ["weights", "t"], b_seat_of, topS 15⟩
def b_how_many : Ss := .cons (.x (.drop (.call 4 (.cons (.var 0) (.cons (.var 1) .nil))))) (.cons (.x (.drop (.call 5 (.cons (.var 2) (.cons (.int 0) .nil))))) (.cons (.x (.set (.many [3, 4]) (.bi 4 (.cons (.var 2) (.cons (.bi 1 (.cons (.var 0) .nil)) .nil))))) (.cons (.x (.ret (.bin .add (.bin .mul (.var 3) (.ix (.var 0) (.var 1))) (.scnt (.call 7 (.cons (.var 0) .nil)) (.var 4) (.var 1))))) .nil)))
abbrev d_how_many : DefT := ⟨"how_many", ["weights", "seat", "k"], ["weights", "seat", "k", "rounds", "rest"], b_how_many, topS 16⟩
def b_nth_turn : Ss := .cons (.x (.drop (.call 4 (.cons (.var 0) (.cons (.var 1) .nil))))) (.cons (.x (.drop (.call 5 (.cons (.var 2) (.cons (.int 1) .nil))))) (.cons (.x (.set (.many [3, 4]) (.bi 4 (.cons (.bin .sub (.var 2) (.int 1)) (.cons (.ix (.var 0) (.var 1)) .nil))))) (.cons (.x (.ret (.bin .add (.bin .mul (.var 3) (.bi 1 (.cons (.var 0) .nil))) (.ix (.call 13 (.cons (.var 0) (.cons (.var 1) .nil))) (.var 4))))) .nil)))
abbrev d_nth_turn : DefT := ⟨"nth_turn", ["weights", "seat", "j"], ["weights", "seat", "j", "rounds", "rest"], b_nth_turn, topS 17⟩
def b_next_turn : Ss := .cons (.x (.ret (.call 11 (.cons (.var 0) (.cons (.var 1) (.cons (.bin .add (.call 10 (.cons (.var 0) (.cons (.var 1) (.cons (.var 2) .nil)))) (.int 1)) .nil)))))) .nil
abbrev d_next_turn : DefT := ⟨"next_turn", ["weights", "seat", "k"], ["weights", "seat", "k"], b_next_turn, topS 18⟩
def b__places : Ss := .cons (.x (.set (.one 2) (.call 7 (.cons (.var 0) .nil)))) (.cons (.x (.ret (.lc (.var 3) (.one 3) (.rng (.bi 0 (.cons (.var 2) .nil))) (.cmp .eq (.ix (.var 2) (.var 3)) (.var 1))))) .nil)
abbrev d__places : DefT := ⟨"_places", ["weights", "seat"], ["weights", "seat", "made", "t"], b__places, topS 19⟩
def b__law_feed : Ss := .cons (.x (.ret (.lst (.cons (.slc (.var 0) .no (.yes (.int 63))) (.cons (.int 0) (.cons (.int 0) (.cons (.int 0) .nil))))))) .nil
abbrev d__law_feed : DefT := ⟨"_law_feed", ["_law_script"], ["_law_script"], b__law_feed, topS 21⟩
def b__law_draw : Ss := .cons (.x (.set (.many [4, 5, 6, 7]) (.var 0))) (.cons (.x (.put (.var 0) (.int 3) (.bin .add (.var 7) (.int 1)))) (.cons (.ifs (.cmp .gt (.var 6) (.int 0)) (.cons (.x (.put (.var 0) (.int 2) (.bin .fdiv (.var 6) (.var 1)))) (.cons (.x (.ret (.bin .mod (.var 6) (.var 1)))) .nil)) (.nil)) (.cons (.x (.put (.var 0) (.int 1) (.bin .add (.var 5) (.int 1)))) (.cons (.x (.set (.one 2) (.ite (.cmp .gt (.bi 0 (.cons (.var 4) .nil)) (.int 0)) (.ix (.var 4) (.bin .mod (.var 5) (.bi 0 (.cons (.var 4) .nil)))) (.int 11)))) (.cons (.ifs (.band (.cmp .ge (.var 2) (.bin .pow (.int 10) (.int 18))) (.cmp .lt (.var 5) (.bi 0 (.cons (.var 4) .nil)))) (.cons (.x (.put (.var 0) (.int 2) (.bin .fdiv (.var 2) (.var 1)))) (.cons (.x (.ret (.bin .mod (.var 2) (.var 1)))) .nil)) (.nil)) (.cons (.x (.set (.one 3) (.bin .mod (.bin .pow (.bin .add (.bin .add (.bin .mod (.var 2) (.int 2147483629)) (.bin .mul (.int 6151) (.var 7))) (.int 389)) (.int 5)) (.int 2147483647)))) (.cons (.x (.set (.one 3) (.bin .mod (.bin .pow (.bin .add (.bin .add (.var 3) (.bin .mul (.int 24593) (.var 7))) (.int 53)) (.int 5)) (.int 2147483587)))) (.cons (.x (.ret (.bin .mod (.bin .fdiv (.var 3) (.int 64)) (.var 1)))) .nil))))))))
abbrev d__law_draw : DefT := ⟨"_law_draw", ["_law_feed_here", "_law_many"], ["_law_feed_here", "_law_many", "_law_cell", "_law_mixed", "_law_cells", "_law_at", "_law_rest", "_law_turn"], b__law_draw, topS 22⟩
def b__law_weights : Ss := .cons (.x (.par 3 4 (.call 15 (.cons (.var 0) (.cons (.int 8) .nil))) (.bin .add (.int 1) (.call 15 (.cons (.var 0) (.cons (.int 6) .nil)))))) (.cons (.x (.set (.one 1) (.ix (.lst (.cons (.int 3) (.cons (.int 3) (.cons (.int 3) (.cons (.int 6) (.cons (.int 6) (.cons (.int 20) (.cons (.int 1) (.cons (.int 1) .nil))))))))) (.var 3)))) (.cons (.x (.set (.one 2) (.lc (.bin .add (.int 1) (.call 15 (.cons (.var 0) (.cons (.var 1) .nil)))) (.one 5) (.rng (.var 4)) (.bl true)))) (.cons (.ifs (.cmp .eq (.var 3) (.int 6)) (.cons (.x (.set (.one 2) (.bin .mul (.lst (.cons (.bin .add (.int 1) (.call 15 (.cons (.var 0) (.cons (.int 20) .nil)))) .nil)) (.var 4)))) .nil) (.nil)) (.cons (.ifs (.cmp .eq (.var 3) (.int 7)) (.cons (.x (.put (.var 2) (.call 15 (.cons (.var 0) (.cons (.var 4) .nil))) (.bin .add (.int 2) (.call 15 (.cons (.var 0) (.cons (.int 19) .nil)))))) .nil) (.nil)) (.cons (.x (.ret (.bi 2 (.cons (.var 2) .nil)))) .nil)))))
abbrev d__law_weights : DefT := ⟨"_law_weights", ["_law_feed_here"], ["_law_feed_here", "_law_wide", "_law_found", "_law_way", "_law_many", "_law_k"], b__law_weights, topS 23⟩
def b__law_great : Ss := .cons (.x (.set (.one 1) (.int 0))) (.cons (.for (.one 2) (.rng (.bin .add (.int 1) (.call 15 (.cons (.var 0) (.cons (.int 5) .nil))))) (.cons (.x (.set (.one 1) (.bin .add (.bin .mul (.var 1) (.bin .pow (.int 10) (.int 6))) (.call 15 (.cons (.var 0) (.cons (.bin .pow (.int 10) (.int 6)) .nil)))))) .nil)) (.cons (.x (.ret (.var 1))) .nil))
abbrev d__law_great : DefT := ⟨"_law_great", ["_law_feed_here"], ["_law_feed_here", "_law_found", "_law_k"], b__law_great, topS 24⟩
def b__law_there : Ss := .cons (.x (.set (.one 3) (.call 11 (.cons (.var 0) (.cons (.var 1) (.cons (.var 2) .nil)))))) (.cons (.ifs (.bor (.cmp .ne (.call 9 (.cons (.var 0) (.cons (.var 3) .nil))) (.var 1)) (.bor (.cmp .ne (.call 10 (.cons (.var 0) (.cons (.var 1) (.cons (.var 3) .nil)))) (.bin .sub (.var 2) (.int 1))) (.cmp .ne (.call 10 (.cons (.var 0) (.cons (.var 1) (.cons (.bin .add (.var 3) (.int 1)) .nil)))) (.var 2)))) (.cons (.x (.ret (.bl false))) .nil) (.nil)) (.cons (.x (.set (.one 4) (.ite (.cmp .gt (.var 2) (.int 1)) (.call 11 (.cons (.var 0) (.cons (.var 1) (.cons (.bin .sub (.var 2) (.int 1)) .nil)))) (.neg (.int 1))))) (.cons (.ifs (.bor (.cmp .ne (.call 12 (.cons (.var 0) (.cons (.var 1) (.cons (.var 3) .nil)))) (.var 3)) (.cmp .ne (.call 12 (.cons (.var 0) (.cons (.var 1) (.cons (.bin .add (.var 4) (.int 1)) .nil)))) (.var 3))) (.cons (.x (.ret (.bl false))) .nil) (.nil)) (.cons (.x (.ret (.cmp .eq (.call 12 (.cons (.var 0) (.cons (.var 1) (.cons (.bin .add (.var 3) (.int 1)) .nil)))) (.call 11 (.cons (.var 0) (.cons (.var 1) (.cons (.bin .add (.var 2) (.int 1)) .nil))))))) .nil))))
abbrev d__law_there : DefT := ⟨"_law_there", ["_law_weights_here", "_law_seat", "_law_j"], ["_law_weights_here", "_law_seat", "_law_j", "_law_t", "_law_before"], b__law_there, topS 25⟩
def b__law_right : Ss := .cons (.x (.set (.one 2) (.lrng (.bi 0 (.cons (.var 1) .nil))))) (.cons (.ifs (.cmp .gt (.bi 1 (.cons (.var 1) .nil)) (.int 12)) (.cons (.x (.set (.one 2) (.sset (.lst (.cons (.call 15 (.cons (.var 0) (.cons (.bi 0 (.cons (.var 1) .nil)) .nil))) (.cons (.bin .sub (.bi 0 (.cons (.var 1) .nil)) (.int 1)) .nil)))))) .nil) (.nil)) (.cons (.for (.one 3) (.seq (.var 2)) (.cons (.for (.one 7) (.seq (.tup (.cons (.int 1) (.cons (.bin .add (.int 1) (.call 15 (.cons (.var 0) (.cons (.bin .mul (.int 2) (.ix (.var 1) (.var 3))) .nil)))) (.cons (.bin .add (.int 1) (.call 17 (.cons (.var 0) .nil))) .nil))))) (.cons (.ifs (.not (.call 18 (.cons (.var 1) (.cons (.var 3) (.cons (.var 7) .nil))))) (.cons (.x (.ret (.bl false))) .nil) (.nil)) .nil)) .nil)) (.cons (.x (.set (.one 4) (.call 7 (.cons (.var 1) .nil)))) (.cons (.x (.set (.one 5) (.lc (.int 0) (.one 8) (.seq (.var 1)) (.bl true)))) (.cons (.for (.one 6) (.rng (.bi 6 (.cons (.bi 0 (.cons (.var 4) .nil)) (.cons (.int 12) .nil)))) (.cons (.x (.put (.var 5) (.ix (.var 4) (.var 6)) (.bin .add (.ix (.var 5) (.ix (.var 4) (.var 6))) (.int 1)))) (.cons (.ifs (.cmp .ne (.call 11 (.cons (.var 1) (.cons (.ix (.var 4) (.var 6)) (.cons (.ix (.var 5) (.ix (.var 4) (.var 6))) .nil)))) (.var 6)) (.cons (.x (.ret (.bl false))) .nil) (.nil)) .nil))) (.cons (.x (.ret (.bl true))) .nil))))))
abbrev d__law_right : DefT := ⟨"_law_right", ["_law_feed_here", "_law_weights_here"], ["_law_feed_here", "_law_weights_here", "_law_seats", "_law_seat", "_law_line", "_law_had", "_law_t", "_law_j", "_law_weight"], b__law_right, topS 26⟩
def ds : List DefT := [d_law, d_first_of, d_last_of, d_is_seat, d_need_seat, d_need_number, d_rounded_up, d_round_of, d__due_seat, d_seat_of, d_how_many, d_nth_turn, d_next_turn, d__places, d__law_feed, d__law_draw, d__law_weights, d__law_great, d__law_there, d__law_right]
abbrev i_law : Nat := 0
abbrev i_first_of : Nat := 1
abbrev i_last_of : Nat := 2
abbrev i_is_seat : Nat := 3
abbrev i_need_seat : Nat := 4
abbrev i_need_number : Nat := 5
abbrev i_rounded_up : Nat := 6
abbrev i_round_of : Nat := 7
abbrev i__due_seat : Nat := 8
abbrev i_seat_of : Nat := 9
abbrev i_how_many : Nat := 10
abbrev i_nth_turn : Nat := 11
abbrev i_next_turn : Nat := 12
abbrev i__places : Nat := 13
abbrev i__law_feed : Nat := 14
abbrev i__law_draw : Nat := 15
abbrev i__law_weights : Nat := 16
abbrev i__law_great : Nat := 17
abbrev i__law_there : Nat := 18
abbrev i__law_right : Nat := 19
def d0 (i : Nat) : DefT := ds.getD i ⟨"", [], [], .nil, topS 0⟩
end K26

set_option Elab.async false
set_option linter.all false
set_option maxRecDepth 100000
set_option maxHeartbeats 0
namespace K26
open PySem PySem.Spec PyProof.Rows L2 Vm
theorem bd_law {K : PySem.W.Frag} {f : Addr} {fd : FuncData} (F : FunD K d_law.name d_law.name (defArgs d_law.st) (defBody d_law.st) (defScope d_law.st) [] [] f fd) : Binds K fd d_law.ps [] := F.bindsN fun _ _ _ _ _ _ us hl => match us, hl with | [_], _ => rfl
theorem bd_first_of {K : PySem.W.Frag} {f : Addr} {fd : FuncData} (F : FunD K d_first_of.name d_first_of.name (defArgs d_first_of.st) (defBody d_first_of.st) (defScope d_first_of.st) [] [] f fd) : Binds K fd d_first_of.ps [] := F.bindsN fun _ _ _ _ _ _ us hl => match us, hl with | [_, _, _], _ => rfl
theorem bd_last_of {K : PySem.W.Frag} {f : Addr} {fd : FuncData} (F : FunD K d_last_of.name d_last_of.name (defArgs d_last_of.st) (defBody d_last_of.st) (defScope d_last_of.st) [] [] f fd) : Binds K fd d_last_of.ps [] := F.bindsN fun _ _ _ _ _ _ us hl => match us, hl with | [_, _, _], _ => rfl
theorem bd_is_seat {K : PySem.W.Frag} {f : Addr} {fd : FuncData} (F : FunD K d_is_seat.name d_is_seat.name (defArgs d_is_seat.st) (defBody d_is_seat.st) (defScope d_is_seat.st) [] [] f fd) : Binds K fd d_is_seat.ps [] := F.bindsN fun _ _ _ _ _ _ us hl => match us, hl with | [_, _], _ => rfl
theorem bd_need_seat {K : PySem.W.Frag} {f : Addr} {fd : FuncData} (F : FunD K d_need_seat.name d_need_seat.name (defArgs d_need_seat.st) (defBody d_need_seat.st) (defScope d_need_seat.st) [] [] f fd) : Binds K fd d_need_seat.ps [] := F.bindsN fun _ _ _ _ _ _ us hl => match us, hl with | [_, _], _ => rfl
theorem bd_need_number {K : PySem.W.Frag} {f : Addr} {fd : FuncData} (F : FunD K d_need_number.name d_need_number.name (defArgs d_need_number.st) (defBody d_need_number.st) (defScope d_need_number.st) [] [] f fd) : Binds K fd d_need_number.ps [] := F.bindsN fun _ _ _ _ _ _ us hl => match us, hl with | [_, _], _ => rfl
theorem bd_rounded_up {K : PySem.W.Frag} {f : Addr} {fd : FuncData} (F : FunD K d_rounded_up.name d_rounded_up.name (defArgs d_rounded_up.st) (defBody d_rounded_up.st) (defScope d_rounded_up.st) [] [] f fd) : Binds K fd d_rounded_up.ps [] := F.bindsN fun _ _ _ _ _ _ us hl => match us, hl with | [_, _], _ => rfl
theorem bd_round_of {K : PySem.W.Frag} {f : Addr} {fd : FuncData} (F : FunD K d_round_of.name d_round_of.name (defArgs d_round_of.st) (defBody d_round_of.st) (defScope d_round_of.st) [] [] f fd) : Binds K fd d_round_of.ps [] := F.bindsN fun _ _ _ _ _ _ us hl => match us, hl with | [_], _ => rfl
theorem bd__due_seat {K : PySem.W.Frag} {f : Addr} {fd : FuncData} (F : FunD K d__due_seat.name d__due_seat.name (defArgs d__due_seat.st) (defBody d__due_seat.st) (defScope d__due_seat.st) [] [] f fd) : Binds K fd d__due_seat.ps [] := F.bindsN fun _ _ _ _ _ _ us hl => match us, hl with | [_, _, _], _ => rfl
theorem bd_seat_of {K : PySem.W.Frag} {f : Addr} {fd : FuncData} (F : FunD K d_seat_of.name d_seat_of.name (defArgs d_seat_of.st) (defBody d_seat_of.st) (defScope d_seat_of.st) [] [] f fd) : Binds K fd d_seat_of.ps [] := F.bindsN fun _ _ _ _ _ _ us hl => match us, hl with | [_, _], _ => rfl
theorem bd_how_many {K : PySem.W.Frag} {f : Addr} {fd : FuncData} (F : FunD K d_how_many.name d_how_many.name (defArgs d_how_many.st) (defBody d_how_many.st) (defScope d_how_many.st) [] [] f fd) : Binds K fd d_how_many.ps [] := F.bindsN fun _ _ _ _ _ _ us hl => match us, hl with | [_, _, _], _ => rfl
theorem bd_nth_turn {K : PySem.W.Frag} {f : Addr} {fd : FuncData} (F : FunD K d_nth_turn.name d_nth_turn.name (defArgs d_nth_turn.st) (defBody d_nth_turn.st) (defScope d_nth_turn.st) [] [] f fd) : Binds K fd d_nth_turn.ps [] := F.bindsN fun _ _ _ _ _ _ us hl => match us, hl with | [_, _, _], _ => rfl
theorem bd_next_turn {K : PySem.W.Frag} {f : Addr} {fd : FuncData} (F : FunD K d_next_turn.name d_next_turn.name (defArgs d_next_turn.st) (defBody d_next_turn.st) (defScope d_next_turn.st) [] [] f fd) : Binds K fd d_next_turn.ps [] := F.bindsN fun _ _ _ _ _ _ us hl => match us, hl with | [_, _, _], _ => rfl
theorem bd__places {K : PySem.W.Frag} {f : Addr} {fd : FuncData} (F : FunD K d__places.name d__places.name (defArgs d__places.st) (defBody d__places.st) (defScope d__places.st) [] [] f fd) : Binds K fd d__places.ps [] := F.bindsN fun _ _ _ _ _ _ us hl => match us, hl with | [_, _], _ => rfl
theorem bd__law_feed {K : PySem.W.Frag} {f : Addr} {fd : FuncData} (F : FunD K d__law_feed.name d__law_feed.name (defArgs d__law_feed.st) (defBody d__law_feed.st) (defScope d__law_feed.st) [] [] f fd) : Binds K fd d__law_feed.ps [] := F.bindsN fun _ _ _ _ _ _ us hl => match us, hl with | [_], _ => rfl
theorem bd__law_draw {K : PySem.W.Frag} {f : Addr} {fd : FuncData} (F : FunD K d__law_draw.name d__law_draw.name (defArgs d__law_draw.st) (defBody d__law_draw.st) (defScope d__law_draw.st) [] [] f fd) : Binds K fd d__law_draw.ps [] := F.bindsN fun _ _ _ _ _ _ us hl => match us, hl with | [_, _], _ => rfl
theorem bd__law_weights {K : PySem.W.Frag} {f : Addr} {fd : FuncData} (F : FunD K d__law_weights.name d__law_weights.name (defArgs d__law_weights.st) (defBody d__law_weights.st) (defScope d__law_weights.st) [] [] f fd) : Binds K fd d__law_weights.ps [] := F.bindsN fun _ _ _ _ _ _ us hl => match us, hl with | [_], _ => rfl
theorem bd__law_great {K : PySem.W.Frag} {f : Addr} {fd : FuncData} (F : FunD K d__law_great.name d__law_great.name (defArgs d__law_great.st) (defBody d__law_great.st) (defScope d__law_great.st) [] [] f fd) : Binds K fd d__law_great.ps [] := F.bindsN fun _ _ _ _ _ _ us hl => match us, hl with | [_], _ => rfl
theorem bd__law_there {K : PySem.W.Frag} {f : Addr} {fd : FuncData} (F : FunD K d__law_there.name d__law_there.name (defArgs d__law_there.st) (defBody d__law_there.st) (defScope d__law_there.st) [] [] f fd) : Binds K fd d__law_there.ps [] := F.bindsN fun _ _ _ _ _ _ us hl => match us, hl with | [_, _, _], _ => rfl
theorem bd__law_right {K : PySem.W.Frag} {f : Addr} {fd : FuncData} (F : FunD K d__law_right.name d__law_right.name (defArgs d__law_right.st) (defBody d__law_right.st) (defScope d__law_right.st) [] [] f fd) : Binds K fd d__law_right.ps [] := F.bindsN fun _ _ _ _ _ _ us hl => match us, hl with | [_, _], _ => rfl
theorem bds {K : PySem.W.Frag} : BindsD K ds := by
  intro i d f fd e F
  rcases i with _ | _ | _ | _ | _ | _ | _ | _ | _ | _ | _ | _ | _ | _ | _ | _ | _ | _ | _ | _ | i
  · cases e; exact bd_law F
  · cases e; exact bd_first_of F
  · cases e; exact bd_last_of F
  · cases e; exact bd_is_seat F
  · cases e; exact bd_need_seat F
  · cases e; exact bd_need_number F
  · cases e; exact bd_rounded_up F
  · cases e; exact bd_round_of F
  · cases e; exact bd__due_seat F
  · cases e; exact bd_seat_of F
  · cases e; exact bd_how_many F
  · cases e; exact bd_nth_turn F
  · cases e; exact bd_next_turn F
  · cases e; exact bd__places F
  · cases e; exact bd__law_feed F
  · cases e; exact bd__law_draw F
  · cases e; exact bd__law_weights F
  · cases e; exact bd__law_great F
  · cases e; exact bd__law_there F
  · cases e; exact bd__law_right F
  · simp [ds] at e
theorem chk : ds.all (chkD (tab ds) Bn) = true := by decide +kernel
end K26

set_option Elab.async false
set_option linter.all false
set_option maxRecDepth 100000
set_option maxHeartbeats 4000000
namespace K26
open PySem PySem.Spec PyProof.Rows L2 Vm Rd
theorem pre {N k : Nat} (h : k ≤ N) (hk : 0 < k) : ∃ n, N = n + 1 ∧ k - 1 ≤ n := ⟨N - 1, by omega, by omega⟩
abbrev tw (ws : List Int) : PV := .tup (ws.map PV.int)
section
variable {ws : List Int} {h : IH} {N : Nat}
theorem s_is_seat {s : Int} (hN : 1 ≤ N) (s0 : 0 ≤ s) (s1 : s < ws.length) : (sem Bf ds N 3 [tw ws, .int s] h) = .ok (.bl true) h := by
  obtain ⟨n, rfl, _⟩ := pre hN (by decide)
  rw [sem_at (d := d_is_seat) (L := 2) (b := b_is_seat) rfl rfl rfl]
  simp (config := { implicitDefEqProofs := false }) only [Vm.evF, Vm.evSs, Vm.evS, Vm.evX, Vm.evE, Vm.evEs, Vm.evIt, Vm.evPt, Vm.Res.bind_assoc, Vm.Res.bind_ok, Vm.Res.Ok_ok, Vm.bindT, Vm.setAll, Vm.boolOf, Vm.isNon, Vm.b_add, Vm.b_sub, Vm.a_add, Vm.c_eq, Vm.c_ne, Vm.c_lt, Vm.c_le, Vm.c_gt, Vm.c_ge, Vm.Bf_len, Vm.Bf_sum, Vm.Bf_min2, Vm.wipeE, Vm.Tg.slots, Vm.lcTurn, Vm.forTurn, List.map_cons, List.map_nil, List.length_cons, List.length_nil, List.length_map, List.cons_append, List.nil_append, List.getElem?_cons_zero, List.getElem?_cons_succ, List.set_cons_zero, List.set_cons_succ, List.reduceReplicate, Nat.reduceSub, Nat.reduceAdd, Nat.zero_add, Int.toNat_natCast, Bool.not_true, Bool.not_false, decide_true, decide_false, if_true, if_false, b_is_seat, s0, s1]
theorem s_need_seat {s : Int} (hN : 2 ≤ N) (s0 : 0 ≤ s) (s1 : s < ws.length) : (sem Bf ds N 4 [tw ws, .int s] h) = .ok .non h := by
  obtain ⟨n, rfl, k⟩ := pre hN (by decide)
  rw [sem_at (d := d_need_seat) (L := 2) (b := b_need_seat) rfl rfl rfl]
  simp (config := { implicitDefEqProofs := false }) only [Vm.evF, Vm.evSs, Vm.evS, Vm.evX, Vm.evE, Vm.evEs, Vm.evIt, Vm.evPt, Vm.Res.bind_assoc, Vm.Res.bind_ok, Vm.Res.Ok_ok, Vm.bindT, Vm.setAll, Vm.boolOf, Vm.isNon, Vm.b_add, Vm.b_sub, Vm.a_add, Vm.c_eq, Vm.c_ne, Vm.c_lt, Vm.c_le, Vm.c_gt, Vm.c_ge, Vm.Bf_len, Vm.Bf_sum, Vm.Bf_min2, Vm.wipeE, Vm.Tg.slots, Vm.lcTurn, Vm.forTurn, List.map_cons, List.map_nil, List.length_cons, List.length_nil, List.length_map, List.cons_append, List.nil_append, List.getElem?_cons_zero, List.getElem?_cons_succ, List.set_cons_zero, List.set_cons_succ, List.reduceReplicate, Nat.reduceSub, Nat.reduceAdd, Nat.zero_add, Int.toNat_natCast, Bool.not_true, Bool.not_false, decide_true, decide_false, if_true, if_false, b_need_seat, s_is_seat k s0 s1]
theorem s_need_number {i j : Int} (hN : 1 ≤ N) (l : j ≤ i) : (sem Bf ds N 5 [.int i, .int j] h) = .ok .non h := by
  obtain ⟨n, rfl, k⟩ := pre hN (by decide)
  rw [sem_at (d := d_need_number) (L := 2) (b := b_need_number) rfl rfl rfl]
  have : ¬ i < j := by omega
  simp (config := { implicitDefEqProofs := false }) only [Vm.evF, Vm.evSs, Vm.evS, Vm.evX, Vm.evE, Vm.evEs, Vm.evIt, Vm.evPt, Vm.Res.bind_assoc, Vm.Res.bind_ok, Vm.Res.Ok_ok, Vm.bindT, Vm.setAll, Vm.boolOf, Vm.isNon, Vm.b_add, Vm.b_sub, Vm.a_add, Vm.c_eq, Vm.c_ne, Vm.c_lt, Vm.c_le, Vm.c_gt, Vm.c_ge, Vm.Bf_len, Vm.Bf_sum, Vm.Bf_min2, Vm.wipeE, Vm.Tg.slots, Vm.lcTurn, Vm.forTurn, List.map_cons, List.map_nil, List.length_cons, List.length_nil, List.length_map, List.cons_append, List.nil_append, List.getElem?_cons_zero, List.getElem?_cons_succ, List.set_cons_zero, List.set_cons_succ, List.reduceReplicate, Nat.reduceSub, Nat.reduceAdd, Nat.zero_add, Int.toNat_natCast, Bool.not_true, Bool.not_false, decide_true, decide_false, if_true, if_false, b_need_number, this]
theorem s_rounded_up {i j : Int} (hN : 1 ≤ N) (l : 0 < j) (l2 : j < 1073741824) : (sem Bf ds N 6 [.int i, .int j] h) = .ok (.int (-(-i / j))) h := by
  obtain ⟨n, rfl, k⟩ := pre hN (by decide)
  rw [sem_at (d := d_rounded_up) (L := 2) (b := b_rounded_up) rfl rfl rfl]
  simp (config := { implicitDefEqProofs := false }) only [Vm.evF, Vm.evSs, Vm.evS, Vm.evX, Vm.evE, Vm.evEs, Vm.evIt, Vm.evPt, Vm.Res.bind_assoc, Vm.Res.bind_ok, Vm.Res.Ok_ok, Vm.bindT, Vm.setAll, Vm.boolOf, Vm.isNon, Vm.b_add, Vm.b_sub, Vm.a_add, Vm.c_eq, Vm.c_ne, Vm.c_lt, Vm.c_le, Vm.c_gt, Vm.c_ge, Vm.Bf_len, Vm.Bf_sum, Vm.Bf_min2, Vm.wipeE, Vm.Tg.slots, Vm.lcTurn, Vm.forTurn, List.map_cons, List.map_nil, List.length_cons, List.length_nil, List.length_map, List.cons_append, List.nil_append, List.getElem?_cons_zero, List.getElem?_cons_succ, List.set_cons_zero, List.set_cons_succ, List.reduceReplicate, Nat.reduceSub, Nat.reduceAdd, Nat.zero_add, Int.toNat_natCast, Bool.not_true, Bool.not_false, decide_true, decide_false, if_true, if_false, b_rounded_up, fdiv_ok l l2]
theorem ixW {s : Int} (s0 : 0 ≤ s) (s1 : s < ws.length) : ixF (tw ws) (.int s) h = .ok (.int (wt ws s)) h := ixF_tup s0 s1
theorem s_first_of {s j : Int} (g : Good ws) (hN : 3 ≤ N) (s0 : 0 ≤ s) (s1 : s < ws.length) (hj : 1 ≤ j) : (sem Bf ds N 1 [tw ws, .int s, .int j] h) = .ok (.int ((j - 1) * ws.sum / wt ws s)) h := by
  obtain ⟨n, rfl, k⟩ := pre hN (by decide)
  rw [sem_at (d := d_first_of) (L := 3) (b := b_first_of) rfl rfl rfl]
  have hs := g.sum
  have hw := g.wt s0 s1
  simp (config := { implicitDefEqProofs := false }) only [Vm.evF, Vm.evSs, Vm.evS, Vm.evX, Vm.evE, Vm.evEs, Vm.evIt, Vm.evPt, Vm.Res.bind_assoc, Vm.Res.bind_ok, Vm.Res.Ok_ok, Vm.bindT, Vm.setAll, Vm.boolOf, Vm.isNon, Vm.b_add, Vm.b_sub, Vm.a_add, Vm.c_eq, Vm.c_ne, Vm.c_lt, Vm.c_le, Vm.c_gt, Vm.c_ge, Vm.Bf_len, Vm.Bf_sum, Vm.Bf_min2, Vm.wipeE, Vm.Tg.slots, Vm.lcTurn, Vm.forTurn, List.map_cons, List.map_nil, List.length_cons, List.length_nil, List.length_map, List.cons_append, List.nil_append, List.getElem?_cons_zero, List.getElem?_cons_succ, List.set_cons_zero, List.set_cons_succ, List.reduceReplicate, Nat.reduceSub, Nat.reduceAdd, Nat.zero_add, Int.toNat_natCast, Bool.not_true, Bool.not_false, decide_true, decide_false, if_true, if_false, b_first_of, s_need_seat k s0 s1, s_need_number (N := n) (i := j) (j := 1) (by omega) hj, ixW s0 s1, mul_r (j := ws.sum) (by omega) (by omega), fdiv_ok (j := wt ws s) (by omega) (by omega)]
theorem s_last_of {s j : Int} (g : Good ws) (hN : 3 ≤ N) (s0 : 0 ≤ s) (s1 : s < ws.length) (hj : 1 ≤ j) : (sem Bf ds N 2 [tw ws, .int s, .int j] h) = .ok (.int (-(-(j * ws.sum) / wt ws s) - 1)) h := by
  obtain ⟨n, rfl, k⟩ := pre hN (by decide)
  rw [sem_at (d := d_last_of) (L := 3) (b := b_last_of) rfl rfl rfl]
  have hs := g.sum
  have hw := g.wt s0 s1
  simp (config := { implicitDefEqProofs := false }) only [Vm.evF, Vm.evSs, Vm.evS, Vm.evX, Vm.evE, Vm.evEs, Vm.evIt, Vm.evPt, Vm.Res.bind_assoc, Vm.Res.bind_ok, Vm.Res.Ok_ok, Vm.bindT, Vm.setAll, Vm.boolOf, Vm.isNon, Vm.b_add, Vm.b_sub, Vm.a_add, Vm.c_eq, Vm.c_ne, Vm.c_lt, Vm.c_le, Vm.c_gt, Vm.c_ge, Vm.Bf_len, Vm.Bf_sum, Vm.Bf_min2, Vm.wipeE, Vm.Tg.slots, Vm.lcTurn, Vm.forTurn, List.map_cons, List.map_nil, List.length_cons, List.length_nil, List.length_map, List.cons_append, List.nil_append, List.getElem?_cons_zero, List.getElem?_cons_succ, List.set_cons_zero, List.set_cons_succ, List.reduceReplicate, Nat.reduceSub, Nat.reduceAdd, Nat.zero_add, Int.toNat_natCast, Bool.not_true, Bool.not_false, decide_true, decide_false, if_true, if_false, b_last_of, s_need_seat k s0 s1, s_need_number (N := n) (i := j) (j := 1) (by omega) hj, ixW s0 s1, mul_r (i := j) (j := ws.sum) (by omega) (by omega), s_rounded_up (N := n) (i := j * ws.sum) (j := wt ws s) (by omega) (by omega) (by omega)]
/-- the seats that are begun, with their ends -/
theorem s_due {hs : List Int} {t : Int} {a : Nat} (g : Good ws) (hN : 4 ≤ N) (ha : h[a]? = some (.lst (hs.map PV.int))) (hl : hs.length = ws.length) (h0 : ∀ i : Nat, i < ws.length → 0 ≤ hs.getD i 0) (hb : begun ws hs t ≠ []) :
    (sem Bf ds N 8 [tw ws, .ref a, .int t] h).Ok fun r h1 => r = .int (due ws hs t) ∧ Ext h h1 := by
  obtain ⟨n, rfl, k⟩ := pre hN (by decide)
  rw [sem_at (d := d__due_seat) (L := 5) (b := b__due_seat) rfl rfl rfl]
  have hs6 := g.few
  have e0 : rngs 0 ws.length = (seats ws.length).map PV.int := by
    unfold rngs seats
    rw [List.map_map]
    exact List.map_congr_left fun i _ => by simp
  have rl := rngs_len 0 ws.length
  simp (config := { implicitDefEqProofs := false }) only [Vm.evF, Vm.evSs, Vm.evS, Vm.evX, Vm.evE, Vm.evEs, Vm.evIt, Vm.evPt, Vm.Res.bind_assoc, Vm.Res.bind_ok, Vm.Res.Ok_ok, Vm.bindT, Vm.setAll, Vm.boolOf, Vm.isNon, Vm.b_add, Vm.b_sub, Vm.a_add, Vm.c_eq, Vm.c_ne, Vm.c_lt, Vm.c_le, Vm.c_gt, Vm.c_ge, Vm.Bf_len, Vm.Bf_sum, Vm.Bf_min2, Vm.wipeE, Vm.Tg.slots, Vm.lcTurn, Vm.forTurn, List.map_cons, List.map_nil, List.length_cons, List.length_nil, List.length_map, List.cons_append, List.nil_append, List.getElem?_cons_zero, List.getElem?_cons_succ, List.set_cons_zero, List.set_cons_succ, List.reduceReplicate, Nat.reduceSub, Nat.reduceAdd, Nat.zero_add, Int.toNat_natCast, Bool.not_true, Bool.not_false, decide_true, decide_false, if_true, if_false, b__due_seat]
  rw [rng_if (by omega) (by omega)]
  simp only [Res.bind_ok]
  refine Res.ok_bind ((lc_pure (xs := rngs 0 ws.length) (fun x => match x with
    | .int s => if decide (fstT ws hs s ≤ t) then some (.int s) else none
    | _ => none) get_items rfl (by omega) (fun k x h2 e x2 => ?_)).mono fun acc h2 q => ?_)
  · obtain ⟨hk, rfl⟩ := rngs0_at e
    have hx : h2[a]? = some (.lst (hs.map PV.int)) := x2.get ha
    have hk0 := h0 k hk
    have ef : (hs.getD k 0 + 1 - 1) * ws.sum / wt ws k = fstT ws hs k := by unfold fstT; simp
    refine Res.calm_of ?_
    simp (config := { implicitDefEqProofs := false }) only [Vm.evF, Vm.evSs, Vm.evS, Vm.evX, Vm.evE, Vm.evEs, Vm.evIt, Vm.evPt, Vm.Res.bind_assoc, Vm.Res.bind_ok, Vm.Res.Ok_ok, Vm.bindT, Vm.setAll, Vm.boolOf, Vm.isNon, Vm.b_add, Vm.b_sub, Vm.a_add, Vm.c_eq, Vm.c_ne, Vm.c_lt, Vm.c_le, Vm.c_gt, Vm.c_ge, Vm.Bf_len, Vm.Bf_sum, Vm.Bf_min2, Vm.wipeE, Vm.Tg.slots, Vm.lcTurn, Vm.forTurn, List.map_cons, List.map_nil, List.length_cons, List.length_nil, List.length_map, List.cons_append, List.nil_append, List.getElem?_cons_zero, List.getElem?_cons_succ, List.set_cons_zero, List.set_cons_succ, List.reduceReplicate, Nat.reduceSub, Nat.reduceAdd, Nat.zero_add, Int.toNat_natCast, Bool.not_true, Bool.not_false, decide_true, decide_false, if_true, if_false, ixF_ref (s := (k : Int)) hx (by omega) (by omega), s_first_of (N := n) (h := h2) (s := (k : Int)) (j := hs.getD k 0 + 1) g (by omega) (by omega) (by omega) (by omega), ef]
    by_cases hc : fstT ws hs k ≤ t
    · simp [hc, x2]
    · simp [hc, x2]
  · obtain ⟨rfl, x2⟩ := q
    have eb : (rngs 0 ws.length).filterMap (fun x => match x with
        | .int s => if decide (fstT ws hs s ≤ t) then some (.int s) else none
        | _ => none) = (begun ws hs t).map PV.int := by
      rw [e0]
      exact fm_filter fun s _ => rfl
    rw [eb]
    have hb0 : 0 < (begun ws hs t).length := List.length_pos_iff.mpr hb
    have hbl : (begun ws hs t).length ≤ 6 := by
      have : (begun ws hs t).length ≤ (seats ws.length).length := List.length_filter_le ..
      have e : (seats ws.length).length = ws.length := by simp [seats]
      omega
    generalize hh3 : h2 ++ [HV.lst ((begun ws hs t).map PV.int)] = h3
    have e3 : h3[h2.length]? = some (.lst ((begun ws hs t).map PV.int)) := by rw [← hh3]; exact at_end _ _
    have x3 : Ext h h3 := by rw [← hh3]; exact x2.trans (Ext.app _ _)
    simp (config := { implicitDefEqProofs := false }) only [Vm.evF, Vm.evSs, Vm.evS, Vm.evX, Vm.evE, Vm.evEs, Vm.evIt, Vm.evPt, Vm.Res.bind_assoc, Vm.Res.bind_ok, Vm.Res.Ok_ok, Vm.bindT, Vm.setAll, Vm.boolOf, Vm.isNon, Vm.b_add, Vm.b_sub, Vm.a_add, Vm.c_eq, Vm.c_ne, Vm.c_lt, Vm.c_le, Vm.c_gt, Vm.c_ge, Vm.Bf_len, Vm.Bf_sum, Vm.Bf_min2, Vm.wipeE, Vm.Tg.slots, Vm.lcTurn, Vm.forTurn, List.map_cons, List.map_nil, List.length_cons, List.length_nil, List.length_map, List.cons_append, List.nil_append, List.getElem?_cons_zero, List.getElem?_cons_succ, List.set_cons_zero, List.set_cons_succ, List.reduceReplicate, Nat.reduceSub, Nat.reduceAdd, Nat.zero_add, Int.toNat_natCast, Bool.not_true, Bool.not_false, decide_true, decide_false, if_true, if_false, fuel_heap e3, e3]
    refine Res.ok_bind ((lc_pure (xs := (begun ws hs t).map PV.int) (fun x => match x with
      | .int s => some (.tup [.int (lstT ws hs s), .int s])
      | _ => none) (get_heap e3) (by simp) (by rw [List.length_map]; omega) (fun k x h4 e x4 => ?_)).mono fun acc h4 q => ?_)
    · rw [List.getElem?_map] at e
      cases es : (begun ws hs t)[k]? with
      | none => rw [es] at e; cases e
      | some s =>
        rw [es] at e
        cases e
        obtain ⟨⟨s0, s1⟩, _⟩ := begun_mem.mp (List.mem_of_getElem? es)
        have hx : h4[a]? = some (.lst (hs.map PV.int)) := x4.get (x3.get ha)
        have hk0 := h0 s.toNat (by omega)
        have el : -(-((hs.getD s.toNat 0 + 1) * ws.sum) / wt ws s) - 1 = lstT ws hs s := rfl
        refine Res.calm_of ?_
        simp (config := { implicitDefEqProofs := false }) only [Vm.evF, Vm.evSs, Vm.evS, Vm.evX, Vm.evE, Vm.evEs, Vm.evIt, Vm.evPt, Vm.Res.bind_assoc, Vm.Res.bind_ok, Vm.Res.Ok_ok, Vm.bindT, Vm.setAll, Vm.boolOf, Vm.isNon, Vm.b_add, Vm.b_sub, Vm.a_add, Vm.c_eq, Vm.c_ne, Vm.c_lt, Vm.c_le, Vm.c_gt, Vm.c_ge, Vm.Bf_len, Vm.Bf_sum, Vm.Bf_min2, Vm.wipeE, Vm.Tg.slots, Vm.lcTurn, Vm.forTurn, List.map_cons, List.map_nil, List.length_cons, List.length_nil, List.length_map, List.cons_append, List.nil_append, List.getElem?_cons_zero, List.getElem?_cons_succ, List.set_cons_zero, List.set_cons_succ, List.reduceReplicate, Nat.reduceSub, Nat.reduceAdd, Nat.zero_add, Int.toNat_natCast, Bool.not_true, Bool.not_false, decide_true, decide_false, if_true, if_false, ixF_ref (s := s) hx s0 (by omega), s_last_of (N := n) (h := h4) (s := s) (j := hs.getD s.toNat 0 + 1) g (by omega) s0 s1 (by omega), el, newT_ok (h := h4) (xs := [.int (lstT ws hs s), .int s]) (by simp)]
        exact ⟨trivial, x4⟩
    · obtain ⟨rfl, x4⟩ := q
      have er : ((begun ws hs t).map PV.int).filterMap (fun x => match x with
          | .int s => some (.tup [.int (lstT ws hs s), .int s])
          | _ => none) = ((begun ws hs t).map fun s => [lstT ws hs s, s]).map fun ns => PV.tup (ns.map PV.int) := by
        rw [fm_filter (p := fun _ => true) (e := fun s => PV.tup [.int (lstT ws hs s), .int s]) fun s _ => rfl, List.map_map, List.filter_eq_self.mpr (fun _ _ => rfl)]
        rfl
      rw [er]
      have e5 : (h4 ++ [HV.lst (((begun ws hs t).map fun s => [lstT ws hs s, s]).map fun ns => PV.tup (ns.map PV.int))])[h4.length]? = some (.lst (((begun ws hs t).map fun s => [lstT ws hs s, s]).map fun ns => PV.tup (ns.map PV.int))) := at_end _ _
      have lr : leastR ((begun ws hs t).map fun s => [lstT ws hs s, s]) ∈ (begun ws hs t).map fun s => [lstT ws hs s, s] := leastR_mem (by rw [List.length_map]; exact hb0)
      obtain ⟨s, _, hs2⟩ := List.mem_map.mp lr
      have ed : due ws hs t = s := by unfold due; rw [← hs2]; rfl
      simp (config := { implicitDefEqProofs := false }) only [Vm.evF, Vm.evSs, Vm.evS, Vm.evX, Vm.evE, Vm.evEs, Vm.evIt, Vm.evPt, Vm.Res.bind_assoc, Vm.Res.bind_ok, Vm.Res.Ok_ok, Vm.bindT, Vm.setAll, Vm.boolOf, Vm.isNon, Vm.b_add, Vm.b_sub, Vm.a_add, Vm.c_eq, Vm.c_ne, Vm.c_lt, Vm.c_le, Vm.c_gt, Vm.c_ge, Vm.Bf_len, Vm.Bf_sum, Vm.Bf_min2, Vm.wipeE, Vm.Tg.slots, Vm.lcTurn, Vm.forTurn, List.map_cons, List.map_nil, List.length_cons, List.length_nil, List.length_map, List.cons_append, List.nil_append, List.getElem?_cons_zero, List.getElem?_cons_succ, List.set_cons_zero, List.set_cons_succ, List.reduceReplicate, Nat.reduceSub, Nat.reduceAdd, Nat.zero_add, Int.toNat_natCast, Bool.not_true, Bool.not_false, decide_true, decide_false, if_true, if_false, Bf_min_rows e5 (by rw [List.length_map]; exact hb0), ← hs2, ixF_rd (h := h4 ++ [HV.lst (((begun ws hs t).map fun s => [lstT ws hs s, s]).map fun ns => PV.tup (ns.map PV.int))]) (x := .tup [.int (lstT ws hs s), .int s]) (s := 1) (v := .int s) rfl (by decide) rfl]
      exact ⟨by rw [ed], x3.trans (x4.trans (Ext.app _ _))⟩
end
end K26

set_option Elab.async false
set_option linter.all false
set_option maxRecDepth 100000
set_option maxHeartbeats 4000000
namespace K26
open PySem PySem.Spec PyProof.Rows L2 Vm Rd
section
variable {ws : List Int} {h : IH} {N : Nat}
theorem s_round {g : Good ws} (hN : 5 ≤ N) : (sem Bf ds N 7 [tw ws] h).Ok fun r h1 => r = tw (roundL ws) ∧ Ext h h1 := by
  obtain ⟨n, rfl, k⟩ := pre hN (by decide)
  rw [sem_at (d := d_round_of) (L := 5) (b := b_round_of) rfl rfl rfl]
  have hs := g.sum
  have hf := g.few
  simp (config := { implicitDefEqProofs := false }) only [Vm.evF, Vm.evSs, Vm.evS, Vm.evX, Vm.evE, Vm.evEs, Vm.evIt, Vm.evPt, Vm.Res.bind_assoc, Vm.Res.bind_ok, Vm.Res.Ok_ok, Vm.bindT, Vm.setAll, Vm.boolOf, Vm.isNon, Vm.b_add, Vm.b_sub, Vm.a_add, Vm.c_eq, Vm.c_ne, Vm.c_lt, Vm.c_le, Vm.c_gt, Vm.c_ge, Vm.Bf_len, Vm.Bf_sum, Vm.Bf_min2, Vm.wipeE, Vm.Tg.slots, Vm.lcTurn, Vm.forTurn, List.map_cons, List.map_nil, List.length_cons, List.length_nil, List.length_map, List.cons_append, List.nil_append, List.getElem?_cons_zero, List.getElem?_cons_succ, List.set_cons_zero, List.set_cons_succ, List.reduceReplicate, Nat.reduceSub, Nat.reduceAdd, Nat.zero_add, Int.toNat_natCast, Bool.not_true, Bool.not_false, decide_true, decide_false, if_true, if_false, b_round_of, new_ok (h := h) (xs := []) (by simp), new_ok (h := h ++ [HV.lst []]) (xs := [PV.int 0]) (by simp)]
  rw [mul_one (h := h ++ [HV.lst []] ++ [HV.lst [PV.int 0]]) (a := (h ++ [HV.lst []]).length) (x := PV.int 0) (k := (ws.length : Int)) (at_end _ _) (by omega) (by omega)]
  simp (config := { implicitDefEqProofs := false }) only [Vm.evF, Vm.evSs, Vm.evS, Vm.evX, Vm.evE, Vm.evEs, Vm.evIt, Vm.evPt, Vm.Res.bind_assoc, Vm.Res.bind_ok, Vm.Res.Ok_ok, Vm.bindT, Vm.setAll, Vm.boolOf, Vm.isNon, Vm.b_add, Vm.b_sub, Vm.a_add, Vm.c_eq, Vm.c_ne, Vm.c_lt, Vm.c_le, Vm.c_gt, Vm.c_ge, Vm.Bf_len, Vm.Bf_sum, Vm.Bf_min2, Vm.wipeE, Vm.Tg.slots, Vm.lcTurn, Vm.forTurn, List.map_cons, List.map_nil, List.length_cons, List.length_nil, List.length_map, List.cons_append, List.nil_append, List.getElem?_cons_zero, List.getElem?_cons_succ, List.set_cons_zero, List.set_cons_succ, List.reduceReplicate, Nat.reduceSub, Nat.reduceAdd, Nat.zero_add, Int.toNat_natCast, Bool.not_true, Bool.not_false, decide_true, decide_false, if_true, if_false]
  rw [rng_if (by omega) (by omega)]
  generalize hh0 : h ++ [HV.lst []] ++ [HV.lst [PV.int 0]] ++ [HV.lst (List.replicate ws.length (PV.int 0))] = h0
  generalize hb0 : (h ++ [HV.lst []] ++ [HV.lst [PV.int 0]]).length = b
  have bl : b = h.length + 2 := by rw [← hb0]; simp
  have eb : h0[b]? = some (HV.lst ((rnd ws 0).1.map PV.int)) := by
    rw [← hh0, ← hb0, at_end]
    show _ = some (HV.lst ((List.replicate ws.length (0 : Int)).map PV.int))
    rw [List.map_replicate]
  have ea : h0[h.length]? = some (HV.lst ((rnd ws 0).2.map PV.int)) := by
    rw [← hh0, List.append_assoc, List.append_assoc, List.getElem?_append_right (Nat.le_refl _), Nat.sub_self]
    rfl
  have x0 : Ext h h0 := by rw [← hh0, List.append_assoc, List.append_assoc]; exact Ext.app _ _
  simp (config := { implicitDefEqProofs := false }) only [Vm.evF, Vm.evSs, Vm.evS, Vm.evX, Vm.evE, Vm.evEs, Vm.evIt, Vm.evPt, Vm.Res.bind_assoc, Vm.Res.bind_ok, Vm.Res.Ok_ok, Vm.bindT, Vm.setAll, Vm.boolOf, Vm.isNon, Vm.b_add, Vm.b_sub, Vm.a_add, Vm.c_eq, Vm.c_ne, Vm.c_lt, Vm.c_le, Vm.c_gt, Vm.c_ge, Vm.Bf_len, Vm.Bf_sum, Vm.Bf_min2, Vm.wipeE, Vm.Tg.slots, Vm.lcTurn, Vm.forTurn, List.map_cons, List.map_nil, List.length_cons, List.length_nil, List.length_map, List.cons_append, List.nil_append, List.getElem?_cons_zero, List.getElem?_cons_succ, List.set_cons_zero, List.set_cons_succ, List.reduceReplicate, Nat.reduceSub, Nat.reduceAdd, Nat.zero_add, Int.toNat_natCast, Bool.not_true, Bool.not_false, decide_true, decide_false, if_true, if_false]
  refine Res.ok_bind ((for_inv (xs := rngs 0 ws.sum.toNat) (Q := fun o h1 => ∃ u v, o = .nx [some (tw ws), some (.ref h.length), some (.ref b), u, v] ∧ h1[h.length]? = some (HV.lst ((roundL ws).map PV.int)) ∧ Ext h h1)
    (fun k ev1 h1 => (∃ u v, ev1 = [some (tw ws), some (.ref h.length), some (.ref b), u, v]) ∧ h1[h.length]? = some (HV.lst ((rnd ws k).2.map PV.int)) ∧ h1[b]? = some (HV.lst ((rnd ws k).1.map PV.int)) ∧ Ext h h1)
    (fun _ _ _ _ => rfl) (fun k x ev1 h1 e j => ?_) (fun ev1 h1 j => ?_) _ 0 _ h0 (by simp [Src.fuel]) (Nat.zero_le _) ⟨⟨_, _, rfl⟩, ea, eb, x0⟩).mono fun o h1 q => ?_)
  · obtain ⟨hk, rfl⟩ := rngs0_at e
    obtain ⟨⟨u, v, rfl⟩, ea1, eb1, x1⟩ := j
    have I := rnd_inv g k (by omega)
    have hb := begun_ne g I.hl I.sum
    simp (config := { implicitDefEqProofs := false }) only [Vm.evF, Vm.evSs, Vm.evS, Vm.evX, Vm.evE, Vm.evEs, Vm.evIt, Vm.evPt, Vm.Res.bind_assoc, Vm.Res.bind_ok, Vm.Res.Ok_ok, Vm.bindT, Vm.setAll, Vm.boolOf, Vm.isNon, Vm.b_add, Vm.b_sub, Vm.a_add, Vm.c_eq, Vm.c_ne, Vm.c_lt, Vm.c_le, Vm.c_gt, Vm.c_ge, Vm.Bf_len, Vm.Bf_sum, Vm.Bf_min2, Vm.wipeE, Vm.Tg.slots, Vm.lcTurn, Vm.forTurn, List.map_cons, List.map_nil, List.length_cons, List.length_nil, List.length_map, List.cons_append, List.nil_append, List.getElem?_cons_zero, List.getElem?_cons_succ, List.set_cons_zero, List.set_cons_succ, List.reduceReplicate, Nat.reduceSub, Nat.reduceAdd, Nat.zero_add, Int.toNat_natCast, Bool.not_true, Bool.not_false, decide_true, decide_false, if_true, if_false]
    refine Res.ok_bind ((s_due (h := h1) (t := (k : Int)) g (by omega) eb1 I.hl (fun i hi => (I.top i hi).1) hb).mono fun r h2 q => ?_)
    obtain ⟨rfl, x2⟩ := q
    have ⟨⟨d0, d1⟩, _⟩ := begun_mem.mp (due_mem hb)
    generalize hd : due ws (rnd ws k).1 (k : Int) = d at d0 d1
    have ea2 := x2.get ea1
    have eb2 := x2.get eb1
    have dl : d < ((rnd ws k).1.length : Int) := by rw [I.hl]; exact d1
    have e1 : (rnd ws (k + 1)).1 = (rnd ws k).1.set d.toNat ((rnd ws k).1.getD d.toNat 0 + 1) := by
      show (rnd ws k).1.set (due ws (rnd ws k).1 k).toNat _ = _
      rw [hd]
    have e2 : (rnd ws (k + 1)).2 = (rnd ws k).2 ++ [d] := by
      show (rnd ws k).2 ++ [due ws (rnd ws k).1 k] = _
      rw [hd]
    have ne : b ≠ h.length := by omega
    have ml : (rnd ws k).2.length = k := I.ml
    have p1 := putF_ok' (h := h2) (a := b) (j := d) (v := .int ((rnd ws k).1.getD d.toNat 0 + 1)) eb2 d0 (by rw [List.length_map]; exact dl)
    have ea3 : (h2.set b (HV.lst (((rnd ws k).1.map PV.int).set d.toNat (.int ((rnd ws k).1.getD d.toNat 0 + 1)))))[h.length]? = some (HV.lst ((rnd ws k).2.map PV.int)) := by rw [set_other ne]; exact ea2
    have eb3 : (h2.set b (HV.lst (((rnd ws k).1.map PV.int).set d.toNat (.int ((rnd ws k).1.getD d.toNat 0 + 1)))))[b]? = some (HV.lst ((rnd ws (k + 1)).1.map PV.int)) := by
      rw [set_same eb2, e1, map_set]
    have p2 := appF_ok (a := h.length) (v := .int d) ea3 (by rw [List.length_map, ml]; omega)
    simp (config := { implicitDefEqProofs := false }) only [Vm.evF, Vm.evSs, Vm.evS, Vm.evX, Vm.evE, Vm.evEs, Vm.evIt, Vm.evPt, Vm.Res.bind_assoc, Vm.Res.bind_ok, Vm.Res.Ok_ok, Vm.bindT, Vm.setAll, Vm.boolOf, Vm.isNon, Vm.b_add, Vm.b_sub, Vm.a_add, Vm.c_eq, Vm.c_ne, Vm.c_lt, Vm.c_le, Vm.c_gt, Vm.c_ge, Vm.Bf_len, Vm.Bf_sum, Vm.Bf_min2, Vm.wipeE, Vm.Tg.slots, Vm.lcTurn, Vm.forTurn, List.map_cons, List.map_nil, List.length_cons, List.length_nil, List.length_map, List.cons_append, List.nil_append, List.getElem?_cons_zero, List.getElem?_cons_succ, List.set_cons_zero, List.set_cons_succ, List.reduceReplicate, Nat.reduceSub, Nat.reduceAdd, Nat.zero_add, Int.toNat_natCast, Bool.not_true, Bool.not_false, decide_true, decide_false, if_true, if_false, ixF_ref (s := d) eb2 d0 dl, p1, ea3, p2]
    refine ⟨⟨_, _, rfl⟩, ?_, ?_, ?_⟩
    · rw [set_same ea3, e2, List.map_append]
      rfl
    · rw [set_other (Ne.symm ne)]
      exact eb3
    · exact Ext.set (Ext.set (x1.trans x2) (by omega)) (Nat.le_refl _)
  · obtain ⟨⟨u, v, rfl⟩, ea1, eb1, x1⟩ := j
    rw [rngs_len] at ea1
    exact ⟨u, v, rfl, ea1, x1⟩
  · obtain ⟨u, v, rfl, ea1, x1⟩ := q
    simp (config := { implicitDefEqProofs := false }) only [Vm.evF, Vm.evSs, Vm.evS, Vm.evX, Vm.evE, Vm.evEs, Vm.evIt, Vm.evPt, Vm.Res.bind_assoc, Vm.Res.bind_ok, Vm.Res.Ok_ok, Vm.bindT, Vm.setAll, Vm.boolOf, Vm.isNon, Vm.b_add, Vm.b_sub, Vm.a_add, Vm.c_eq, Vm.c_ne, Vm.c_lt, Vm.c_le, Vm.c_gt, Vm.c_ge, Vm.Bf_len, Vm.Bf_sum, Vm.Bf_min2, Vm.wipeE, Vm.Tg.slots, Vm.lcTurn, Vm.forTurn, List.map_cons, List.map_nil, List.length_cons, List.length_nil, List.length_map, List.cons_append, List.nil_append, List.getElem?_cons_zero, List.getElem?_cons_succ, List.set_cons_zero, List.set_cons_succ, List.reduceReplicate, Nat.reduceSub, Nat.reduceAdd, Nat.zero_add, Int.toNat_natCast, Bool.not_true, Bool.not_false, decide_true, decide_false, if_true, if_false, Bf_tuple ea1]
    exact ⟨trivial, x1⟩
theorem s_seat {t : Int} (g : Good ws) (hN : 6 ≤ N) (t0 : 0 ≤ t) {s : Int} (ht : (roundL ws)[(t % ws.sum).toNat]? = some s) : (sem Bf ds N 9 [tw ws, .int t] h).Ok fun r h1 => r = .int s ∧ Ext h h1 := by
  obtain ⟨n, rfl, k⟩ := pre hN (by decide)
  rw [sem_at (d := d_seat_of) (L := 2) (b := b_seat_of) rfl rfl rfl]
  have hs := g.sum
  simp (config := { implicitDefEqProofs := false }) only [Vm.evF, Vm.evSs, Vm.evS, Vm.evX, Vm.evE, Vm.evEs, Vm.evIt, Vm.evPt, Vm.Res.bind_assoc, Vm.Res.bind_ok, Vm.Res.Ok_ok, Vm.bindT, Vm.setAll, Vm.boolOf, Vm.isNon, Vm.b_add, Vm.b_sub, Vm.a_add, Vm.c_eq, Vm.c_ne, Vm.c_lt, Vm.c_le, Vm.c_gt, Vm.c_ge, Vm.Bf_len, Vm.Bf_sum, Vm.Bf_min2, Vm.wipeE, Vm.Tg.slots, Vm.lcTurn, Vm.forTurn, List.map_cons, List.map_nil, List.length_cons, List.length_nil, List.length_map, List.cons_append, List.nil_append, List.getElem?_cons_zero, List.getElem?_cons_succ, List.set_cons_zero, List.set_cons_succ, List.reduceReplicate, Nat.reduceSub, Nat.reduceAdd, Nat.zero_add, Int.toNat_natCast, Bool.not_true, Bool.not_false, decide_true, decide_false, if_true, if_false, b_seat_of, s_need_number (N := n) (h := h) (i := t) (j := 0) (by omega) t0]
  refine Res.ok_bind ((s_round (g := g) (h := h) (N := n) (by omega)).mono fun r h1 q => ?_)
  obtain ⟨rfl, x1⟩ := q
  have m0 := Int.emod_nonneg t (show ws.sum ≠ 0 by omega)
  have e : ((roundL ws).map PV.int)[(t % ws.sum).toNat]? = some (.int s) := by rw [List.getElem?_map, ht]; rfl
  simp (config := { implicitDefEqProofs := false }) only [Vm.evF, Vm.evSs, Vm.evS, Vm.evX, Vm.evE, Vm.evEs, Vm.evIt, Vm.evPt, Vm.Res.bind_assoc, Vm.Res.bind_ok, Vm.Res.Ok_ok, Vm.bindT, Vm.setAll, Vm.boolOf, Vm.isNon, Vm.b_add, Vm.b_sub, Vm.a_add, Vm.c_eq, Vm.c_ne, Vm.c_lt, Vm.c_le, Vm.c_gt, Vm.c_ge, Vm.Bf_len, Vm.Bf_sum, Vm.Bf_min2, Vm.wipeE, Vm.Tg.slots, Vm.lcTurn, Vm.forTurn, List.map_cons, List.map_nil, List.length_cons, List.length_nil, List.length_map, List.cons_append, List.nil_append, List.getElem?_cons_zero, List.getElem?_cons_succ, List.set_cons_zero, List.set_cons_succ, List.reduceReplicate, Nat.reduceSub, Nat.reduceAdd, Nat.zero_add, Int.toNat_natCast, Bool.not_true, Bool.not_false, decide_true, decide_false, if_true, if_false, mod_ok (i := t) (j := ws.sum) (h := h1) (by omega), ixF_rd (h := h1) (x := tw (roundL ws)) (s := t % ws.sum) (v := .int s) rfl m0 e]
  exact ⟨trivial, x1⟩
theorem s_how {s t : Int} (g : Good ws) (hN : 6 ≤ N) (s0 : 0 ≤ s) (s1 : s < ws.length) (t0 : 0 ≤ t) : (sem Bf ds N 10 [tw ws, .int s, .int t] h).Ok fun r h1 => r = .int (how ws s t) ∧ Ext h h1 := by
  obtain ⟨n, rfl, k⟩ := pre hN (by decide)
  rw [sem_at (d := d_how_many) (L := 5) (b := b_how_many) rfl rfl rfl]
  have hs := g.sum
  have hw := g.wt s0 s1
  have m0 := Int.emod_nonneg t (show ws.sum ≠ 0 by omega)
  have m1 := Int.emod_lt_of_pos t (show 0 < ws.sum by omega)
  have wl := (round_whole g).len
  have c : (0 < ws.sum ∧ ws.sum < 1073741824) := ⟨by omega, by omega⟩
  simp (config := { implicitDefEqProofs := false }) only [Vm.evF, Vm.evSs, Vm.evS, Vm.evX, Vm.evE, Vm.evEs, Vm.evIt, Vm.evPt, Vm.Res.bind_assoc, Vm.Res.bind_ok, Vm.Res.Ok_ok, Vm.bindT, Vm.setAll, Vm.boolOf, Vm.isNon, Vm.b_add, Vm.b_sub, Vm.a_add, Vm.c_eq, Vm.c_ne, Vm.c_lt, Vm.c_le, Vm.c_gt, Vm.c_ge, Vm.Bf_len, Vm.Bf_sum, Vm.Bf_min2, Vm.wipeE, Vm.Tg.slots, Vm.lcTurn, Vm.forTurn, List.map_cons, List.map_nil, List.length_cons, List.length_nil, List.length_map, List.cons_append, List.nil_append, List.getElem?_cons_zero, List.getElem?_cons_succ, List.set_cons_zero, List.set_cons_succ, List.reduceReplicate, Nat.reduceSub, Nat.reduceAdd, Nat.zero_add, Int.toNat_natCast, Bool.not_true, Bool.not_false, decide_true, decide_false, if_true, if_false, b_how_many, s_need_number (N := n) (h := h) (i := t) (j := 0) (by omega) t0, s_need_seat (N := n) (h := h) (by omega) s0 s1, Bf_divmod, c, rd, and_self, ixW (h := h) s0 s1, mul_r (h := h) (i := t / ws.sum) (j := wt ws s) (by omega) (by omega)]
  refine Res.ok_bind ((s_round (g := g) (h := h) (N := n) (by omega)).mono fun r h1 q => ?_)
  obtain ⟨rfl, x1⟩ := q
  have six : HT.sIx (roundL ws).length (roundL ws).length (some (t % ws.sum)) = (t % ws.sum).toNat := by
    show (if t % ws.sum < 0 then _ else min (t % ws.sum).toNat (roundL ws).length) = _
    rw [if_neg (by omega)]
    omega
  have ne : ¬ (t % ws.sum).toNat = (roundL ws).length := by omega
  simp (config := { implicitDefEqProofs := false }) only [Vm.evF, Vm.evSs, Vm.evS, Vm.evX, Vm.evE, Vm.evEs, Vm.evIt, Vm.evPt, Vm.Res.bind_assoc, Vm.Res.bind_ok, Vm.Res.Ok_ok, Vm.bindT, Vm.setAll, Vm.boolOf, Vm.isNon, Vm.b_add, Vm.b_sub, Vm.a_add, Vm.c_eq, Vm.c_ne, Vm.c_lt, Vm.c_le, Vm.c_gt, Vm.c_ge, Vm.Bf_len, Vm.Bf_sum, Vm.Bf_min2, Vm.wipeE, Vm.Tg.slots, Vm.lcTurn, Vm.forTurn, List.map_cons, List.map_nil, List.length_cons, List.length_nil, List.length_map, List.cons_append, List.nil_append, List.getElem?_cons_zero, List.getElem?_cons_succ, List.set_cons_zero, List.set_cons_succ, List.reduceReplicate, Nat.reduceSub, Nat.reduceAdd, Nat.zero_add, Int.toNat_natCast, Bool.not_true, Bool.not_false, decide_true, decide_false, if_true, if_false, scntG, scntF, intsOf_map, ne_eq, six, ne, not_false_eq_true]
  exact ⟨rfl, x1⟩
theorem rngs_ints (n : Nat) : rngs 0 n = ((List.range n).map fun (i : Nat) => (i : Int)).map PV.int := by
  unfold rngs
  rw [List.map_map]
  exact List.map_congr_left fun i _ => by simp
theorem places_ints {s : Int} {R : List Int} {n : Nat} : ((List.range n).map fun (i : Nat) => (i : Int)).filter (fun t => decide (R[t.toNat]? = some s)) = (placesN s R n).map fun (i : Nat) => (i : Int) := by
  unfold placesN
  rw [List.filter_map]
  congr 1
theorem s_places {s : Int} (g : Good ws) (hN : 6 ≤ N) : (sem Bf ds N 13 [tw ws, .int s] h).Ok fun r h1 => ∃ a, r = .ref a ∧ h1[a]? = some (.lst (((places ws s).map fun (i : Nat) => (i : Int)).map PV.int)) ∧ Ext h h1 := by
  obtain ⟨n, rfl, k⟩ := pre hN (by decide)
  rw [sem_at (d := d__places) (L := 4) (b := b__places) rfl rfl rfl]
  have hs := g.sum
  have wl := (round_whole g).len
  simp (config := { implicitDefEqProofs := false }) only [Vm.evF, Vm.evSs, Vm.evS, Vm.evX, Vm.evE, Vm.evEs, Vm.evIt, Vm.evPt, Vm.Res.bind_assoc, Vm.Res.bind_ok, Vm.Res.Ok_ok, Vm.bindT, Vm.setAll, Vm.boolOf, Vm.isNon, Vm.b_add, Vm.b_sub, Vm.a_add, Vm.c_eq, Vm.c_ne, Vm.c_lt, Vm.c_le, Vm.c_gt, Vm.c_ge, Vm.Bf_len, Vm.Bf_sum, Vm.Bf_min2, Vm.wipeE, Vm.Tg.slots, Vm.lcTurn, Vm.forTurn, List.map_cons, List.map_nil, List.length_cons, List.length_nil, List.length_map, List.cons_append, List.nil_append, List.getElem?_cons_zero, List.getElem?_cons_succ, List.set_cons_zero, List.set_cons_succ, List.reduceReplicate, Nat.reduceSub, Nat.reduceAdd, Nat.zero_add, Int.toNat_natCast, Bool.not_true, Bool.not_false, decide_true, decide_false, if_true, if_false, b__places]
  refine Res.ok_bind ((s_round (g := g) (h := h) (N := n) (by omega)).mono fun r h1 q => ?_)
  obtain ⟨rfl, x1⟩ := q
  simp (config := { implicitDefEqProofs := false }) only [Vm.evF, Vm.evSs, Vm.evS, Vm.evX, Vm.evE, Vm.evEs, Vm.evIt, Vm.evPt, Vm.Res.bind_assoc, Vm.Res.bind_ok, Vm.Res.Ok_ok, Vm.bindT, Vm.setAll, Vm.boolOf, Vm.isNon, Vm.b_add, Vm.b_sub, Vm.a_add, Vm.c_eq, Vm.c_ne, Vm.c_lt, Vm.c_le, Vm.c_gt, Vm.c_ge, Vm.Bf_len, Vm.Bf_sum, Vm.Bf_min2, Vm.wipeE, Vm.Tg.slots, Vm.lcTurn, Vm.forTurn, List.map_cons, List.map_nil, List.length_cons, List.length_nil, List.length_map, List.cons_append, List.nil_append, List.getElem?_cons_zero, List.getElem?_cons_succ, List.set_cons_zero, List.set_cons_succ, List.reduceReplicate, Nat.reduceSub, Nat.reduceAdd, Nat.zero_add, Int.toNat_natCast, Bool.not_true, Bool.not_false, decide_true, decide_false, if_true, if_false]
  rw [rng_if (by omega) (by omega)]
  simp (config := { implicitDefEqProofs := false }) only [Vm.evF, Vm.evSs, Vm.evS, Vm.evX, Vm.evE, Vm.evEs, Vm.evIt, Vm.evPt, Vm.Res.bind_assoc, Vm.Res.bind_ok, Vm.Res.Ok_ok, Vm.bindT, Vm.setAll, Vm.boolOf, Vm.isNon, Vm.b_add, Vm.b_sub, Vm.a_add, Vm.c_eq, Vm.c_ne, Vm.c_lt, Vm.c_le, Vm.c_gt, Vm.c_ge, Vm.Bf_len, Vm.Bf_sum, Vm.Bf_min2, Vm.wipeE, Vm.Tg.slots, Vm.lcTurn, Vm.forTurn, List.map_cons, List.map_nil, List.length_cons, List.length_nil, List.length_map, List.cons_append, List.nil_append, List.getElem?_cons_zero, List.getElem?_cons_succ, List.set_cons_zero, List.set_cons_succ, List.reduceReplicate, Nat.reduceSub, Nat.reduceAdd, Nat.zero_add, Int.toNat_natCast, Bool.not_true, Bool.not_false, decide_true, decide_false, if_true, if_false]
  refine Res.ok_bind ((lc_pure (xs := rngs 0 (roundL ws).length) (h0 := h1) (fun x => match x with
    | .int t => if decide ((roundL ws)[t.toNat]? = some s) then some (.int t) else none
    | _ => none) get_items rfl (by rw [rngs_len]; omega) (fun k x h2 e x2 => ?_)).mono fun acc h2 q => ?_)
  · obtain ⟨hk, rfl⟩ := rngs0_at e
    have e1 : ((roundL ws).map PV.int)[((k : Nat) : Int).toNat]? = some (.int (roundL ws)[k]) := by rw [Int.toNat_natCast, List.getElem?_map, List.getElem?_eq_getElem hk]; rfl
    refine Res.calm_of ?_
    simp (config := { implicitDefEqProofs := false }) only [Vm.evF, Vm.evSs, Vm.evS, Vm.evX, Vm.evE, Vm.evEs, Vm.evIt, Vm.evPt, Vm.Res.bind_assoc, Vm.Res.bind_ok, Vm.Res.Ok_ok, Vm.bindT, Vm.setAll, Vm.boolOf, Vm.isNon, Vm.b_add, Vm.b_sub, Vm.a_add, Vm.c_eq, Vm.c_ne, Vm.c_lt, Vm.c_le, Vm.c_gt, Vm.c_ge, Vm.Bf_len, Vm.Bf_sum, Vm.Bf_min2, Vm.wipeE, Vm.Tg.slots, Vm.lcTurn, Vm.forTurn, List.map_cons, List.map_nil, List.length_cons, List.length_nil, List.length_map, List.cons_append, List.nil_append, List.getElem?_cons_zero, List.getElem?_cons_succ, List.set_cons_zero, List.set_cons_succ, List.reduceReplicate, Nat.reduceSub, Nat.reduceAdd, Nat.zero_add, Int.toNat_natCast, Bool.not_true, Bool.not_false, decide_true, decide_false, if_true, if_false, ixF_rd (h := h2) (x := tw (roundL ws)) (s := ((k : Nat) : Int)) (v := .int (roundL ws)[k]) rfl (by omega) e1, List.getElem?_eq_getElem hk, Option.some.injEq]
    by_cases hc : (roundL ws)[k] = s
    · simp [hc, x2]
    · simp [hc, x2]
  · obtain ⟨rfl, x2⟩ := q
    have eb : (rngs 0 (roundL ws).length).filterMap (fun x => match x with
        | .int t => if decide ((roundL ws)[t.toNat]? = some s) then some (.int t) else none
        | _ => none) = ((places ws s).map fun (i : Nat) => (i : Int)).map PV.int := by
      rw [rngs_ints, fm_filter (p := fun t => decide ((roundL ws)[t.toNat]? = some s)) (e := PV.int) fun s _ => rfl, places_ints]
      rfl
    rw [eb]
    simp (config := { implicitDefEqProofs := false }) only [Vm.evF, Vm.evSs, Vm.evS, Vm.evX, Vm.evE, Vm.evEs, Vm.evIt, Vm.evPt, Vm.Res.bind_assoc, Vm.Res.bind_ok, Vm.Res.Ok_ok, Vm.bindT, Vm.setAll, Vm.boolOf, Vm.isNon, Vm.b_add, Vm.b_sub, Vm.a_add, Vm.c_eq, Vm.c_ne, Vm.c_lt, Vm.c_le, Vm.c_gt, Vm.c_ge, Vm.Bf_len, Vm.Bf_sum, Vm.Bf_min2, Vm.wipeE, Vm.Tg.slots, Vm.lcTurn, Vm.forTurn, List.map_cons, List.map_nil, List.length_cons, List.length_nil, List.length_map, List.cons_append, List.nil_append, List.getElem?_cons_zero, List.getElem?_cons_succ, List.set_cons_zero, List.set_cons_succ, List.reduceReplicate, Nat.reduceSub, Nat.reduceAdd, Nat.zero_add, Int.toNat_natCast, Bool.not_true, Bool.not_false, decide_true, decide_false, if_true, if_false]
    exact ⟨_, rfl, at_end _ _, x1.trans (x2.trans (Ext.app _ _))⟩
theorem s_nth {s j : Int} (g : Good ws) (hN : 7 ≤ N) (s0 : 0 ≤ s) (s1 : s < ws.length) (hj : 1 ≤ j) : (sem Bf ds N 11 [tw ws, .int s, .int j] h).Ok fun r h1 => r = .int (nth ws s j) ∧ Ext h h1 := by
  obtain ⟨n, rfl, k⟩ := pre hN (by decide)
  rw [sem_at (d := d_nth_turn) (L := 5) (b := b_nth_turn) rfl rfl rfl]
  have hs := g.sum
  have hw := g.wt s0 s1
  have m0 := Int.emod_nonneg (j - 1) (show wt ws s ≠ 0 by omega)
  have m1 := Int.emod_lt_of_pos (j - 1) (show 0 < wt ws s by omega)
  have pl := places_len g s0 s1
  have c : (0 < wt ws s ∧ wt ws s < 1073741824) := ⟨by omega, by omega⟩
  simp (config := { implicitDefEqProofs := false }) only [Vm.evF, Vm.evSs, Vm.evS, Vm.evX, Vm.evE, Vm.evEs, Vm.evIt, Vm.evPt, Vm.Res.bind_assoc, Vm.Res.bind_ok, Vm.Res.Ok_ok, Vm.bindT, Vm.setAll, Vm.boolOf, Vm.isNon, Vm.b_add, Vm.b_sub, Vm.a_add, Vm.c_eq, Vm.c_ne, Vm.c_lt, Vm.c_le, Vm.c_gt, Vm.c_ge, Vm.Bf_len, Vm.Bf_sum, Vm.Bf_min2, Vm.wipeE, Vm.Tg.slots, Vm.lcTurn, Vm.forTurn, List.map_cons, List.map_nil, List.length_cons, List.length_nil, List.length_map, List.cons_append, List.nil_append, List.getElem?_cons_zero, List.getElem?_cons_succ, List.set_cons_zero, List.set_cons_succ, List.reduceReplicate, Nat.reduceSub, Nat.reduceAdd, Nat.zero_add, Int.toNat_natCast, Bool.not_true, Bool.not_false, decide_true, decide_false, if_true, if_false, b_nth_turn, s_need_number (N := n) (h := h) (i := j) (j := 1) (by omega) hj, s_need_seat (N := n) (h := h) (by omega) s0 s1, ixW (h := h) s0 s1, Bf_divmod, c, rd, and_self, mul_r (h := h) (i := (j - 1) / wt ws s) (j := ws.sum) (by omega) (by omega)]
  refine Res.ok_bind ((s_places (g := g) (s := s) (h := h) (N := n) (by omega)).mono fun r h1 q => ?_)
  obtain ⟨a, rfl, ea, x1⟩ := q
  simp (config := { implicitDefEqProofs := false }) only [Vm.evF, Vm.evSs, Vm.evS, Vm.evX, Vm.evE, Vm.evEs, Vm.evIt, Vm.evPt, Vm.Res.bind_assoc, Vm.Res.bind_ok, Vm.Res.Ok_ok, Vm.bindT, Vm.setAll, Vm.boolOf, Vm.isNon, Vm.b_add, Vm.b_sub, Vm.a_add, Vm.c_eq, Vm.c_ne, Vm.c_lt, Vm.c_le, Vm.c_gt, Vm.c_ge, Vm.Bf_len, Vm.Bf_sum, Vm.Bf_min2, Vm.wipeE, Vm.Tg.slots, Vm.lcTurn, Vm.forTurn, List.map_cons, List.map_nil, List.length_cons, List.length_nil, List.length_map, List.cons_append, List.nil_append, List.getElem?_cons_zero, List.getElem?_cons_succ, List.set_cons_zero, List.set_cons_succ, List.reduceReplicate, Nat.reduceSub, Nat.reduceAdd, Nat.zero_add, Int.toNat_natCast, Bool.not_true, Bool.not_false, decide_true, decide_false, if_true, if_false, ixF_ref (h := h1) (a := a) (s := (j - 1) % wt ws s) ea m0 (by rw [List.length_map]; omega)]
  refine ⟨?_, x1⟩
  have : ((places ws s).map fun (i : Nat) => (i : Int)).getD ((j - 1) % wt ws s).toNat 0 = ((places ws s).getD ((j - 1) % wt ws s).toNat 0 : Nat) := by
    rw [List.getD_eq_getElem?_getD, List.getElem?_map, List.getD_eq_getElem?_getD]
    cases (places ws s)[((j - 1) % wt ws s).toNat]? <;> rfl
  rw [this]
  rfl
theorem how_nonneg {s t : Int} (g : Good ws) (s0 : 0 ≤ s) (s1 : s < ws.length) (t0 : 0 ≤ t) : 0 ≤ how ws s t := by
  have := g.sum
  have := g.wt s0 s1
  have := Int.mul_nonneg (Int.ediv_nonneg t0 (show 0 ≤ ws.sum by omega)) (show 0 ≤ wt ws s by omega)
  unfold how
  omega
theorem s_next {s t : Int} (g : Good ws) (hN : 8 ≤ N) (s0 : 0 ≤ s) (s1 : s < ws.length) (t0 : 0 ≤ t) : (sem Bf ds N 12 [tw ws, .int s, .int t] h).Ok fun r h1 => r = .int (nth ws s (how ws s t + 1)) ∧ Ext h h1 := by
  obtain ⟨n, rfl, k⟩ := pre hN (by decide)
  rw [sem_at (d := d_next_turn) (L := 3) (b := b_next_turn) rfl rfl rfl]
  simp (config := { implicitDefEqProofs := false }) only [Vm.evF, Vm.evSs, Vm.evS, Vm.evX, Vm.evE, Vm.evEs, Vm.evIt, Vm.evPt, Vm.Res.bind_assoc, Vm.Res.bind_ok, Vm.Res.Ok_ok, Vm.bindT, Vm.setAll, Vm.boolOf, Vm.isNon, Vm.b_add, Vm.b_sub, Vm.a_add, Vm.c_eq, Vm.c_ne, Vm.c_lt, Vm.c_le, Vm.c_gt, Vm.c_ge, Vm.Bf_len, Vm.Bf_sum, Vm.Bf_min2, Vm.wipeE, Vm.Tg.slots, Vm.lcTurn, Vm.forTurn, List.map_cons, List.map_nil, List.length_cons, List.length_nil, List.length_map, List.cons_append, List.nil_append, List.getElem?_cons_zero, List.getElem?_cons_succ, List.set_cons_zero, List.set_cons_succ, List.reduceReplicate, Nat.reduceSub, Nat.reduceAdd, Nat.zero_add, Int.toNat_natCast, Bool.not_true, Bool.not_false, decide_true, decide_false, if_true, if_false, b_next_turn]
  refine Res.ok_bind ((s_how (h := h) (N := n) g (by omega) s0 s1 t0).mono fun r h1 q => ?_)
  obtain ⟨rfl, x1⟩ := q
  have := how_nonneg g s0 s1 t0
  simp (config := { implicitDefEqProofs := false }) only [Vm.evF, Vm.evSs, Vm.evS, Vm.evX, Vm.evE, Vm.evEs, Vm.evIt, Vm.evPt, Vm.Res.bind_assoc, Vm.Res.bind_ok, Vm.Res.Ok_ok, Vm.bindT, Vm.setAll, Vm.boolOf, Vm.isNon, Vm.b_add, Vm.b_sub, Vm.a_add, Vm.c_eq, Vm.c_ne, Vm.c_lt, Vm.c_le, Vm.c_gt, Vm.c_ge, Vm.Bf_len, Vm.Bf_sum, Vm.Bf_min2, Vm.wipeE, Vm.Tg.slots, Vm.lcTurn, Vm.forTurn, List.map_cons, List.map_nil, List.length_cons, List.length_nil, List.length_map, List.cons_append, List.nil_append, List.getElem?_cons_zero, List.getElem?_cons_succ, List.set_cons_zero, List.set_cons_succ, List.reduceReplicate, Nat.reduceSub, Nat.reduceAdd, Nat.zero_add, Int.toNat_natCast, Bool.not_true, Bool.not_false, decide_true, decide_false, if_true, if_false]
  refine Res.ok_bind ((s_nth (h := h1) (N := n) (j := how ws s t + 1) g (by omega) s0 s1 (by omega)).mono fun r h2 q => ?_)
  obtain ⟨rfl, x2⟩ := q
  simp (config := { implicitDefEqProofs := false }) only [Vm.evF, Vm.evSs, Vm.evS, Vm.evX, Vm.evE, Vm.evEs, Vm.evIt, Vm.evPt, Vm.Res.bind_assoc, Vm.Res.bind_ok, Vm.Res.Ok_ok, Vm.bindT, Vm.setAll, Vm.boolOf, Vm.isNon, Vm.b_add, Vm.b_sub, Vm.a_add, Vm.c_eq, Vm.c_ne, Vm.c_lt, Vm.c_le, Vm.c_gt, Vm.c_ge, Vm.Bf_len, Vm.Bf_sum, Vm.Bf_min2, Vm.wipeE, Vm.Tg.slots, Vm.lcTurn, Vm.forTurn, List.map_cons, List.map_nil, List.length_cons, List.length_nil, List.length_map, List.cons_append, List.nil_append, List.getElem?_cons_zero, List.getElem?_cons_succ, List.set_cons_zero, List.set_cons_succ, List.reduceReplicate, Nat.reduceSub, Nat.reduceAdd, Nat.zero_add, Int.toNat_natCast, Bool.not_true, Bool.not_false, decide_true, decide_false, if_true, if_false]
  exact ⟨trivial, x1.trans x2⟩
/-- there and back -/
theorem s_there {s j : Int} (g : Good ws) (hN : 9 ≤ N) (s0 : 0 ≤ s) (s1 : s < ws.length) (hj : 1 ≤ j) : (sem Bf ds N 18 [tw ws, .int s, .int j] h).Ok fun r h1 => r = .bl true ∧ Ext h h1 := by
  obtain ⟨n, rfl, k⟩ := pre hN (by decide)
  rw [sem_at (d := d__law_there) (L := 5) (b := b__law_there) rfl rfl rfl]
  have t0 := nth_nonneg g s0 s1 hj
  have f1 := how_nth g s0 s1 hj
  have f2 := how_nth1 g s0 s1 hj
  have f3 := nth_seat g s0 s1 hj
  simp (config := { implicitDefEqProofs := false }) only [Vm.evF, Vm.evSs, Vm.evS, Vm.evX, Vm.evE, Vm.evEs, Vm.evIt, Vm.evPt, Vm.Res.bind_assoc, Vm.Res.bind_ok, Vm.Res.Ok_ok, Vm.bindT, Vm.setAll, Vm.boolOf, Vm.isNon, Vm.b_add, Vm.b_sub, Vm.a_add, Vm.c_eq, Vm.c_ne, Vm.c_lt, Vm.c_le, Vm.c_gt, Vm.c_ge, Vm.Bf_len, Vm.Bf_sum, Vm.Bf_min2, Vm.wipeE, Vm.Tg.slots, Vm.lcTurn, Vm.forTurn, List.map_cons, List.map_nil, List.length_cons, List.length_nil, List.length_map, List.cons_append, List.nil_append, List.getElem?_cons_zero, List.getElem?_cons_succ, List.set_cons_zero, List.set_cons_succ, List.reduceReplicate, Nat.reduceSub, Nat.reduceAdd, Nat.zero_add, Int.toNat_natCast, Bool.not_true, Bool.not_false, decide_true, decide_false, if_true, if_false, b__law_there]
  refine Res.ok_bind ((s_nth (h := h) (N := n) g (by omega) s0 s1 hj).mono fun r h1 q => ?_)
  obtain ⟨rfl, x1⟩ := q
  simp (config := { implicitDefEqProofs := false }) only [Vm.evF, Vm.evSs, Vm.evS, Vm.evX, Vm.evE, Vm.evEs, Vm.evIt, Vm.evPt, Vm.Res.bind_assoc, Vm.Res.bind_ok, Vm.Res.Ok_ok, Vm.bindT, Vm.setAll, Vm.boolOf, Vm.isNon, Vm.b_add, Vm.b_sub, Vm.a_add, Vm.c_eq, Vm.c_ne, Vm.c_lt, Vm.c_le, Vm.c_gt, Vm.c_ge, Vm.Bf_len, Vm.Bf_sum, Vm.Bf_min2, Vm.wipeE, Vm.Tg.slots, Vm.lcTurn, Vm.forTurn, List.map_cons, List.map_nil, List.length_cons, List.length_nil, List.length_map, List.cons_append, List.nil_append, List.getElem?_cons_zero, List.getElem?_cons_succ, List.set_cons_zero, List.set_cons_succ, List.reduceReplicate, Nat.reduceSub, Nat.reduceAdd, Nat.zero_add, Int.toNat_natCast, Bool.not_true, Bool.not_false, decide_true, decide_false, if_true, if_false]
  refine Res.ok_bind ((s_seat (h := h1) (N := n) g (by omega) t0 f3).mono fun r h2 q => ?_)
  obtain ⟨rfl, x2⟩ := q
  simp (config := { implicitDefEqProofs := false }) only [Vm.evF, Vm.evSs, Vm.evS, Vm.evX, Vm.evE, Vm.evEs, Vm.evIt, Vm.evPt, Vm.Res.bind_assoc, Vm.Res.bind_ok, Vm.Res.Ok_ok, Vm.bindT, Vm.setAll, Vm.boolOf, Vm.isNon, Vm.b_add, Vm.b_sub, Vm.a_add, Vm.c_eq, Vm.c_ne, Vm.c_lt, Vm.c_le, Vm.c_gt, Vm.c_ge, Vm.Bf_len, Vm.Bf_sum, Vm.Bf_min2, Vm.wipeE, Vm.Tg.slots, Vm.lcTurn, Vm.forTurn, List.map_cons, List.map_nil, List.length_cons, List.length_nil, List.length_map, List.cons_append, List.nil_append, List.getElem?_cons_zero, List.getElem?_cons_succ, List.set_cons_zero, List.set_cons_succ, List.reduceReplicate, Nat.reduceSub, Nat.reduceAdd, Nat.zero_add, Int.toNat_natCast, Bool.not_true, Bool.not_false, decide_true, decide_false, if_true, if_false]
  refine Res.ok_bind ((s_how (h := h2) (N := n) g (by omega) s0 s1 t0).mono fun r h3 q => ?_)
  obtain ⟨rfl, x3⟩ := q
  simp (config := { implicitDefEqProofs := false }) only [Vm.evF, Vm.evSs, Vm.evS, Vm.evX, Vm.evE, Vm.evEs, Vm.evIt, Vm.evPt, Vm.Res.bind_assoc, Vm.Res.bind_ok, Vm.Res.Ok_ok, Vm.bindT, Vm.setAll, Vm.boolOf, Vm.isNon, Vm.b_add, Vm.b_sub, Vm.a_add, Vm.c_eq, Vm.c_ne, Vm.c_lt, Vm.c_le, Vm.c_gt, Vm.c_ge, Vm.Bf_len, Vm.Bf_sum, Vm.Bf_min2, Vm.wipeE, Vm.Tg.slots, Vm.lcTurn, Vm.forTurn, List.map_cons, List.map_nil, List.length_cons, List.length_nil, List.length_map, List.cons_append, List.nil_append, List.getElem?_cons_zero, List.getElem?_cons_succ, List.set_cons_zero, List.set_cons_succ, List.reduceReplicate, Nat.reduceSub, Nat.reduceAdd, Nat.zero_add, Int.toNat_natCast, Bool.not_true, Bool.not_false, decide_true, decide_false, if_true, if_false, f1]
  refine Res.ok_bind ((s_how (h := h3) (N := n) (t := nth ws s j + 1) g (by omega) s0 s1 (by omega)).mono fun r h4 q => ?_)
  obtain ⟨rfl, x4⟩ := q
  simp (config := { implicitDefEqProofs := false }) only [Vm.evF, Vm.evSs, Vm.evS, Vm.evX, Vm.evE, Vm.evEs, Vm.evIt, Vm.evPt, Vm.Res.bind_assoc, Vm.Res.bind_ok, Vm.Res.Ok_ok, Vm.bindT, Vm.setAll, Vm.boolOf, Vm.isNon, Vm.b_add, Vm.b_sub, Vm.a_add, Vm.c_eq, Vm.c_ne, Vm.c_lt, Vm.c_le, Vm.c_gt, Vm.c_ge, Vm.Bf_len, Vm.Bf_sum, Vm.Bf_min2, Vm.wipeE, Vm.Tg.slots, Vm.lcTurn, Vm.forTurn, List.map_cons, List.map_nil, List.length_cons, List.length_nil, List.length_map, List.cons_append, List.nil_append, List.getElem?_cons_zero, List.getElem?_cons_succ, List.set_cons_zero, List.set_cons_succ, List.reduceReplicate, Nat.reduceSub, Nat.reduceAdd, Nat.zero_add, Int.toNat_natCast, Bool.not_true, Bool.not_false, decide_true, decide_false, if_true, if_false, f2]
  have bef : ∀ (h5 : IH) (Q : PV → IH → Prop) , (∀ b h6, 0 ≤ b + 1 → how ws s (b + 1) = j - 1 → Ext h5 h6 → Q (.int b) h6) → Res.Ok (match PV.bl (decide (1 < j)) with
      | .bl true => (sem Bf ds n 11 [tw ws, .int s, .int (j - 1)] h5)
      | .bl false => .ok (.int (-1)) h5
      | _ => .stuck) Q := fun h5 Q hQ => by
    by_cases hc : 1 < j
    · simp only [hc, decide_true]
      refine (s_nth (h := h5) (N := n) (j := j - 1) g (by omega) s0 s1 (by omega)).mono fun r h6 q => ?_
      obtain ⟨rfl, x6⟩ := q
      have := nth_nonneg g s0 s1 (j := j - 1) (by omega)
      exact hQ _ _ (by omega) (how_nth1 g s0 s1 (by omega)) x6
    · simp only [hc, decide_false]
      refine hQ _ _ (by omega) ?_ (Ext.refl _)
      have : j - 1 = 0 := by omega
      rw [this]
      exact how_zero g s0 s1
  have g1 : nth ws s (how ws s (nth ws s j) + 1) = nth ws s j := by rw [f1, Int.sub_add_cancel]
  have g2 : nth ws s (how ws s (nth ws s j + 1) + 1) = nth ws s (j + 1) := by rw [f2]
  refine Res.ok_bind (bef h4 _ fun b h5 b0 b1 x5 => ?_)
  have g3 : nth ws s (how ws s (b + 1) + 1) = nth ws s j := by rw [b1, Int.sub_add_cancel]
  refine Res.ok_bind ((s_next (h := h5) (N := n) g (by omega) s0 s1 t0).mono fun r h6 q => ?_)
  obtain ⟨rfl, x6⟩ := q
  simp (config := { implicitDefEqProofs := false }) only [Vm.evF, Vm.evSs, Vm.evS, Vm.evX, Vm.evE, Vm.evEs, Vm.evIt, Vm.evPt, Vm.Res.bind_assoc, Vm.Res.bind_ok, Vm.Res.Ok_ok, Vm.bindT, Vm.setAll, Vm.boolOf, Vm.isNon, Vm.b_add, Vm.b_sub, Vm.a_add, Vm.c_eq, Vm.c_ne, Vm.c_lt, Vm.c_le, Vm.c_gt, Vm.c_ge, Vm.Bf_len, Vm.Bf_sum, Vm.Bf_min2, Vm.wipeE, Vm.Tg.slots, Vm.lcTurn, Vm.forTurn, List.map_cons, List.map_nil, List.length_cons, List.length_nil, List.length_map, List.cons_append, List.nil_append, List.getElem?_cons_zero, List.getElem?_cons_succ, List.set_cons_zero, List.set_cons_succ, List.reduceReplicate, Nat.reduceSub, Nat.reduceAdd, Nat.zero_add, Int.toNat_natCast, Bool.not_true, Bool.not_false, decide_true, decide_false, if_true, if_false, g1]
  refine Res.ok_bind ((s_next (h := h6) (N := n) (t := b + 1) g (by omega) s0 s1 b0).mono fun r h7 q => ?_)
  obtain ⟨rfl, x7⟩ := q
  simp (config := { implicitDefEqProofs := false }) only [Vm.evF, Vm.evSs, Vm.evS, Vm.evX, Vm.evE, Vm.evEs, Vm.evIt, Vm.evPt, Vm.Res.bind_assoc, Vm.Res.bind_ok, Vm.Res.Ok_ok, Vm.bindT, Vm.setAll, Vm.boolOf, Vm.isNon, Vm.b_add, Vm.b_sub, Vm.a_add, Vm.c_eq, Vm.c_ne, Vm.c_lt, Vm.c_le, Vm.c_gt, Vm.c_ge, Vm.Bf_len, Vm.Bf_sum, Vm.Bf_min2, Vm.wipeE, Vm.Tg.slots, Vm.lcTurn, Vm.forTurn, List.map_cons, List.map_nil, List.length_cons, List.length_nil, List.length_map, List.cons_append, List.nil_append, List.getElem?_cons_zero, List.getElem?_cons_succ, List.set_cons_zero, List.set_cons_succ, List.reduceReplicate, Nat.reduceSub, Nat.reduceAdd, Nat.zero_add, Int.toNat_natCast, Bool.not_true, Bool.not_false, decide_true, decide_false, if_true, if_false, g3]
  refine Res.ok_bind ((s_next (h := h7) (N := n) (t := nth ws s j + 1) g (by omega) s0 s1 (by omega)).mono fun r h8 q => ?_)
  obtain ⟨rfl, x8⟩ := q
  simp (config := { implicitDefEqProofs := false }) only [Vm.evF, Vm.evSs, Vm.evS, Vm.evX, Vm.evE, Vm.evEs, Vm.evIt, Vm.evPt, Vm.Res.bind_assoc, Vm.Res.bind_ok, Vm.Res.Ok_ok, Vm.bindT, Vm.setAll, Vm.boolOf, Vm.isNon, Vm.b_add, Vm.b_sub, Vm.a_add, Vm.c_eq, Vm.c_ne, Vm.c_lt, Vm.c_le, Vm.c_gt, Vm.c_ge, Vm.Bf_len, Vm.Bf_sum, Vm.Bf_min2, Vm.wipeE, Vm.Tg.slots, Vm.lcTurn, Vm.forTurn, List.map_cons, List.map_nil, List.length_cons, List.length_nil, List.length_map, List.cons_append, List.nil_append, List.getElem?_cons_zero, List.getElem?_cons_succ, List.set_cons_zero, List.set_cons_succ, List.reduceReplicate, Nat.reduceSub, Nat.reduceAdd, Nat.zero_add, Int.toNat_natCast, Bool.not_true, Bool.not_false, decide_true, decide_false, if_true, if_false, g2]
  refine Res.ok_bind ((s_nth (h := h8) (N := n) (j := j + 1) g (by omega) s0 s1 (by omega)).mono fun r h9 q => ?_)
  obtain ⟨rfl, x9⟩ := q
  simp (config := { implicitDefEqProofs := false }) only [Vm.evF, Vm.evSs, Vm.evS, Vm.evX, Vm.evE, Vm.evEs, Vm.evIt, Vm.evPt, Vm.Res.bind_assoc, Vm.Res.bind_ok, Vm.Res.Ok_ok, Vm.bindT, Vm.setAll, Vm.boolOf, Vm.isNon, Vm.b_add, Vm.b_sub, Vm.a_add, Vm.c_eq, Vm.c_ne, Vm.c_lt, Vm.c_le, Vm.c_gt, Vm.c_ge, Vm.Bf_len, Vm.Bf_sum, Vm.Bf_min2, Vm.wipeE, Vm.Tg.slots, Vm.lcTurn, Vm.forTurn, List.map_cons, List.map_nil, List.length_cons, List.length_nil, List.length_map, List.cons_append, List.nil_append, List.getElem?_cons_zero, List.getElem?_cons_succ, List.set_cons_zero, List.set_cons_succ, List.reduceReplicate, Nat.reduceSub, Nat.reduceAdd, Nat.zero_add, Int.toNat_natCast, Bool.not_true, Bool.not_false, decide_true, decide_false, if_true, if_false]
  exact ⟨trivial, x1.trans (x2.trans (x3.trans (x4.trans (x5.trans (x6.trans (x7.trans (x8.trans x9)))))))⟩
end
end K26

set_option Elab.async false
set_option linter.all false
set_option maxRecDepth 100000
set_option maxHeartbeats 400000
namespace K26
open PySem PySem.Spec PyProof.Rows L2 Vm Rd
/-- the feed at f, with b draws left -/
structure Feed (h : IH) (f : Nat) (b : Nat) : Prop where
  ex : ∃ (c : Nat) (cs : List Int) (x y z : Int), c ≠ f ∧ h[c]? = some (.lst (cs.map PV.int)) ∧ h[f]? = some (.lst [.ref c, .int x, .int y, .int z]) ∧ 0 ≤ z ∧ z + b ≤ 1000000
theorem Feed.le {h : IH} {f b b' : Nat} (F : Feed h f b) (l : b' ≤ b) : Feed h f b' := by
  obtain ⟨c, cs, x, y, z, n, e1, e2, z0, z1⟩ := F.ex
  exact ⟨c, cs, x, y, z, n, e1, e2, z0, by omega⟩
theorem Feed.ext {h h' : IH} {f b : Nat} (F : Feed h f b) (x : Ext h h') : Feed h' f b := by
  obtain ⟨c, cs, x1, y, z, n, e1, e2, z0, z1⟩ := F.ex
  exact ⟨c, cs, x1, y, z, n, x.get e1, x.get e2, z0, z1⟩
section
variable {h : IH} {N : Nat}
theorem put1 {f : Nat} {r u v w y : PV} (e : h[f]? = some (.lst [r, u, v, w])) : putF (.ref f) (.int 1) y h = .ok () (h.set f (.lst [r, y, v, w])) := putF_ok' e (by decide) (by simp)
theorem put2 {f : Nat} {r u v w y : PV} (e : h[f]? = some (.lst [r, u, v, w])) : putF (.ref f) (.int 2) y h = .ok () (h.set f (.lst [r, u, y, w])) := putF_ok' e (by decide) (by simp)
theorem put3 {f : Nat} {r u v w y : PV} (e : h[f]? = some (.lst [r, u, v, w])) : putF (.ref f) (.int 3) y h = .ok () (h.set f (.lst [r, u, v, y])) := putF_ok' e (by decide) (by simp)
theorem s_draw {f b : Nat} {m : Int} (F : Feed h f (b + 1)) (hN : 1 ≤ N) (m0 : 0 < m) (m1 : m ≤ 1000000) : (sem Bf ds N 15 [.ref f, .int m] h).Ok fun r h1 => ∃ d : Int, r = .int d ∧ 0 ≤ d ∧ d < m ∧ Feed h1 f b ∧ But f h h1 := by
  obtain ⟨n, rfl, k⟩ := pre hN (by decide)
  obtain ⟨c, cs, x, y, z, cf, e1, e2, z0, z1⟩ := F.ex
  rw [sem_at (d := d__law_draw) (L := 8) (b := b__law_draw) rfl rfl rfl]
  have fin : ∀ (h' : IH) (x' y' z' : Int) , 0 ≤ z' → z' + b ≤ 1000000 → h'[f]? = some (.lst [.ref c, .int x', .int y', .int z']) → But f h h' → ∀ d : Int, ∃ d' : Int, PV.int (d % m) = .int d' ∧ 0 ≤ d' ∧ d' < m ∧ Feed h' f b ∧ But f h h' := fun h' x' y' z' a1 a2 a3 a4 d =>
    ⟨_, rfl, Int.emod_nonneg _ (by omega), Int.emod_lt_of_pos _ m0, ⟨c, cs, x', y', z', cf, a4.get cf e1, a3, a1, a2⟩, a4⟩
  have p1 := put3 (y := .int (z + 1)) e2
  have q1 := set_same (o := .lst [PV.ref c, .int x, .int y, .int (z + 1)]) e2
  have t1 : But f h (h.set f (.lst [PV.ref c, .int x, .int y, .int (z + 1)])) := But.set
  simp (config := { implicitDefEqProofs := false }) only [Vm.evF, Vm.evSs, Vm.evS, Vm.evX, Vm.evE, Vm.evEs, Vm.evIt, Vm.evPt, Vm.Res.bind_assoc, Vm.Res.bind_ok, Vm.Res.Ok_ok, Vm.bindT, Vm.setAll, Vm.boolOf, Vm.isNon, Vm.b_add, Vm.b_sub, Vm.a_add, Vm.c_eq, Vm.c_ne, Vm.c_lt, Vm.c_le, Vm.c_gt, Vm.c_ge, Vm.Bf_len, Vm.Bf_sum, Vm.Bf_min2, Vm.wipeE, Vm.Tg.slots, Vm.lcTurn, Vm.forTurn, List.map_cons, List.map_nil, List.length_cons, List.length_nil, List.length_map, List.cons_append, List.nil_append, List.getElem?_cons_zero, List.getElem?_cons_succ, List.set_cons_zero, List.set_cons_succ, List.reduceReplicate, Nat.reduceSub, Nat.reduceAdd, Nat.zero_add, Int.toNat_natCast, Bool.not_true, Bool.not_false, decide_true, decide_false, if_true, if_false, b__law_draw, rd_ref e2, p1]
  generalize h.set f (.lst [PV.ref c, .int x, .int y, .int (z + 1)]) = h1 at q1 t1
  by_cases hy : 0 < y
  · have p2 := put2 (y := .int (y / m)) q1
    have q2 := set_same (o := .lst [PV.ref c, .int x, .int (y / m), .int (z + 1)]) q1
    simp (config := { implicitDefEqProofs := false }) only [Vm.evF, Vm.evSs, Vm.evS, Vm.evX, Vm.evE, Vm.evEs, Vm.evIt, Vm.evPt, Vm.Res.bind_assoc, Vm.Res.bind_ok, Vm.Res.Ok_ok, Vm.bindT, Vm.setAll, Vm.boolOf, Vm.isNon, Vm.b_add, Vm.b_sub, Vm.a_add, Vm.c_eq, Vm.c_ne, Vm.c_lt, Vm.c_le, Vm.c_gt, Vm.c_ge, Vm.Bf_len, Vm.Bf_sum, Vm.Bf_min2, Vm.wipeE, Vm.Tg.slots, Vm.lcTurn, Vm.forTurn, List.map_cons, List.map_nil, List.length_cons, List.length_nil, List.length_map, List.cons_append, List.nil_append, List.getElem?_cons_zero, List.getElem?_cons_succ, List.set_cons_zero, List.set_cons_succ, List.reduceReplicate, Nat.reduceSub, Nat.reduceAdd, Nat.zero_add, Int.toNat_natCast, Bool.not_true, Bool.not_false, decide_true, decide_false, if_true, if_false, hy, fdiv_ok (h := h1) (i := y) (j := m) m0 (by omega), p2, mod_ok (h := h1.set f (.lst [PV.ref c, .int x, .int (y / m), .int (z + 1)])) (i := y) (j := m) m0]
    exact fin _ _ _ _ (by omega) (by omega) q2 (t1.trans But.set) y
  · have p2 := put1 (y := .int (x + 1)) q1
    have q2 := set_same (o := .lst [PV.ref c, .int (x + 1), .int y, .int (z + 1)]) q1
    have t2 : But f h (h1.set f (.lst [PV.ref c, .int (x + 1), .int y, .int (z + 1)])) := t1.trans But.set
    simp (config := { implicitDefEqProofs := false }) only [Vm.evF, Vm.evSs, Vm.evS, Vm.evX, Vm.evE, Vm.evEs, Vm.evIt, Vm.evPt, Vm.Res.bind_assoc, Vm.Res.bind_ok, Vm.Res.Ok_ok, Vm.bindT, Vm.setAll, Vm.boolOf, Vm.isNon, Vm.b_add, Vm.b_sub, Vm.a_add, Vm.c_eq, Vm.c_ne, Vm.c_lt, Vm.c_le, Vm.c_gt, Vm.c_ge, Vm.Bf_len, Vm.Bf_sum, Vm.Bf_min2, Vm.wipeE, Vm.Tg.slots, Vm.lcTurn, Vm.forTurn, List.map_cons, List.map_nil, List.length_cons, List.length_nil, List.length_map, List.cons_append, List.nil_append, List.getElem?_cons_zero, List.getElem?_cons_succ, List.set_cons_zero, List.set_cons_succ, List.reduceReplicate, Nat.reduceSub, Nat.reduceAdd, Nat.zero_add, Int.toNat_natCast, Bool.not_true, Bool.not_false, decide_true, decide_false, if_true, if_false, hy, p2]
    generalize h1.set f (.lst [PV.ref c, .int (x + 1), .int y, .int (z + 1)]) = h2 at q2 t2
    have ec := t2.get cf e1
    have lc : ∀ h', h'[c]? = some (.lst (cs.map PV.int)) → Bf 0 [.ref c] h' = .ok (.int cs.length) h' := fun h' e => by
      have := Bf_len_ref e
      rw [List.length_map] at this
      exact this
    simp (config := { implicitDefEqProofs := false }) only [Vm.evF, Vm.evSs, Vm.evS, Vm.evX, Vm.evE, Vm.evEs, Vm.evIt, Vm.evPt, Vm.Res.bind_assoc, Vm.Res.bind_ok, Vm.Res.Ok_ok, Vm.bindT, Vm.setAll, Vm.boolOf, Vm.isNon, Vm.b_add, Vm.b_sub, Vm.a_add, Vm.c_eq, Vm.c_ne, Vm.c_lt, Vm.c_le, Vm.c_gt, Vm.c_ge, Vm.Bf_len, Vm.Bf_sum, Vm.Bf_min2, Vm.wipeE, Vm.Tg.slots, Vm.lcTurn, Vm.forTurn, List.map_cons, List.map_nil, List.length_cons, List.length_nil, List.length_map, List.cons_append, List.nil_append, List.getElem?_cons_zero, List.getElem?_cons_succ, List.set_cons_zero, List.set_cons_succ, List.reduceReplicate, Nat.reduceSub, Nat.reduceAdd, Nat.zero_add, Int.toNat_natCast, Bool.not_true, Bool.not_false, decide_true, decide_false, if_true, if_false, lc h2 ec]
    have cell : ∃ cell : Int, ∀ (Q : PV → IH → Prop), Q (.int cell) h2 → Res.Ok (match PV.bl (decide ((0 : Int) < (cs.length : Int))) with
        | .bl true => (binF .mod (.int x) (.int cs.length) h2).bind fun y h2 => ixF (.ref c) y h2
        | .bl false => .ok (.int 11) h2
        | _ => .stuck) Q := by
      by_cases hl : (0 : Int) < (cs.length : Int)
      · have m2 := Int.emod_nonneg x (show (cs.length : Int) ≠ 0 by omega)
        have m3 := Int.emod_lt_of_pos x hl
        refine ⟨cs.getD (x % (cs.length : Int)).toNat 0, fun Q hQ => ?_⟩
        simp only [hl, decide_true, mod_ok (h := h2) (i := x) hl, Res.bind_ok, ixF_ref ec m2 m3]
        exact hQ
      · refine ⟨11, fun Q hQ => ?_⟩
        simp only [hl, decide_false]
        exact hQ
    obtain ⟨cell, hcell⟩ := cell
    refine Res.ok_bind (hcell _ ?_)
    simp (config := { implicitDefEqProofs := false }) only [Vm.evF, Vm.evSs, Vm.evS, Vm.evX, Vm.evE, Vm.evEs, Vm.evIt, Vm.evPt, Vm.Res.bind_assoc, Vm.Res.bind_ok, Vm.Res.Ok_ok, Vm.bindT, Vm.setAll, Vm.boolOf, Vm.isNon, Vm.b_add, Vm.b_sub, Vm.a_add, Vm.c_eq, Vm.c_ne, Vm.c_lt, Vm.c_le, Vm.c_gt, Vm.c_ge, Vm.Bf_len, Vm.Bf_sum, Vm.Bf_min2, Vm.wipeE, Vm.Tg.slots, Vm.lcTurn, Vm.forTurn, List.map_cons, List.map_nil, List.length_cons, List.length_nil, List.length_map, List.cons_append, List.nil_append, List.getElem?_cons_zero, List.getElem?_cons_succ, List.set_cons_zero, List.set_cons_succ, List.reduceReplicate, Nat.reduceSub, Nat.reduceAdd, Nat.zero_add, Int.toNat_natCast, Bool.not_true, Bool.not_false, decide_true, decide_false, if_true, if_false, pow_ok (h := h2) (i := 10) (j := 18) (by decide) (by decide) (by decide) (by decide)]
    -- digits of a great cell, or the mix
    have mix : ∀ (ev1 : Ev), Res.Ok ((binF .mod (.int cell) (.int 2147483629) h2).bind fun a h => (binF .mul (.int 6151) (.int z) h).bind fun a_1 h => (binF .add a a_1 h).bind fun a h => (binF .add a (.int 389) h).bind fun a h => (binF .pow a (.int 5) h).bind fun a h => (binF .mod a (.int 2147483647) h).bind fun a h =>
        (binF .mul (.int 24593) (.int z) h).bind fun a_1 h => (binF .add a a_1 h).bind fun a h => (binF .add a (.int 53) h).bind fun a h => (binF .pow a (.int 5) h).bind fun a h => (binF .mod a (.int 2147483587) h).bind fun a h => (binF .fdiv a (.int 64) h).bind fun a h => (binF .mod a (.int m) h).bind fun a h => Res.ok a h)
        fun r h1 => ∃ d : Int, r = .int d ∧ 0 ≤ d ∧ d < m ∧ Feed h1 f b ∧ But f h h1 := fun _ => by
      have a0 := Int.emod_nonneg cell (show (2147483629 : Int) ≠ 0 by decide)
      have a1 := Int.emod_lt_of_pos cell (show (0 : Int) < 2147483629 by decide)
      simp only [mod_ok (h := h2) (i := cell) (j := 2147483629) (by decide), mul_l (h := h2) (i := 6151) (j := z) (by decide) (by decide), Res.bind_ok, b_add]
      generalize hb : cell % 2147483629 + 6151 * z + 389 = base
      simp only [pow_ok (h := h2) (i := base) (j := 5) (by decide) (by decide) (by omega) (by omega), Res.bind_ok]
      generalize base ^ (5 : Int).toNat = pw
      have b0 := Int.emod_nonneg pw (show (2147483647 : Int) ≠ 0 by decide)
      have b1 := Int.emod_lt_of_pos pw (show (0 : Int) < 2147483647 by decide)
      simp only [mod_ok (h := h2) (i := pw) (j := 2147483647) (by decide), mul_l (h := h2) (i := 24593) (j := z) (by decide) (by decide), Res.bind_ok, b_add]
      generalize hb2 : pw % 2147483647 + 24593 * z + 53 = base2
      simp only [pow_ok (h := h2) (i := base2) (j := 5) (by decide) (by decide) (by omega) (by omega), Res.bind_ok]
      generalize base2 ^ (5 : Int).toNat = pw2
      simp only [mod_ok (h := h2) (i := pw2) (j := 2147483587) (by decide), Res.bind_ok, fdiv_ok (h := h2) (i := pw2 % 2147483587) (j := 64) (by decide) (by decide), mod_ok (h := h2) (i := pw2 % 2147483587 / 64) (j := m) m0, Res.Ok_ok]
      exact fin _ _ _ _ (by omega) (by omega) q2 t2 _
    by_cases h18 : (10 : Int) ^ (18 : Int).toNat ≤ cell
    · simp (config := { implicitDefEqProofs := false }) only [Vm.evF, Vm.evSs, Vm.evS, Vm.evX, Vm.evE, Vm.evEs, Vm.evIt, Vm.evPt, Vm.Res.bind_assoc, Vm.Res.bind_ok, Vm.Res.Ok_ok, Vm.bindT, Vm.setAll, Vm.boolOf, Vm.isNon, Vm.b_add, Vm.b_sub, Vm.a_add, Vm.c_eq, Vm.c_ne, Vm.c_lt, Vm.c_le, Vm.c_gt, Vm.c_ge, Vm.Bf_len, Vm.Bf_sum, Vm.Bf_min2, Vm.wipeE, Vm.Tg.slots, Vm.lcTurn, Vm.forTurn, List.map_cons, List.map_nil, List.length_cons, List.length_nil, List.length_map, List.cons_append, List.nil_append, List.getElem?_cons_zero, List.getElem?_cons_succ, List.set_cons_zero, List.set_cons_succ, List.reduceReplicate, Nat.reduceSub, Nat.reduceAdd, Nat.zero_add, Int.toNat_natCast, Bool.not_true, Bool.not_false, decide_true, decide_false, if_true, if_false, h18, lc h2 ec]
      by_cases hx : x < (cs.length : Int)
      · have p3 := put2 (y := .int (cell / m)) q2
        have q3 := set_same (o := .lst [PV.ref c, .int (x + 1), .int (cell / m), .int (z + 1)]) q2
        simp (config := { implicitDefEqProofs := false }) only [Vm.evF, Vm.evSs, Vm.evS, Vm.evX, Vm.evE, Vm.evEs, Vm.evIt, Vm.evPt, Vm.Res.bind_assoc, Vm.Res.bind_ok, Vm.Res.Ok_ok, Vm.bindT, Vm.setAll, Vm.boolOf, Vm.isNon, Vm.b_add, Vm.b_sub, Vm.a_add, Vm.c_eq, Vm.c_ne, Vm.c_lt, Vm.c_le, Vm.c_gt, Vm.c_ge, Vm.Bf_len, Vm.Bf_sum, Vm.Bf_min2, Vm.wipeE, Vm.Tg.slots, Vm.lcTurn, Vm.forTurn, List.map_cons, List.map_nil, List.length_cons, List.length_nil, List.length_map, List.cons_append, List.nil_append, List.getElem?_cons_zero, List.getElem?_cons_succ, List.set_cons_zero, List.set_cons_succ, List.reduceReplicate, Nat.reduceSub, Nat.reduceAdd, Nat.zero_add, Int.toNat_natCast, Bool.not_true, Bool.not_false, decide_true, decide_false, if_true, if_false, hx, fdiv_ok (h := h2) (i := cell) (j := m) m0 (by omega), p3, mod_ok (h := h2.set f (.lst [PV.ref c, .int (x + 1), .int (cell / m), .int (z + 1)])) (i := cell) (j := m) m0]
        exact fin _ _ _ _ (by omega) (by omega) q3 (t2.trans But.set) cell
      · simp (config := { implicitDefEqProofs := false }) only [Vm.evF, Vm.evSs, Vm.evS, Vm.evX, Vm.evE, Vm.evEs, Vm.evIt, Vm.evPt, Vm.Res.bind_assoc, Vm.Res.bind_ok, Vm.Res.Ok_ok, Vm.bindT, Vm.setAll, Vm.boolOf, Vm.isNon, Vm.b_add, Vm.b_sub, Vm.a_add, Vm.c_eq, Vm.c_ne, Vm.c_lt, Vm.c_le, Vm.c_gt, Vm.c_ge, Vm.Bf_len, Vm.Bf_sum, Vm.Bf_min2, Vm.wipeE, Vm.Tg.slots, Vm.lcTurn, Vm.forTurn, List.map_cons, List.map_nil, List.length_cons, List.length_nil, List.length_map, List.cons_append, List.nil_append, List.getElem?_cons_zero, List.getElem?_cons_succ, List.set_cons_zero, List.set_cons_succ, List.reduceReplicate, Nat.reduceSub, Nat.reduceAdd, Nat.zero_add, Int.toNat_natCast, Bool.not_true, Bool.not_false, decide_true, decide_false, if_true, if_false, hx]
        exact mix []
    · simp (config := { implicitDefEqProofs := false }) only [Vm.evF, Vm.evSs, Vm.evS, Vm.evX, Vm.evE, Vm.evEs, Vm.evIt, Vm.evPt, Vm.Res.bind_assoc, Vm.Res.bind_ok, Vm.Res.Ok_ok, Vm.bindT, Vm.setAll, Vm.boolOf, Vm.isNon, Vm.b_add, Vm.b_sub, Vm.a_add, Vm.c_eq, Vm.c_ne, Vm.c_lt, Vm.c_le, Vm.c_gt, Vm.c_ge, Vm.Bf_len, Vm.Bf_sum, Vm.Bf_min2, Vm.wipeE, Vm.Tg.slots, Vm.lcTurn, Vm.forTurn, List.map_cons, List.map_nil, List.length_cons, List.length_nil, List.length_map, List.cons_append, List.nil_append, List.getElem?_cons_zero, List.getElem?_cons_succ, List.set_cons_zero, List.set_cons_succ, List.reduceReplicate, Nat.reduceSub, Nat.reduceAdd, Nat.zero_add, Int.toNat_natCast, Bool.not_true, Bool.not_false, decide_true, decide_false, if_true, if_false, h18]
      exact mix []
end
end K26

set_option Elab.async false
set_option linter.all false
set_option maxRecDepth 100000
set_option maxHeartbeats 400000
namespace K26
open PySem PySem.Spec PyProof.Rows L2 Vm Rd
section
variable {h : IH} {N : Nat}
theorem p6 : (10 : Int) ^ (6 : Int).toNat = 1000000 := by decide
theorem Feed.lt {f b : Nat} (F : Feed h f b) : f < h.length := by
  obtain ⟨c, cs, x, y, z, n, e1, e2, _⟩ := F.ex
  exact (List.getElem?_eq_some_iff.mp e2).1
theorem _root_.Vm.But.setN {f a : Nat} {h h' : IH} {o : HV} (t : But f h h') (l : h.length ≤ a) : But f h (h'.set a o) := ⟨by rw [List.length_set]; exact t.1, fun i hi hf => by rw [set_other (by omega)]; exact t.2 i hi hf⟩
theorem s_great {f b : Nat} (F : Feed h f (b + 6)) (hN : 2 ≤ N) : (sem Bf ds N 17 [.ref f] h).Ok fun r h1 => ∃ v : Int, r = .int v ∧ 0 ≤ v ∧ Feed h1 f b ∧ But f h h1 := by
  obtain ⟨n, rfl, k⟩ := pre hN (by decide)
  rw [sem_at (d := d__law_great) (L := 3) (b := b__law_great) rfl rfl rfl]
  simp (config := { implicitDefEqProofs := false }) only [Vm.evF, Vm.evSs, Vm.evS, Vm.evX, Vm.evE, Vm.evEs, Vm.evIt, Vm.evPt, Vm.Res.bind_assoc, Vm.Res.bind_ok, Vm.Res.Ok_ok, Vm.bindT, Vm.setAll, Vm.boolOf, Vm.isNon, Vm.b_add, Vm.b_sub, Vm.a_add, Vm.c_eq, Vm.c_ne, Vm.c_lt, Vm.c_le, Vm.c_gt, Vm.c_ge, Vm.Bf_len, Vm.Bf_sum, Vm.Bf_min2, Vm.wipeE, Vm.Tg.slots, Vm.lcTurn, Vm.forTurn, List.map_cons, List.map_nil, List.length_cons, List.length_nil, List.length_map, List.cons_append, List.nil_append, List.getElem?_cons_zero, List.getElem?_cons_succ, List.set_cons_zero, List.set_cons_succ, List.reduceReplicate, Nat.reduceSub, Nat.reduceAdd, Nat.zero_add, Int.toNat_natCast, Bool.not_true, Bool.not_false, decide_true, decide_false, if_true, if_false, b__law_great]
  refine Res.ok_bind ((s_draw (h := h) (N := n) (b := b + 5) (m := 5) F (by omega) (by decide) (by decide)).mono fun r h1 q => ?_)
  obtain ⟨d, rfl, d0, d1, F1, t1⟩ := q
  simp (config := { implicitDefEqProofs := false }) only [Vm.evF, Vm.evSs, Vm.evS, Vm.evX, Vm.evE, Vm.evEs, Vm.evIt, Vm.evPt, Vm.Res.bind_assoc, Vm.Res.bind_ok, Vm.Res.Ok_ok, Vm.bindT, Vm.setAll, Vm.boolOf, Vm.isNon, Vm.b_add, Vm.b_sub, Vm.a_add, Vm.c_eq, Vm.c_ne, Vm.c_lt, Vm.c_le, Vm.c_gt, Vm.c_ge, Vm.Bf_len, Vm.Bf_sum, Vm.Bf_min2, Vm.wipeE, Vm.Tg.slots, Vm.lcTurn, Vm.forTurn, List.map_cons, List.map_nil, List.length_cons, List.length_nil, List.length_map, List.cons_append, List.nil_append, List.getElem?_cons_zero, List.getElem?_cons_succ, List.set_cons_zero, List.set_cons_succ, List.reduceReplicate, Nat.reduceSub, Nat.reduceAdd, Nat.zero_add, Int.toNat_natCast, Bool.not_true, Bool.not_false, decide_true, decide_false, if_true, if_false]
  rw [rng_if (by omega) (by omega)]
  simp (config := { implicitDefEqProofs := false }) only [Vm.evF, Vm.evSs, Vm.evS, Vm.evX, Vm.evE, Vm.evEs, Vm.evIt, Vm.evPt, Vm.Res.bind_assoc, Vm.Res.bind_ok, Vm.Res.Ok_ok, Vm.bindT, Vm.setAll, Vm.boolOf, Vm.isNon, Vm.b_add, Vm.b_sub, Vm.a_add, Vm.c_eq, Vm.c_ne, Vm.c_lt, Vm.c_le, Vm.c_gt, Vm.c_ge, Vm.Bf_len, Vm.Bf_sum, Vm.Bf_min2, Vm.wipeE, Vm.Tg.slots, Vm.lcTurn, Vm.forTurn, List.map_cons, List.map_nil, List.length_cons, List.length_nil, List.length_map, List.cons_append, List.nil_append, List.getElem?_cons_zero, List.getElem?_cons_succ, List.set_cons_zero, List.set_cons_succ, List.reduceReplicate, Nat.reduceSub, Nat.reduceAdd, Nat.zero_add, Int.toNat_natCast, Bool.not_true, Bool.not_false, decide_true, decide_false, if_true, if_false]
  refine Res.ok_bind ((for_inv (xs := rngs 0 (1 + d).toNat) (Q := fun o h2 => ∃ v : Int, ∃ u, o = .nx [some (.ref f), some (.int v), u] ∧ 0 ≤ v ∧ Feed h2 f b ∧ But f h h2)
    (fun k ev1 h2 => ∃ v : Int, ∃ u, ev1 = [some (.ref f), some (.int v), u] ∧ 0 ≤ v ∧ Feed h2 f (b + (5 - k)) ∧ But f h h2)
    (fun _ _ _ _ => rfl) (fun k x ev1 h2 e j => ?_) (fun ev1 h2 j => ?_) _ 0 _ h1 (by simp [Src.fuel]) (Nat.zero_le _) ⟨0, _, rfl, by decide, F1, t1⟩).mono fun o h2 q => ?_)
  · obtain ⟨hk, rfl⟩ := rngs0_at e
    obtain ⟨v, u, rfl, v0, F2, t2⟩ := j
    simp (config := { implicitDefEqProofs := false }) only [Vm.evF, Vm.evSs, Vm.evS, Vm.evX, Vm.evE, Vm.evEs, Vm.evIt, Vm.evPt, Vm.Res.bind_assoc, Vm.Res.bind_ok, Vm.Res.Ok_ok, Vm.bindT, Vm.setAll, Vm.boolOf, Vm.isNon, Vm.b_add, Vm.b_sub, Vm.a_add, Vm.c_eq, Vm.c_ne, Vm.c_lt, Vm.c_le, Vm.c_gt, Vm.c_ge, Vm.Bf_len, Vm.Bf_sum, Vm.Bf_min2, Vm.wipeE, Vm.Tg.slots, Vm.lcTurn, Vm.forTurn, List.map_cons, List.map_nil, List.length_cons, List.length_nil, List.length_map, List.cons_append, List.nil_append, List.getElem?_cons_zero, List.getElem?_cons_succ, List.set_cons_zero, List.set_cons_succ, List.reduceReplicate, Nat.reduceSub, Nat.reduceAdd, Nat.zero_add, Int.toNat_natCast, Bool.not_true, Bool.not_false, decide_true, decide_false, if_true, if_false, pow_ok (h := h2) (i := 10) (j := 6) (by decide) (by decide) (by decide) (by decide), p6, mul_r (h := h2) (i := v) (j := 1000000) (by decide) (by decide)]
    refine Res.ok_bind ((s_draw (h := h2) (N := n) (b := b + (5 - (k + 1))) (m := 1000000) (F2.le (by omega)) (by omega) (by decide) (by decide)).mono fun r h3 q => ?_)
    obtain ⟨d, rfl, d0, d1, F3, t3⟩ := q
    simp (config := { implicitDefEqProofs := false }) only [Vm.evF, Vm.evSs, Vm.evS, Vm.evX, Vm.evE, Vm.evEs, Vm.evIt, Vm.evPt, Vm.Res.bind_assoc, Vm.Res.bind_ok, Vm.Res.Ok_ok, Vm.bindT, Vm.setAll, Vm.boolOf, Vm.isNon, Vm.b_add, Vm.b_sub, Vm.a_add, Vm.c_eq, Vm.c_ne, Vm.c_lt, Vm.c_le, Vm.c_gt, Vm.c_ge, Vm.Bf_len, Vm.Bf_sum, Vm.Bf_min2, Vm.wipeE, Vm.Tg.slots, Vm.lcTurn, Vm.forTurn, List.map_cons, List.map_nil, List.length_cons, List.length_nil, List.length_map, List.cons_append, List.nil_append, List.getElem?_cons_zero, List.getElem?_cons_succ, List.set_cons_zero, List.set_cons_succ, List.reduceReplicate, Nat.reduceSub, Nat.reduceAdd, Nat.zero_add, Int.toNat_natCast, Bool.not_true, Bool.not_false, decide_true, decide_false, if_true, if_false]
    exact ⟨_, _, rfl, by omega, F3, t2.trans t3⟩
  · obtain ⟨v, u, rfl, v0, F2, t2⟩ := j
    exact ⟨v, u, rfl, v0, F2.le (by omega), t2⟩
  · obtain ⟨v, u, rfl, v0, F2, t2⟩ := q
    simp (config := { implicitDefEqProofs := false }) only [Vm.evF, Vm.evSs, Vm.evS, Vm.evX, Vm.evE, Vm.evEs, Vm.evIt, Vm.evPt, Vm.Res.bind_assoc, Vm.Res.bind_ok, Vm.Res.Ok_ok, Vm.bindT, Vm.setAll, Vm.boolOf, Vm.isNon, Vm.b_add, Vm.b_sub, Vm.a_add, Vm.c_eq, Vm.c_ne, Vm.c_lt, Vm.c_le, Vm.c_gt, Vm.c_ge, Vm.Bf_len, Vm.Bf_sum, Vm.Bf_min2, Vm.wipeE, Vm.Tg.slots, Vm.lcTurn, Vm.forTurn, List.map_cons, List.map_nil, List.length_cons, List.length_nil, List.length_map, List.cons_append, List.nil_append, List.getElem?_cons_zero, List.getElem?_cons_succ, List.set_cons_zero, List.set_cons_succ, List.reduceReplicate, Nat.reduceSub, Nat.reduceAdd, Nat.zero_add, Int.toNat_natCast, Bool.not_true, Bool.not_false, decide_true, decide_false, if_true, if_false]
    exact ⟨v, rfl, v0, F2, t2⟩
theorem s_weights {f b : Nat} (F : Feed h f (b + 20)) (hN : 2 ≤ N) : (sem Bf ds N 16 [.ref f] h).Ok fun r h1 => ∃ ws : List Int, r = tw ws ∧ Good ws ∧ Feed h1 f b ∧ But f h h1 := by
  obtain ⟨n, rfl, k⟩ := pre hN (by decide)
  rw [sem_at (d := d__law_weights) (L := 6) (b := b__law_weights) rfl rfl rfl]
  simp (config := { implicitDefEqProofs := false }) only [Vm.evF, Vm.evSs, Vm.evS, Vm.evX, Vm.evE, Vm.evEs, Vm.evIt, Vm.evPt, Vm.Res.bind_assoc, Vm.Res.bind_ok, Vm.Res.Ok_ok, Vm.bindT, Vm.setAll, Vm.boolOf, Vm.isNon, Vm.b_add, Vm.b_sub, Vm.a_add, Vm.c_eq, Vm.c_ne, Vm.c_lt, Vm.c_le, Vm.c_gt, Vm.c_ge, Vm.Bf_len, Vm.Bf_sum, Vm.Bf_min2, Vm.wipeE, Vm.Tg.slots, Vm.lcTurn, Vm.forTurn, List.map_cons, List.map_nil, List.length_cons, List.length_nil, List.length_map, List.cons_append, List.nil_append, List.getElem?_cons_zero, List.getElem?_cons_succ, List.set_cons_zero, List.set_cons_succ, List.reduceReplicate, Nat.reduceSub, Nat.reduceAdd, Nat.zero_add, Int.toNat_natCast, Bool.not_true, Bool.not_false, decide_true, decide_false, if_true, if_false, b__law_weights]
  refine Res.ok_bind ((s_draw (h := h) (N := n) (b := b + 19) (m := 8) F (by omega) (by decide) (by decide)).mono fun r h1 q => ?_)
  obtain ⟨way, rfl, w0, w1, F1, t1⟩ := q
  simp (config := { implicitDefEqProofs := false }) only [Vm.evF, Vm.evSs, Vm.evS, Vm.evX, Vm.evE, Vm.evEs, Vm.evIt, Vm.evPt, Vm.Res.bind_assoc, Vm.Res.bind_ok, Vm.Res.Ok_ok, Vm.bindT, Vm.setAll, Vm.boolOf, Vm.isNon, Vm.b_add, Vm.b_sub, Vm.a_add, Vm.c_eq, Vm.c_ne, Vm.c_lt, Vm.c_le, Vm.c_gt, Vm.c_ge, Vm.Bf_len, Vm.Bf_sum, Vm.Bf_min2, Vm.wipeE, Vm.Tg.slots, Vm.lcTurn, Vm.forTurn, List.map_cons, List.map_nil, List.length_cons, List.length_nil, List.length_map, List.cons_append, List.nil_append, List.getElem?_cons_zero, List.getElem?_cons_succ, List.set_cons_zero, List.set_cons_succ, List.reduceReplicate, Nat.reduceSub, Nat.reduceAdd, Nat.zero_add, Int.toNat_natCast, Bool.not_true, Bool.not_false, decide_true, decide_false, if_true, if_false]
  refine Res.ok_bind ((s_draw (h := h1) (N := n) (b := b + 18) (m := 6) F1 (by omega) (by decide) (by decide)).mono fun r h2 q => ?_)
  obtain ⟨m, rfl, m0, m1, F2, t2⟩ := q
  simp (config := { implicitDefEqProofs := false }) only [Vm.evF, Vm.evSs, Vm.evS, Vm.evX, Vm.evE, Vm.evEs, Vm.evIt, Vm.evPt, Vm.Res.bind_assoc, Vm.Res.bind_ok, Vm.Res.Ok_ok, Vm.bindT, Vm.setAll, Vm.boolOf, Vm.isNon, Vm.b_add, Vm.b_sub, Vm.a_add, Vm.c_eq, Vm.c_ne, Vm.c_lt, Vm.c_le, Vm.c_gt, Vm.c_ge, Vm.Bf_len, Vm.Bf_sum, Vm.Bf_min2, Vm.wipeE, Vm.Tg.slots, Vm.lcTurn, Vm.forTurn, List.map_cons, List.map_nil, List.length_cons, List.length_nil, List.length_map, List.cons_append, List.nil_append, List.getElem?_cons_zero, List.getElem?_cons_succ, List.set_cons_zero, List.set_cons_succ, List.reduceReplicate, Nat.reduceSub, Nat.reduceAdd, Nat.zero_add, Int.toNat_natCast, Bool.not_true, Bool.not_false, decide_true, decide_false, if_true, if_false, new_ok (h := h2) (xs := [PV.int 3, .int 3, .int 3, .int 6, .int 6, .int 20, .int 1, .int 1]) (by simp)]
  generalize hh3 : h2 ++ [HV.lst [PV.int 3, .int 3, .int 3, .int 6, .int 6, .int 20, .int 1, .int 1]] = h3
  have x3 : Ext h2 h3 := by rw [← hh3]; exact Ext.app _ _
  have e3 : h3[h2.length]? = some (.lst (([3, 3, 3, 6, 6, 20, 1, 1] : List Int).map PV.int)) := by rw [← hh3]; exact at_end _ _
  have F3 := F2.ext x3
  have t3 : But f h h3 := t1.trans (t2.trans (But.of x3))
  have wide : ∃ wd : Int, ([3, 3, 3, 6, 6, 20, 1, 1] : List Int).getD way.toNat 0 = wd ∧ 1 ≤ wd ∧ wd ≤ 20 := by
    have : way = 0 ∨ way = 1 ∨ way = 2 ∨ way = 3 ∨ way = 4 ∨ way = 5 ∨ way = 6 ∨ way = 7 := by omega
    rcases this with rfl | rfl | rfl | rfl | rfl | rfl | rfl | rfl <;> exact ⟨_, rfl, by decide, by decide⟩
  obtain ⟨wd, ew, wd0, wd1⟩ := wide
  simp (config := { implicitDefEqProofs := false }) only [Vm.evF, Vm.evSs, Vm.evS, Vm.evX, Vm.evE, Vm.evEs, Vm.evIt, Vm.evPt, Vm.Res.bind_assoc, Vm.Res.bind_ok, Vm.Res.Ok_ok, Vm.bindT, Vm.setAll, Vm.boolOf, Vm.isNon, Vm.b_add, Vm.b_sub, Vm.a_add, Vm.c_eq, Vm.c_ne, Vm.c_lt, Vm.c_le, Vm.c_gt, Vm.c_ge, Vm.Bf_len, Vm.Bf_sum, Vm.Bf_min2, Vm.wipeE, Vm.Tg.slots, Vm.lcTurn, Vm.forTurn, List.map_cons, List.map_nil, List.length_cons, List.length_nil, List.length_map, List.cons_append, List.nil_append, List.getElem?_cons_zero, List.getElem?_cons_succ, List.set_cons_zero, List.set_cons_succ, List.reduceReplicate, Nat.reduceSub, Nat.reduceAdd, Nat.zero_add, Int.toNat_natCast, Bool.not_true, Bool.not_false, decide_true, decide_false, if_true, if_false, ixF_ref (h := h3) (a := h2.length) (s := way) e3 w0 (by simpa using w1), ew]
  rw [rng_if (by omega) (by omega)]
  simp (config := { implicitDefEqProofs := false }) only [Vm.evF, Vm.evSs, Vm.evS, Vm.evX, Vm.evE, Vm.evEs, Vm.evIt, Vm.evPt, Vm.Res.bind_assoc, Vm.Res.bind_ok, Vm.Res.Ok_ok, Vm.bindT, Vm.setAll, Vm.boolOf, Vm.isNon, Vm.b_add, Vm.b_sub, Vm.a_add, Vm.c_eq, Vm.c_ne, Vm.c_lt, Vm.c_le, Vm.c_gt, Vm.c_ge, Vm.Bf_len, Vm.Bf_sum, Vm.Bf_min2, Vm.wipeE, Vm.Tg.slots, Vm.lcTurn, Vm.forTurn, List.map_cons, List.map_nil, List.length_cons, List.length_nil, List.length_map, List.cons_append, List.nil_append, List.getElem?_cons_zero, List.getElem?_cons_succ, List.set_cons_zero, List.set_cons_succ, List.reduceReplicate, Nat.reduceSub, Nat.reduceAdd, Nat.zero_add, Int.toNat_natCast, Bool.not_true, Bool.not_false, decide_true, decide_false, if_true, if_false]
  refine Res.ok_bind ((lc_inv (xs := rngs 0 (1 + m).toNat) (fun k acc h4 => ∃ us : List Int, acc = us.map PV.int ∧ us.length = k ∧ (∀ x ∈ us, 1 ≤ x ∧ x ≤ 20) ∧ Feed h4 f (b + (18 - k)) ∧ But f h h4)
    (fun _ _ _ _ => rfl) (by rw [rngs_len]; omega) (fun k x acc h4 e j => ?_) _ 0 [] h3 (by simp [Src.fuel]) (Nat.zero_le _) (Nat.le_refl _) ⟨[], rfl, rfl, (fun x hx => nomatch hx), F3, t3⟩).mono fun acc h4 q => ?_)
  · obtain ⟨hk, rfl⟩ := rngs0_at e
    obtain ⟨us, rfl, ul, u1, F4, t4⟩ := j
    refine Res.calm_of ?_
    simp (config := { implicitDefEqProofs := false }) only [Vm.evF, Vm.evSs, Vm.evS, Vm.evX, Vm.evE, Vm.evEs, Vm.evIt, Vm.evPt, Vm.Res.bind_assoc, Vm.Res.bind_ok, Vm.Res.Ok_ok, Vm.bindT, Vm.setAll, Vm.boolOf, Vm.isNon, Vm.b_add, Vm.b_sub, Vm.a_add, Vm.c_eq, Vm.c_ne, Vm.c_lt, Vm.c_le, Vm.c_gt, Vm.c_ge, Vm.Bf_len, Vm.Bf_sum, Vm.Bf_min2, Vm.wipeE, Vm.Tg.slots, Vm.lcTurn, Vm.forTurn, List.map_cons, List.map_nil, List.length_cons, List.length_nil, List.length_map, List.cons_append, List.nil_append, List.getElem?_cons_zero, List.getElem?_cons_succ, List.set_cons_zero, List.set_cons_succ, List.reduceReplicate, Nat.reduceSub, Nat.reduceAdd, Nat.zero_add, Int.toNat_natCast, Bool.not_true, Bool.not_false, decide_true, decide_false, if_true, if_false]
    refine Res.ok_bind ((s_draw (h := h4) (N := n) (b := b + (18 - (k + 1))) (m := wd) (F4.le (by omega)) (by omega) (by omega) (by omega)).mono fun r h5 q => ?_)
    obtain ⟨d, rfl, d0, d1, F5, t5⟩ := q
    simp (config := { implicitDefEqProofs := false }) only [Vm.evF, Vm.evSs, Vm.evS, Vm.evX, Vm.evE, Vm.evEs, Vm.evIt, Vm.evPt, Vm.Res.bind_assoc, Vm.Res.bind_ok, Vm.Res.Ok_ok, Vm.bindT, Vm.setAll, Vm.boolOf, Vm.isNon, Vm.b_add, Vm.b_sub, Vm.a_add, Vm.c_eq, Vm.c_ne, Vm.c_lt, Vm.c_le, Vm.c_gt, Vm.c_ge, Vm.Bf_len, Vm.Bf_sum, Vm.Bf_min2, Vm.wipeE, Vm.Tg.slots, Vm.lcTurn, Vm.forTurn, List.map_cons, List.map_nil, List.length_cons, List.length_nil, List.length_map, List.cons_append, List.nil_append, List.getElem?_cons_zero, List.getElem?_cons_succ, List.set_cons_zero, List.set_cons_succ, List.reduceReplicate, Nat.reduceSub, Nat.reduceAdd, Nat.zero_add, Int.toNat_natCast, Bool.not_true, Bool.not_false, decide_true, decide_false, if_true, if_false]
    refine ⟨us ++ [1 + d], by rw [List.map_append]; rfl, by simp [ul], fun x hx => ?_, F5, t4.trans t5⟩
    rcases List.mem_append.mp hx with hx | hx
    · exact u1 x hx
    · have := List.mem_singleton.mp hx
      omega
  · obtain ⟨us, rfl, ul, u1, F4, t4⟩ := q
    rw [rngs_len] at ul F4
    have gu : Good us := ⟨by omega, by omega, u1⟩
    have um : (us.length : Int) = 1 + m := by omega
    have a4 : (h4 ++ [HV.lst (us.map PV.int)])[h4.length]? = some (.lst (us.map PV.int)) := at_end _ _
    have lt := F4.lt
    have F4' := F4.ext (Ext.app h4 [HV.lst (us.map PV.int)])
    have t4' : But f h (h4 ++ [HV.lst (us.map PV.int)]) := t4.trans (But.of (Ext.app _ _))
    have nf : h4.length ≠ f := by omega
    generalize h4 ++ [HV.lst (us.map PV.int)] = h5 at a4 F4' t4'
    -- one weight for all
    have six : ∀ (Q : Fl → IH → Prop), (∀ (a : Nat) (vs : List Int) h6, Good vs → (vs.length : Int) = 1 + m → h.length ≤ a → h6[a]? = some (.lst (vs.map PV.int)) → Feed h6 f (b + 5) → But f h h6 → Q (.nx [some (.ref f), some (.int wd), some (.ref a), some (.int way), some (.int (1 + m)), none]) h6) →
        Res.Ok (match PV.bl (decide (way = 6)) with
          | .bl true => (sem Bf ds n 15 [.ref f, .int 20] h5).bind fun a h => (binF .add (.int 1) a h).bind fun a h => (new h [a]).bind fun a h => (binF .mul a (.int (1 + m)) h).bind fun a h => .ok (.nx [some (.ref f), some (.int wd), some a, some (.int way), some (.int (1 + m)), none]) h
          | .bl false => .ok (.nx [some (.ref f), some (.int wd), some (.ref h4.length), some (.int way), some (.int (1 + m)), none]) h5
          | _ => .stuck) Q := fun Q hQ => by
      by_cases hw : way = 6
      · subst hw
        simp only [decide_true]
        refine Res.ok_bind ((s_draw (h := h5) (N := n) (b := b + 5) (m := 20) (F4'.le (by omega)) (by omega) (by decide) (by decide)).mono fun r h6 q => ?_)
        obtain ⟨d, rfl, d0, d1, F6, t6⟩ := q
        simp only [b_add, Res.bind_ok, new_ok (h := h6) (xs := [PV.int (1 + d)]) (by simp), mul_one (h := h6 ++ [HV.lst [PV.int (1 + d)]]) (a := h6.length) (x := PV.int (1 + d)) (k := 1 + m) (at_end _ _) (by omega) (by omega), Res.Ok_ok]
        have lt6 := F6.lt
        have x7 : Ext h6 (h6 ++ [HV.lst [PV.int (1 + d)]] ++ [HV.lst (List.replicate (1 + m).toNat (PV.int (1 + d)))]) := (Ext.app _ _).trans (Ext.app _ _)
        refine hQ _ (List.replicate (1 + m).toNat (1 + d)) _ ⟨by rw [List.length_replicate]; omega, by rw [List.length_replicate]; omega, fun x hx => ?_⟩ (by rw [List.length_replicate]; omega) (by have := t4'.1; have := t6.1; rw [List.length_append]; omega) ?_ (F6.ext x7) (t4'.trans (t6.trans (But.of x7)))
        · have := (List.mem_replicate.mp hx).2
          omega
        · rw [at_end, List.map_replicate]
      · simp only [hw, decide_false]
        exact hQ _ us _ gu um t4.1 a4 (F4'.le (by omega)) t4'
    refine Res.ok_bind (six _ fun a vs h6 gv vm al ea F6 t6 => ?_)
    have na : a ≠ f := by have := F.lt; omega
    simp (config := { implicitDefEqProofs := false }) only [Vm.evF, Vm.evSs, Vm.evS, Vm.evX, Vm.evE, Vm.evEs, Vm.evIt, Vm.evPt, Vm.Res.bind_assoc, Vm.Res.bind_ok, Vm.Res.Ok_ok, Vm.bindT, Vm.setAll, Vm.boolOf, Vm.isNon, Vm.b_add, Vm.b_sub, Vm.a_add, Vm.c_eq, Vm.c_ne, Vm.c_lt, Vm.c_le, Vm.c_gt, Vm.c_ge, Vm.Bf_len, Vm.Bf_sum, Vm.Bf_min2, Vm.wipeE, Vm.Tg.slots, Vm.lcTurn, Vm.forTurn, List.map_cons, List.map_nil, List.length_cons, List.length_nil, List.length_map, List.cons_append, List.nil_append, List.getElem?_cons_zero, List.getElem?_cons_succ, List.set_cons_zero, List.set_cons_succ, List.reduceReplicate, Nat.reduceSub, Nat.reduceAdd, Nat.zero_add, Int.toNat_natCast, Bool.not_true, Bool.not_false, decide_true, decide_false, if_true, if_false]
    have seven : ∀ (Q : Fl → IH → Prop), (∀ (vs : List Int) h7, Good vs → h7[a]? = some (.lst (vs.map PV.int)) → Feed h7 f b → But f h h7 → Q (.nx [some (.ref f), some (.int wd), some (.ref a), some (.int way), some (.int (1 + m)), none]) h7) →
        Res.Ok (match PV.bl (decide (way = 7)) with
          | .bl true => (sem Bf ds n 15 [.ref f, .int 19] h6).bind fun a1 h => (binF .add (.int 2) a1 h).bind fun a1 h => (sem Bf ds n 15 [.ref f, .int (1 + m)] h).bind fun a2 h => (putF (.ref a) a2 a1 h).bind fun _ h => .ok (.nx [some (.ref f), some (.int wd), some (.ref a), some (.int way), some (.int (1 + m)), none]) h
          | .bl false => .ok (.nx [some (.ref f), some (.int wd), some (.ref a), some (.int way), some (.int (1 + m)), none]) h6
          | _ => .stuck) Q := fun Q hQ => by
      by_cases hw : way = 7
      · subst hw
        simp only [decide_true]
        refine Res.ok_bind ((s_draw (h := h6) (N := n) (b := b + 4) (m := 19) F6 (by omega) (by decide) (by decide)).mono fun r h8 q => ?_)
        obtain ⟨d, rfl, d0, d1, F8, t8⟩ := q
        simp only [b_add, Res.bind_ok]
        refine Res.ok_bind ((s_draw (h := h8) (N := n) (b := b + 3) (m := 1 + m) F8 (by omega) (by omega) (by omega)).mono fun r h9 q => ?_)
        obtain ⟨i, rfl, i0, i1, F9, t9⟩ := q
        have e9 : h9[a]? = some (.lst (vs.map PV.int)) := t9.get na (t8.get na ea)
        have p9 := putF_ok' (h := h9) (a := a) (j := i) (v := .int (2 + d)) e9 i0 (by rw [List.length_map]; omega)
        simp only [p9, Res.bind_ok, Res.Ok_ok]
        obtain ⟨c, cs, x, y, z, cf, c1, c2, c3, c4⟩ := F9.ex
        have ca : c ≠ a ∨ c = a := by omega
        refine hQ (vs.set i.toNat (2 + d)) _ ⟨by rw [List.length_set]; exact gv.some, by rw [List.length_set]; exact gv.few, fun x hx => ?_⟩ (by rw [set_same e9, map_set]) ?_ ?_
        · rcases List.mem_or_eq_of_mem_set hx with hx | hx
          · exact gv.each x hx
          · omega
        · rcases ca with ca | ca
          · exact ⟨c, cs, x, y, z, cf, by rw [set_other (Ne.symm ca)]; exact c1, by rw [set_other na]; exact c2, c3, by omega⟩
          · subst ca
            exact ⟨c, vs.set i.toNat (2 + d), x, y, z, cf, by rw [set_same e9, map_set], by rw [set_other na]; exact c2, c3, by omega⟩
        · exact (t6.trans (t8.trans t9)).setN al
      · simp only [hw, decide_false]
        exact hQ vs h6 gv ea (F6.le (by omega)) t6
    refine Res.ok_bind (seven _ fun vs h7 gv ea F7 t7 => ?_)
    simp (config := { implicitDefEqProofs := false }) only [Vm.evF, Vm.evSs, Vm.evS, Vm.evX, Vm.evE, Vm.evEs, Vm.evIt, Vm.evPt, Vm.Res.bind_assoc, Vm.Res.bind_ok, Vm.Res.Ok_ok, Vm.bindT, Vm.setAll, Vm.boolOf, Vm.isNon, Vm.b_add, Vm.b_sub, Vm.a_add, Vm.c_eq, Vm.c_ne, Vm.c_lt, Vm.c_le, Vm.c_gt, Vm.c_ge, Vm.Bf_len, Vm.Bf_sum, Vm.Bf_min2, Vm.wipeE, Vm.Tg.slots, Vm.lcTurn, Vm.forTurn, List.map_cons, List.map_nil, List.length_cons, List.length_nil, List.length_map, List.cons_append, List.nil_append, List.getElem?_cons_zero, List.getElem?_cons_succ, List.set_cons_zero, List.set_cons_succ, List.reduceReplicate, Nat.reduceSub, Nat.reduceAdd, Nat.zero_add, Int.toNat_natCast, Bool.not_true, Bool.not_false, decide_true, decide_false, if_true, if_false, Bf_tuple ea]
    exact ⟨vs, rfl, gv, F7, t7⟩
end
end K26

set_option Elab.async false
set_option linter.all false
set_option maxRecDepth 100000
set_option maxHeartbeats 800000
namespace K26
open PySem PySem.Spec PyProof.Rows L2 Vm Rd
section
variable {h : IH} {N : Nat}
theorem rep_getD {n i : Nat} : (List.replicate n (0 : Int)).getD i 0 = 0 := by
  rw [List.getD_eq_getElem?_getD, List.getElem?_replicate]
  split <;> rfl
theorem fm_zero {ws : List Int} : (ws.map PV.int).filterMap (fun _ => some (PV.int 0)) = (List.replicate ws.length (0 : Int)).map PV.int := by
  induction ws with
  | nil => rfl
  | cons w ws ih => rw [List.map_cons, List.filterMap_cons, ih, List.length_cons, List.replicate_succ, List.map_cons]
theorem Feed.setN {f b a : Nat} {us : List Int} {h : IH} (F : Feed h f b) (n : a ≠ f) (e : ∃ vs : List Int, h[a]? = some (.lst (vs.map PV.int))) : Feed (h.set a (.lst (us.map PV.int))) f b := by
  obtain ⟨c, cs, x, y, z, cf, c1, c2, c3, c4⟩ := F.ex
  obtain ⟨vs, e⟩ := e
  have ca : c ≠ a ∨ c = a := by omega
  rcases ca with ca | ca
  · exact ⟨c, cs, x, y, z, cf, by rw [set_other (Ne.symm ca)]; exact c1, by rw [set_other n]; exact c2, c3, c4⟩
  · subst ca
    exact ⟨c, us, x, y, z, cf, by rw [set_same e], by rw [set_other n]; exact c2, c3, c4⟩
theorem s_right {f b : Nat} {ws : List Int} (g : Good ws) (F : Feed h f (b + 100)) (hN : 10 ≤ N) : (sem Bf ds N 19 [.ref f, tw ws] h).Ok fun r h1 => r = .bl true ∧ Feed h1 f b ∧ But f h h1 := by
  obtain ⟨n, rfl, k⟩ := pre hN (by decide)
  rw [sem_at (d := d__law_right) (L := 9) (b := b__law_right) rfl rfl rfl]
  have hs := g.sum
  have hf := g.few
  have h1s := g.some
  have flt := F.lt
  simp (config := { implicitDefEqProofs := false }) only [Vm.evF, Vm.evSs, Vm.evS, Vm.evX, Vm.evE, Vm.evEs, Vm.evIt, Vm.evPt, Vm.Res.bind_assoc, Vm.Res.bind_ok, Vm.Res.Ok_ok, Vm.bindT, Vm.setAll, Vm.boolOf, Vm.isNon, Vm.b_add, Vm.b_sub, Vm.a_add, Vm.c_eq, Vm.c_ne, Vm.c_lt, Vm.c_le, Vm.c_gt, Vm.c_ge, Vm.Bf_len, Vm.Bf_sum, Vm.Bf_min2, Vm.wipeE, Vm.Tg.slots, Vm.lcTurn, Vm.forTurn, List.map_cons, List.map_nil, List.length_cons, List.length_nil, List.length_map, List.cons_append, List.nil_append, List.getElem?_cons_zero, List.getElem?_cons_succ, List.set_cons_zero, List.set_cons_succ, List.reduceReplicate, Nat.reduceSub, Nat.reduceAdd, Nat.zero_add, Int.toNat_natCast, Bool.not_true, Bool.not_false, decide_true, decide_false, if_true, if_false, b__law_right, lrng_ok (h := h) (n := (ws.length : Int)) (by omega) (by omega)]
  have seatsP : ∀ (Q : Fl → IH → Prop), (∀ (a : Nat) (ss : List Int) h2, (∀ s ∈ ss, 0 ≤ s ∧ s < ws.length) → ss.length ≤ 6 → h.length ≤ a → h2[a]? = some (.lst (ss.map PV.int)) → Feed h2 f (b + 60) → But f h h2 → Q (.nx [some (.ref f), some (tw ws), some (.ref a), none, none, none, none, none, none]) h2) →
      Res.Ok (match PV.bl (decide (12 < ws.sum)) with
        | .bl true => (sem Bf ds n 15 [.ref f, .int ws.length] (h ++ [HV.lst (rngs 0 ws.length)])).bind fun a h => (new h [a, .int (ws.length - 1)]).bind fun a h => (ssetF a h).bind fun x h1 => .ok (.nx [some (.ref f), some (tw ws), some x, none, none, none, none, none, none]) h1
        | .bl false => .ok (.nx [some (.ref f), some (tw ws), some (.ref h.length), none, none, none, none, none, none]) (h ++ [HV.lst (rngs 0 ws.length)])
        | _ => .stuck) Q := fun Q hQ => by
    by_cases hw : 12 < ws.sum
    · simp only [hw, decide_true]
      refine Res.ok_bind ((s_draw (h := h ++ [HV.lst (rngs 0 ws.length)]) (N := n) (b := b + 99) (m := (ws.length : Int)) (F.ext (Ext.app _ _)) (by omega) (by omega) (by omega)).mono fun r h2 q => ?_)
      obtain ⟨d, rfl, d0, d1, F2, t2⟩ := q
      have e3 : (h2 ++ [HV.lst [PV.int d, PV.int (ws.length - 1)]])[h2.length]? = some (.lst (([d, (ws.length : Int) - 1] : List Int).map PV.int)) := at_end _ _
      simp only [new_ok (h := h2) (xs := [PV.int d, PV.int (ws.length - 1)]) (by simp), Res.bind_ok, sset_ok e3 (by simp), Res.Ok_ok]
      have x4 : Ext h2 (h2 ++ [HV.lst [PV.int d, PV.int (ws.length - 1)]] ++ [HV.lst ((ssetL [d, (ws.length : Int) - 1]).map PV.int)]) := (Ext.app _ _).trans (Ext.app _ _)
      have sl := ssetL_len (ns := [d, (ws.length : Int) - 1])
      refine hQ _ (ssetL [d, (ws.length : Int) - 1]) _ (fun s hs => ?_) (by simp at sl; omega) ?_ (at_end _ _) ((F2.ext x4).le (by omega)) ((But.of (Ext.app _ _)).trans (t2.trans (But.of x4)))
      · have := ssetL_mem.mp hs
        simp at this
        omega
      · have := t2.1
        simp at this ⊢
        omega
    · simp only [hw, decide_false]
      refine hQ _ (seats ws.length) _ (fun s hs => seats_mem.mp hs) (by simp [seats]; omega) (Nat.le_refl _) ?_ ((F.ext (Ext.app _ _)).le (by omega)) (But.of (Ext.app _ _))
      rw [at_end, rngs_ints]
      rfl
  refine Res.ok_bind (seatsP _ fun a ss h2 s1 sl al ea F2 t2 => ?_)
  have na : a ≠ f := by omega
  simp (config := { implicitDefEqProofs := false }) only [Vm.evF, Vm.evSs, Vm.evS, Vm.evX, Vm.evE, Vm.evEs, Vm.evIt, Vm.evPt, Vm.Res.bind_assoc, Vm.Res.bind_ok, Vm.Res.Ok_ok, Vm.bindT, Vm.setAll, Vm.boolOf, Vm.isNon, Vm.b_add, Vm.b_sub, Vm.a_add, Vm.c_eq, Vm.c_ne, Vm.c_lt, Vm.c_le, Vm.c_gt, Vm.c_ge, Vm.Bf_len, Vm.Bf_sum, Vm.Bf_min2, Vm.wipeE, Vm.Tg.slots, Vm.lcTurn, Vm.forTurn, List.map_cons, List.map_nil, List.length_cons, List.length_nil, List.length_map, List.cons_append, List.nil_append, List.getElem?_cons_zero, List.getElem?_cons_succ, List.set_cons_zero, List.set_cons_succ, List.reduceReplicate, Nat.reduceSub, Nat.reduceAdd, Nat.zero_add, Int.toNat_natCast, Bool.not_true, Bool.not_false, decide_true, decide_false, if_true, if_false, ea]
  rw [fuel_heap ea]
  refine Res.ok_bind ((for_inv (xs := ss.map PV.int) (Q := fun o h3 => ∃ u3 u7, o = .nx [some (.ref f), some (tw ws), some (.ref a), u3, none, none, none, u7, none] ∧ Feed h3 f b ∧ But f h h3)
    (fun k ev1 h3 => ∃ u3 u7, ev1 = [some (.ref f), some (tw ws), some (.ref a), u3, none, none, none, u7, none] ∧ h3[a]? = some (.lst (ss.map PV.int)) ∧ Feed h3 f (b + 7 * (ss.length - k)) ∧ But f h h3)
    (fun k ev1 h3 j => ?_) (fun k x ev1 h3 e j => ?_) (fun ev1 h3 j => ?_) _ 0 _ h2 (by simp) (Nat.zero_le _) ⟨_, _, rfl, ea, F2.le (by omega), t2⟩).mono fun o h3 q => ?_)
  · obtain ⟨u3, u7, rfl, e3, F3, t3⟩ := j
    simp only [Src.get, e3]
  · obtain ⟨u3, u7, rfl, e3, F3, t3⟩ := j
    rw [List.getElem?_map] at e
    cases es : ss[k]? with
    | none => rw [es] at e; cases e
    | some s =>
      rw [es] at e
      cases e
      have kl := (List.getElem?_eq_some_iff.mp es).1
      obtain ⟨q0, q1⟩ := s1 s (List.mem_of_getElem? es)
      have w := g.wt q0 q1
      simp (config := { implicitDefEqProofs := false }) only [Vm.evF, Vm.evSs, Vm.evS, Vm.evX, Vm.evE, Vm.evEs, Vm.evIt, Vm.evPt, Vm.Res.bind_assoc, Vm.Res.bind_ok, Vm.Res.Ok_ok, Vm.bindT, Vm.setAll, Vm.boolOf, Vm.isNon, Vm.b_add, Vm.b_sub, Vm.a_add, Vm.c_eq, Vm.c_ne, Vm.c_lt, Vm.c_le, Vm.c_gt, Vm.c_ge, Vm.Bf_len, Vm.Bf_sum, Vm.Bf_min2, Vm.wipeE, Vm.Tg.slots, Vm.lcTurn, Vm.forTurn, List.map_cons, List.map_nil, List.length_cons, List.length_nil, List.length_map, List.cons_append, List.nil_append, List.getElem?_cons_zero, List.getElem?_cons_succ, List.set_cons_zero, List.set_cons_succ, List.reduceReplicate, Nat.reduceSub, Nat.reduceAdd, Nat.zero_add, Int.toNat_natCast, Bool.not_true, Bool.not_false, decide_true, decide_false, if_true, if_false, ixW (h := h3) q0 q1, mul_l (h := h3) (i := 2) (j := wt ws s) (by decide) (by decide)]
      refine Res.ok_bind ((s_draw (h := h3) (N := n) (b := b + 7 * (ss.length - (k + 1)) + 6) (m := 2 * wt ws s) (F3.le (by omega)) (by omega) (by omega) (by omega)).mono fun r h4 q => ?_)
      obtain ⟨d, rfl, d0, d1, F4, t4⟩ := q
      simp (config := { implicitDefEqProofs := false }) only [Vm.evF, Vm.evSs, Vm.evS, Vm.evX, Vm.evE, Vm.evEs, Vm.evIt, Vm.evPt, Vm.Res.bind_assoc, Vm.Res.bind_ok, Vm.Res.Ok_ok, Vm.bindT, Vm.setAll, Vm.boolOf, Vm.isNon, Vm.b_add, Vm.b_sub, Vm.a_add, Vm.c_eq, Vm.c_ne, Vm.c_lt, Vm.c_le, Vm.c_gt, Vm.c_ge, Vm.Bf_len, Vm.Bf_sum, Vm.Bf_min2, Vm.wipeE, Vm.Tg.slots, Vm.lcTurn, Vm.forTurn, List.map_cons, List.map_nil, List.length_cons, List.length_nil, List.length_map, List.cons_append, List.nil_append, List.getElem?_cons_zero, List.getElem?_cons_succ, List.set_cons_zero, List.set_cons_succ, List.reduceReplicate, Nat.reduceSub, Nat.reduceAdd, Nat.zero_add, Int.toNat_natCast, Bool.not_true, Bool.not_false, decide_true, decide_false, if_true, if_false]
      refine Res.ok_bind ((s_great (h := h4) (N := n) (b := b + 7 * (ss.length - (k + 1))) F4 (by omega)).mono fun r h5 q => ?_)
      obtain ⟨v, rfl, v0, F5, t5⟩ := q
      simp (config := { implicitDefEqProofs := false }) only [Vm.evF, Vm.evSs, Vm.evS, Vm.evX, Vm.evE, Vm.evEs, Vm.evIt, Vm.evPt, Vm.Res.bind_assoc, Vm.Res.bind_ok, Vm.Res.Ok_ok, Vm.bindT, Vm.setAll, Vm.boolOf, Vm.isNon, Vm.b_add, Vm.b_sub, Vm.a_add, Vm.c_eq, Vm.c_ne, Vm.c_lt, Vm.c_le, Vm.c_gt, Vm.c_ge, Vm.Bf_len, Vm.Bf_sum, Vm.Bf_min2, Vm.wipeE, Vm.Tg.slots, Vm.lcTurn, Vm.forTurn, List.map_cons, List.map_nil, List.length_cons, List.length_nil, List.length_map, List.cons_append, List.nil_append, List.getElem?_cons_zero, List.getElem?_cons_succ, List.set_cons_zero, List.set_cons_succ, List.reduceReplicate, Nat.reduceSub, Nat.reduceAdd, Nat.zero_add, Int.toNat_natCast, Bool.not_true, Bool.not_false, decide_true, decide_false, if_true, if_false, newT_ok (h := h5) (xs := [PV.int 1, .int (1 + d), .int (1 + v)]) (by simp)]
      have e5 : h5[a]? = some (.lst (ss.map PV.int)) := t5.get na (t4.get na e3)
      refine Res.ok_bind ((for_inv (xs := ([1, 1 + d, 1 + v] : List Int).map PV.int) (Q := fun o h6 => ∃ u7, o = .nx [some (.ref f), some (tw ws), some (.ref a), some (.int s), none, none, none, u7, none] ∧ Ext h5 h6)
        (fun k ev1 h6 => ∃ u7, ev1 = [some (.ref f), some (tw ws), some (.ref a), some (.int s), none, none, none, u7, none] ∧ Ext h5 h6)
        (fun _ _ _ _ => rfl) (fun k2 x ev1 h6 e j => ?_) (fun ev1 h6 j => by obtain ⟨u, rfl, x⟩ := j; exact ⟨u, rfl, x⟩) _ 0 _ h5 (by simp [Src.fuel]) (Nat.zero_le _) ⟨_, rfl, Ext.refl _⟩).mono fun o h6 q => ?_)
      · obtain ⟨u, rfl, x6⟩ := j
        rw [List.getElem?_map] at e
        cases ej : ([1, 1 + d, 1 + v] : List Int)[k2]? with
        | none => rw [ej] at e; cases e
        | some j =>
          rw [ej] at e
          cases e
          have hj : 1 ≤ j := by
            have := List.mem_of_getElem? ej
            simp at this
            omega
          simp (config := { implicitDefEqProofs := false }) only [Vm.evF, Vm.evSs, Vm.evS, Vm.evX, Vm.evE, Vm.evEs, Vm.evIt, Vm.evPt, Vm.Res.bind_assoc, Vm.Res.bind_ok, Vm.Res.Ok_ok, Vm.bindT, Vm.setAll, Vm.boolOf, Vm.isNon, Vm.b_add, Vm.b_sub, Vm.a_add, Vm.c_eq, Vm.c_ne, Vm.c_lt, Vm.c_le, Vm.c_gt, Vm.c_ge, Vm.Bf_len, Vm.Bf_sum, Vm.Bf_min2, Vm.wipeE, Vm.Tg.slots, Vm.lcTurn, Vm.forTurn, List.map_cons, List.map_nil, List.length_cons, List.length_nil, List.length_map, List.cons_append, List.nil_append, List.getElem?_cons_zero, List.getElem?_cons_succ, List.set_cons_zero, List.set_cons_succ, List.reduceReplicate, Nat.reduceSub, Nat.reduceAdd, Nat.zero_add, Int.toNat_natCast, Bool.not_true, Bool.not_false, decide_true, decide_false, if_true, if_false]
          refine Res.ok_bind ((s_there (h := h6) (N := n) g (by omega) q0 q1 hj).mono fun r h7 q => ?_)
          obtain ⟨rfl, x7⟩ := q
          simp (config := { implicitDefEqProofs := false }) only [Vm.evF, Vm.evSs, Vm.evS, Vm.evX, Vm.evE, Vm.evEs, Vm.evIt, Vm.evPt, Vm.Res.bind_assoc, Vm.Res.bind_ok, Vm.Res.Ok_ok, Vm.bindT, Vm.setAll, Vm.boolOf, Vm.isNon, Vm.b_add, Vm.b_sub, Vm.a_add, Vm.c_eq, Vm.c_ne, Vm.c_lt, Vm.c_le, Vm.c_gt, Vm.c_ge, Vm.Bf_len, Vm.Bf_sum, Vm.Bf_min2, Vm.wipeE, Vm.Tg.slots, Vm.lcTurn, Vm.forTurn, List.map_cons, List.map_nil, List.length_cons, List.length_nil, List.length_map, List.cons_append, List.nil_append, List.getElem?_cons_zero, List.getElem?_cons_succ, List.set_cons_zero, List.set_cons_succ, List.reduceReplicate, Nat.reduceSub, Nat.reduceAdd, Nat.zero_add, Int.toNat_natCast, Bool.not_true, Bool.not_false, decide_true, decide_false, if_true, if_false]
          exact ⟨_, rfl, x6.trans x7⟩
      · obtain ⟨u, rfl, x6⟩ := q
        simp (config := { implicitDefEqProofs := false }) only [Vm.evF, Vm.evSs, Vm.evS, Vm.evX, Vm.evE, Vm.evEs, Vm.evIt, Vm.evPt, Vm.Res.bind_assoc, Vm.Res.bind_ok, Vm.Res.Ok_ok, Vm.bindT, Vm.setAll, Vm.boolOf, Vm.isNon, Vm.b_add, Vm.b_sub, Vm.a_add, Vm.c_eq, Vm.c_ne, Vm.c_lt, Vm.c_le, Vm.c_gt, Vm.c_ge, Vm.Bf_len, Vm.Bf_sum, Vm.Bf_min2, Vm.wipeE, Vm.Tg.slots, Vm.lcTurn, Vm.forTurn, List.map_cons, List.map_nil, List.length_cons, List.length_nil, List.length_map, List.cons_append, List.nil_append, List.getElem?_cons_zero, List.getElem?_cons_succ, List.set_cons_zero, List.set_cons_succ, List.reduceReplicate, Nat.reduceSub, Nat.reduceAdd, Nat.zero_add, Int.toNat_natCast, Bool.not_true, Bool.not_false, decide_true, decide_false, if_true, if_false]
        exact ⟨_, _, rfl, x6.get e5, F5.ext x6, t3.trans (t4.trans (t5.trans (But.of x6)))⟩
  · obtain ⟨u3, u7, rfl, e3, F3, t3⟩ := j
    exact ⟨u3, u7, rfl, F3.le (by omega), t3⟩
  · obtain ⟨u3, u7, rfl, F3, t3⟩ := q
    simp (config := { implicitDefEqProofs := false }) only [Vm.evF, Vm.evSs, Vm.evS, Vm.evX, Vm.evE, Vm.evEs, Vm.evIt, Vm.evPt, Vm.Res.bind_assoc, Vm.Res.bind_ok, Vm.Res.Ok_ok, Vm.bindT, Vm.setAll, Vm.boolOf, Vm.isNon, Vm.b_add, Vm.b_sub, Vm.a_add, Vm.c_eq, Vm.c_ne, Vm.c_lt, Vm.c_le, Vm.c_gt, Vm.c_ge, Vm.Bf_len, Vm.Bf_sum, Vm.Bf_min2, Vm.wipeE, Vm.Tg.slots, Vm.lcTurn, Vm.forTurn, List.map_cons, List.map_nil, List.length_cons, List.length_nil, List.length_map, List.cons_append, List.nil_append, List.getElem?_cons_zero, List.getElem?_cons_succ, List.set_cons_zero, List.set_cons_succ, List.reduceReplicate, Nat.reduceSub, Nat.reduceAdd, Nat.zero_add, Int.toNat_natCast, Bool.not_true, Bool.not_false, decide_true, decide_false, if_true, if_false]
    refine Res.ok_bind ((s_round (g := g) (h := h3) (N := n) (by omega)).mono fun r h4 q => ?_)
    obtain ⟨rfl, x4⟩ := q
    simp (config := { implicitDefEqProofs := false }) only [Vm.evF, Vm.evSs, Vm.evS, Vm.evX, Vm.evE, Vm.evEs, Vm.evIt, Vm.evPt, Vm.Res.bind_assoc, Vm.Res.bind_ok, Vm.Res.Ok_ok, Vm.bindT, Vm.setAll, Vm.boolOf, Vm.isNon, Vm.b_add, Vm.b_sub, Vm.a_add, Vm.c_eq, Vm.c_ne, Vm.c_lt, Vm.c_le, Vm.c_gt, Vm.c_ge, Vm.Bf_len, Vm.Bf_sum, Vm.Bf_min2, Vm.wipeE, Vm.Tg.slots, Vm.lcTurn, Vm.forTurn, List.map_cons, List.map_nil, List.length_cons, List.length_nil, List.length_map, List.cons_append, List.nil_append, List.getElem?_cons_zero, List.getElem?_cons_succ, List.set_cons_zero, List.set_cons_succ, List.reduceReplicate, Nat.reduceSub, Nat.reduceAdd, Nat.zero_add, Int.toNat_natCast, Bool.not_true, Bool.not_false, decide_true, decide_false, if_true, if_false]
    refine Res.ok_bind ((lc_pure (xs := ws.map PV.int) (h0 := h4) (fun _ => some (.int 0)) get_items (by simp [Src.fuel]) (by rw [List.length_map]; omega) (fun k x h5 e x5 => ?_)).mono fun acc h5 q => ?_)
    · refine Res.calm_of ?_
      simp (config := { implicitDefEqProofs := false }) only [Vm.evF, Vm.evSs, Vm.evS, Vm.evX, Vm.evE, Vm.evEs, Vm.evIt, Vm.evPt, Vm.Res.bind_assoc, Vm.Res.bind_ok, Vm.Res.Ok_ok, Vm.bindT, Vm.setAll, Vm.boolOf, Vm.isNon, Vm.b_add, Vm.b_sub, Vm.a_add, Vm.c_eq, Vm.c_ne, Vm.c_lt, Vm.c_le, Vm.c_gt, Vm.c_ge, Vm.Bf_len, Vm.Bf_sum, Vm.Bf_min2, Vm.wipeE, Vm.Tg.slots, Vm.lcTurn, Vm.forTurn, List.map_cons, List.map_nil, List.length_cons, List.length_nil, List.length_map, List.cons_append, List.nil_append, List.getElem?_cons_zero, List.getElem?_cons_succ, List.set_cons_zero, List.set_cons_succ, List.reduceReplicate, Nat.reduceSub, Nat.reduceAdd, Nat.zero_add, Int.toNat_natCast, Bool.not_true, Bool.not_false, decide_true, decide_false, if_true, if_false]
      exact ⟨trivial, x5⟩
    · obtain ⟨rfl, x5⟩ := q
      rw [fm_zero]
      have wr := round_whole g
      have e6 : (h5 ++ [HV.lst ((List.replicate ws.length (0 : Int)).map PV.int)])[h5.length]? = some (.lst ((List.replicate ws.length (0 : Int)).map PV.int)) := at_end _ _
      have x6 : Ext h3 (h5 ++ [HV.lst ((List.replicate ws.length (0 : Int)).map PV.int)]) := x4.trans (x5.trans (Ext.app _ _))
      have bl : h.length ≤ h5.length := Nat.le_trans t3.1 (x4.trans x5).len
      have nb : h5.length ≠ f := by omega
      generalize h5 ++ [HV.lst ((List.replicate ws.length (0 : Int)).map PV.int)] = h6 at e6 x6
      generalize hmn : (if (12 : Int) < ((roundL ws).length : Int) then (12 : Int) else ((roundL ws).length : Int)) = mn
      have mn0 : 0 ≤ mn ∧ mn ≤ 12 ∧ mn ≤ (roundL ws).length := by
        rw [← hmn]
        split <;> omega
      rw [rng_if (by omega) (by omega)]
      simp (config := { implicitDefEqProofs := false }) only [Vm.evF, Vm.evSs, Vm.evS, Vm.evX, Vm.evE, Vm.evEs, Vm.evIt, Vm.evPt, Vm.Res.bind_assoc, Vm.Res.bind_ok, Vm.Res.Ok_ok, Vm.bindT, Vm.setAll, Vm.boolOf, Vm.isNon, Vm.b_add, Vm.b_sub, Vm.a_add, Vm.c_eq, Vm.c_ne, Vm.c_lt, Vm.c_le, Vm.c_gt, Vm.c_ge, Vm.Bf_len, Vm.Bf_sum, Vm.Bf_min2, Vm.wipeE, Vm.Tg.slots, Vm.lcTurn, Vm.forTurn, List.map_cons, List.map_nil, List.length_cons, List.length_nil, List.length_map, List.cons_append, List.nil_append, List.getElem?_cons_zero, List.getElem?_cons_succ, List.set_cons_zero, List.set_cons_succ, List.reduceReplicate, Nat.reduceSub, Nat.reduceAdd, Nat.zero_add, Int.toNat_natCast, Bool.not_true, Bool.not_false, decide_true, decide_false, if_true, if_false]
      refine Res.ok_bind ((for_inv (xs := rngs 0 mn.toNat) (Q := fun o h7 => ∃ ev2, o = .nx ev2 ∧ Feed h7 f b ∧ But f h h7)
        (fun k ev1 h7 => ∃ (u2 u3 u6 u7 : Option PV) (us : List Int), ev1 = [some (.ref f), some (tw ws), u2, u3, some (tw (roundL ws)), some (.ref h5.length), u6, u7, none] ∧ us.length = ws.length ∧ (∀ s : Int, 0 ≤ s → s < ws.length → us.getD s.toNat 0 = (((roundL ws).take k).count s : Nat)) ∧ h7[h5.length]? = some (.lst (us.map PV.int)) ∧ Feed h7 f b ∧ But f h h7)
        (fun _ _ _ _ => rfl) (fun k x ev1 h7 e j => ?_) (fun ev1 h7 j => ?_) _ 0 _ h6 (by simp [Src.fuel]) (Nat.zero_le _) ⟨_, _, _, _, List.replicate ws.length 0, rfl, by simp, (fun s _ _ => by rw [rep_getD]; simp), e6, F3.ext x6, t3.trans (But.of x6)⟩).mono fun o h7 q => ?_)
      · obtain ⟨hk, rfl⟩ := rngs0_at e
        obtain ⟨u2, u3, u6, u7, us, rfl, ul, uc, e7, F7, t7⟩ := j
        have kl : k < (roundL ws).length := by omega
        have er : (roundL ws)[k]? = some (roundL ws)[k] := List.getElem?_eq_getElem kl
        have dm := wr.mem _ (List.getElem_mem kl)
        generalize hd : (roundL ws)[k] = d at er dm
        obtain ⟨d0, d1⟩ := dm
        have e8 : ((roundL ws).map PV.int)[((k : Nat) : Int).toNat]? = some (.int d) := by rw [Int.toNat_natCast, List.getElem?_map, er]; rfl
        have p7 := putF_ok' (h := h7) (a := h5.length) (j := d) (v := .int (us.getD d.toNat 0 + 1)) e7 d0 (by rw [List.length_map]; omega)
        have dl : d.toNat < us.length := by omega
        have e9 : (h7.set h5.length (.lst ((us.map PV.int).set d.toNat (.int (us.getD d.toNat 0 + 1)))))[h5.length]? = some (.lst ((us.set d.toNat (us.getD d.toNat 0 + 1)).map PV.int)) := by rw [set_same e7, map_set]
        have F9 : Feed (h7.set h5.length (.lst ((us.map PV.int).set d.toNat (.int (us.getD d.toNat 0 + 1))))) f b := by
          rw [map_set]
          exact F7.setN nb ⟨us, e7⟩
        have t9 : But f h (h7.set h5.length (.lst ((us.map PV.int).set d.toNat (.int (us.getD d.toNat 0 + 1))))) := t7.setN bl
        have ix1 : ∀ h', ixF (tw (roundL ws)) (.int (k : Nat)) h' = .ok (.int d) h' := fun h' => ixF_rd rfl (by omega) e8
        simp (config := { implicitDefEqProofs := false }) only [Vm.evF, Vm.evSs, Vm.evS, Vm.evX, Vm.evE, Vm.evEs, Vm.evIt, Vm.evPt, Vm.Res.bind_assoc, Vm.Res.bind_ok, Vm.Res.Ok_ok, Vm.bindT, Vm.setAll, Vm.boolOf, Vm.isNon, Vm.b_add, Vm.b_sub, Vm.a_add, Vm.c_eq, Vm.c_ne, Vm.c_lt, Vm.c_le, Vm.c_gt, Vm.c_ge, Vm.Bf_len, Vm.Bf_sum, Vm.Bf_min2, Vm.wipeE, Vm.Tg.slots, Vm.lcTurn, Vm.forTurn, List.map_cons, List.map_nil, List.length_cons, List.length_nil, List.length_map, List.cons_append, List.nil_append, List.getElem?_cons_zero, List.getElem?_cons_succ, List.set_cons_zero, List.set_cons_succ, List.reduceReplicate, Nat.reduceSub, Nat.reduceAdd, Nat.zero_add, Int.toNat_natCast, Bool.not_true, Bool.not_false, decide_true, decide_false, if_true, if_false, ix1, ixF_ref (h := h7) (a := h5.length) (s := d) e7 d0 (by omega), p7]
        generalize h7.set h5.length (.lst ((us.map PV.int).set d.toNat (.int (us.getD d.toNat 0 + 1)))) = h8 at e9 F9 t9
        have uset : (us.set d.toNat (us.getD d.toNat 0 + 1)).getD d.toNat 0 = us.getD d.toNat 0 + 1 := by rw [getD_set dl, if_pos rfl]
        have ud : us.getD d.toNat 0 + 1 = (((roundL ws).take (k + 1)).count d : Nat) := by
          rw [uc d d0 d1, take_cnt kl, if_pos er]
          omega
        simp (config := { implicitDefEqProofs := false }) only [Vm.evF, Vm.evSs, Vm.evS, Vm.evX, Vm.evE, Vm.evEs, Vm.evIt, Vm.evPt, Vm.Res.bind_assoc, Vm.Res.bind_ok, Vm.Res.Ok_ok, Vm.bindT, Vm.setAll, Vm.boolOf, Vm.isNon, Vm.b_add, Vm.b_sub, Vm.a_add, Vm.c_eq, Vm.c_ne, Vm.c_lt, Vm.c_le, Vm.c_gt, Vm.c_ge, Vm.Bf_len, Vm.Bf_sum, Vm.Bf_min2, Vm.wipeE, Vm.Tg.slots, Vm.lcTurn, Vm.forTurn, List.map_cons, List.map_nil, List.length_cons, List.length_nil, List.length_map, List.cons_append, List.nil_append, List.getElem?_cons_zero, List.getElem?_cons_succ, List.set_cons_zero, List.set_cons_succ, List.reduceReplicate, Nat.reduceSub, Nat.reduceAdd, Nat.zero_add, Int.toNat_natCast, Bool.not_true, Bool.not_false, decide_true, decide_false, if_true, if_false, ix1, ixF_ref (h := h8) (a := h5.length) (s := d) e9 d0 (by rw [List.length_set]; omega), uset]
        refine Res.ok_bind ((s_nth (h := h8) (N := n) (s := d) (j := us.getD d.toNat 0 + 1) g (by omega) d0 d1 (by rw [uc d d0 d1]; omega)).mono fun r h10 q => ?_)
        obtain ⟨rfl, x10⟩ := q
        have en : nth ws d (us.getD d.toNat 0 + 1) = (k : Nat) := by
          rw [ud]
          exact nth_small g d0 d1 er
        simp (config := { implicitDefEqProofs := false }) only [Vm.evF, Vm.evSs, Vm.evS, Vm.evX, Vm.evE, Vm.evEs, Vm.evIt, Vm.evPt, Vm.Res.bind_assoc, Vm.Res.bind_ok, Vm.Res.Ok_ok, Vm.bindT, Vm.setAll, Vm.boolOf, Vm.isNon, Vm.b_add, Vm.b_sub, Vm.a_add, Vm.c_eq, Vm.c_ne, Vm.c_lt, Vm.c_le, Vm.c_gt, Vm.c_ge, Vm.Bf_len, Vm.Bf_sum, Vm.Bf_min2, Vm.wipeE, Vm.Tg.slots, Vm.lcTurn, Vm.forTurn, List.map_cons, List.map_nil, List.length_cons, List.length_nil, List.length_map, List.cons_append, List.nil_append, List.getElem?_cons_zero, List.getElem?_cons_succ, List.set_cons_zero, List.set_cons_succ, List.reduceReplicate, Nat.reduceSub, Nat.reduceAdd, Nat.zero_add, Int.toNat_natCast, Bool.not_true, Bool.not_false, decide_true, decide_false, if_true, if_false, en]
        refine ⟨_, _, _, _, us.set d.toNat (us.getD d.toNat 0 + 1), rfl, by rw [List.length_set]; exact ul, fun s s0 s1 => ?_, x10.get e9, F9.ext x10, t9.trans (But.of x10)⟩
        rw [getD_set dl, take_cnt kl]
        by_cases es : d.toNat = s.toNat
        · have : d = s := by omega
          subst this
          rw [if_pos rfl, if_pos er, uc d d0 d1]
          omega
        · rw [if_neg es, if_neg (fun z => es (by rw [er] at z; cases z; rfl)), uc s s0 s1]
          omega
      · obtain ⟨u2, u3, u6, u7, us, rfl, _, _, _, F7, t7⟩ := j
        exact ⟨_, rfl, F7, t7⟩
      · obtain ⟨ev2, rfl, F7, t7⟩ := q
        simp (config := { implicitDefEqProofs := false }) only [Vm.evF, Vm.evSs, Vm.evS, Vm.evX, Vm.evE, Vm.evEs, Vm.evIt, Vm.evPt, Vm.Res.bind_assoc, Vm.Res.bind_ok, Vm.Res.Ok_ok, Vm.bindT, Vm.setAll, Vm.boolOf, Vm.isNon, Vm.b_add, Vm.b_sub, Vm.a_add, Vm.c_eq, Vm.c_ne, Vm.c_lt, Vm.c_le, Vm.c_gt, Vm.c_ge, Vm.Bf_len, Vm.Bf_sum, Vm.Bf_min2, Vm.wipeE, Vm.Tg.slots, Vm.lcTurn, Vm.forTurn, List.map_cons, List.map_nil, List.length_cons, List.length_nil, List.length_map, List.cons_append, List.nil_append, List.getElem?_cons_zero, List.getElem?_cons_succ, List.set_cons_zero, List.set_cons_succ, List.reduceReplicate, Nat.reduceSub, Nat.reduceAdd, Nat.zero_add, Int.toNat_natCast, Bool.not_true, Bool.not_false, decide_true, decide_false, if_true, if_false]
        exact ⟨trivial, F7, t7⟩
theorem s_feed {ns : List Int} (hl : ns.length ≤ 63) (hN : 1 ≤ N) : (sem Bf ds N 14 [.fl (ns.map PV.int)] []).Ok fun r h1 => ∃ f, r = .ref f ∧ Feed h1 f 400 := by
      obtain ⟨n, rfl, k⟩ := pre hN (by decide)
      rw [sem_at (d := d__law_feed) (L := 1) (b := b__law_feed) rfl rfl rfl]
      have ec : ∀ lo hi, ∃ cs : List Int, cutP (ns.map PV.int) lo hi = cs.map PV.int ∧ cs.length ≤ 63 := fun lo hi => by
        refine ⟨(ns.drop (HT.sIx (ns.map PV.int).length 0 lo)).take (HT.sIx (ns.map PV.int).length (ns.map PV.int).length hi - HT.sIx (ns.map PV.int).length 0 lo), ?_, ?_⟩
        · unfold cutP
          rw [← List.map_drop, ← List.map_take]
        · rw [List.length_take, List.length_drop]
          omega
      obtain ⟨cs, e1, e2⟩ := ec none (some 63)
      simp (config := { implicitDefEqProofs := false }) only [Vm.evF, Vm.evSs, Vm.evS, Vm.evX, Vm.evE, Vm.evEs, Vm.evIt, Vm.evPt, Vm.Res.bind_assoc, Vm.Res.bind_ok, Vm.Res.Ok_ok, Vm.bindT, Vm.setAll, Vm.boolOf, Vm.isNon, Vm.b_add, Vm.b_sub, Vm.a_add, Vm.c_eq, Vm.c_ne, Vm.c_lt, Vm.c_le, Vm.c_gt, Vm.c_ge, Vm.Bf_len, Vm.Bf_sum, Vm.Bf_min2, Vm.wipeE, Vm.Tg.slots, Vm.lcTurn, Vm.forTurn, List.map_cons, List.map_nil, List.length_cons, List.length_nil, List.length_map, List.cons_append, List.nil_append, List.getElem?_cons_zero, List.getElem?_cons_succ, List.set_cons_zero, List.set_cons_succ, List.reduceReplicate, Nat.reduceSub, Nat.reduceAdd, Nat.zero_add, Int.toNat_natCast, Bool.not_true, Bool.not_false, decide_true, decide_false, if_true, if_false, b__law_feed, slcF, e1, new_ok (h := []) (xs := cs.map PV.int) (by rw [List.length_map]; omega), new_ok (h := [HV.lst (cs.map PV.int)]) (xs := [PV.ref 0, .int 0, .int 0, .int 0]) (by simp)]
      exact ⟨_, rfl, ⟨0, cs, 0, 0, 0, by simp, rfl, rfl, by decide, by omega⟩⟩
theorem s_law {ns : List Int} (hl : ns.length ≤ 63) (hN : 11 ≤ N) : (sem Bf ds N 0 [.fl (ns.map PV.int)] []).Ok fun r _ => r = .bl true := by
    obtain ⟨n, rfl, k⟩ := pre hN (by decide)
    rw [sem_at (d := d_law) (L := 2) (b := b_law) rfl rfl rfl]
    simp (config := { implicitDefEqProofs := false }) only [Vm.evF, Vm.evSs, Vm.evS, Vm.evX, Vm.evE, Vm.evEs, Vm.evIt, Vm.evPt, Vm.Res.bind_assoc, Vm.Res.bind_ok, Vm.Res.Ok_ok, Vm.bindT, Vm.setAll, Vm.boolOf, Vm.isNon, Vm.b_add, Vm.b_sub, Vm.a_add, Vm.c_eq, Vm.c_ne, Vm.c_lt, Vm.c_le, Vm.c_gt, Vm.c_ge, Vm.Bf_len, Vm.Bf_sum, Vm.Bf_min2, Vm.wipeE, Vm.Tg.slots, Vm.lcTurn, Vm.forTurn, List.map_cons, List.map_nil, List.length_cons, List.length_nil, List.length_map, List.cons_append, List.nil_append, List.getElem?_cons_zero, List.getElem?_cons_succ, List.set_cons_zero, List.set_cons_succ, List.reduceReplicate, Nat.reduceSub, Nat.reduceAdd, Nat.zero_add, Int.toNat_natCast, Bool.not_true, Bool.not_false, decide_true, decide_false, if_true, if_false, b_law]
    refine Res.ok_bind ((s_feed hl (by omega)).mono fun r h1 q => ?_)
    obtain ⟨f, rfl, F1⟩ := q
    refine Res.ok_bind ((s_weights (h := h1) (N := n) (b := 300) (F1.le (by omega)) (by omega)).mono fun r h2 q => ?_)
    obtain ⟨ws, rfl, g, F2, _⟩ := q
    refine Res.ok_bind ((s_right (h := h2) (N := n) (b := 200) g (F2.le (by omega)) (by omega)).mono fun r h3 q => ?_)
    obtain ⟨rfl, F3, _⟩ := q
    simp (config := { implicitDefEqProofs := false }) only [Vm.evF, Vm.evSs, Vm.evS, Vm.evX, Vm.evE, Vm.evEs, Vm.evIt, Vm.evPt, Vm.Res.bind_assoc, Vm.Res.bind_ok, Vm.Res.Ok_ok, Vm.bindT, Vm.setAll, Vm.boolOf, Vm.isNon, Vm.b_add, Vm.b_sub, Vm.a_add, Vm.c_eq, Vm.c_ne, Vm.c_lt, Vm.c_le, Vm.c_gt, Vm.c_ge, Vm.Bf_len, Vm.Bf_sum, Vm.Bf_min2, Vm.wipeE, Vm.Tg.slots, Vm.lcTurn, Vm.forTurn, List.map_cons, List.map_nil, List.length_cons, List.length_nil, List.length_map, List.cons_append, List.nil_append, List.getElem?_cons_zero, List.getElem?_cons_succ, List.set_cons_zero, List.set_cons_succ, List.reduceReplicate, Nat.reduceSub, Nat.reduceAdd, Nat.zero_add, Int.toNat_natCast, Bool.not_true, Bool.not_false, decide_true, decide_false, if_true, if_false]
    refine Res.ok_bind ((s_weights (h := h3) (N := n) (b := 100) (F3.le (by omega)) (by omega)).mono fun r h4 q => ?_)
    obtain ⟨ws, rfl, g, F4, _⟩ := q
    refine Res.ok_bind ((s_right (h := h4) (N := n) (b := 0) g (F4.le (by omega)) (by omega)).mono fun r h5 q => ?_)
    obtain ⟨rfl, F5, _⟩ := q
    rfl
theorem main (ns : List Int) (hl : ns.length ≤ 63) : ∃ h', sem Bf ds 12 0 [.fl (ns.map PV.int)] [] = .ok (.bl true) h' := by
  obtain ⟨r, h', e, rfl⟩ := (s_law (N := 12) hl (by omega)).get
  exact ⟨h', e⟩
end
end K26

set_option Elab.async false
set_option linter.all false
set_option maxRecDepth 100000
set_option maxHeartbeats 0
namespace K26
open PySem PySem.Spec PyProof.Rows L2 Vm
/-! ### the head -/
abbrev hk : PySem.W.Hook := He.hookD 4 (faOf ds) (ds.map ddOf)
def ob (s : PySem.W.SharedT) : He.AlD := He.obsDG 4 (faOf ds) (ds.map ddOf) (HandSHeadRun.getT s)
theorem ob_eq (s : PySem.W.SharedT) : ob s = hk.obs s.abs := He.obsDG_eq (HandSHeadRun.getT_eq s)
abbrev Rw : PySem.W.OpenRow := PySem.W.OpenLaw.row PySem.Challenge.rw_almsrow_k26_whole_turns_there_and_back
abbrev loose : List Str := ["AlmsError", "NoSeat", "NoTurn", "first_of", "last_of", "is_seat", "need_seat", "need_number", "rounded_up", "round_of", "_due_seat", "seat_of", "how_many", "nth_turn", "next_turn", "_places", "_law_feed", "_law_draw", "_law_weights", "_law_great", "_law_there", "_law_right"]
theorem run (w : World) : HandSHeadRun.RunEq Rw (PySem.W.view Rw.prog [27]) hk ob 8000 loose w := by
  intro os
  kernel_rfl
end K26
open PySem PySem.W PySem.Calls PyProof.Rows
theorem PySem.Challenge.cw_almsrow_k26_whole_turns_there_and_back_holds : PySem.Challenge.rw_almsrow_k26_whole_turns_there_and_back.Holds := by
  w_on; o_law
  refine HandSHeadRun.head_any (r := OpenLaw.row PySem.Challenge.rw_almsrow_k26_whole_turns_there_and_back) (q := view (OpenLaw.row PySem.Challenge.rw_almsrow_k26_whole_turns_there_and_back).prog [27]) (H := K26.hk) (ob := K26.ob) (M := 8000) (loose := K26.loose) (d := HandSHeadRun.topDef (OpenLaw.row PySem.Challenge.rw_almsrow_k26_whole_turns_there_and_back).prog 27) (kwd := []) K26.ob_eq
    (by kernel_rfl) (fun s => by kernel_rfl) K26.run (by kernel_rfl) (by kernel_rfl) (by kernel_rfl) (by rfl) (by first | assumption | decide +kernel) (by decide +kernel) ⟨rfl, rfl, rfl, rfl, rfl, by decide +kernel⟩ ?hw ?hc
  case hw => w_witness2
  case hc =>
    refine L2.walk_ofE (l := PySem.Challenge.rw_almsrow_k26_whole_turns_there_and_back) (n := 63) (k := 12) (x := "_law_script") (CX := L2.CX0) rfl (by decide) (by kernel_rfl) ⟨rfl, by decide, by decide⟩ ?F (fun _ _ _ _ z => z)
    intro w mg fa h Y G hmg0
    obtain ⟨K, KX, c⟩ := Y
    have hmg : mg ("law" : PySem.Str) = some (.ref fa) := by
      have e : (HandSHeadRun.topDef (OpenLaw.row PySem.Challenge.rw_almsrow_k26_whole_turns_there_and_back).prog 27).name = ("law" : PySem.Str) := by kernel_rfl
      rw [← e]
      exact hmg0
    obtain ⟨f, fd, S⟩ := Vm.stand_of KX G c K26.bds
    have e := hmg.symm.trans (S.gl 0 K26.d_law rfl)
    cases e
    exact ⟨K, fd 0, _, KX, fun s u => L2.FunD.bindsA (ps := ["_law_script"]) (S.at' 0 K26.d_law rfl) (fun _ _ _ _ _ _ us hl => match us, hl with | [_], _ => rfl) s [u] rfl, fun H a ns hl hO hS => Vm.end_of hO hS (K26.main ns hl), fun base _ _ => Vm.sem_ok S Vm.hBi K26.chk 12 0 _ rfl⟩

