import PyProof.Rows.All
import Wide.All
import OpenK.AllK
import Wide.FinOn
import HandS.ForMost
import HandS.Wide
import HandS.IsInst
import HandS.Style
import HandS.Flow
import HandS.TupAny
import HandS.TupMul
import HandS.Deep
import HandS.SortInts
import HandS.Zip
import HandS.Strs
import KE.IntBitsLaws
import HandS.More
import HandS.HeadHook3
import KE.KEqDict
import HandS.Walk
import KE.GoesEnum
import KE.GoesZip
import HandS.Words
import HandS.RaiseMore
import PyProof.ReprRoads
import HandS.SortRule
import HandS.Codes
import HandS.Ends
import PySem.Challenge.RW_pacebond_k68_seams_told
set_option Elab.async false
set_option linter.all false
set_option maxRecDepth 100000
set_option Elab.async false
set_option linter.all false
set_option maxRecDepth 100000
/-! A small evaluator over plain data, by hand. -/
namespace PI
open PySem

/-! ### data -/
mutual
def beqD : PyData → PyData → Bool
  | .none, .none => true
  | .bool a, .bool b => a == b
  | .int a, .int b => decide (a = b)
  | .str a, .str b => decide (a = b)
  | .list a, .list b => beqL a b
  | .tuple a, .tuple b => beqL a b
  | .dict a, .dict b => beqK a b
  | _, _ => false
def beqL : List PyData → List PyData → Bool
  | [], [] => true
  | a :: r, b :: s => beqD a b && beqL r s
  | _, _ => false
def beqK : List (PyData × PyData) → List (PyData × PyData) → Bool
  | [], [] => true
  | (a, x) :: r, (b, y) :: s => beqD a b && beqD x y && beqK r s
  | _, _ => false
end
mutual
theorem beqD_eq : ∀ a b, beqD a b = true → a = b
  | .none, b, h => by cases b <;> simp_all [beqD]
  | .bool a, b, h => by cases b <;> simp_all [beqD]
  | .int a, b, h => by cases b <;> simp_all [beqD]
  | .str a, b, h => by cases b <;> simp_all [beqD]
  | .list a, b, h => by
    cases b with
    | list b => rw [beqL_eq a b (by simpa [beqD] using h)]
    | _ => simp [beqD] at h
  | .tuple a, b, h => by
    cases b with
    | tuple b => rw [beqL_eq a b (by simpa [beqD] using h)]
    | _ => simp [beqD] at h
  | .dict a, b, h => by
    cases b with
    | dict b => rw [beqK_eq a b (by simpa [beqD] using h)]
    | _ => simp [beqD] at h
theorem beqL_eq : ∀ a b, beqL a b = true → a = b
  | [], b, h => by cases b <;> simp_all [beqL]
  | x :: r, b, h => by
    cases b with
    | nil => simp [beqL] at h
    | cons y s =>
      simp only [beqL, Bool.and_eq_true] at h
      rw [beqD_eq x y h.1, beqL_eq r s h.2]
theorem beqK_eq : ∀ a b, beqK a b = true → a = b
  | [], b, h => by cases b <;> simp_all [beqK]
  | (k, x) :: r, b, h => by
    cases b with
    | nil => simp [beqK] at h
    | cons y s =>
      obtain ⟨l, y⟩ := y
      simp only [beqK, Bool.and_eq_true] at h
      rw [beqD_eq k l h.1.1, beqD_eq x y h.1.2, beqK_eq r s h.2]
end
mutual
theorem beqD_rfl : ∀ a, beqD a a = true
  | .none => rfl
  | .bool a => by simp [beqD]
  | .int a => by simp [beqD]
  | .str a => by simp [beqD]
  | .list a => by simp [beqD, beqL_rfl a]
  | .tuple a => by simp [beqD, beqL_rfl a]
  | .dict a => by simp [beqD, beqK_rfl a]
theorem beqL_rfl : ∀ a, beqL a a = true
  | [] => rfl
  | x :: r => by simp [beqL, beqD_rfl x, beqL_rfl r]
theorem beqK_rfl : ∀ a, beqK a a = true
  | [] => rfl
  | (k, x) :: r => by simp [beqK, beqD_rfl k, beqD_rfl x, beqK_rfl r]
end
instance : DecidableEq PyData := fun a b =>
  if h : beqD a b = true then .isTrue (beqD_eq a b h) else .isFalse fun e => h (e ▸ beqD_rfl a)
instance : Inhabited PyData := ⟨.none⟩

/-- a value of a slot: data, a changing object, a def -/
inductive U where
  | d (x : PyData) | o (n : Nat) | f (n : Nat) | s (ns : List Int)
  /-- a written dict of defs, of data -/
  | t (kvs : List (Str × Nat)) | td (kvs : List (Str × PyData))
  deriving DecidableEq, Inhabited
/-- what stands in the store -/
inductive Ob where
  | dead | lst (us : List U) | dic (kvs : List (L2.Key × U))
  deriving DecidableEq, Inhabited
abbrev Sto := List Ob
abbrev Ev := List (Option U)
/-- an outcome -/
inductive O (α : Type) where
  | ok (a : α) (st : Sto) | bad
def O.bind {α β : Type} : O α → (α → Sto → O β) → O β
  | .ok a st, f => f a st
  | .bad, _ => .bad
def O.of {α : Type} : Option α → Sto → O α
  | some a, st => .ok a st
  | none, _ => .bad

def U.dat : U → Option PyData
  | .d x => some x
  | _ => none
def usD : List U → Option (List PyData)
  | [] => some []
  | .d x :: r => (usD r).map (x :: ·)
  | _ :: _ => none
def kD : L2.Key → PyData
  | .inl i => .int i
  | .inr x => .str x
def keyD : PyData → Option L2.Key
  | .int i => some (.inl i)
  | .str x => some (.inr x)
  | _ => none
def kvD : List (L2.Key × U) → Option (List (PyData × PyData))
  | [] => some []
  | (k, .d x) :: r => (kvD r).map ((kD k, x) :: ·)
  | _ :: _ => none
/-- what a value reads as -/
def vw (st : Sto) : U → Option PyData
  | .d x => some x
  | .o n => match st[n]? with
    | some (.lst us) => (usD us).map .list
    | some (.dic kvs) => (kvD kvs).map .dict
    | _ => none
  | .s ns => some (.list (ns.map .int))
  | _ => none
/-- .. the script aside -/
def vt (st : Sto) : U → Option PyData
  | .s _ => none
  | u => vw st u
def vws (st : Sto) : List U → Option (List PyData)
  | [] => some []
  | u :: r => match vw st u, vws st r with
    | some x, some xs => some (x :: xs)
    | _, _ => none

/-! ### operators -/
inductive Bop where | add | sub | mul | div | mod | pow
inductive Cop where | eq | ne | lt | le | gt | ge | isin | notin | is | isnot
inductive Ty where | int | bool | str | tup | lst | non | dic
  deriving DecidableEq
def tyD : PyData → Ty
  | .none => .non | .bool _ => .bool | .int _ => .int | .str _ => .str | .list _ => .lst | .tuple _ => .tup | .dict _ => .dic

def lim : Nat := 1000000
def rep {α : Type} (xs : List α) (k : Nat) : List α := (List.replicate k xs).flatten
/-- x op y, of data -/
def bopD : Bop → PyData → PyData → Option PyData
  | .add, .int i, .int j => some (.int (i + j))
  | .sub, .int i, .int j => some (.int (i - j))
  | .mul, .int i, .int j => if i.natAbs.log2 + j.natAbs.log2 < 1000000 then some (.int (i * j)) else none
  | .div, .int i, .int j => if 0 < j ∧ j.natAbs.log2 < 9000 then some (.int (i / j)) else none
  | .mod, .int i, .int j => if 0 < j then some (.int (i % j)) else none
  | .pow, .int i, .int j => if 0 ≤ j ∧ (Builtin.Int.intBits i : Int) * j ≤ 134217728 then some (.int (i ^ j.toNat)) else none
  | .add, .str x, .str y => if x.length + y.length ≤ lim then some (.str (x ++ y)) else none
  | .add, .tuple xs, .tuple ys => if xs.length + ys.length ≤ lim then some (.tuple (xs ++ ys)) else none
  | .add, .list xs, .list ys => if xs.length + ys.length ≤ lim then some (.list (xs ++ ys)) else none
  | .mul, .list xs, .int k => if 0 ≤ k ∧ k ≤ 1000 ∧ xs.length ≤ 1000 then some (.list (rep xs k.toNat)) else none
  | .mul, .tuple xs, .int k => if 0 ≤ k ∧ k ≤ 1000 ∧ xs.length ≤ 1000 ∧ xs ≠ [] then some (.tuple (rep xs k.toNat)) else none
  | _, _, _ => none
def strLt (x y : Str) : Bool := decide (x.cps.toList < y.cps.toList)
def flatD : PyData → Bool
  | .none => true | .bool _ => true | .int _ => true | .str _ => true | _ => false
/-- x in y -/
def inD (x y : PyData) : Option Bool := match y with
  | .list ds => if flatD x && ds.all flatD then some (ds.any fun z => PyData.eqv z x) else if SeqAt.shaped x && SeqAt.shaped (.list ds) then some (ds.any fun z => PyData.eqv z x) else none
  | .tuple ds => if flatD x && ds.all flatD then some (ds.any fun z => PyData.eqv z x) else none
  | .str z => match x with
    | .str c => if c.cps.size = 1 then some (decide (c.cps.getD 0 0 ∈ z.cps.toList)) else none
    | _ => none
  | _ => none
/-- x == y -/
def eqD (x y : PyData) : Option Bool :=
  if flatD x && flatD y then some (PyData.eqv x y)
  else match x, y with
    | .tuple xs, .tuple [] => some xs.isEmpty
    | .dict _, .str _ => some false
    | .list _, .str _ => some false
    | .tuple _, .str _ => some false
    | _, _ => if SeqAt.shaped x && SeqAt.shaped y then some (PyData.eqv x y) else none
def cmpD : Cop → PyData → PyData → Option Bool
  | .eq, x, y => eqD x y
  | .ne, x, y => if (flatD x && flatD y) || (SeqAt.shaped x && SeqAt.shaped y) then some (!PyData.eqv x y) else none
  | .lt, .int i, .int j => some (decide (i < j))
  | .le, .int i, .int j => some (decide (i ≤ j))
  | .gt, .int i, .int j => some (decide (j < i))
  | .ge, .int i, .int j => some (decide (j ≤ i))
  | .lt, .str x, .str y => some (strLt x y)
  | .le, .str x, .str y => some (!strLt y x)
  | .gt, .str x, .str y => some (strLt y x)
  | .ge, .str x, .str y => some (!strLt x y)
  | .isin, x, y => inD x y
  | .notin, x, y => (inD x y).map (!·)
  | .is, x, .none => some (decide (x = .none))
  | .isnot, x, .none => some (!decide (x = .none))
  | .is, .bool a, .bool b => some (decide (a = b))
  | .isnot, .bool a, .bool b => some (!decide (a = b))
  | _, _, _ => none
def truD : PyData → Option Bool
  | .none => some false
  | .bool b => some b
  | .int i => some (i != 0)
  | .str x => if x.length ≤ lim then some ((x.length : Int) != 0) else none
  | .list xs => some (!xs.isEmpty)
  | .tuple xs => some (!xs.isEmpty)
  | .dict kvs => some (!kvs.isEmpty)
def cutL {α : Type} (xs : List α) (lo hi : Option Int) : List α := (xs.drop (HT.sIx xs.length 0 lo)).take (HT.sIx xs.length xs.length hi - HT.sIx xs.length 0 lo)
/-! ### the text -/
inductive Pr where
  | len | abs | max2 | min2 | int | tuple | list | sorted | sum | all | any | repr | lenset
inductive Mt where
  | get1 | get2 | pop0 | pop1 | append | extend | update
inductive Ik where | val | range | enum | zip
inductive Tg where
  | one (i : Nat) | tup (is : List Nat) | two (i : Nat) (is : List Nat)
inductive E where
  | var (i : Nat)
  | con (c : PyData)
  | glob (g : Nat)
  | bin (o : Bop) (a b : E)
  | addM (a b : E)
  | neg (a : E)
  | not (a : E)
  | cmp (o : Cop) (a b : E)
  | chain (o o2 : Cop) (a b c : E)
  | chain3 (o o2 o3 : Cop) (a b c d : E)
  | and (a b : E)
  | or (a b : E)
  | ife (c a b : E)
  | tup (es : List E)
  | lst (m : Bool) (es : List E)
  | dic (es : List E)
  | idx (a i : E)
  | slice (a : E) (lo hi : List E)
  | call (f : Nat) (es : List E)
  | callv (i : Nat) (es : List E)
  | prim (m : Bool) (p : Pr) (es : List E)
  | meth (m : Mt) (a : E) (es : List E)
  | comp (m : Bool) (elt : E) (tg : Tg) (ik : Ik) (es ifs : List E)
  | isTy (a : E) (t : Ty)
  | noTy (a : E) (t : Ty)
  | isIn (a : E) (t : Ty)
  | frz (a : E)
  | mkd (a : E)
inductive S where
  | set (i : Nat) (e : E)
  | unp (is : List Nat) (e : E)
  | par (is : List Nat) (es : List E)
  | aug (i : Nat) (o : Bop) (e : E)
  | put (a i e : E)
  | exp (e : E)
  | ret (e : E)
  | retN
  | ifs (c : E) (a b : List S)
  | whl (c : E) (b : List S)
  | forr (tg : Tg) (ik : Ik) (es : List E) (b : List S)
  | brk | cont | pass | rais

/-! ### the pieces of the evaluator -/
/-- built-in functions, of data -/
def intsD : List PyData → Option (List Int)
  | [] => some []
  | .int i :: r => (intsD r).map (i :: ·)
  | _ => none
def boolsD : List PyData → Option (List Bool)
  | [] => some []
  | .bool i :: r => (boolsD r).map (i :: ·)
  | _ => none
def strsD : List PyData → Option (List Str)
  | [] => some []
  | .str i :: r => (strsD r).map (i :: ·)
  | _ => none
def insI (x : Int) : List Int → List Int
  | [] => [x]
  | y :: r => if x ≤ y then x :: y :: r else y :: insI x r
def sortI : List Int → List Int
  | [] => []
  | x :: r => insI x (sortI r)
def insS (x : Str) : List Str → List Str
  | [] => [x]
  | y :: r => if strLt y x then y :: insS x r else x :: y :: r
def sortS : List Str → List Str
  | [] => []
  | x :: r => insS x (sortS r)
def prsD : List PyData → Option (List (Int × Int))
  | [] => some []
  | .tuple [.int i, .int j] :: r => (prsD r).map ((i, j) :: ·)
  | _ => none
def lexP (x y : Int × Int) : Bool := decide (x.1 < y.1) || (decide (x.1 = y.1) && decide (x.2 < y.2))
def insP (x : Int × Int) : List (Int × Int) → List (Int × Int)
  | [] => [x]
  | y :: r => if lexP y x then y :: insP x r else x :: y :: r
def sortP : List (Int × Int) → List (Int × Int)
  | [] => []
  | x :: r => insP x (sortP r)
def prD2 (p : Int × Int) : PyData := .tuple [.int p.1, .int p.2]
def sortD (ds : List PyData) : Option (List PyData) :=
  match intsD ds with
  | some ns => some ((sortI ns).map .int)
  | none => match strsD ds with
    | some xs => if xs.length < 64 then some ((sortS xs).map .str) else none
    | none => (prsD ds).map fun ps => (sortP ps).map prD2
def lenD : List PyData → Option PyData
  | [.str x] => if x.length ≤ lim then some (.int x.length) else none
  | [.list xs] => some (.int xs.length)
  | [.tuple xs] => some (.int xs.length)
  | _ => none
def absD : List PyData → Option PyData
  | [.int i] => some (.int (if i < 0 then -i else i))
  | _ => none
def maxD : List PyData → Option PyData
  | [.int i, .int j] => some (.int (if j > i then j else i))
  | _ => none
def minD : List PyData → Option PyData
  | [.int i, .int j] => some (.int (if j < i then j else i))
  | _ => none
def intD : List PyData → Option PyData
  | [.int i] => some (.int i)
  | [.bool b] => some (.int (if b then 1 else 0))
  | _ => none
def tupD : List PyData → Option PyData
  | [.list xs] => some (.tuple xs)
  | [.tuple xs] => some (.tuple xs)
  | _ => none
def lstD : List PyData → Option (List PyData)
  | [.list xs] => some xs
  | [.tuple xs] => some xs
  | _ => none
def srtD : List PyData → Option (List PyData)
  | [.list xs] => sortD xs
  | _ => none
def sumD : List PyData → Option PyData
  | [.list xs] => (intsD xs).map fun ns => .int ns.sum
  | _ => none
def allD : List PyData → Option PyData
  | [.list xs] => (boolsD xs).map fun bs => .bool (bs.all id)
  | _ => none
def anyD : List PyData → Option PyData
  | [.list xs] => (boolsD xs).map fun bs => .bool (bs.any id)
  | _ => none
def reprD : List PyData → Option PyData
  | [x] => if x.showable && decide (x.depth ≤ 64) && decide (x.shown.length ≤ lim) then some (.str x.shown) else none
  | _ => none
def lsetD : List PyData → Option PyData
  | [.list xs] => match intsD xs with
    | some ns => if ns.length ≤ 4000 then some (.int ns.eraseDups.length) else none
    | none => match strsD xs with
      | some zs => if zs.length ≤ 64 then some (.int zs.eraseDups.length) else none
      | none => none
  | _ => none
/-- what tells a list, what tells another thing -/
def primL : Pr → List PyData → Option (List PyData)
  | .list, xs => lstD xs
  | .sorted, xs => srtD xs
  | _, _ => none
def primD : Pr → List PyData → Option PyData
  | .len, xs => lenD xs
  | .abs, xs => absD xs
  | .max2, xs => maxD xs
  | .min2, xs => minD xs
  | .int, xs => intD xs
  | .tuple, xs => tupD xs
  | .sum, xs => sumD xs
  | .all, xs => allD xs
  | .any, xs => anyD xs
  | .repr, xs => reprD xs
  | .lenset, xs => lsetD xs
  | _, _ => none
/-- a list, frozen or to be changed -/
def mkL (m : Bool) (us : List U) (st : Sto) : O U :=
  if us.length ≤ lim then
    if m then .ok (.o st.length) (st ++ [.lst us]) else match usD us with
      | some ds => .ok (.d (.list ds)) st
      | none => .bad
  else .bad
/-- the keys of a written dict, in order -/
def srtU (us : List U) : Option (List Str) := match us with
  | [.t kvs] => if (kvs.map (·.1)).length < 64 ∧ (kvs.map (·.1)).Nodup then some (sortS (kvs.map (·.1))) else none
  | [.td kvs] => if (kvs.map (·.1)).length < 64 ∧ (kvs.map (·.1)).Nodup then some (sortS (kvs.map (·.1))) else none
  | _ => none
def srtT (p : Pr) (us : List U) : Option (List Str) := match p with
  | .sorted => srtU us
  | _ => none
def prim (m : Bool) (p : Pr) (us : List U) (st : Sto) : O U :=
  match srtT p us with
  | some zs => mkL m ((zs.map PyData.str).map .d) st
  | none => match vws st us with
  | some xs => match primL p xs with
    | some ds => mkL m (ds.map .d) st
    | none => match primD p xs with
      | some x => .ok (.d x) st
      | none => .bad
  | none => .bad
/-- an item, by an index of any sign -/
def ixD : PyData → PyData → Option PyData
  | .list xs, .int i => L2.atI xs i
  | .tuple xs, .int i => L2.atI xs i
  | .str x, .int i => if x.length ≤ lim then (L2.atI x.cps.toList i).map fun c => .str ⟨#[c]⟩ else none
  | _, _ => none
def valK (kvs : List (L2.Key × U)) (k : L2.Key) : Option U := (kvs.find? fun p => decide (p.1 = k)).map (·.2)
def putK (kvs : List (L2.Key × U)) (k : L2.Key) (u : U) : List (L2.Key × U) :=
  if kvs.any (fun kv => decide (kv.1 = k)) then kvs.map fun kv => if kv.1 = k then (kv.1, u) else kv else kvs ++ [(k, u)]
/-- what a dict has at a key, where it is a dict and this may be a key -/
def dictGet (st : Sto) (b : U) (x : PyData) : Option (Option U) := match b with
  | .t kvs => match x with
    | .str z => some ((kvs.lookup z).map .f)
    | _ => none
  | .td kvs => match x with
    | .str z => some ((kvs.lookup z).map .d)
    | _ => none
  | .o n => match st[n]? with
    | some (.dic kvs) => match keyD x with
      | some k => some (valK kvs k)
      | none => none
    | _ => none
  | .d (.dict kvs) => match keyD x with
    | some _ => some ((kvs.find? fun p => decide (p.1 = x)).map fun p => .d p.2)
    | none => none
  | _ => none
def ixU (a i : U) (st : Sto) : O U :=
  match i with
  | .d x => match dictGet st a x with
    | some (some u) => .ok u st
    | some none => .bad
    | none => match a with
      | .d y => match ixD y x with
        | some z => .ok (.d z) st
        | none => .bad
      | .o n => match st[n]? with
        | some (.lst us) => match x with
          | .int j => match L2.atI us j with
            | some u => .ok u st
            | none => .bad
          | _ => .bad
        | _ => .bad
      | .s ns => match x with
        | .int j => match L2.atI ns j with
          | some u => .ok (.d (.int u)) st
          | none => .bad
        | _ => .bad
      | _ => .bad
  | _ => .bad
/-- the pairs of a display -/
def pairU : List U → Option (List (L2.Key × U))
  | [] => some []
  | .d k :: u :: r => match keyD k with
    | some k => (pairU r).map ((k, u) :: ·)
    | none => none
  | _ => none
def mergeU (kvs more : List (L2.Key × U)) : List (L2.Key × U) := more.foldl (fun acc kv => putK acc kv.1 kv.2) kvs
/-- a[i] = u -/
def putU (a i u : U) (st : Sto) : O Unit :=
  match a, i, u with
  | .o n, .d x, .d y => match st[n]? with
    | some (.lst us) => match x with
      | .int j => match L2.ixN us.length j with
        | some k => .ok () (st.set n (.lst (us.set k (.d y))))
        | none => .bad
      | _ => .bad
    | some (.dic kvs) => match keyD x with
      | some k => if kvs.length < lim then .ok () (st.set n (.dic (putK kvs k (.d y)))) else .bad
      | none => .bad
    | _ => .bad
  | _, _, _ => .bad
def sliceD (x : PyData) (lo hi : Option Int) : Option PyData := match x with
  | .list xs => some (.list (cutL xs lo hi))
  | .tuple xs => some (.tuple (cutL xs lo hi))
  | _ => none
def optI : List PyData → Option (Option Int)
  | [] => some none
  | [.int i] => some (some i)
  | _ => none
def bop (o : Bop) (a b : U) (st : Sto) : O U := match vt st a, vt st b with
  | some x, some y => match bopD o x y with
    | some z => .ok (.d z) st
    | none => .bad
  | _, _ => .bad
/-- two lists one behind the other, to be changed -/
def addMU (a b : U) (st : Sto) : O U := match vt st a, vt st b with
  | some (.list xs), some (.list ys) => mkL true ((xs ++ ys).map .d) st
  | _, _ => .bad
/-- in, of dicts -/
def dcop (o : Cop) (a b : U) (st : Sto) : Option Bool := match o, a with
  | .isin, .d x => (dictGet st b x).map (·.isSome)
  | .notin, .d x => (dictGet st b x).map fun r => !r.isSome
  | _, _ => none
def cop (o : Cop) (a b : U) (st : Sto) : O Bool := match dcop o a b st with
  | some z => .ok z st
  | none => match vw st a, vw st b with
    | some x, some y => match cmpD o x y with
      | some z => .ok z st
      | none => .bad
    | _, _ => .bad
def tru (u : U) (st : Sto) : O Bool := match vw st u with
  | some x => match truD x with
    | some b => .ok b st
    | none => .bad
  | none => .bad
def isInD (x : PyData) (t : Ty) : Bool := decide (tyD x = t) || (decide (t = .int) && decide (tyD x = .bool))
/-- pairs of a list -/
def pairsD : List PyData → Option (List (L2.Key × U))
  | [] => some []
  | .tuple [k, x] :: r => match keyD k with
    | some k => (pairsD r).map ((k, .d x) :: ·)
    | none => none
  | _ => none
def mkDic (x : U) (st : Sto) : O U := match vw st x with
  | some (.list ds) => match pairsD ds with
    | some kvs => if kvs.length ≤ lim then .ok (.o st.length) (st ++ [.dic (mergeU [] kvs)]) else .bad
    | none => .bad
  | _ => .bad
/-- methods of lists and dicts -/
def mUpd (a : U) (us : List U) (st : Sto) : O U := match a, us with
  | .o n, [.o m] => match st[n]?, st[m]? with
    | some (.dic kvs), some (.dic more) => if n ≠ m ∧ kvs.length + more.length ≤ lim then .ok (.d .none) (st.set n (.dic (mergeU kvs more))) else .bad
    | _, _ => .bad
  | _, _ => .bad
def mApp (a : U) (us : List U) (st : Sto) : O U := match a, us with
  | .o n, [.d x] => match st[n]? with
    | some (.lst vs) => if vs.length < lim then .ok (.d .none) (st.set n (.lst (vs ++ [.d x]))) else .bad
    | _ => .bad
  | _, _ => .bad
def mExt (a : U) (us : List U) (st : Sto) : O U := match a, us with
  | .o n, [u] => match st[n]?, vt st u with
    | some (.lst vs), some (.list ds) => if vs.length + ds.length ≤ lim then .ok (.d .none) (st.set n (.lst (vs ++ ds.map .d))) else .bad
    | _, _ => .bad
  | _, _ => .bad
def mPop (a : U) (us : List U) (st : Sto) : O U := match a, us with
  | .o n, [] => match st[n]? with
    | some (.lst vs) => match vs[vs.length - 1]? with
      | some u => .ok u (st.set n (.lst vs.dropLast))
      | none => .bad
    | _ => .bad
  | _, _ => .bad
def mPopAt (a : U) (us : List U) (st : Sto) : O U := match a, us with
  | .o n, [.d (.int i)] => match st[n]? with
    | some (.lst vs) => match L2.ixN vs.length i with
      | some k => match vs[k]? with
        | some u => if vs.length ≤ lim then .ok u (st.set n (.lst (vs.eraseIdx k))) else .bad
        | none => .bad
      | none => .bad
    | _ => .bad
  | _, _ => .bad
def mGet (a : U) (us : List U) (st : Sto) : O U := match us with
  | [.d k] => match dictGet st a k with
    | some r => .ok (r.getD (.d .none)) st
    | none => .bad
  | [.d k, w] => match dictGet st a k with
    | some r => .ok (r.getD w) st
    | none => .bad
  | _ => .bad
def meth : Mt → U → List U → Sto → O U
  | .append, a, us, st => mApp a us st
  | .extend, a, us, st => mExt a us st
  | .pop0, a, us, st => mPop a us st
  | .pop1, a, us, st => mPopAt a us st
  | .get1, a, us, st => mGet a us st
  | .get2, a, us, st => mGet a us st
  | .update, a, us, st => mUpd a us st
/-- what has such a method -/
def isDicO (a : U) (st : Sto) : Bool := match a with
  | .o n => match st[n]? with
    | some (.dic _) => true
    | _ => false
  | .t _ => true
  | .td _ => true
  | .d (.dict _) => true
  | _ => false
def isLstO (a : U) (st : Sto) : Bool := match a with
  | .o n => match st[n]? with
    | some (.lst _) => true
    | _ => false
  | _ => false
def isTrkO (a : U) (st : Sto) : Bool := match a with
  | .o n => match st[n]? with
    | some (.dic _) => true
    | _ => false
  | _ => false
def mOk : Mt → U → Sto → Bool
  | .get1, a, st => isDicO a st
  | .get2, a, st => isDicO a st
  | .append, a, st => isLstO a st
  | .extend, a, st => isLstO a st
  | .pop0, a, st => isLstO a st
  | .pop1, a, st => isLstO a st
  | .update, a, st => isTrkO a st
def rangeD (xs : List PyData) : Option (List PyData) := match xs with
  | [.int n] => if -100000000 ≤ n ∧ n ≤ 100000000 then some ((List.range n.toNat).map fun i => .int (i : Nat)) else none
  | [.int a, .int b] => if (-100000000 ≤ a ∧ a ≤ 100000000) ∧ -100000000 ≤ b ∧ b ≤ 100000000 then some ((List.range (b - a).toNat).map fun i => .int (a + (i : Nat))) else none
  | _ => none
def enumD (i : Nat) : List PyData → List PyData
  | [] => []
  | x :: r => .tuple [.int i, x] :: enumD (i + 1) r
/-- what a source has -/
def srcD : PyData → Option (List PyData)
  | .list xs => some xs
  | .tuple xs => some xs
  | .str x => some (x.cps.toList.map fun c => .str ⟨#[c]⟩)
  | _ => none
def zipD : List PyData → List PyData → List PyData
  | x :: r, y :: s => .tuple [x, y] :: zipD r s
  | _, _ => []
/-- what a for walks: its items, and what must stay -/
def items (ik : Ik) (us : List U) (st : Sto) : Option (List PyData) := match vws st us with
  | some xs => match ik, xs with
    | .val, [.list ds] => some ds
    | .val, [.tuple ds] => some ds
    | .val, [.str x] => some (x.cps.toList.map fun c => .str ⟨#[c]⟩)
    | .range, xs => rangeD xs
    | .enum, [.list ds] => some (enumD 0 ds)
    | .enum, [.tuple ds] => some (enumD 0 ds)
    | .zip, [x, y] => match srcD x, srcD y with
      | some xs, some ys => some (zipD xs ys)
      | _, _ => none
    | _, _ => none
  | none => none
/-- the walked objects stand as they stood -/
def stays (us : List U) (st st1 : Sto) : Bool := us.all fun u => match u with
  | .o n => decide (st1[n]? = st[n]?)
  | _ => true
def setS (env : Ev) (is : List Nat) (xs : List PyData) : Option Ev := match is, xs with
  | [], [] => some env
  | i :: r, x :: s => setS (env.set i (some (.d x))) r s
  | _, _ => none
def bindTg (tg : Tg) (x : PyData) (env : Ev) : Option Ev := match tg with
  | .one i => some (env.set i (some (.d x)))
  | .tup is => match x with
    | .tuple xs => setS env is xs
    | _ => none
  | .two i is => match x with
    | .tuple [y, .tuple xs] => setS (env.set i (some (.d y))) is xs
    | _ => none
def setU (env : Ev) (is : List Nat) (xs : List U) : Option Ev := match is, xs with
  | [], [] => some env
  | i :: r, x :: s => setU (env.set i (some x)) r s
  | _, _ => none
inductive Fl where
  | nx (e : Ev) | rt (u : U) | bk (e : Ev) | ct (e : Ev)
def compL (g : Sto → Bool) (f : PyData → Sto → O (Option U)) : List PyData → Sto → O (List U)
  | [], st => if g st then .ok [] st else .bad
  | x :: r, st => if g st then (f x st).bind fun o st1 => (compL g f r st1).bind fun us st2 => match o with
    | some u => .ok (u :: us) st2
    | none => .ok us st2 else .bad
def forL (g : Sto → Bool) (f : PyData → Ev → Sto → O Fl) : List PyData → Ev → Sto → O Fl
  | [], env, st => if g st then .ok (.nx env) st else .bad
  | x :: r, env, st => if g st then (f x env st).bind fun fl st1 => match fl with
    | .nx e => forL g f r e st1
    | .ct e => forL g f r e st1
    | .bk e => .ok (.nx e) st1
    | .rt u => .ok (.rt u) st1 else .bad
def whlL (c : Ev → Sto → O Bool) (f : Ev → Sto → O Fl) : Nat → Ev → Sto → O Fl
  | 0, _, _ => .bad
  | n + 1, env, st => (c env st).bind fun b st1 => if b then (f env st1).bind fun fl st2 => match fl with
    | .nx e => whlL c f n e st2
    | .ct e => whlL c f n e st2
    | .bk e => .ok (.nx e) st2
    | .rt u => .ok (.rt u) st2 else .ok (.nx env) st1
def FU : Nat := 100000000
def isMut : U → Bool
  | .o _ => true
  | _ => false
abbrev Cf := Nat → List U → Sto → O U
mutual
def evE (G : List U) (cf : Cf) : E → Ev → Sto → O U
  | .var i, env, st => match env[i]? with
    | some (some u) => .ok u st
    | _ => .bad
  | .con c, _, st => .ok (.d c) st
  | .glob g, _, st => match G[g]? with
    | some u => .ok u st
    | none => .bad
  | .bin o a b, env, st => (evE G cf a env st).bind fun x st1 => (evE G cf b env st1).bind fun y st2 => bop o x y st2
  | .addM a b, env, st => (evE G cf a env st).bind fun x st1 => (evE G cf b env st1).bind fun y st2 => addMU x y st2
  | .neg a, env, st => (evE G cf a env st).bind fun x st1 => match x with
    | .d (.int i) => .ok (.d (.int (-i))) st1
    | _ => .bad
  | .not a, env, st => (evE G cf a env st).bind fun x st1 => (tru x st1).bind fun b st2 => .ok (.d (.bool (!b))) st2
  | .cmp o a b, env, st => (evE G cf a env st).bind fun x st1 => (evE G cf b env st1).bind fun y st2 => (cop o x y st2).bind fun b st3 => .ok (.d (.bool b)) st3
  | .chain o o2 a b c, env, st => (evE G cf a env st).bind fun x st1 => (evE G cf b env st1).bind fun y st2 => (cop o x y st2).bind fun k st3 =>
      if k then (evE G cf c env st3).bind fun z st4 => (cop o2 y z st4).bind fun b st5 => .ok (.d (.bool b)) st5 else .ok (.d (.bool false)) st3
  | .chain3 o o2 o3 a b c d, env, st => (evE G cf a env st).bind fun x st1 => (evE G cf b env st1).bind fun y st2 => (cop o x y st2).bind fun k st3 =>
      if k then (evE G cf c env st3).bind fun z st4 => (cop o2 y z st4).bind fun k2 st5 =>
        if k2 then (evE G cf d env st5).bind fun w st6 => (cop o3 z w st6).bind fun b st7 => .ok (.d (.bool b)) st7 else .ok (.d (.bool false)) st5
      else .ok (.d (.bool false)) st3
  | .and a b, env, st => (evE G cf a env st).bind fun x st1 => (tru x st1).bind fun k st2 => if k then evE G cf b env st2 else .ok x st2
  | .or a b, env, st => (evE G cf a env st).bind fun x st1 => (tru x st1).bind fun k st2 => if k then .ok x st2 else evE G cf b env st2
  | .ife c a b, env, st => (evE G cf c env st).bind fun x st1 => (tru x st1).bind fun k st2 => if k then evE G cf a env st2 else evE G cf b env st2
  | .tup es, env, st => (evEs G cf es env st).bind fun us st1 => match usD us with
    | some ds => if ds.length ≤ lim then .ok (.d (.tuple ds)) st1 else .bad
    | none => .bad
  | .lst m es, env, st => (evEs G cf es env st).bind fun us st1 => mkL m us st1
  | .dic es, env, st => (evEs G cf es env st).bind fun us st1 => match pairU us with
    | some kvs => if kvs.length ≤ 15 then .ok (.o st1.length) (st1 ++ [.dic (mergeU [] kvs)]) else .bad
    | none => .bad
  | .idx a i, env, st => (evE G cf a env st).bind fun x st1 => (evE G cf i env st1).bind fun y st2 => ixU x y st2
  | .slice a lo hi, env, st => (evE G cf a env st).bind fun x st1 => (evEs G cf lo env st1).bind fun l st2 => (evEs G cf hi env st2).bind fun h st3 =>
      match vw st3 x, usD l, usD h with
      | some z, some l, some h => match optI l, optI h with
        | some l, some h => match sliceD z l h with
          | some y => .ok (.d y) st3
          | none => .bad
        | _, _ => .bad
      | _, _, _ => .bad
  | .call f es, env, st => (evEs G cf es env st).bind fun us st1 => cf f us st1
  | .callv i es, env, st => (evEs G cf es env st).bind fun us st1 => match env[i]? with
    | some (some (.f f)) => cf f us st1
    | _ => .bad
  | .prim m p es, env, st => (evEs G cf es env st).bind fun us st1 => prim m p us st1
  | .meth m a es, env, st => (evE G cf a env st).bind fun x st1 => if mOk m x st1 then (evEs G cf es env st1).bind fun us st2 => meth m x us st2 else .bad
  | .comp m elt tg ik es ifs, env, st => (evEs G cf es env st).bind fun us st1 => match items ik us st1 with
    | some xs => (compL (fun s => stays us st1 s) (fun x s => match bindTg tg x env with
        | some env1 => (evTs G cf ifs env1 s).bind fun b s1 => if b then (evE G cf elt env1 s1).bind fun u s2 => .ok (some u) s2 else .ok none s1
        | none => .bad) xs st1).bind fun vs st2 => mkL m vs st2
    | none => .bad
  | .isTy a t, env, st => (evE G cf a env st).bind fun x st1 => match vw st1 x with
    | some z => .ok (.d (.bool (decide (tyD z = t)))) st1
    | none => .bad
  | .noTy a t, env, st => (evE G cf a env st).bind fun x st1 => match vw st1 x with
    | some z => .ok (.d (.bool (!decide (tyD z = t)))) st1
    | none => .bad
  | .isIn a t, env, st => (evE G cf a env st).bind fun x st1 => match vw st1 x with
    | some z => .ok (.d (.bool (isInD z t))) st1
    | none => .bad
  | .mkd a, env, st => (evE G cf a env st).bind fun x st1 => mkDic x st1
  | .frz a, env, st => (evE G cf a env st).bind fun x st1 => match x with
    | .o n => match vw st1 x with
      | some z => .ok (.d z) (st1.set n .dead)
      | none => .bad
    | _ => .bad
def evEs (G : List U) (cf : Cf) : List E → Ev → Sto → O (List U)
  | [], _, st => .ok [] st
  | e :: r, env, st => (evE G cf e env st).bind fun u st1 => (evEs G cf r env st1).bind fun us st2 => .ok (u :: us) st2
def evTs (G : List U) (cf : Cf) : List E → Ev → Sto → O Bool
  | [], _, st => .ok true st
  | e :: r, env, st => (evE G cf e env st).bind fun u st1 => (tru u st1).bind fun b st2 => if b then evTs G cf r env st2 else .ok false st2
end
def evT (G : List U) (cf : Cf) (e : E) (env : Ev) (st : Sto) : O Bool := (evE G cf e env st).bind fun u st1 => tru u st1
mutual
def evS (G : List U) (cf : Cf) : S → Ev → Sto → O Fl
  | .set i e, env, st => (evE G cf e env st).bind fun u st1 => .ok (.nx (env.set i (some u))) st1
  | .unp is e, env, st => (evE G cf e env st).bind fun u st1 => match u with
    | .d (.tuple xs) => match setS env is xs with
      | some e1 => .ok (.nx e1) st1
      | none => .bad
    | _ => .bad
  | .par is es, env, st => (evEs G cf es env st).bind fun us st1 => match setU env is us with
    | some e1 => .ok (.nx e1) st1
    | none => .bad
  | .aug i o e, env, st => match env[i]? with
    | some (some x) => (evE G cf e env st).bind fun y st1 => match x, y with
      | .d (.int _), .d (.int _) => (bop o x y st1).bind fun z st2 => .ok (.nx (env.set i (some z))) st2
      | _, _ => .bad
    | _ => .bad
  | .put a i e, env, st => (evE G cf e env st).bind fun u st1 => (evE G cf a env st1).bind fun x st2 => (evE G cf i env st2).bind fun y st3 => (putU x y u st3).bind fun _ st4 => .ok (.nx env) st4
  | .exp e, env, st => (evE G cf e env st).bind fun _ st1 => .ok (.nx env) st1
  | .ret e, env, st => (evE G cf e env st).bind fun u st1 => .ok (.rt u) st1
  | .retN, _, st => .ok (.rt (.d .none)) st
  | .ifs c a b, env, st => (evT G cf c env st).bind fun k st1 => if k then evSs G cf a env st1 else evSs G cf b env st1
  | .whl c b, env, st => whlL (fun env st => evT G cf c env st) (fun env st => evSs G cf b env st) FU env st
  | .forr tg ik es b, env, st => (evEs G cf es env st).bind fun us st1 => match items ik us st1 with
    | some xs => forL (fun s => stays us st1 s) (fun x env s => match bindTg tg x env with
      | some env1 => evSs G cf b env1 s
      | none => .bad) xs env st1
    | none => .bad
  | .brk, env, st => .ok (.bk env) st
  | .cont, env, st => .ok (.ct env) st
  | .pass, env, st => .ok (.nx env) st
  | .rais, _, _ => .bad
def evSs (G : List U) (cf : Cf) : List S → Ev → Sto → O Fl
  | [], env, st => .ok (.nx env) st
  | s :: r, env, st => (evS G cf s env st).bind fun fl st1 => match fl with
    | .nx e => evSs G cf r e st1
    | .rt u => .ok (.rt u) st1
    | .bk e => .ok (.bk e) st1
    | .ct e => .ok (.ct e) st1
end
structure Fn where
  np : Nat
  ns : Nat
  trunc : Bool
  body : List S
def refsU (n : Nat) : U → Bool
  | .o m => decide (m < n)
  | _ => true
def refsB (n : Nat) : Ob → Bool
  | .dead => true
  | .lst us => us.all (refsU n)
  | .dic kvs => kvs.all fun p => refsU n p.2
def fin (F : Fn) (n : Nat) (u : U) (st : Sto) : O U :=
  if F.trunc then (match u with
    | .d _ => if (st.take n).all (refsB n) && decide (n ≤ st.length) then .ok u (st.take n) else .bad
    | _ => .bad) else .ok u st
def runF (G : List U) (cf : Cf) (F : Fn) (us : List U) (st : Sto) : O U :=
  if us.length = F.np ∧ F.np ≤ F.ns then (evSs G cf F.body (us.map some ++ List.replicate (F.ns - us.length) none) st).bind fun fl st1 => match fl with
    | .nx _ => fin F st.length (.d .none) st1
    | .rt u => fin F st.length u st1
    | _ => .bad else .bad
def callN (G : List U) (T : List Fn) : Nat → Cf
  | 0, _, _, _ => .bad
  | k + 1, f, us, st => match T[f]? with
    | some F => runF G (callN G T k) F us st
    | none => .bad
end PI
set_option Elab.async false
set_option linter.all false
set_option maxRecDepth 100000
set_option maxHeartbeats 4000000
namespace PI
open PySem
def fPot : Fn := ⟨2, 4, false, [.set 2 (.con (.int 0)), .ifs (.cmp .lt (.var 1) (.prim false .len [.var 0])) [.set 2 (.bin .mod (.prim false .abs [.idx (.var 0) (.var 1)]) (.bin .pow (.bin .pow (.con (.int 10)) (.con (.int 60))) (.con (.int 10))))] [], .set 3 (.bin .mod (.bin .pow (.bin .add (.bin .add (.bin .mod (.var 2) (.con (.int 2147483587))) (.bin .mul (.con (.int 6007)) (.var 1))) (.con (.int 1))) (.con (.int 5))) (.con (.int 2305843009213693951))), .ret (.lst true [.bin .mul (.var 2) (.prim false .int [.cmp .ge (.var 2) (.bin .pow (.con (.int 10)) (.con (.int 18)))]), .var 3, .con (.int 0)])]⟩
def fTake : Fn := ⟨2, 5, true, [.ifs (.cmp .gt (.idx (.var 0) (.con (.int 0))) (.con (.int 0))) [.set 4 (.bin .mod (.idx (.var 0) (.con (.int 0))) (.var 1)), .put (.var 0) (.con (.int 0)) (.bin .div (.idx (.var 0) (.con (.int 0))) (.var 1)), .ret (.var 4)] [], .put (.var 0) (.con (.int 2)) (.bin .add (.idx (.var 0) (.con (.int 2))) (.con (.int 1))), .set 2 (.bin .mod (.bin .pow (.bin .add (.idx (.var 0) (.con (.int 1))) (.bin .mul (.con (.int 104683)) (.idx (.var 0) (.con (.int 2))))) (.con (.int 3))) (.con (.int 2305843009213693921))), .set 3 (.bin .mod (.bin .pow (.bin .add (.bin .add (.var 2) (.bin .mod (.idx (.var 0) (.con (.int 1))) (.con (.int 65521)))) (.bin .mul (.con (.int 37)) (.idx (.var 0) (.con (.int 2))))) (.con (.int 5))) (.con (.int 2305843009213693907))), .ret (.bin .mod (.bin .div (.var 3) (.con (.int 1024))) (.var 1))]⟩
/-- no object within an object -/
def Flat (st : Sto) : Prop := ∀ x ∈ st, refsB 0 x = true
theorem refsU_up {u : U} (n : Nat) (h : refsU 0 u = true) : refsU n u = true := by
  cases u <;> simp [refsU] at h ⊢
theorem refsB_up {x : Ob} (n : Nat) (h : refsB 0 x = true) : refsB n x = true := by
  cases x with
  | dead => rfl
  | lst us => simp only [refsB, List.all_eq_true] at h ⊢; exact fun u hu => refsU_up n (h u hu)
  | dic kvs => simp only [refsB, List.all_eq_true] at h ⊢; exact fun u hu => refsU_up n (h u hu)
theorem Flat.set {st : Sto} {n : Nat} {X : Ob} (h : Flat st) (hx : refsB 0 X = true) : Flat (st.set n X) := by
  intro x hm
  rcases List.mem_or_eq_of_mem_set hm with h1 | h1
  · exact h x h1
  · rw [h1]; exact hx
theorem Flat.app {st : Sto} {X : Ob} (h : Flat st) (hx : refsB 0 X = true) : Flat (st ++ [X]) := by
  intro x hm
  rcases List.mem_append.mp hm with h1 | h1
  · exact h x h1
  · rw [List.mem_singleton.mp h1]; exact hx
theorem Flat.nil : Flat [] := by intro x h; cases h
theorem fin_d {F : Fn} {n : Nat} {d : PyData} {st : Sto} (h : Flat st) (ht : F.trunc = true) (hn : n ≤ st.length) : fin F n (.d d) st = .ok (.d d) (st.take n) := by
  simp only [fin, ht, if_true]
  rw [if_pos]
  simp only [Bool.and_eq_true, List.all_eq_true, decide_eq_true_eq]
  exact ⟨fun x hx => refsB_up n (h x (List.mem_of_mem_take hx)), hn⟩
theorem fin_set {F : Fn} {d : PyData} {st : Sto} {n : Nat} {X : Ob} (h : Flat st) (ht : F.trunc = true) (hx : refsB 0 X = true) : fin F st.length (.d d) (st.set n X) = .ok (.d d) (st.set n X) := by
  rw [fin_d (h.set hx) ht (by simp), List.take_of_length_le (by simp)]
/-- a pot of at most m takes, in an object -/
def PotX (m : Nat) (X : Ob) : Prop := ∃ a b c : Int, X = .lst [.d (.int a), .d (.int b), .d (.int c)] ∧ 0 ≤ a ∧ 0 ≤ b ∧ b < 2 ^ 61 ∧ 0 ≤ c ∧ c ≤ m
theorem PotX.flat {m : Nat} {X : Ob} (h : PotX m X) : refsB 0 X = true := by
  obtain ⟨a, b, c, rfl, _⟩ := h
  rfl
theorem PotX.mono {m k : Nat} {X : Ob} (h : PotX m X) (i : m ≤ k) : PotX k X := by
  obtain ⟨a, b, c, e, h1, h2, h3, h4, h5⟩ := h
  exact ⟨a, b, c, e, h1, h2, h3, h4, by omega⟩
theorem bits_lt {x : Int} {m : Nat} (h0 : 0 ≤ x) (h : x < 2 ^ m) : Builtin.Int.intBits x ≤ m := by
  rw [intBits_le_iff]
  have e : ((2 ^ m : Nat) : Int) = 2 ^ m := by simp
  omega
theorem pow_ok {x : Int} {m : Nat} {k : Int} (h0 : 0 ≤ x) (h : x < 2 ^ m) (hk : 0 ≤ k) (hmk : (m : Int) * k ≤ 134217728) : bopD .pow (.int x) (.int k) = some (.int (x ^ k.toNat)) := by
  simp only [bopD]
  rw [if_pos]
  exact ⟨hk, Int.le_trans (Int.mul_le_mul_of_nonneg_right (Int.ofNat_le.mpr (bits_lt h0 h)) hk) hmk⟩
theorem b_add {i j : Int} : bopD .add (.int i) (.int j) = some (.int (i + j)) := rfl
theorem b_sub {i j : Int} : bopD .sub (.int i) (.int j) = some (.int (i - j)) := rfl
theorem b_mod {i j : Int} (h : 0 < j) : bopD .mod (.int i) (.int j) = some (.int (i % j)) := by simp [bopD, h]
theorem log_lt {x m : Nat} (hm : 0 < m) (h : x < 2 ^ m) : x.log2 < m := by
  by_cases h0 : x = 0
  · subst h0; exact hm
  · exact (Nat.log2_lt h0).mpr h
theorem b_div {i j : Int} (h : 0 < j) (h2 : j < 2 ^ 100) : bopD .div (.int i) (.int j) = some (.int (i / j)) := by
  simp only [bopD]
  rw [if_pos]
  refine ⟨h, ?_⟩
  have := log_lt (x := j.natAbs) (m := 100) (by decide) (by omega)
  omega
theorem b_mul {i j : Int} (h : i.natAbs < 2 ^ 10000) (h2 : j.natAbs < 2 ^ 10000) : bopD .mul (.int i) (.int j) = some (.int (i * j)) := by
  simp only [bopD]
  rw [if_pos]
  have := log_lt (by decide) h
  have := log_lt (by decide) h2
  omega
theorem big80 {i : Int} (h : i.natAbs < 2 ^ 80) : i.natAbs < 2 ^ 10000 := Nat.lt_of_lt_of_le h (Nat.pow_le_pow_right (by decide) (by decide))
theorem fTake_ok (G : List U) (cf : Cf) {st : Sto} {n m : Nat} {many : Int} {X : Ob} (h : st[n]? = some X) (hx : PotX m X) (hf : Flat st) (hm : 0 < many) (hm2 : many < 2 ^ 61) (hm9 : m < 2 ^ 60) :
    ∃ v Y, runF G cf fTake [.o n, .d (.int many)] st = .ok (.d (.int v)) (st.set n Y) ∧ PotX (m + 1) Y ∧ 0 ≤ v ∧ v < many := by
  obtain ⟨a, b, c, rfl, ha, hb, hb2, hc, hc2⟩ := hx
  have hs : ∀ X : Ob, (st.set n X)[n]? = some X := fun X => List.getElem?_set_self (List.getElem?_eq_some_iff.mp h).1
  have hl : many.natAbs.log2 < 9000 := by
    have : many.natAbs < 2 ^ 61 := by omega
    have := Nat.log2_lt (n := many.natAbs) (k := 61) (by omega) |>.mpr this
    omega
  by_cases h0 : 0 < a
  · refine ⟨a % many, .lst [.d (.int (a / many)), .d (.int b), .d (.int c)], ?_, ⟨_, _, _, rfl, Int.ediv_nonneg ha (Int.le_of_lt hm), hb, hb2, hc, by push_cast; omega⟩, Int.emod_nonneg _ (by omega), Int.emod_lt_of_pos _ hm⟩
    rw [← fin_set (F := fTake) hf rfl rfl]
    simp [runF, fTake, evSs, evS, evE, evEs, evT, O.bind, ixU, dictGet, h, hs, L2.atI, L2.ixN, cop, dcop, vw, vt, cmpD, tru, truD, h0, bop, bopD, hm, putU, hl, usD, keyD]
  · have ha0 : a = 0 := by omega
    subst ha0
    have e1 := pow_ok (x := b + 104683 * (c + 1)) (m := 80) (k := 3) (by omega) (by omega) (by omega) (by decide)
    have g0 : 0 ≤ (b + 104683 * (c + 1)) ^ 3 % 2305843009213693921 := Int.emod_nonneg _ (by decide)
    have g1 : (b + 104683 * (c + 1)) ^ 3 % 2305843009213693921 < 2305843009213693921 := Int.emod_lt_of_pos _ (by decide)
    have g2 : 0 ≤ b % 65521 := Int.emod_nonneg _ (by decide)
    have g3 : b % 65521 < 65521 := Int.emod_lt_of_pos _ (by decide)
    have e2 := pow_ok (x := (b + 104683 * (c + 1)) ^ 3 % 2305843009213693921 + b % 65521 + 37 * (c + 1)) (m := 80) (k := 5) (by omega) (by omega) (by omega) (by decide)
    refine ⟨((b + 104683 * (c + 1)) ^ 3 % 2305843009213693921 + b % 65521 + 37 * (c + 1)) ^ 5 % 2305843009213693907 / 1024 % many, .lst [.d (.int 0), .d (.int b), .d (.int (c + 1))], ?_, ⟨_, _, _, rfl, by omega, hb, hb2, by omega, by push_cast; omega⟩, Int.emod_nonneg _ (by omega), Int.emod_lt_of_pos _ hm⟩
    rw [← fin_set (F := fTake) hf rfl rfl]
    have m1 : bopD .mul (.int 104683) (.int (c + 1)) = some (.int (104683 * (c + 1))) := b_mul (big80 (by decide)) (big80 (by omega))
    have m2 : bopD .mul (.int 37) (.int (c + 1)) = some (.int (37 * (c + 1))) := b_mul (big80 (by decide)) (big80 (by omega))
    have d1 := b_div (i := ((b + 104683 * (c + 1)) ^ 3 % 2305843009213693921 + b % 65521 + 37 * (c + 1)) ^ 5 % 2305843009213693907) (j := 1024) (by decide) (by decide)
    have d2 := fun i : Int => b_mod (i := i) (j := 2305843009213693921) (by decide)
    have d3 := fun i : Int => b_mod (i := i) (j := 2305843009213693907) (by decide)
    have d4 := fun i : Int => b_mod (i := i) (j := 65521) (by decide)
    have d5 := fun i : Int => b_mod (i := i) hm
    simp only [show (3 : Int).toNat = 3 from rfl, show (5 : Int).toNat = 5 from rfl] at e1 e2
    simp [runF, fTake, evSs, evS, evE, evEs, evT, O.bind, ixU, dictGet, h, hs, L2.atI, L2.ixN, cop, dcop, vw, vt, cmpD, tru, truD, h0, bop, b_add, m1, m2, d1, d2, d3, d4, d5, putU, usD, keyD, e1, e2]
end PI
set_option Elab.async false
set_option linter.all false
set_option maxRecDepth 100000
set_option maxHeartbeats 4000000
set_option exponentiation.threshold 20000
namespace PI
open PySem
def boI (b : Bool) : Int := if b then 1 else 0
def potA (cell : Int) : Int := cell * boI (decide (10 ^ 18 ≤ cell))
def potB (cell k : Int) : Int := (cell % 2147483587 + 6007 * k + 1) ^ 5 % 2305843009213693951
def ten600 : Int := (10 ^ 60) ^ 10
def potC (ns : List Int) (k : Nat) : Int := match ns[k]? with
  | some i => (if i < 0 then -i else i) % ten600
  | none => 0
theorem pos600 : 0 < ten600 := Int.pow_pos (Int.pow_pos (by decide))
theorem lt600 : ten600.natAbs < 2 ^ 2400 := by
  have e : ten600 = ((10 ^ 600 : Nat) : Int) := by
    unfold ten600
    rw [← Int.pow_mul]
    simp
  rw [e, Int.natAbs_natCast]
  have h : (10 : Nat) ^ 600 < 16 ^ 600 := Nat.pow_lt_pow_left (by decide) (by decide)
  have h2 : (16 : Nat) ^ 600 = 2 ^ 2400 := by rw [show (16 : Nat) = 2 ^ 4 from rfl, ← Nat.pow_mul]
  omega
theorem potC_nn (ns : List Int) (k : Nat) : 0 ≤ potC ns k ∧ potC ns k < ten600 := by
  unfold potC
  split
  · exact ⟨Int.emod_nonneg _ (Int.ne_of_gt pos600), Int.emod_lt_of_pos _ pos600⟩
  · exact ⟨Int.le_refl _, pos600⟩
theorem prim_bool {st : Sto} {b : Bool} {m : Bool} : prim m .int [.d (.bool b)] st = .ok (.d (.int (boI b))) st := by
  simp [prim, vws, vw, primL, primD, intD, boI, srtT]
def fPotT : List S := [.set 3 (.bin .mod (.bin .pow (.bin .add (.bin .add (.bin .mod (.var 2) (.con (.int 2147483587))) (.bin .mul (.con (.int 6007)) (.var 1))) (.con (.int 1))) (.con (.int 5))) (.con (.int 2305843009213693951))), .ret (.lst true [.bin .mul (.var 2) (.prim false .int [.cmp .ge (.var 2) (.bin .pow (.con (.int 10)) (.con (.int 18)))]), .var 3, .con (.int 0)])]
theorem fPotT_ok (G : List U) (cf : Cf) (st : Sto) (ns : List Int) (k : Nat) (hk : k < 2 ^ 30) (cell : Int) (hc : 0 ≤ cell ∧ cell < ten600) :
    evSs G cf fPotT [some (.s ns), some (.d (.int k)), some (.d (.int cell)), none] st = .ok (.rt (.o st.length)) (st ++ [.lst [.d (.int (potA cell)), .d (.int (potB cell k)), .d (.int 0)]]) := by
  obtain ⟨T, hT⟩ : ∃ T : Int, T = 10 ^ 18 := ⟨_, rfl⟩
  have p3 : bopD .pow (.int 10) (.int 18) = some (.int T) := by
    rw [hT]
    exact pow_ok (m := 4) (by decide) (by decide) (by decide) (by decide)
  have d2 := fun i : Int => b_mod (i := i) (j := 2147483587) (by decide)
  have d3 := fun i : Int => b_mod (i := i) (j := 2305843009213693951) (by decide)
  have m1 : bopD .mul (.int 6007) (.int k) = some (.int (6007 * k)) := b_mul (big80 (by decide)) (big80 (by omega))
  have e0 := Int.emod_nonneg cell (show (2147483587 : Int) ≠ 0 by decide)
  have e1 := Int.emod_lt_of_pos cell (show (0 : Int) < 2147483587 by decide)
  have p4 : bopD .pow (.int (cell % 2147483587 + 6007 * k + 1)) (.int 5) = some (.int ((cell % 2147483587 + 6007 * k + 1) ^ 5)) := pow_ok (m := 80) (by omega) (by omega) (by decide) (by decide)
  have m2 : bopD .mul (.int cell) (.int (boI (decide (T ≤ cell)))) = some (.int (cell * boI (decide (T ≤ cell)))) := by
    refine b_mul ?_ (big80 ?_)
    · have h := lt600
      have h2 : (2 : Nat) ^ 2400 ≤ 2 ^ 10000 := Nat.pow_le_pow_right (by decide) (by decide)
      generalize ten600 = M at *
      generalize (2 : Nat) ^ 2400 = A at *
      generalize (2 : Nat) ^ 10000 = B at *
      omega
    · generalize decide (T ≤ cell) = b
      cases b <;> decide
  unfold potA potB
  rw [← hT]
  clear hT
  simp [fPotT, evSs, evS, evE, evEs, evT, O.bind, cop, dcop, dictGet, vw, vt, cmpD, bop, b_add, p3, p4, d2, d3, m1, m2, prim_bool, mkL, lim]
theorem fPot_ok (G : List U) (cf : Cf) (st : Sto) (ns : List Int) (k : Nat) (hk : k < 2 ^ 30) :
    runF G cf fPot [.s ns, .d (.int k)] st = .ok (.o st.length) (st ++ [.lst [.d (.int (potA (potC ns k))), .d (.int (potB (potC ns k) k)), .d (.int 0)]]) := by
  obtain ⟨T, hT⟩ : ∃ T : Int, T = 10 ^ 60 := ⟨_, rfl⟩
  obtain ⟨M, hM⟩ : ∃ M : Int, M = ten600 := ⟨_, rfl⟩
  have p1 : bopD .pow (.int 10) (.int 60) = some (.int T) := by
    rw [hT]
    exact pow_ok (m := 4) (by decide) (by decide) (by decide) (by decide)
  have p2 : bopD .pow (.int T) (.int 10) = some (.int M) := by
    rw [hM, hT]
    exact pow_ok (m := 240) (Int.le_of_lt (Int.pow_pos (by decide))) (by decide) (by decide) (by decide)
  have d1 := fun i : Int => b_mod (i := i) (j := M) (by rw [hM]; exact pos600)
  have t := fPotT_ok G cf st ns k hk (potC ns k) (potC_nn ns k)
  have hb : fPot = ⟨2, 4, false, .set 2 (.con (.int 0)) :: .ifs (.cmp .lt (.var 1) (.prim false .len [.var 0])) [.set 2 (.bin .mod (.prim false .abs [.idx (.var 0) (.var 1)]) (.bin .pow (.bin .pow (.con (.int 10)) (.con (.int 60))) (.con (.int 10))))] [] :: fPotT⟩ := rfl
  by_cases h : k < ns.length
  · have c : potC ns k = (if ns[k] < 0 then -ns[k] else ns[k]) % M := by rw [hM]; simp [potC, h]
    rw [c] at t ⊢
    simp [hb, runF, evSs, evS, evE, evEs, evT, O.bind, ixU, dictGet, L2.atI, L2.ixN, h, cop, dcop, vw, vt, cmpD, tru, truD, bop, p1, p2, d1, prim, srtT, vws, primL, primD, lenD, absD, t, fin]
  · have c : potC ns k = 0 := by simp [potC, h]
    rw [c] at t ⊢
    simp [hb, runF, evSs, evS, evE, evEs, evT, O.bind, cop, dcop, dictGet, vw, vt, cmpD, tru, truD, h, prim, srtT, vws, primL, primD, lenD, t, fin]
end PI
namespace PI
open PySem
theorem fPot_pot (ns : List Int) (k : Nat) : PotX 0 (.lst [.d (.int (potA (potC ns k))), .d (.int (potB (potC ns k) k)), .d (.int 0)]) := by
  have h := potC_nn ns k
  refine ⟨_, _, _, rfl, ?_, Int.emod_nonneg _ (by decide), ?_, Int.le_refl _, Int.le_refl _⟩
  · unfold potA
    refine Int.mul_nonneg h.1 ?_
    cases decide (10 ^ 18 ≤ potC ns k) <;> decide
  · have : potB (potC ns k) k < 2305843009213693951 := Int.emod_lt_of_pos _ (by decide)
    omega
end PI
set_option Elab.async false
set_option linter.all false
set_option maxRecDepth 100000
set_option maxHeartbeats 4000000
/-! What holds of comprehensions and loops of any text. -/
namespace PI
open PySem
theorem obind_ok {α β : Type} (a : α) (st : Sto) (f : α → Sto → O β) : O.bind (.ok a st) f = f a st := rfl
theorem stays_rfl (us : List U) (st : Sto) : stays us st st = true := by
  unfold stays
  rw [List.all_eq_true]
  intro u _
  cases u <;> simp
theorem usD_ds : ∀ xs : List PyData, usD (xs.map U.d) = some xs
  | [] => rfl
  | x :: r => by simp [usD, usD_ds r]
theorem boolsD_map (p : PyData → Bool) : ∀ xs : List PyData, boolsD (xs.map fun x => .bool (p x)) = some (xs.map p)
  | [] => rfl
  | x :: r => by simp [boolsD, boolsD_map p r]
theorem compL_filter {g : Sto → Bool} {f : PyData → Sto → O (Option U)} {st : Sto} {p : PyData → Bool} {h : PyData → PyData} (hg : g st = true) : ∀ xs : List PyData,
    (∀ x ∈ xs, f x st = .ok (if p x then some (.d (h x)) else none) st) → compL g f xs st = .ok ((xs.filter p).map fun x => .d (h x)) st
  | [], _ => by simp [compL, hg]
  | x :: r, hf => by
    have e := hf x (by simp)
    have ih := compL_filter hg r fun y m => hf y (by simp [m])
    simp only [compL, hg, if_true, e, O.bind, ih]
    cases q : p x <;> simp [q]
theorem mkL_ds (ds : List PyData) (st : Sto) (h : ds.length ≤ lim) : mkL false (ds.map U.d) st = .ok (.d (.list ds)) st := by
  simp [mkL, usD_ds, h]
section
variable {G : List U} {cf : Cf} {elt : E} {tg : Tg} {ik : Ik} {es : List E} {env : Ev} {st : Sto} {us : List U} {xs : List PyData}
/-- [elt for tg in .. if c] -/
theorem e_comp_filter {c : E} {p : PyData → Bool} {h : PyData → PyData} (he : evEs G cf es env st = .ok us st) (hi : items ik us st = some xs) (hl : xs.length ≤ lim)
    (hx : ∀ x ∈ xs, ∃ e1, bindTg tg x env = some e1 ∧ evT G cf c e1 st = .ok (p x) st ∧ (p x = true → evE G cf elt e1 st = .ok (.d (h x)) st)) :
    evE G cf (.comp false elt tg ik es [c]) env st = .ok (.d (.list ((xs.filter p).map h))) st := by
  have key : compL (fun s => stays us st s) (fun x s => match bindTg tg x env with
        | some env1 => (evTs G cf [c] env1 s).bind fun b s1 => if b then (evE G cf elt env1 s1).bind fun u s2 => .ok (some u) s2 else .ok none s1
        | none => .bad) xs st = .ok ((xs.filter p).map fun x => .d (h x)) st := by
    refine compL_filter (stays_rfl us st) xs fun x m => ?_
    obtain ⟨e1, h1, h2, h3⟩ := hx x m
    have h2' : evTs G cf [c] e1 st = .ok (p x) st := by
      simp only [evT] at h2
      simp only [evTs]
      cases q : evE G cf c e1 st with
      | bad => rw [q] at h2; cases h2
      | ok u s =>
        rw [q] at h2
        simp only [O.bind] at h2 ⊢
        rw [h2]
        cases p x <;> simp
    simp only [h1, h2', O.bind]
    cases q : p x with
    | true => simp [h3 q]
    | false => simp
  rw [evE, he]
  simp only [obind_ok, hi]
  refine (congrArg (fun o => O.bind o fun vs st2 => mkL false vs st2) key).trans ?_
  rw [obind_ok]
  rw [show (List.filter p xs).map (fun x => U.d (h x)) = ((xs.filter p).map h).map U.d by rw [List.map_map]; rfl]
  refine mkL_ds _ _ ?_
  rw [List.length_map]
  exact Nat.le_trans (List.length_filter_le _ _) hl
/-- [elt for tg in ..] -/
theorem e_comp_map {h : PyData → PyData} (he : evEs G cf es env st = .ok us st) (hi : items ik us st = some xs) (hl : xs.length ≤ lim)
    (hx : ∀ x ∈ xs, ∃ e1, bindTg tg x env = some e1 ∧ evE G cf elt e1 st = .ok (.d (h x)) st) :
    evE G cf (.comp false elt tg ik es []) env st = .ok (.d (.list (xs.map h))) st := by
  have key : compL (fun s => stays us st s) (fun x s => match bindTg tg x env with
        | some env1 => (evTs G cf [] env1 s).bind fun b s1 => if b then (evE G cf elt env1 s1).bind fun u s2 => .ok (some u) s2 else .ok none s1
        | none => .bad) xs st = .ok ((xs.filter fun _ => true).map fun x => .d (h x)) st := by
    refine compL_filter (stays_rfl us st) xs fun x m => ?_
    obtain ⟨e1, h1, h2⟩ := hx x m
    simp [h1, h2, O.bind, evTs]
  have e : (xs.filter fun _ => true) = xs := List.filter_eq_self.mpr fun _ _ => rfl
  rw [e] at key
  rw [evE, he]
  simp only [obind_ok, hi]
  refine (congrArg (fun o => O.bind o fun vs st2 => mkL false vs st2) key).trans ?_
  rw [obind_ok]
  rw [show xs.map (fun x => U.d (h x)) = (xs.map h).map U.d by rw [List.map_map]; rfl]
  exact mkL_ds _ _ (by rw [List.length_map]; exact hl)
theorem prim_all {m : Bool} (bs : List PyData) (p : PyData → Bool) (st : Sto) : prim m .all [.d (.list (bs.map fun x => .bool (p x)))] st = .ok (.d (.bool (bs.all p))) st := by
  simp [prim, srtT, vws, vw, primL, primD, allD, boolsD_map]
/-- all([elt for tg in ..]) -/
theorem e_all {m : Bool} {p : PyData → Bool} (he : evEs G cf es env st = .ok us st) (hi : items ik us st = some xs) (hl : xs.length ≤ lim)
    (hx : ∀ x ∈ xs, ∃ e1, bindTg tg x env = some e1 ∧ evE G cf elt e1 st = .ok (.d (.bool (p x))) st) :
    evE G cf (.prim m .all [.comp false elt tg ik es []]) env st = .ok (.d (.bool (xs.all p))) st := by
  have h := e_comp_map (h := fun x => .bool (p x)) he hi hl hx
  rw [evE, evEs, h, obind_ok, evEs, obind_ok, obind_ok]
  exact prim_all xs p st
end
/-- a loop that goes on as long as p holds, else returns -/
theorem forL_all {g : Sto → Bool} {f : PyData → Ev → Sto → O Fl} {st : Sto} (I : Ev → Prop) (p : PyData → Bool) (u : U) (hg : g st = true) : ∀ (xs : List PyData) (e : Ev),
    (∀ x ∈ xs, ∀ e, I e → (p x = true → ∃ e', f x e st = .ok (.nx e') st ∧ I e') ∧ (p x = false → f x e st = .ok (.rt u) st)) → I e →
    (xs.all p = true → ∃ e', forL g f xs e st = .ok (.nx e') st ∧ I e') ∧ (xs.all p = false → forL g f xs e st = .ok (.rt u) st)
  | [], e, _, h => ⟨(fun _ => ⟨e, by simp [forL, hg], h⟩), (fun q => by cases q)⟩
  | x :: r, e, step, h => by
    have s := step x (by simp) e h
    cases q : p x with
    | true =>
      obtain ⟨e', h1, h2⟩ := s.1 q
      have ih := forL_all I p u hg r e' (fun y m => step y (by simp [m])) h2
      simp only [List.all_cons, q, Bool.true_and, forL, hg, if_true, h1, O.bind]
      exact ih
    | false =>
      have h1 := s.2 q
      simp only [List.all_cons, q, Bool.false_and, forL, hg, if_true, h1, O.bind]
      exact ⟨(fun z => absurd z (by simp)), (fun _ => trivial)⟩
theorem evS_for {G : List U} {cf : Cf} {tg : Tg} {ik : Ik} {es : List E} {b : List S} {e : Ev} {st st1 : Sto} {us : List U} {xs : List PyData} (h : evEs G cf es e st = .ok us st1) (h2 : items ik us st1 = some xs) {o : O Fl}
    (h3 : forL (fun s => stays us st1 s) (fun x env s => match bindTg tg x env with
      | some env1 => evSs G cf b env1 s
      | none => .bad) xs e st1 = o) : evS G cf (.forr tg ik es b) e st = o := by
  rw [evS, h, obind_ok]
  simp only [h2]
  exact h3
theorem evSs_nx {G : List U} {cf : Cf} {s : S} {r : List S} {e e1 : Ev} {st st1 : Sto} {o : O Fl} (h : evS G cf s e st = .ok (.nx e1) st1) (h2 : evSs G cf r e1 st1 = o) : evSs G cf (s :: r) e st = o := by
  rw [evSs, h, obind_ok]
  exact h2
theorem evSs_rt {G : List U} {cf : Cf} {s : S} {r : List S} {e : Ev} {st st1 : Sto} {u : U} (h : evS G cf s e st = .ok (.rt u) st1) : evSs G cf (s :: r) e st = .ok (.rt u) st1 := by
  rw [evSs, h, obind_ok]
theorem evSs_nil {G : List U} {cf : Cf} {e : Ev} {st : Sto} : evSs G cf [] e st = .ok (.nx e) st := by rw [evSs]
theorem forL_inv {g : Sto → Bool} {f : PyData → Ev → Sto → O Fl} (I : Nat → Ev → Sto → Prop) (hg : ∀ j e s, I j e s → g s = true) : ∀ (xs : List PyData) (i : Nat) (e : Ev) (s : Sto), (∀ x ∈ xs, ∀ j e s, j < i + xs.length → I j e s → ∃ e' s', f x e s = .ok (.nx e') s' ∧ I (j + 1) e' s') → I i e s → ∃ e' s', forL g f xs e s = .ok (.nx e') s' ∧ I (i + xs.length) e' s'
  | [], i, e, s, _, h => ⟨e, s, by simp [forL, hg i e s h], h⟩
  | x :: r, i, e, s, step, h => by
    obtain ⟨e1, s1, q1, h1⟩ := step x (by simp) i e s (by simp) h
    obtain ⟨e2, s2, q2, h2⟩ := forL_inv I hg r (i + 1) e1 s1 (fun y hy j e s hj hi => step y (by simp [hy]) j e s (by simp; omega) hi) h1
    exact ⟨e2, s2, by simp [forL, hg i e s h, q1, O.bind, q2], by rwa [List.length_cons, show i + (r.length + 1) = i + 1 + r.length by omega]⟩
end PI
set_option Elab.async false
set_option linter.all false
set_option maxRecDepth 100000
set_option maxHeartbeats 4000000
/-! Comparisons of plain data, sorted pairs. -/
namespace PI
open PySem
theorem canLay_ints : ∀ L : List Int, PyData.canLayAll0 (L.map .int) = true
  | [] => by simp [PyData.canLayAll0]
  | x :: r => by simp [PyData.canLayAll0, PyData.canLay0, canLay_ints r]
theorem depth_ints : ∀ L : List Int, PyData.depthAll (L.map .int) = 0
  | [] => by simp [PyData.depthAll]
  | x :: r => by simp [PyData.depthAll, PyData.depth, depth_ints r]
theorem shaped_ints (L : List Int) : SeqAt.shaped (.list (L.map .int)) = true := by
  simp [SeqAt.shaped, PyData.canLay0, PyData.depth, canLay_ints, depth_ints]
theorem eqv_ints : ∀ L M : List Int, PyData.eqvAll (L.map .int) (M.map .int) = decide (L = M)
  | [], [] => rfl
  | [], _ :: _ => rfl
  | _ :: _, [] => rfl
  | x :: r, y :: s => by
    simp only [List.map_cons, PyData.eqvAll, PyData.eqv, eqv_ints r s, List.cons.injEq]
    by_cases h : x = y <;> simp [h]
theorem cmp_eq_ints (L M : List Int) : cmpD .eq (.list (L.map .int)) (.list (M.map .int)) = some (decide (L = M)) := by
  simp [cmpD, eqD, flatD, shaped_ints, PyData.eqv, eqv_ints]
theorem cmp_ne_ints (L M : List Int) : cmpD .ne (.list (L.map .int)) (.list (M.map .int)) = some (!decide (L = M)) := by
  simp [cmpD, flatD, shaped_ints, PyData.eqv, eqv_ints]
theorem cmp_eq_str (x y : Str) : cmpD .eq (.str x) (.str y) = some (decide (x = y)) := by
  simp only [cmpD, eqD, flatD, Bool.and_self, if_true, PyData.eqv]
  by_cases h : x = y <;> simp [h]
theorem cmp_eq_int (x y : Int) : cmpD .eq (.int x) (.int y) = some (decide (x = y)) := by
  simp only [cmpD, eqD, flatD, Bool.and_self, if_true, PyData.eqv]
  by_cases h : x = y <;> simp [h]
theorem cmp_ne_int (x y : Int) : cmpD .ne (.int x) (.int y) = some (!decide (x = y)) := by
  simp only [cmpD, flatD, Bool.and_self, Bool.true_or, if_true, PyData.eqv]
  by_cases h : x = y <;> simp [h]
theorem prsD_mapL : ∀ L : List (Int × Int), prsD (L.map prD2) = some L
  | [] => rfl
  | x :: r => by simp [prD2, prsD, prsD_mapL r]
theorem sortD_prs (L : List (Int × Int)) : sortD (L.map prD2) = some ((sortP L).map prD2) := by
  cases L with
  | nil => rfl
  | cons x r =>
    have h := prsD_mapL (x :: r)
    simp only [List.map_cons] at h ⊢
    simp only [sortD, h]
    simp [prD2, intsD, strsD]
theorem insP_len (x : Int × Int) : ∀ L : List (Int × Int), (insP x L).length = L.length + 1
  | [] => rfl
  | y :: r => by
    unfold insP
    split <;> simp [insP_len x r]
theorem sortP_len : ∀ L : List (Int × Int), (sortP L).length = L.length
  | [] => rfl
  | x :: r => by simp [sortP, insP_len, sortP_len r]
theorem prim_sorted_prs (L : List (Int × Int)) (st : Sto) (h : L.length ≤ lim) : prim false .sorted [.d (.list (L.map prD2))] st = .ok (.d (.list ((sortP L).map prD2))) st := by
  simp only [prim, srtT, srtU, vws, vw, primL, srtD, sortD_prs]
  exact mkL_ds _ _ (by rw [List.length_map, sortP_len]; exact h)
theorem ix_t0 {x : PyData} {r : List PyData} (st : Sto) : ixU (.d (.tuple (x :: r))) (.d (.int 0)) st = .ok (.d x) st := by simp [ixU, dictGet, ixD, L2.atI, L2.ixN]
theorem ix_t1 {x y : PyData} {r : List PyData} (st : Sto) : ixU (.d (.tuple (x :: y :: r))) (.d (.int 1)) st = .ok (.d y) st := by
  have : (1 : Int) < (r.length : Int) + 1 + 1 := by omega
  simp [ixU, dictGet, ixD, L2.atI, L2.ixN, this]
end PI
set_option Elab.async false
set_option linter.all false
set_option maxRecDepth 100000
namespace PI
open PySem
def b_is_whole : Fn := ⟨3, 3, true, [.ret (.and (.isTy (.var 0) .int) (.chain .le .le (.var 1) (.var 0) (.var 2)))]⟩
def b_is_row : Fn := ⟨3, 3, true, [.ret (.and (.isTy (.var 0) .tup) (.chain .le .le (.var 1) (.prim false .len [.var 0]) (.var 2)))]⟩
def c_fits_0 : E := .comp false (.call 0 [.var 2, .var 3, .var 4]) (.two 2 [3, 4]) .zip [.var 0, .var 1] []
def b_fits : Fn := ⟨2, 5, true, [.ifs (.not (.call 1 [.var 0, .prim false .len [.var 1], .prim false .len [.var 1]])) [.ret (.con (.bool false))] [], .ret (.prim false .all [c_fits_0])]⟩
def b_plus : Fn := ⟨2, 2, true, [.ret (.bin .mod (.bin .add (.var 0) (.var 1)) (.glob 0))]⟩
def b_minus : Fn := ⟨2, 2, true, [.ret (.bin .mod (.bin .sub (.var 0) (.var 1)) (.glob 0))]⟩
def b_times : Fn := ⟨2, 2, true, [.ret (.bin .mod (.bin .mul (.var 0) (.var 1)) (.glob 0))]⟩
def b_less : Fn := ⟨2, 2, true, [.ret (.ife (.cmp .lt (.var 0) (.var 1)) (.con (.int 1)) (.con (.int 0)))]⟩
def b_same : Fn := ⟨2, 2, true, [.ret (.ife (.cmp .eq (.var 0) (.var 1)) (.con (.int 1)) (.con (.int 0)))]⟩
def b_is_op : Fn := ⟨1, 1, true, [.ret (.and (.isTy (.var 0) .str) (.cmp .isin (.var 0) (.glob 1)))]⟩
def b_is_worth : Fn := ⟨1, 1, true, [.ret (.call 0 [.var 0, .con (.int 0), .bin .sub (.glob 0) (.con (.int 1))])]⟩
def c_is_code_0 : E := .comp false (.call 12 [.var 7]) (.one 7) .val [.var 1] []
def c_is_code_1 : E := .comp false (.call 0 [.var 8, .con (.int 1), .glob 6]) (.one 8) .val [.var 4] []
def c_is_code_2 : E := .comp false (.call 13 [.var 6, .var 2, .prim false .len [.var 4], .prim false .len [.var 5]]) (.one 6) .val [.var 5] []
def b_is_code : Fn := ⟨1, 9, true, [.ifs (.not (.call 1 [.var 0, .con (.int 5), .con (.int 5)])) [.ret (.con (.bool false))] [], .unp [1, 2, 3, 4, 5] (.var 0), .ifs (.not (.and (.call 1 [.var 1, .con (.int 0), .glob 3]) (.prim false .all [c_is_code_0]))) [.ret (.con (.bool false))] [], .ifs (.not (.and (.call 0 [.var 2, .prim false .max2 [.con (.int 1), .prim false .len [.var 1]], .glob 4]) (.call 0 [.var 3, .con (.int 0), .var 2]))) [.ret (.con (.bool false))] [], .ifs (.not (.and (.call 1 [.var 4, .con (.int 0), .glob 5]) (.prim false .all [c_is_code_1]))) [.ret (.con (.bool false))] [], .ifs (.not (.call 1 [.var 5, .con (.int 1), .glob 7])) [.ret (.con (.bool false))] [], .ifs (.not (.prim false .all [c_is_code_2])) [.ret (.con (.bool false))] [], .ret (.and (.call 14 [.var 5]) (.and (.call 16 [.var 5]) (.call 18 [.var 5])))]⟩
def b_need_code : Fn := ⟨1, 1, true, [.ifs (.not (.call 10 [.var 0])) [.rais] []]⟩
def b_is_span : Fn := ⟨1, 3, true, [.ifs (.not (.call 1 [.var 0, .con (.int 2), .con (.int 2)])) [.ret (.con (.bool false))] [], .unp [1, 2] (.var 0), .ret (.and (.call 9 [.var 1]) (.and (.call 9 [.var 2]) (.cmp .le (.var 1) (.var 2))))]⟩
def c_is_row_form_0 : E := .comp false (.idx (.var 6) (.var 7)) (.one 7) .val [.var 5] []
def b_is_row_form : Fn := ⟨4, 8, true, [.ifs (.not (.call 1 [.var 0, .con (.int 1), .con (.int 4)])) [.ret (.con (.bool false))] [], .set 4 (.idx (.var 0) (.con (.int 0))), .ifs (.noTy (.var 4) .str) [.ret (.con (.bool false))] [], .set 5 (.ife (.call 8 [.var 4]) (.glob 11) (.meth .get1 (.glob 10) [.var 4])), .ifs (.cmp .is (.var 5) (.con .none)) [.ret (.con (.bool false))] [], .set 6 (.frz (.dic [.con (.str "r"), .tup [.con (.int 0), .bin .sub (.var 1) (.con (.int 1))], .con (.str "w"), .tup [.con (.int 0), .bin .sub (.glob 0) (.con (.int 1))], .con (.str "a"), .tup [.con (.int 0), .bin .sub (.var 2) (.con (.int 1))], .con (.str "n"), .tup [.con (.int 0), .bin .sub (.var 3) (.con (.int 1))], .con (.str "m"), .tup [.con (.int 1), .glob 8]])), .ret (.call 2 [.slice (.var 0) [.con (.int 1)] [], c_is_row_form_0])]⟩
def c_ends_well_0 : E := .comp false (.var 1) (.tup [1, 2]) .enum [.var 0] [.cmp .eq (.idx (.var 2) (.con (.int 0))) (.con (.str "end"))]
def b_ends_well : Fn := ⟨1, 3, true, [.ret (.cmp .eq (c_ends_well_0) (.lst false [.bin .sub (.prim false .len [.var 0]) (.con (.int 1))]))]⟩
def c_loops_in_0 : E := .comp false (.tup [.bin .sub (.idx (.var 2) (.con (.int 1))) (.con (.int 1)), .var 1]) (.tup [1, 2]) .enum [.var 0] [.cmp .eq (.idx (.var 2) (.con (.int 0))) (.con (.str "again"))]
def b_loops_in : Fn := ⟨1, 3, true, [.ret (.prim false .sorted [c_loops_in_0])]⟩
def c_loops_well_0 : E := .comp false (.var 3) (.tup [3, 4]) .enum [.var 0] [.cmp .eq (.idx (.var 4) (.con (.int 0))) (.con (.str "count"))]
def c_loops_well_1 : E := .comp false (.cmp .lt (.var 6) (.var 8)) (.tup [6, 8]) .val [.var 1] []
def c_loops_well_2 : E := .comp false (.var 6) (.tup [6, 7]) .val [.var 1] []
def c_loops_well_3 : E := .comp false (.call 17 [.var 5, .var 1]) (.one 5) .val [.var 1] []
def b_loops_well : Fn := ⟨1, 9, true, [.set 1 (.call 15 [.var 0]), .set 2 (c_loops_well_0), .ifs (.or (.cmp .ne (c_loops_well_2) (.var 2)) (.not (.prim false .all [c_loops_well_1]))) [.ret (.con (.bool false))] [], .ret (.prim false .all [c_loops_well_3])]⟩
def c_stands_well_0 : E := .comp false (.var 6) (.tup [5, 6]) .val [.var 1] [.chain .lt .lt (.var 5) (.var 3) (.var 6)]
def c_stands_well_1 : E := .comp false (.cmp .lt (.var 4) (.var 6)) (.one 6) .val [.var 2] []
def b_stands_well : Fn := ⟨2, 7, true, [.unp [3, 4] (.var 0), .set 2 (c_stands_well_0), .ret (.and (.cmp .lt (.prim false .len [.var 2]) (.glob 9)) (.prim false .all [c_stands_well_1]))]⟩
def c_jumps_well_0 : E := .comp false (.var 6) (.one 6) .val [.call 19 [.var 1, .var 4]] [.cmp .notin (.var 6) (.call 19 [.var 1, .var 2])]
def l_jumps_well_0 : List S := [.ifs (.cmp .isin (.idx (.var 3) (.con (.int 0))) (.glob 2)) [.set 4 (.idx (.var 3) (.neg (.con (.int 1)))), .set 5 (c_jumps_well_0), .ifs (.or (.cmp .le (.var 4) (.var 2)) (.var 5)) [.ret (.con (.bool false))] []] []]
def b_jumps_well : Fn := ⟨1, 7, true, [.set 1 (.call 15 [.var 0]), .forr (.tup [2, 3]) .enum [.var 0] l_jumps_well_0, .ret (.con (.bool true))]⟩
def c_counts_around_0 : E := .comp false (.var 2) (.tup [2, 3]) .val [.var 0] [.chain .lt .le (.var 2) (.var 1) (.var 3)]
def b_counts_around : Fn := ⟨2, 4, true, [.ret (.prim false .tuple [c_counts_around_0])]⟩
def b_seams_of : Fn := ⟨1, 1, true, [.exp (.call 11 [.var 0]), .ret (.prim false .tuple [.call 21 [.idx (.var 0) (.con (.int 4))]])]⟩
def c_seams_in_0 : E := .comp false (.tup [.var 4, .idx (.var 5) (.neg (.con (.int 1)))]) (.tup [4, 5]) .enum [.var 0] [.cmp .isin (.idx (.var 5) (.con (.int 0))) (.glob 2)]
def c_seams_in_1 : E := .comp false (.var 4) (.one 4) .range [.con (.int 1), .prim false .len [.var 0]] [.and (.cmp .eq (.call 19 [.var 1, .var 4]) (.tup [])) (.not (.call 22 [.var 2, .var 4]))]
def b_seams_in : Fn := ⟨1, 6, true, [.set 1 (.call 15 [.var 0]), .set 2 (c_seams_in_0), .set 3 (c_seams_in_1), .ret (.bin .add (.bin .add (.lst false [.con (.int 0)]) (.var 3)) (.lst false [.prim false .len [.var 0]]))]⟩
def c_is_passed_0 : E := .comp false (.chain .lt .lt (.var 2) (.var 1) (.var 3)) (.tup [2, 3]) .val [.var 0] []
def b_is_passed : Fn := ⟨2, 4, true, [.ret (.prim false .any [c_is_passed_0])]⟩
def b__law_pot : Fn := ⟨2, 4, false, [.set 2 (.con (.int 0)), .ifs (.cmp .lt (.var 1) (.prim false .len [.var 0])) [.set 2 (.bin .mod (.prim false .abs [.idx (.var 0) (.var 1)]) (.bin .pow (.bin .pow (.con (.int 10)) (.con (.int 60))) (.con (.int 10))))] [], .set 3 (.bin .mod (.bin .pow (.bin .add (.bin .add (.bin .mod (.var 2) (.con (.int 2147483587))) (.bin .mul (.con (.int 6007)) (.var 1))) (.con (.int 1))) (.con (.int 5))) (.con (.int 2305843009213693951))), .ret (.lst true [.bin .mul (.var 2) (.prim false .int [.cmp .ge (.var 2) (.bin .pow (.con (.int 10)) (.con (.int 18)))]), .var 3, .con (.int 0)])]⟩
def b__law_take : Fn := ⟨2, 5, true, [.ifs (.cmp .gt (.idx (.var 0) (.con (.int 0))) (.con (.int 0))) [.set 4 (.bin .mod (.idx (.var 0) (.con (.int 0))) (.var 1)), .put (.var 0) (.con (.int 0)) (.bin .div (.idx (.var 0) (.con (.int 0))) (.var 1)), .ret (.var 4)] [], .put (.var 0) (.con (.int 2)) (.bin .add (.idx (.var 0) (.con (.int 2))) (.con (.int 1))), .set 2 (.bin .mod (.bin .pow (.bin .add (.idx (.var 0) (.con (.int 1))) (.bin .mul (.con (.int 104683)) (.idx (.var 0) (.con (.int 2))))) (.con (.int 3))) (.con (.int 2305843009213693921))), .set 3 (.bin .mod (.bin .pow (.bin .add (.bin .add (.var 2) (.bin .mod (.idx (.var 0) (.con (.int 1))) (.con (.int 65521)))) (.bin .mul (.con (.int 37)) (.idx (.var 0) (.con (.int 2))))) (.con (.int 5))) (.con (.int 2305843009213693907))), .ret (.bin .mod (.bin .div (.var 3) (.con (.int 1024))) (.var 1))]⟩
def c__law_loops_0 : E := .comp false (.con (.int 1)) (.tup [7, 8]) .val [.var 2] [.or (.cmp .lt (.var 5) (.var 7)) (.or (.cmp .lt (.var 8) (.var 4)) (.or (.and (.cmp .lt (.var 7) (.var 4)) (.cmp .lt (.var 5) (.var 8))) (.and (.cmp .lt (.var 4) (.var 7)) (.cmp .lt (.var 8) (.var 5)))))]
def l__law_loops_0 : List S := [.ifs (.cmp .gt (.var 1) (.con (.int 3))) [.set 4 (.call 24 [.var 0, .bin .sub (.var 1) (.con (.int 2))]), .set 5 (.bin .add (.bin .add (.var 4) (.con (.int 1))) (.call 24 [.var 0, .bin .sub (.bin .sub (.var 1) (.con (.int 2))) (.var 4)])), .set 6 (c__law_loops_0), .ifs (.and (.cmp .lt (.prim false .len [.var 2]) (.con (.int 2))) (.cmp .eq (.prim false .len [.var 6]) (.prim false .len [.var 2]))) [.exp (.meth .append (.var 2) [.tup [.var 4, .var 5]])] []] []]
def b__law_loops : Fn := ⟨2, 9, true, [.set 2 (.lst true []), .forr (.one 3) .range [.call 24 [.var 0, .con (.int 4)]] l__law_loops_0, .ret (.prim false .sorted [.var 2])]⟩
def c__law_around_0 : E := .comp false (.var 2) (.tup [2, 3]) .val [.var 0] [.chain .lt .le (.var 2) (.var 1) (.var 3)]
def b__law_around : Fn := ⟨2, 4, true, [.ret (c__law_around_0)]⟩
def b__law_plain_row : Fn := ⟨3, 8, true, [.set 3 (.call 24 [.var 0, .con (.int 9)]), .par [4, 5, 6] [.call 24 [.var 0, .var 1], .call 24 [.var 0, .var 1], .call 24 [.var 0, .var 1]], .ifs (.and (.cmp .ne (.var 2) (.tup [])) (.cmp .lt (.var 3) (.con (.int 3)))) [.set 7 (.call 24 [.var 0, .prim false .len [.var 2]]), .ret (.idx (.lst false [.tup [.con (.str "get"), .var 4, .var 7, .var 5], .tup [.con (.str "put"), .var 7, .var 5, .var 6]]) (.call 24 [.var 0, .con (.int 2)]))] [], .ifs (.cmp .lt (.var 3) (.con (.int 5))) [.ret (.tup [.con (.str "set"), .var 4, .idx (.lst false [.con (.int 0), .con (.int 1), .con (.int 255), .call 24 [.var 0, .con (.int 256)]]) (.call 24 [.var 0, .con (.int 4)])])] [], .ifs (.cmp .eq (.var 3) (.con (.int 5))) [.ret (.idx (.lst false [.tup [.con (.str "copy"), .var 4, .var 5], .tup [.con (.str "rest")]]) (.bin .div (.call 24 [.var 0, .con (.int 3)]) (.con (.int 2))))] [], .ret (.tup [.idx (.lst false [.con (.str "*"), .con (.str "+"), .con (.str "-"), .con (.str "*"), .con (.str "<"), .con (.str "=")]) (.call 24 [.var 0, .con (.int 6)]), .var 4, .var 5, .var 6])]⟩
def l__law_code_0 : List S := [.set 11 (.idx (.lst false [.con (.int 0), .con (.int 1), .con (.int 254), .call 24 [.var 0, .con (.int 254)]]) (.call 24 [.var 0, .con (.int 4)])), .exp (.meth .append (.var 4) [.tup [.var 11, .bin .add (.var 11) (.call 24 [.var 0, .prim false .min2 [.con (.int 3), .bin .sub (.con (.int 256)) (.var 11)]])]])]
def c__law_code_0 : E := .comp false (.bin .add (.con (.int 1)) (.call 24 [.var 0, .con (.int 6)])) (.one 5) .range [.call 24 [.var 0, .con (.int 3)]] []
def c__law_code_1 : E := .comp false (.tup [.var 16, .var 15]) (.tup [15, 16]) .val [.var 7] []
def c__law_code_2 : E := .comp false (.var 18) (.one 18) .val [.call 26 [.var 7, .var 14]] [.cmp .notin (.var 18) (.var 12)]
def c__law_code_3 : E := .comp false (.var 14) (.one 14) .range [.bin .add (.var 10) (.con (.int 1)), .var 2] [.cmp .eq (c__law_code_2) (.lst false [])]
def c__law_code_4 : E := .comp false (.var 15) (.tup [15, 16]) .val [.var 7] []
def l__law_code_1 : List S := [.set 12 (.call 26 [.var 7, .var 10]), .set 13 (c__law_code_3), .ifs (.cmp .isin (.var 10) (c__law_code_4)) [.exp (.meth .append (.var 9) [.tup [.con (.str "count"), .bin .add (.con (.int 1)) (.call 24 [.var 0, .con (.int 3)])]])] [.ifs (.cmp .isin (.var 10) (.var 8)) [.exp (.meth .append (.var 9) [.tup [.con (.str "again"), .bin .add (.idx (.var 8) (.var 10)) (.con (.int 1))]])] [.ifs (.cmp .eq (.call 24 [.var 0, .con (.int 4)]) (.con (.int 0))) [.set 17 (.idx (.var 13) (.idx (.lst false [.call 24 [.var 0, .prim false .len [.var 13]], .call 24 [.var 0, .prim false .min2 [.con (.int 3), .prim false .len [.var 13]]]]) (.call 24 [.var 0, .con (.int 2)]))), .exp (.meth .append (.var 9) [.idx (.lst false [.tup [.con (.str "test"), .call 24 [.var 0, .var 3], .var 17], .tup [.con (.str "go"), .var 17]]) (.bin .div (.call 24 [.var 0, .con (.int 4)]) (.con (.int 3)))])] [.exp (.meth .append (.var 9) [.call 27 [.var 0, .var 3, .var 6]])]]]]
def b__law_code : Fn := ⟨2, 19, true, [.set 2 (.bin .add (.con (.int 3)) (.call 24 [.var 0, .bin .sub (.var 1) (.con (.int 2))])), .set 3 (.bin .add (.con (.int 1)) (.call 24 [.var 0, .con (.int 4)])), .set 4 (.lst true []), .forr (.one 5) .range [.call 24 [.var 0, .prim false .min2 [.con (.int 3), .bin .add (.var 3) (.con (.int 1))]]] l__law_code_0, .set 6 (.prim false .tuple [c__law_code_0]), .set 7 (.call 25 [.var 0, .var 2]), .set 8 (.frz (.mkd (c__law_code_1))), .set 9 (.lst true []), .forr (.one 10) .range [.bin .sub (.var 2) (.con (.int 1))] l__law_code_1, .ret (.tup [.prim false .tuple [.var 4], .var 3, .call 24 [.var 0, .bin .add (.var 3) (.con (.int 1))], .var 6, .prim false .tuple [.bin .add (.var 9) (.lst false [.tup [.con (.str "end")]])]])]⟩
def c__law_loops_of_0 : E := .comp false (.tup [.bin .sub (.idx (.var 2) (.con (.int 1))) (.con (.int 1)), .var 1]) (.tup [1, 2]) .enum [.var 0] [.cmp .eq (.idx (.var 2) (.con (.int 0))) (.con (.str "again"))]
def b__law_loops_of : Fn := ⟨1, 3, true, [.ret (.prim false .sorted [c__law_loops_of_0])]⟩
def b__law_next : Fn := ⟨3, 9, true, [.unp [6, 7, 8] (.var 1), .set 3 (.idx (.var 0) (.con (.int 4))), .set 4 (.idx (.var 3) (.var 6)), .ifs (.cmp .eq (.idx (.var 4) (.con (.int 0))) (.con (.str "end"))) [.ret (.con .none)] [], .ifs (.and (.cmp .eq (.idx (.var 4) (.con (.int 0))) (.con (.str "again"))) (.cmp .gt (.idx (.var 7) (.neg (.con (.int 1)))) (.con (.int 1)))) [.ret (.tup [.idx (.var 4) (.con (.int 1)), .bin .add (.slice (.var 7) [] [.neg (.con (.int 1))]) (.tup [.bin .sub (.idx (.var 7) (.neg (.con (.int 1)))) (.con (.int 1))])])] [], .set 5 (.ife (.or (.cmp .eq (.idx (.var 4) (.con (.int 0))) (.con (.str "go"))) (.and (.cmp .eq (.idx (.var 4) (.con (.int 0))) (.con (.str "test"))) (.cmp .eq (.var 2) (.con (.int 1))))) (.idx (.var 4) (.neg (.con (.int 1)))) (.bin .add (.var 6) (.con (.int 1)))), .ifs (.cmp .eq (.idx (.var 4) (.con (.int 0))) (.con (.str "count"))) [.ret (.tup [.var 5, .bin .add (.var 7) (.tup [.idx (.var 4) (.con (.int 1))])])] [], .ret (.tup [.var 5, .slice (.var 7) [] [.prim false .len [.call 26 [.call 29 [.var 3], .var 5]]]])]⟩
def c__law_seams_0 : E := .comp false (.con (.int 1)) (.tup [5, 6]) .enum [.var 0] [.and (.cmp .isin (.idx (.var 6) (.con (.int 0))) (.tup [.con (.str "test"), .con (.str "go")])) (.chain .lt .lt (.var 5) (.var 3) (.idx (.var 6) (.neg (.con (.int 1)))))]
def l__law_seams_0 : List S := [.set 4 (c__law_seams_0), .ifs (.and (.cmp .eq (.var 4) (.lst false [])) (.cmp .eq (.call 26 [.var 1, .var 3]) (.lst false []))) [.exp (.meth .append (.var 2) [.var 3])] []]
def b__law_seams : Fn := ⟨1, 7, true, [.set 1 (.call 29 [.var 0]), .set 2 (.lst true [.con (.int 0)]), .forr (.one 3) .range [.con (.int 1), .prim false .len [.var 0]] l__law_seams_0, .ret (.bin .add (.var 2) (.lst false [.prim false .len [.var 0]]))]⟩
def b__law_come : Fn := ⟨2, 5, true, [.set 2 (.lst true [.con (.int 0)]), .set 3 (.tup []), .whl (.cmp .ne (.idx (.idx (.idx (.var 1) (.con (.int 4))) (.idx (.var 2) (.neg (.con (.int 1))))) (.con (.int 0))) (.con (.str "end"))) [.unp [4, 3] (.call 30 [.var 1, .tup [.idx (.var 2) (.neg (.con (.int 1))), .var 3, .tup []], .call 24 [.var 0, .con (.int 2)]]), .exp (.meth .append (.var 2) [.var 4])], .ret (.frz (.var 2))]⟩
def c_law_0 : E := .comp false (.var 7) (.one 7) .val [.var 6] [.cmp .isin (.var 7) (.var 4)]
def l_law_0 : List S := [.set 6 (.call 32 [.var 2, .var 3]), .ifs (.cmp .ne (c_law_0) (.prim false .list [.slice (.var 4) [] [.neg (.con (.int 1))]])) [.ret (.con (.bool false))] []]
def l_law_1 : List S := [.set 2 (.call 23 [.var 0, .var 1]), .set 3 (.call 28 [.var 2, .idx (.lst false [.con (.int 8), .con (.int 16)]) (.call 24 [.var 2, .con (.int 2)])]), .set 4 (.prim false .tuple [.call 31 [.idx (.var 3) (.con (.int 4))]]), .ifs (.cmp .ne (.prim false .repr [.call 20 [.var 3]]) (.prim false .repr [.var 4])) [.ret (.con (.bool false))] [], .forr (.one 5) .range [.con (.int 6)] l_law_0]
def b_law : Fn := ⟨1, 8, true, [.forr (.one 1) .range [.prim false .max2 [.con (.int 1), .prim false .min2 [.con (.int 20), .prim false .len [.var 0]]]] l_law_1, .ret (.con (.bool true))]⟩
def gl : List U := [.d (.int 256), .t [("+", 3), ("-", 4), ("*", 5), ("<", 6), ("=", 7)], .d (.tuple [.str "test", .str "go"]), .d (.int 3), .d (.int 16), .d (.int 2), .d (.int 6), .d (.int 60), .d (.int 6), .d (.int 2), .td [("set", .str "rw"), ("copy", .str "rr"), ("get", .str "rar"), ("put", .str "arr"), ("test", .str "rn"), ("go", .str "n"), ("count", .str "m"), ("again", .str "n"), ("rest", .str ""), ("end", .str "")], .d (.str "rrr")]
def fnT : List Fn := [b_is_whole, b_is_row, b_fits, b_plus, b_minus, b_times, b_less, b_same, b_is_op, b_is_worth, b_is_code, b_need_code, b_is_span, b_is_row_form, b_ends_well, b_loops_in, b_loops_well, b_stands_well, b_jumps_well, b_counts_around, b_seams_of, b_seams_in, b_is_passed, b__law_pot, b__law_take, b__law_loops, b__law_around, b__law_plain_row, b__law_code, b__law_loops_of, b__law_next, b__law_seams, b__law_come, b_law]
end PI
set_option Elab.async false
set_option linter.all false
set_option maxRecDepth 100000
set_option maxHeartbeats 4000000
namespace PI
open PySem
theorem fin_st {F : Fn} {d : PyData} {st : Sto} (h : Flat st) (ht : F.trunc = true) : fin F st.length (.d d) st = .ok (.d d) st := by
  rw [fin_d h ht (Nat.le_refl _), List.take_length]
def wholeD (x : PyData) (lo hi : Int) : Bool := match x with
  | .int i => decide (lo ≤ i) && decide (i ≤ hi)
  | _ => false
def rowD (x : PyData) (lo hi : Int) : Bool := match x with
  | .tuple xs => decide (lo ≤ xs.length) && decide ((xs.length : Int) ≤ hi)
  | _ => false
theorem whole_ok (k : Nat) {st : Sto} (hf : Flat st) (x : PyData) (lo hi : Int) : callN gl fnT (k + 1) 0 [.d x, .d (.int lo), .d (.int hi)] st = .ok (.d (.bool (wholeD x lo hi))) st := by
  rw [← fin_st (F := b_is_whole) hf rfl]
  cases x <;> simp [callN, fnT, runF, b_is_whole, evSs, evS, evE, evEs, O.bind, vw, tyD, tru, truD, cop, dcop, cmpD, wholeD]
  rename_i i
  by_cases h : lo ≤ i <;> simp [h]
theorem row_ok (k : Nat) {st : Sto} (hf : Flat st) (x : PyData) (lo hi : Int) : callN gl fnT (k + 1) 1 [.d x, .d (.int lo), .d (.int hi)] st = .ok (.d (.bool (rowD x lo hi))) st := by
  rw [← fin_st (F := b_is_row) hf rfl]
  cases x <;> simp [callN, fnT, runF, b_is_row, evSs, evS, evE, evEs, O.bind, vw, tyD, tru, truD, cop, dcop, cmpD, rowD, prim, srtT, vws, primL, primD, lenD]
  rename_i i
  by_cases h : lo ≤ i.length <;> simp [h]
def worthD (x : PyData) : Bool := wholeD x 0 255
theorem worth_ok (k : Nat) {st : Sto} (hf : Flat st) (x : PyData) : callN gl fnT (k + 2) 9 [.d x] st = .ok (.d (.bool (worthD x))) st := by
  have h := whole_ok k hf x 0 255
  rw [← fin_st (F := b_is_worth) hf rfl]
  rw [show k + 2 = (k + 1) + 1 from rfl, callN]
  generalize callN gl fnT (k + 1) = cf at h
  simp [fnT, runF, b_is_worth, evSs, evS, evE, evEs, O.bind, gl, bop, vt, vw, bopD, h, worthD]
def OPSL : List (Str × Nat) := [("+", 3), ("-", 4), ("*", 5), ("<", 6), ("=", 7)]
def opD (x : PyData) : Bool := match x with
  | .str z => (OPSL.lookup z).isSome
  | _ => false
theorem op_ok (k : Nat) {st : Sto} (hf : Flat st) (x : PyData) : callN gl fnT (k + 1) 8 [.d x] st = .ok (.d (.bool (opD x))) st := by
  rw [← fin_st (F := b_is_op) hf rfl]
  cases x with
  | str z => simp [callN, fnT, runF, b_is_op, evSs, evS, evE, evEs, O.bind, gl, vw, tyD, tru, truD, cop, dcop, dictGet, opD, OPSL]
  | _ => simp [callN, fnT, runF, b_is_op, evSs, evS, evE, evEs, O.bind, vw, tyD, tru, truD, opD]
/-- a row of numbers, each within its span -/
def fitL : List PyData → List (Int × Int) → Bool
  | x :: r, s :: t => wholeD x s.1 s.2 && fitL r t
  | [], [] => true
  | _, _ => false
def fitsD (x : PyData) (sp : List (Int × Int)) : Bool := match x with
  | .tuple xs => fitL xs sp
  | _ => false
def fitP (p : PyData) : Bool := match p with
  | .tuple [y, .tuple [.int lo, .int hi]] => wholeD y lo hi
  | _ => false
theorem fitL_zip : ∀ (xs : List PyData) (sp : List (Int × Int)), xs.length = sp.length → fitL xs sp = (zipD xs (sp.map prD2)).all fitP
  | [], [], _ => rfl
  | x :: r, s :: t, h => by
    simp only [fitL, List.map_cons, zipD, List.all_cons, fitL_zip r t (by simpa using h)]
    rfl
theorem fitL_len : ∀ (xs : List PyData) (sp : List (Int × Int)), xs.length ≠ sp.length → fitL xs sp = false
  | [], [], h => absurd rfl h
  | [], _ :: _, _ => rfl
  | _ :: _, [], _ => rfl
  | x :: r, s :: t, h => by
    simp only [fitL, fitL_len r t (by simpa using h), Bool.and_false]
theorem zip_mem : ∀ {xs : List PyData} {sp : List (Int × Int)} {p : PyData}, p ∈ zipD xs (sp.map prD2) → ∃ y lo hi, p = .tuple [y, .tuple [.int lo, .int hi]]
  | [], _, _, h => by simp [zipD] at h
  | _ :: _, [], _, h => by simp [zipD] at h
  | x :: r, s :: t, p, h => by
    simp only [List.map_cons, zipD, List.mem_cons] at h
    rcases h with rfl | h
    · exact ⟨x, s.1, s.2, rfl⟩
    · exact zip_mem h
theorem zip_len : ∀ (xs ys : List PyData), (zipD xs ys).length ≤ ys.length
  | [], _ => by simp [zipD]
  | _ :: _, [] => by simp [zipD]
  | _ :: r, _ :: s => by simp [zipD, zip_len r s]
theorem prim_len_l {m : Bool} (xs : List PyData) (st : Sto) : prim m .len [.d (.list xs)] st = .ok (.d (.int xs.length)) st := by
  simp [prim, srtT, vws, vw, primL, primD, lenD]
theorem prim_len_t {m : Bool} (xs : List PyData) (st : Sto) : prim m .len [.d (.tuple xs)] st = .ok (.d (.int xs.length)) st := by
  simp [prim, srtT, vws, vw, primL, primD, lenD]
theorem fits_ok (k : Nat) {st : Sto} (hf : Flat st) (x : PyData) (sp : List (Int × Int)) (hz : sp.length ≤ 1000) : callN gl fnT (k + 2) 2 [.d x, .d (.list (sp.map prD2))] st = .ok (.d (.bool (fitsD x sp))) st := by
  have h0 := fun y lo hi => whole_ok k hf y lo hi
  have h1 := row_ok k hf x sp.length sp.length
  rw [← fin_st (F := b_fits) hf rfl]
  rw [show k + 2 = (k + 1) + 1 from rfl, callN]
  generalize callN gl fnT (k + 1) = cf at h0 h1
  cases e : rowD x sp.length sp.length with
  | false =>
    have : fitsD x sp = false := by
      cases x with
      | tuple xs =>
        refine fitL_len xs sp fun q => ?_
        simp [rowD, q] at e
      | _ => rfl
    simp [fnT, runF, b_fits, evSs, evS, evE, evEs, evT, O.bind, vw, prim_len_l, tru, truD, h1, e, this]
  | true =>
    obtain ⟨xs, rfl, hx⟩ : ∃ xs, x = .tuple xs ∧ xs.length = sp.length := by
      cases x with
      | tuple xs =>
        simp only [rowD, Bool.and_eq_true, decide_eq_true_eq] at e
        exact ⟨xs, rfl, by omega⟩
      | _ => simp [rowD] at e
    have hC : evE gl cf c_fits_0 [some (.d (.tuple xs)), some (.d (.list (sp.map prD2))), none, none, none] st = .ok (.d (.list ((zipD xs (sp.map prD2)).map fun p => .bool (fitP p)))) st := by
      refine e_comp_map (us := [.d (.tuple xs), .d (.list (sp.map prD2))]) (xs := zipD xs (sp.map prD2)) ?_ ?_ ?_ ?_
      · simp [evEs, evE, O.bind]
      · simp [items, vws, vw, srcD]
      · refine Nat.le_trans (zip_len _ _) ?_
        rw [List.length_map, lim]
        omega
      · intro p hp
        obtain ⟨y, lo, hi, rfl⟩ := zip_mem hp
        exact ⟨_, rfl, by simp [evE, evEs, O.bind, h0, fitP]⟩
    simp only [fitsD, fitL_zip xs sp hx]
    have hp : ∀ bs : List PyData, prim false .all [.d (.list (bs.map fun x => .bool (fitP x)))] st = .ok (.d (.bool (bs.all fitP))) st := fun bs => prim_all bs fitP st
    simp [fnT, runF, b_fits, evSs, evS, evE, evEs, evT, O.bind, vw, vws, prim_len_l, prim_len_t, tru, truD, h1, e, hC, hp]
/-! ### the forms of rows -/
def FORML : List (Str × PyData) := [("set", .str "rw"), ("copy", .str "rr"), ("get", .str "rar"), ("put", .str "arr"), ("test", .str "rn"), ("go", .str "n"), ("count", .str "m"), ("again", .str "n"), ("rest", .str ""), ("end", .str "")]
inductive Kd where | r | w | a | n | m
  deriving DecidableEq
def kStr : List Kd → Str := fun ks => ⟨(ks.map fun | .r => (114 : Nat) | .w => 119 | .a => 97 | .n => 110 | .m => 109).toArray⟩
def KS : List (Str × List Kd) := [("set", [.r, .w]), ("copy", [.r, .r]), ("get", [.r, .a, .r]), ("put", [.a, .r, .r]), ("test", [.r, .n]), ("go", [.n]), ("count", [.m]), ("again", [.n]), ("rest", []), ("end", []), ("+", [.r, .r, .r]), ("-", [.r, .r, .r]), ("*", [.r, .r, .r]), ("<", [.r, .r, .r]), ("=", [.r, .r, .r])]
def spanK (many arrays rows : Int) : Kd → Int × Int
  | .r => (0, many - 1) | .w => (0, 255) | .a => (0, arrays - 1) | .n => (0, rows - 1) | .m => (1, 6)
def formD (x : PyData) (many arrays rows : Int) : Bool := match x with
  | .tuple (.str z :: ps) => match KS.lookup z with
    | some ks => fitL ps (ks.map (spanK many arrays rows))
    | none => false
  | _ => false
theorem mem_lk {β : Type} {z : Str} {y : β} : ∀ {l : List (Str × β)}, l.lookup z = some y → (z, y) ∈ l
  | [], h => by cases h
  | (a, b) :: r, h => by
    rw [List.lookup_cons] at h
    cases q : z == a with
    | true =>
      rw [q] at h
      cases h
      rw [eq_of_beq q]
      exact List.mem_cons_self
    | false =>
      rw [q] at h
      exact List.mem_cons_of_mem _ (mem_lk h)
theorem ks_len {z : Str} {ks : List Kd} (h : KS.lookup z = some ks) : ks.length ≤ 3 := by
  have m := mem_lk h
  simp only [KS, List.mem_cons, List.not_mem_nil, or_false, Prod.mk.injEq] at m
  rcases m with ⟨_, rfl⟩ | ⟨_, rfl⟩ | ⟨_, rfl⟩ | ⟨_, rfl⟩ | ⟨_, rfl⟩ | ⟨_, rfl⟩ | ⟨_, rfl⟩ | ⟨_, rfl⟩ | ⟨_, rfl⟩ | ⟨_, rfl⟩ | ⟨_, rfl⟩ | ⟨_, rfl⟩ | ⟨_, rfl⟩ | ⟨_, rfl⟩ | ⟨_, rfl⟩ <;> decide
theorem fin_app {F : Fn} {d : PyData} {st : Sto} {X : Ob} (h : Flat st) (hx : refsB 0 X = true) (ht : F.trunc = true) : fin F st.length (.d d) (st ++ [X]) = .ok (.d d) st := by
  rw [fin_d (h.app hx) ht (by simp), List.take_left' rfl]
def spDict (many arrays rows : Int) : PyData := .dict [(.str "r", prD2 (0, many - 1)), (.str "w", prD2 (0, 255)), (.str "a", prD2 (0, arrays - 1)), (.str "n", prD2 (0, rows - 1)), (.str "m", prD2 (1, 6))]
def kSign : Kd → PyData | .r => .str "r" | .w => .str "w" | .a => .str "a" | .n => .str "n" | .m => .str "m"
theorem signs_ok (ks : List Kd) : (kStr ks).cps.toList.map (fun c => PyData.str ⟨#[c]⟩) = ks.map kSign := by
  unfold kStr
  simp only [List.map_map]
  refine List.map_congr_left fun k _ => ?_
  cases k <;> rfl
theorem spans_ok (cf : Cf) (st : Sto) (ks : List Kd) (hk : ks.length ≤ 3) (many arrays rows : Int) (a0 a1 a2 a3 a4 a7 : Option U) :
    evE gl cf c_is_row_form_0 [a0, a1, a2, a3, a4, some (.d (.str (kStr ks))), some (.d (spDict many arrays rows)), a7] st = .ok (.d (.list ((ks.map (spanK many arrays rows)).map prD2))) st := by
  have h := e_comp_map (G := gl) (cf := cf) (elt := .idx (.var 6) (.var 7)) (tg := .one 7) (ik := .val) (es := [.var 5]) (env := [a0, a1, a2, a3, a4, some (.d (.str (kStr ks))), some (.d (spDict many arrays rows)), a7]) (st := st) (us := [.d (.str (kStr ks))]) (xs := ks.map kSign)
    (h := fun x => match x with
      | .str z => if z = "r" then prD2 (0, many - 1) else if z = "w" then prD2 (0, 255) else if z = "a" then prD2 (0, arrays - 1) else if z = "n" then prD2 (0, rows - 1) else prD2 (1, 6)
      | _ => .none) (by simp [evEs, evE, O.bind]) (by simp [items, vws, vw, signs_ok]) (by rw [List.length_map, lim]; omega) (by
      intro x hx
      obtain ⟨k, _, rfl⟩ := List.mem_map.mp hx
      refine ⟨_, rfl, ?_⟩
      cases k <;> kernel_rfl)
  refine h.trans ?_
  rw [List.map_map, List.map_map]
  congr 3
  refine List.map_congr_left fun k _ => ?_
  cases k <;> rfl
theorem gl0 : gl[0]? = some (.d (.int 256)) := rfl
theorem gl1 : gl[1]? = some (.t OPSL) := rfl
theorem gl2 : gl[2]? = some (.d (.tuple [.str "test", .str "go"])) := rfl
theorem gl3 : gl[3]? = some (.d (.int 3)) := rfl
theorem gl4 : gl[4]? = some (.d (.int 16)) := rfl
theorem gl5 : gl[5]? = some (.d (.int 2)) := rfl
theorem gl6 : gl[6]? = some (.d (.int 6)) := rfl
theorem gl7 : gl[7]? = some (.d (.int 60)) := rfl
theorem gl8 : gl[8]? = some (.d (.int 6)) := rfl
theorem gl9 : gl[9]? = some (.d (.int 2)) := rfl
theorem gl10 : gl[10]? = some (.td FORML) := rfl
theorem gl11 : gl[11]? = some (.d (.str "rrr")) := rfl
theorem form_ok (k : Nat) {st : Sto} (hf : Flat st) (x : PyData) (many arrays rows : Int) : callN gl fnT (k + 3) 13 [.d x, .d (.int many), .d (.int arrays), .d (.int rows)] st = .ok (.d (.bool (formD x many arrays rows))) st := by
  have h1 := row_ok (k + 1) hf x 1 4
  have h8 := fun y => op_ok (k + 1) hf y
  have h2 := fun y sp hz => fits_ok k (hf.app (X := Ob.dead) rfl) y sp hz
  rw [show k + 3 = (k + 2) + 1 from rfl, callN]
  rw [show k + 1 + 1 = k + 2 from rfl] at h1 h8
  generalize callN gl fnT (k + 2) = cf at h1 h8 h2
  simp only [fnT, List.getElem?_cons_succ, List.getElem?_cons_zero]
  have f0 := fun d => fin_st (F := b_is_row_form) (d := d) hf rfl
  have f1 := fun d => fin_app (F := b_is_row_form) (d := d) (X := Ob.dead) hf rfl rfl
  cases e : rowD x 1 4 with
  | false =>
    have : formD x many arrays rows = false := by
      cases x with
      | tuple xs =>
        cases xs with
        | nil => rfl
        | cons w ps =>
          cases w with
          | str z =>
            show (match KS.lookup z with | some ks => fitL ps (ks.map (spanK many arrays rows)) | none => false) = false
            cases hk : KS.lookup z with
            | some ks =>
              refine fitL_len _ _ fun q => ?_
              have := ks_len hk
              simp [rowD] at e
              rw [List.length_map] at q
              omega
            | none => rfl
          | _ => rfl
      | _ => rfl
    rw [← f0]
    simp [runF, b_is_row_form, evSs, evS, evE, evEs, evT, O.bind, vw, tru, truD, h1, e, this]
  | true =>
    obtain ⟨w, ps, rfl⟩ : ∃ w ps, x = .tuple (w :: ps) := by
      cases x with
      | tuple xs =>
        cases xs with
        | nil => simp [rowD] at e
        | cons w ps => exact ⟨w, ps, rfl⟩
      | _ => simp [rowD] at e
    have i0 : ixU (.d (.tuple (w :: ps))) (.d (.int 0)) st = .ok (.d w) st := by simp [ixU, dictGet, ixD, L2.atI, L2.ixN]
    have nS : (∀ z, w ≠ .str z) → runF gl cf b_is_row_form [.d (.tuple (w :: ps)), .d (.int many), .d (.int arrays), .d (.int rows)] st = .ok (.d (.bool (formD (.tuple (w :: ps)) many arrays rows))) st := fun n => by
      rw [← f0]
      cases w with
      | str z => exact absurd rfl (n z)
      | _ => simp [runF, b_is_row_form, evSs, evS, evE, evEs, evT, O.bind, vw, tru, truD, tyD, h1, e, i0, formD]
    cases w with
    | str z =>
      have sl : sliceD (.tuple (.str z :: ps)) (some 1) none = some (.tuple ps) := by
        simp [sliceD, cutL, HT.sIx]
      have key : ∀ (ks : List Kd), KS.lookup z = some ks → (opD (.str z) = true ∧ ks = [.r, .r, .r] ∨ opD (.str z) = false ∧ FORML.lookup z = some (.str (kStr ks))) →
          runF gl cf b_is_row_form [.d (.tuple (.str z :: ps)), .d (.int many), .d (.int arrays), .d (.int rows)] st = .ok (.d (.bool (formD (.tuple (.str z :: ps)) many arrays rows))) st := fun ks hk hc => by
        have sp := spans_ok cf (st ++ [Ob.dead]) ks (ks_len hk) many arrays rows
        have ft := h2 (.tuple ps) (ks.map (spanK many arrays rows)) (by rw [List.length_map]; have := ks_len hk; omega)
        have fd : formD (.tuple (.str z :: ps)) many arrays rows = fitsD (.tuple ps) (ks.map (spanK many arrays rows)) := by simp only [formD, hk, fitsD]
        have mg : ∀ a b c : PyData, mergeU [] [(Sum.inr ("r" : Str), U.d a), (Sum.inr ("w" : Str), U.d b), (Sum.inr ("a" : Str), U.d c), (Sum.inr ("n" : Str), U.d (prD2 (0, rows - 1))), (Sum.inr ("m" : Str), U.d (prD2 (1, 6)))] = [(Sum.inr ("r" : Str), U.d a), (Sum.inr ("w" : Str), U.d b), (Sum.inr ("a" : Str), U.d c), (Sum.inr ("n" : Str), U.d (prD2 (0, rows - 1))), (Sum.inr ("m" : Str), U.d (prD2 (1, 6)))] := fun a b c => by kernel_rfl
        simp only [prD2] at mg
        simp only [spDict, prD2] at sp
        have sp2 : ∀ (a0 a1 a2 a3 a4 a7 : Option U) f, f = kStr ks → evE gl cf c_is_row_form_0 [a0, a1, a2, a3, a4, some (.d (.str f)), some (.d (.dict [(.str "r", .tuple [.int 0, .int (many - 1)]), (.str "w", .tuple [.int 0, .int 255]), (.str "a", .tuple [.int 0, .int (arrays - 1)]), (.str "n", .tuple [.int 0, .int (rows - 1)]), (.str "m", .tuple [.int 1, .int 6])])), a7] (st ++ [Ob.dead]) = .ok (.d (.list ((ks.map (spanK many arrays rows)).map prD2))) (st ++ [Ob.dead]) := fun a0 a1 a2 a3 a4 a7 f hf => by
          subst hf
          exact sp a0 a1 a2 a3 a4 a7
        rw [fd, ← f1]
        generalize (ks.map (spanK many arrays rows)).map prD2 = L at sp2 ft
        rcases hc with ⟨c1, rfl⟩ | ⟨c1, c2⟩
        · have s2 := fun a0 a1 a2 a3 a4 a7 => sp2 a0 a1 a2 a3 a4 a7 "rrr" (by decide +kernel)
          simp [runF, b_is_row_form, gl0, gl8, gl10, gl11, evSs, evS, evE, evEs, evT, O.bind, vw, vt, kvD, kD, tru, truD, tyD, bop, b_sub, cop, dcop, cmpD, usD, lim, pairU, keyD, mg, h1, h8, e, i0, c1, optI, sl, s2, ft]
        · have s2 := fun a0 a1 a2 a3 a4 a7 => sp2 a0 a1 a2 a3 a4 a7 _ rfl
          simp [runF, b_is_row_form, gl0, gl8, gl10, gl11, evSs, evS, evE, evEs, evT, O.bind, vw, vt, kvD, kD, tru, truD, tyD, bop, b_sub, cop, dcop, cmpD, usD, lim, pairU, keyD, mg, h1, h8, e, i0, c1, optI, sl, s2, ft, mOk, isDicO, meth, mGet, dictGet, c2]
      cases hk : KS.lookup z with
      | some ks =>
        refine key ks hk ?_
        have m := mem_lk hk
        simp only [KS, List.mem_cons, List.not_mem_nil, or_false, Prod.mk.injEq] at m
        rcases m with ⟨rfl, rfl⟩ | ⟨rfl, rfl⟩ | ⟨rfl, rfl⟩ | ⟨rfl, rfl⟩ | ⟨rfl, rfl⟩ | ⟨rfl, rfl⟩ | ⟨rfl, rfl⟩ | ⟨rfl, rfl⟩ | ⟨rfl, rfl⟩ | ⟨rfl, rfl⟩ | ⟨rfl, rfl⟩ | ⟨rfl, rfl⟩ | ⟨rfl, rfl⟩ | ⟨rfl, rfl⟩ | ⟨rfl, rfl⟩ <;>
          first | exact .inr ⟨by decide +kernel, by decide +kernel⟩ | exact .inl ⟨by decide +kernel, rfl⟩
      | none =>
        have n1 : opD (.str z) = false := by
          cases q : opD (.str z) with
          | false => rfl
          | true =>
            exfalso
            obtain ⟨v, hv⟩ := Option.isSome_iff_exists.mp q
            have m := mem_lk hv
            simp only [OPSL, List.mem_cons, List.not_mem_nil, or_false, Prod.mk.injEq] at m
            rcases m with ⟨rfl, _⟩ | ⟨rfl, _⟩ | ⟨rfl, _⟩ | ⟨rfl, _⟩ | ⟨rfl, _⟩ <;> exact absurd hk (by decide +kernel)
        have n2 : FORML.lookup z = none := by
          cases q : FORML.lookup z with
          | none => rfl
          | some v =>
            exfalso
            have m := mem_lk q
            simp only [FORML, List.mem_cons, List.not_mem_nil, or_false, Prod.mk.injEq] at m
            rcases m with ⟨rfl, _⟩ | ⟨rfl, _⟩ | ⟨rfl, _⟩ | ⟨rfl, _⟩ | ⟨rfl, _⟩ | ⟨rfl, _⟩ | ⟨rfl, _⟩ | ⟨rfl, _⟩ | ⟨rfl, _⟩ | ⟨rfl, _⟩ <;> exact absurd hk (by decide +kernel)
        have fd : formD (.tuple (.str z :: ps)) many arrays rows = false := by simp only [formD, hk]
        rw [fd, ← f0]
        simp [runF, b_is_row_form, gl10, evSs, evS, evE, evEs, evT, O.bind, vw, tru, truD, tyD, cop, dcop, cmpD, h1, h8, e, i0, n1, n2, mOk, isDicO, meth, mGet, dictGet]
    | _ => exact nS (by intro z h; cases h)
end PI
set_option Elab.async false
set_option linter.all false
set_option maxRecDepth 100000
set_option maxHeartbeats 4000000
/-! The program's looks at the rows of a code. -/
namespace PI
open PySem
theorem w_again_count : (("again" : Str) = "count") = False := eq_false (by decide +kernel)
theorem w_again_go : (("again" : Str) = "go") = False := eq_false (by decide +kernel)
theorem w_again_test : (("again" : Str) = "test") = False := eq_false (by decide +kernel)
theorem w_again_end : (("again" : Str) = "end") = False := eq_false (by decide +kernel)
theorem w_count_again : (("count" : Str) = "again") = False := eq_false (by decide +kernel)
theorem w_count_go : (("count" : Str) = "go") = False := eq_false (by decide +kernel)
theorem w_count_test : (("count" : Str) = "test") = False := eq_false (by decide +kernel)
theorem w_count_end : (("count" : Str) = "end") = False := eq_false (by decide +kernel)
theorem w_go_again : (("go" : Str) = "again") = False := eq_false (by decide +kernel)
theorem w_go_count : (("go" : Str) = "count") = False := eq_false (by decide +kernel)
theorem w_go_test : (("go" : Str) = "test") = False := eq_false (by decide +kernel)
theorem w_go_end : (("go" : Str) = "end") = False := eq_false (by decide +kernel)
theorem w_test_again : (("test" : Str) = "again") = False := eq_false (by decide +kernel)
theorem w_test_count : (("test" : Str) = "count") = False := eq_false (by decide +kernel)
theorem w_test_go : (("test" : Str) = "go") = False := eq_false (by decide +kernel)
theorem w_test_end : (("test" : Str) = "end") = False := eq_false (by decide +kernel)
theorem w_end_again : (("end" : Str) = "again") = False := eq_false (by decide +kernel)
theorem w_end_count : (("end" : Str) = "count") = False := eq_false (by decide +kernel)
theorem w_end_go : (("end" : Str) = "go") = False := eq_false (by decide +kernel)
theorem w_end_test : (("end" : Str) = "test") = False := eq_false (by decide +kernel)
inductive RK where | cnt | agn (m : Int) | jmp (t : Int) | fin | oth
  deriving DecidableEq
inductive ROK : PyData → RK → Prop
  | agn (m : Int) : ROK (.tuple [.str "again", .int m]) (.agn m)
  | cnt (m : Int) : ROK (.tuple [.str "count", .int m]) .cnt
  | go (t : Int) : ROK (.tuple [.str "go", .int t]) (.jmp t)
  | test (s t : Int) : ROK (.tuple [.str "test", .int s, .int t]) (.jmp t)
  | fin : ROK (.tuple [.str "end"]) .fin
  | oth (z : Str) (ps : List PyData) : z ≠ "again" → z ≠ "count" → z ≠ "go" → z ≠ "test" → z ≠ "end" → ROK (.tuple (.str z :: ps)) .oth
inductive RL : List PyData → List RK → Prop
  | nil : RL [] []
  | cons {r : PyData} {k : RK} {rs : List PyData} {ks : List RK} : ROK r k → RL rs ks → RL (r :: rs) (k :: ks)
theorem RL.length : ∀ {rs : List PyData} {ks : List RK}, RL rs ks → rs.length = ks.length
  | _, _, .nil => rfl
  | _, _, .cons _ t => by simp [RL.length t]
/-- (count's row, again's row) of each again -/
def ags (i : Nat) : List RK → List (Int × Int)
  | [] => []
  | .agn m :: r => (m - 1, (i : Int)) :: ags (i + 1) r
  | _ :: r => ags (i + 1) r
def cnts (i : Nat) : List RK → List Int
  | [] => []
  | .cnt :: r => (i : Int) :: cnts (i + 1) r
  | _ :: r => cnts (i + 1) r
def fins (i : Nat) : List RK → List Int
  | [] => []
  | .fin :: r => (i : Int) :: fins (i + 1) r
  | _ :: r => fins (i + 1) r
theorem ags_len : ∀ (i : Nat) (ks : List RK), (ags i ks).length ≤ ks.length
  | _, [] => Nat.le_refl _
  | i, k :: r => by
    have := ags_len (i + 1) r
    cases k <;> simp [ags] <;> omega
def isW (w : Str) (x : PyData) : Bool := match x with
  | .tuple [_, .tuple (.str z :: _)] => decide (z = w)
  | _ => false
theorem enum_ok {P : PyData → Prop} : ∀ {rs : List PyData} {ks : List RK} (i : Nat), RL rs ks → (∀ (j : Nat) r k, ROK r k → P (.tuple [.int (j : Int), r])) → ∀ x ∈ enumD i rs, P x
  | _, _, _, .nil, _, x, h => by simp [enumD] at h
  | _, _, i, .cons r t, p, x, h => by
    simp only [enumD, List.mem_cons] at h
    rcases h with rfl | h
    · exact p i _ _ r
    · exact enum_ok (i + 1) t p x h
theorem enumD_len : ∀ (i : Nat) (rs : List PyData), (enumD i rs).length = rs.length
  | _, [] => rfl
  | i, _ :: r => by simp [enumD, enumD_len (i + 1) r]
def agH (x : PyData) : PyData := match x with
  | .tuple [.int i, .tuple [_, .int m]] => prD2 (m - 1, i)
  | _ => .none
def ixH (x : PyData) : PyData := match x with
  | .tuple [.int i, _] => .int i
  | _ => .none
theorem ags_map : ∀ {rs : List PyData} {ks : List RK} (i : Nat), RL rs ks → ((enumD i rs).filter (isW "again")).map agH = (ags i ks).map prD2
  | _, _, _, .nil => rfl
  | _, _, i, .cons r t => by
    have ih := ags_map (i + 1) t
    cases r with
    | agn m => simp [enumD, isW, ags, agH, ih]
    | oth z ps h1 h2 h3 h4 h5 => simp [enumD, isW, ags, ih, h1]
    | _ => simp [enumD, isW, ags, ih, w_again_count, w_again_go, w_again_test, w_again_end, w_count_again, w_count_go, w_count_test, w_count_end, w_go_again, w_go_count, w_go_test, w_go_end, w_test_again, w_test_count, w_test_go, w_test_end, w_end_again, w_end_count, w_end_go, w_end_test]
theorem cnts_map : ∀ {rs : List PyData} {ks : List RK} (i : Nat), RL rs ks → ((enumD i rs).filter (isW "count")).map ixH = (cnts i ks).map .int
  | _, _, _, .nil => rfl
  | _, _, i, .cons r t => by
    have ih := cnts_map (i + 1) t
    cases r with
    | cnt m => simp [enumD, isW, cnts, ixH, ih]
    | oth z ps h1 h2 h3 h4 h5 => simp [enumD, isW, cnts, ih, h2]
    | _ => simp [enumD, isW, cnts, ih, w_again_count, w_again_go, w_again_test, w_again_end, w_count_again, w_count_go, w_count_test, w_count_end, w_go_again, w_go_count, w_go_test, w_go_end, w_test_again, w_test_count, w_test_go, w_test_end, w_end_again, w_end_count, w_end_go, w_end_test]
theorem fins_map : ∀ {rs : List PyData} {ks : List RK} (i : Nat), RL rs ks → ((enumD i rs).filter (isW "end")).map ixH = (fins i ks).map .int
  | _, _, _, .nil => rfl
  | _, _, i, .cons r t => by
    have ih := fins_map (i + 1) t
    cases r with
    | fin => simp [enumD, isW, fins, ixH, ih]
    | oth z ps h1 h2 h3 h4 h5 => simp [enumD, isW, fins, ih, h5]
    | _ => simp [enumD, isW, fins, ih, w_again_count, w_again_go, w_again_test, w_again_end, w_count_again, w_count_go, w_count_test, w_count_end, w_go_again, w_go_count, w_go_test, w_go_end, w_test_again, w_test_count, w_test_go, w_test_end, w_end_again, w_end_count, w_end_go, w_end_test]
theorem RL.rows : ∀ {rs : List PyData} {ks : List RK}, RL rs ks → ∀ x ∈ rs, ∃ z ps, x = .tuple (.str z :: ps)
  | _, _, .nil, x, h => by cases h
  | _, _, .cons r t, x, h => by
    rcases List.mem_cons.mp h with rfl | h
    · cases r <;> exact ⟨_, _, rfl⟩
    · exact RL.rows t x h
/-- the test of a row's word in a comprehension over numbered rows -/
theorem word_test (cf : Cf) (w : Str) (i : Nat) {env : Ev} (st : Sto) (j : Int) {r : PyData} {k : RK} (hr : ROK r k) (h : env[i]? = some (some (.d r))) : evT gl cf (.cmp .eq (.idx (.var i) (.con (.int 0))) (.con (.str w))) env st = .ok (isW w (.tuple [.int j, r])) st := by
  cases hr <;> simp [evT, evE, O.bind, h, ix_t0, cop, dcop, vw, cmp_eq_str, tru, truD, isW]
theorem ends_ok (k : Nat) {st : Sto} (hf : Flat st) {rs : List PyData} {ks : List RK} (R : RL rs ks) (hl : rs.length ≤ lim) : callN gl fnT (k + 1) 14 [.d (.tuple rs)] st = .ok (.d (.bool (decide (fins 0 ks = [(rs.length : Int) - 1])))) st := by
  rw [← fin_st (F := b_ends_well) hf rfl, callN]
  generalize callN gl fnT k = cf
  have hC : evE gl cf c_ends_well_0 [some (.d (.tuple rs)), none, none] st = .ok (.d (.list (((enumD 0 rs).filter (isW "end")).map ixH))) st := by
    refine e_comp_filter (us := [.d (.tuple rs)]) (xs := enumD 0 rs) (by simp [evEs, evE, O.bind]) (by simp [items, vws, vw]) (by rw [enumD_len]; exact hl) (enum_ok 0 R fun j r k h => ?_)
    exact ⟨_, rfl, word_test cf "end" 2 st _ h rfl, fun _ => by simp [evE, ixH]⟩
  rw [fins_map 0 R] at hC
  have c1 := cmp_eq_ints (fins 0 ks) [(rs.length : Int) - 1]
  simp only [List.map_cons, List.map_nil] at c1
  simp [fnT, runF, b_ends_well, evSs, evS, evE, evEs, O.bind, hC, prim_len_t, bop, vt, vw, b_sub, mkL, lim, usD, cop, dcop, c1]
theorem loops_ok (k : Nat) {st : Sto} (hf : Flat st) {rs : List PyData} {ks : List RK} (R : RL rs ks) (hl : rs.length ≤ lim) : callN gl fnT (k + 1) 15 [.d (.tuple rs)] st = .ok (.d (.list ((sortP (ags 0 ks)).map prD2))) st := by
  rw [← fin_st (F := b_loops_in) hf rfl, callN]
  generalize callN gl fnT k = cf
  have hC : evE gl cf c_loops_in_0 [some (.d (.tuple rs)), none, none] st = .ok (.d (.list (((enumD 0 rs).filter (isW "again")).map agH))) st := by
    refine e_comp_filter (us := [.d (.tuple rs)]) (xs := enumD 0 rs) (by simp [evEs, evE, O.bind]) (by simp [items, vws, vw]) (by rw [enumD_len]; exact hl) (enum_ok 0 R fun j r k h => ?_)
    refine ⟨_, rfl, word_test cf "again" 2 st _ h rfl, fun q => ?_⟩
    cases h with
    | agn m => simp [evE, evEs, O.bind, ix_t1, bop, vt, vw, b_sub, usD, lim, agH, prD2]
    | oth z ps h1 h2 h3 h4 h5 => simp [isW, h1] at q
    | _ => simp [isW, w_again_count, w_again_go, w_again_test, w_again_end, w_count_again, w_count_go, w_count_test, w_count_end, w_go_again, w_go_count, w_go_test, w_go_end, w_test_again, w_test_count, w_test_go, w_test_end, w_end_again, w_end_count, w_end_go, w_end_test] at q
  rw [ags_map 0 R] at hC
  have hs := prim_sorted_prs (ags 0 ks) st (by have := ags_len 0 ks; rw [R.length] at hl; omega)
  simp [fnT, runF, b_loops_in, evSs, evS, evE, evEs, O.bind, hC, hs]
/-- what stands around a row -/
def cAr (L : List (Int × Int)) (row : Int) : List Int := (L.filter fun p => decide (p.1 < row) && decide (row ≤ p.2)).map (·.1)
def prP (f : Int → Int → Bool) (x : PyData) : Bool := match x with
  | .tuple [.int a, .int b] => f a b
  | _ => false
def prF (x : PyData) : PyData := match x with
  | .tuple [a, _] => a
  | _ => .none
def prS (x : PyData) : PyData := match x with
  | .tuple [_, b] => b
  | _ => .none
theorem pr_filter (f : Int → Int → Bool) : ∀ L : List (Int × Int), (L.map prD2).filter (prP f) = (L.filter fun p => f p.1 p.2).map prD2
  | [] => rfl
  | p :: r => by
    have ih := pr_filter f r
    simp only [List.map_cons, List.filter_cons, ih]
    have : prP f (prD2 p) = f p.1 p.2 := rfl
    rw [this]
    cases f p.1 p.2 <;> simp
theorem pr_fst (L : List (Int × Int)) : (L.map prD2).map prF = (L.map (·.1)).map .int := by
  rw [List.map_map, List.map_map]; rfl
theorem pr_snd (L : List (Int × Int)) : (L.map prD2).map prS = (L.map (·.2)).map .int := by
  rw [List.map_map, List.map_map]; rfl
theorem pr_all (f : Int → Int → Bool) (L : List (Int × Int)) : (L.map prD2).all (prP f) = L.all fun p => f p.1 p.2 := by
  rw [List.all_map]; rfl
theorem around_ok (k : Nat) {st : Sto} (hf : Flat st) (L : List (Int × Int)) (hl : L.length ≤ lim) (row : Int) : callN gl fnT (k + 1) 19 [.d (.list (L.map prD2)), .d (.int row)] st = .ok (.d (.tuple ((cAr L row).map .int))) st := by
  rw [← fin_st (F := b_counts_around) hf rfl, callN]
  generalize callN gl fnT k = cf
  have hC : evE gl cf c_counts_around_0 [some (.d (.list (L.map prD2))), some (.d (.int row)), none, none] st = .ok (.d (.list (((L.map prD2).filter (prP fun a b => decide (a < row) && decide (row ≤ b))).map prF))) st := by
    refine e_comp_filter (us := [.d (.list (L.map prD2))]) (xs := L.map prD2) (by simp [evEs, evE, O.bind]) (by simp [items, vws, vw]) (by rw [List.length_map]; exact hl) (fun x hx => ?_)
    obtain ⟨p, _, rfl⟩ := List.mem_map.mp hx
    refine ⟨_, rfl, ?_, fun q => by simp [evE, prF, prD2]⟩
    by_cases h1 : p.1 < row <;> simp [evT, evE, O.bind, cop, dcop, vw, cmpD, tru, truD, prP, prD2, h1]
  rw [pr_filter, pr_fst] at hC
  simp [fnT, runF, b_counts_around, evSs, evS, evE, evEs, O.bind, hC, prim, srtT, vws, vw, primL, primD, tupD, cAr]
end PI
set_option Elab.async false
set_option linter.all false
set_option maxRecDepth 100000
set_option maxHeartbeats 4000000
namespace PI
open PySem
def outB (L : List (Int × Int)) (c : Int) : List Int := (L.filter fun p => decide (p.1 < c) && decide (c < p.2)).map (·.2)
def stW (L : List (Int × Int)) (c a : Int) : Bool := decide (((outB L c).length : Int) < 2) && (outB L c).all fun b => decide (a < b)
def inP (f : Int → Bool) (x : PyData) : Bool := match x with
  | .int a => f a
  | _ => false
theorem in_all (f : Int → Bool) (L : List Int) : (L.map PyData.int).all (inP f) = L.all f := by
  rw [List.all_map]; rfl
theorem stands_ok (k : Nat) {st : Sto} (hf : Flat st) (L : List (Int × Int)) (hl : L.length ≤ lim) (c a : Int) : callN gl fnT (k + 1) 17 [.d (prD2 (c, a)), .d (.list (L.map prD2))] st = .ok (.d (.bool (stW L c a))) st := by
  rw [← fin_st (F := b_stands_well) hf rfl, callN]
  generalize callN gl fnT k = cf
  have hC : evE gl cf c_stands_well_0 [some (.d (prD2 (c, a))), some (.d (.list (L.map prD2))), none, some (.d (.int c)), some (.d (.int a)), none, none] st = .ok (.d (.list (((L.map prD2).filter (prP fun x y => decide (x < c) && decide (c < y))).map prS))) st := by
    refine e_comp_filter (us := [.d (.list (L.map prD2))]) (xs := L.map prD2) (by simp [evEs, evE, O.bind]) (by simp [items, vws, vw]) (by rw [List.length_map]; exact hl) (fun x hx => ?_)
    obtain ⟨p, _, rfl⟩ := List.mem_map.mp hx
    refine ⟨_, rfl, ?_, fun q => by simp [evE, prS, prD2]⟩
    by_cases h1 : p.1 < c <;> simp [evT, evE, O.bind, cop, dcop, vw, cmpD, tru, truD, prP, prD2, h1]
  rw [pr_filter, pr_snd] at hC
  have ol : (outB L c).length ≤ lim := by
    unfold outB
    rw [List.length_map]
    exact Nat.le_trans (List.length_filter_le _ _) hl
  have hD : evE gl cf c_stands_well_1 [some (.d (prD2 (c, a))), some (.d (.list (L.map prD2))), some (.d (.list ((outB L c).map .int))), some (.d (.int c)), some (.d (.int a)), none, none] st = .ok (.d (.list (((outB L c).map .int).map fun x => .bool (inP (fun b => decide (a < b)) x)))) st := by
    refine e_comp_map (us := [.d (.list ((outB L c).map .int))]) (xs := (outB L c).map .int) (by simp [evEs, evE, O.bind]) (by simp [items, vws, vw]) (by rw [List.length_map]; exact ol) (fun x hx => ?_)
    obtain ⟨b, _, rfl⟩ := List.mem_map.mp hx
    exact ⟨_, rfl, by simp [evE, O.bind, cop, dcop, vw, cmpD, inP]⟩
  have hp := prim_all (m := false) ((outB L c).map PyData.int) (inP fun b => decide (a < b)) st
  rw [in_all] at hp
  have hC' : evE gl cf c_stands_well_0 [some (.d (.tuple [.int c, .int a])), some (.d (.list (L.map prD2))), none, some (.d (.int c)), some (.d (.int a)), none, none] st = .ok (.d (.list ((outB L c).map .int))) st := hC
  generalize (List.map (fun x => PyData.bool (inP (fun b => decide (a < b)) x)) (List.map PyData.int (outB L c))) = M at hD hp
  have hD' : evE gl cf c_stands_well_1 [some (.d (.tuple [.int c, .int a])), some (.d (.list (L.map prD2))), some (.d (.list ((outB L c).map .int))), some (.d (.int c)), some (.d (.int a)), none, none] st = .ok (.d (.list M)) st := hD
  unfold stW
  by_cases h : ((outB L c).length : Int) < 2 <;>
  simp [fnT, runF, b_stands_well, evSs, evS, evE, evEs, O.bind, setS, prD2, hC', hD', hp, prim_len_l, gl9, cop, dcop, vw, cmpD, tru, truD, h]
def lW (L : List (Int × Int)) (C : List Int) : Bool := (decide (L.map (·.1) = C) && L.all fun p => decide (p.1 < p.2)) && L.all fun p => stW L p.1 p.2
theorem lwell_ok (k : Nat) {st : Sto} (hf : Flat st) {rs : List PyData} {ks : List RK} (R : RL rs ks) (hl : rs.length ≤ lim) : callN gl fnT (k + 2) 16 [.d (.tuple rs)] st = .ok (.d (.bool (lW (sortP (ags 0 ks)) (cnts 0 ks)))) st := by
  have h0 := loops_ok k hf R hl
  have ll : (sortP (ags 0 ks)).length ≤ lim := by
    rw [sortP_len]
    have := ags_len 0 ks
    rw [R.length] at hl
    omega
  have h1 := fun c a => stands_ok k hf (sortP (ags 0 ks)) ll c a
  rw [← fin_st (F := b_loops_well) hf rfl]
  rw [show k + 2 = (k + 1) + 1 from rfl, callN]
  generalize callN gl fnT (k + 1) = cf at h0 h1
  generalize sortP (ags 0 ks) = L at h0 h1 ll
  have hC : evE gl cf c_loops_well_0 [some (.d (.tuple rs)), some (.d (.list (L.map prD2))), none, none, none, none, none, none, none] st = .ok (.d (.list (((enumD 0 rs).filter (isW "count")).map ixH))) st := by
    refine e_comp_filter (us := [.d (.tuple rs)]) (xs := enumD 0 rs) (by simp [evEs, evE, O.bind]) (by simp [items, vws, vw]) (by rw [enumD_len]; exact hl) (enum_ok 0 R fun j r k h => ?_)
    exact ⟨_, rfl, word_test cf "count" 4 st _ h rfl, fun _ => by simp [evE, ixH]⟩
  rw [cnts_map 0 R] at hC
  generalize cnts 0 ks = C at hC
  have hD : evE gl cf c_loops_well_1 [some (.d (.tuple rs)), some (.d (.list (L.map prD2))), some (.d (.list (C.map .int))), none, none, none, none, none, none] st = .ok (.d (.list ((L.map prD2).map fun x => .bool (prP (fun a b => decide (a < b)) x)))) st := by
    refine e_comp_map (us := [.d (.list (L.map prD2))]) (xs := L.map prD2) (by simp [evEs, evE, O.bind]) (by simp [items, vws, vw]) (by rw [List.length_map]; exact ll) (fun x hx => ?_)
    obtain ⟨p, _, rfl⟩ := List.mem_map.mp hx
    exact ⟨_, rfl, by simp [evE, O.bind, cop, dcop, vw, cmpD, prP, prD2]⟩
  have hE : evE gl cf c_loops_well_2 [some (.d (.tuple rs)), some (.d (.list (L.map prD2))), some (.d (.list (C.map .int))), none, none, none, none, none, none] st = .ok (.d (.list ((L.map prD2).map prF))) st := by
    refine e_comp_map (us := [.d (.list (L.map prD2))]) (xs := L.map prD2) (by simp [evEs, evE, O.bind]) (by simp [items, vws, vw]) (by rw [List.length_map]; exact ll) (fun x hx => ?_)
    obtain ⟨p, _, rfl⟩ := List.mem_map.mp hx
    exact ⟨_, rfl, by simp [evE, prF, prD2]⟩
  rw [pr_fst] at hE
  have hF : evE gl cf c_loops_well_3 [some (.d (.tuple rs)), some (.d (.list (L.map prD2))), some (.d (.list (C.map .int))), none, none, none, none, none, none] st = .ok (.d (.list ((L.map prD2).map fun x => .bool (prP (fun a b => stW L a b) x)))) st := by
    refine e_comp_map (us := [.d (.list (L.map prD2))]) (xs := L.map prD2) (by simp [evEs, evE, O.bind]) (by simp [items, vws, vw]) (by rw [List.length_map]; exact ll) (fun x hx => ?_)
    obtain ⟨p, _, rfl⟩ := List.mem_map.mp hx
    have := h1 p.1 p.2
    exact ⟨_, rfl, by simp [evE, evEs, O.bind, prP, prD2]; exact this⟩
  have p1 := prim_all (m := false) (L.map prD2) (prP fun a b => decide (a < b)) st
  have p2 := prim_all (m := false) (L.map prD2) (prP fun a b => stW L a b) st
  rw [pr_all] at p1 p2
  generalize (List.map (fun x => PyData.bool (prP (fun a b => decide (a < b)) x)) (L.map prD2)) = M1 at hD p1
  generalize (List.map (fun x => PyData.bool (prP (fun a b => stW L a b) x)) (L.map prD2)) = M2 at hF p2
  have ne := cmp_ne_ints (L.map (·.1)) C
  generalize hX : L.map (·.1) = X at hE ne
  unfold lW
  rw [hX]
  generalize (L.all fun p => decide (p.1 < p.2)) = b1 at p1 ⊢
  generalize (L.all fun p => stW L p.1 p.2) = b2 at p2 ⊢
  generalize decide (X = C) = b0 at ne ⊢
  cases b0 <;> cases b1 <;> cases b2 <;> simp [fnT, runF, b_loops_well, evSs, evS, evE, evEs, evT, O.bind, h0, hC, hD, hE, hF, p1, p2, ne, cop, dcop, vw, tru, truD]
def jT (r : PyData) : Option Int := match r with
  | .tuple [.str z, .int t] => if z = "go" then some t else none
  | .tuple [.str z, .int _, .int t] => if z = "test" then some t else none
  | _ => none
def jB (L : List (Int × Int)) (i t : Int) : Bool := !decide (t ≤ i) && (cAr L t).all fun c => decide (c ∈ cAr L i)
def jP (L : List (Int × Int)) (x : PyData) : Bool := match x with
  | .tuple [.int i, r] => match jT r with
    | some t => jB L i t
    | none => true
  | _ => true
def jW (L : List (Int × Int)) (i : Nat) : List RK → Bool
  | [] => true
  | .jmp t :: r => jB L i t && jW L (i + 1) r
  | _ :: r => jW L (i + 1) r
theorem jT_ok {r : PyData} {k : RK} (h : ROK r k) : jT r = (match k with | .jmp t => some t | _ => none) := by
  cases h with
  | oth z ps h1 h2 h3 h4 h5 =>
    unfold jT
    split
    · rename_i heq; cases heq; exact if_neg h3
    · rename_i heq; cases heq; exact if_neg h4
    · rfl
  | _ => simp [jT, w_again_count, w_again_end, w_again_go, w_again_test, w_count_again, w_count_end, w_count_go, w_count_test, w_end_again, w_end_count, w_end_go, w_end_test, w_go_again, w_go_count, w_go_end, w_go_test, w_test_again, w_test_count, w_test_end, w_test_go]
theorem jW_ok (L : List (Int × Int)) : ∀ {rs : List PyData} {ks : List RK} (i : Nat), RL rs ks → (enumD i rs).all (jP L) = jW L i ks
  | _, _, _, .nil => rfl
  | _, _, i, .cons (k := k) r t => by
    have ih := jW_ok L (i + 1) t
    simp only [enumD, List.all_cons, ih, jP, jT_ok r]
    cases k <;> simp [jW]
theorem bT {r : PyData} {k : RK} (h : ROK r k) : ∃ z ps, r = .tuple (.str z :: ps) ∧ (decide (z = "test") || decide (z = "go")) = (jT r).isSome := by
  cases h with
  | oth z ps h1 h2 h3 h4 h5 => exact ⟨z, ps, rfl, by rw [jT_ok (.oth z ps h1 h2 h3 h4 h5)]; simp [h3, h4]⟩
  | agn m => exact ⟨_, _, rfl, by rw [jT_ok (.agn m)]; simp [w_again_count, w_again_end, w_again_go, w_again_test, w_count_again, w_count_end, w_count_go, w_count_test, w_end_again, w_end_count, w_end_go, w_end_test, w_go_again, w_go_count, w_go_end, w_go_test, w_test_again, w_test_count, w_test_end, w_test_go]⟩
  | cnt m => exact ⟨_, _, rfl, by rw [jT_ok (.cnt m)]; simp [w_again_count, w_again_end, w_again_go, w_again_test, w_count_again, w_count_end, w_count_go, w_count_test, w_end_again, w_end_count, w_end_go, w_end_test, w_go_again, w_go_count, w_go_end, w_go_test, w_test_again, w_test_count, w_test_end, w_test_go]⟩
  | go t => exact ⟨_, _, rfl, by rw [jT_ok (.go t)]; simp [w_again_count, w_again_end, w_again_go, w_again_test, w_count_again, w_count_end, w_count_go, w_count_test, w_end_again, w_end_count, w_end_go, w_end_test, w_go_again, w_go_count, w_go_end, w_go_test, w_test_again, w_test_count, w_test_end, w_test_go]⟩
  | test s t => exact ⟨_, _, rfl, by rw [jT_ok (.test s t)]; simp [w_again_count, w_again_end, w_again_go, w_again_test, w_count_again, w_count_end, w_count_go, w_count_test, w_end_again, w_end_count, w_end_go, w_end_test, w_go_again, w_go_count, w_go_end, w_go_test, w_test_again, w_test_count, w_test_end, w_test_go]⟩
  | fin => exact ⟨_, _, rfl, by rw [jT_ok .fin]; simp [w_again_count, w_again_end, w_again_go, w_again_test, w_count_again, w_count_end, w_count_go, w_count_test, w_end_again, w_end_count, w_end_go, w_end_test, w_go_again, w_go_count, w_go_end, w_go_test, w_test_again, w_test_count, w_test_end, w_test_go]⟩
theorem in_words (z : Str) : cmpD .isin (.str z) (.tuple [.str "test", .str "go"]) = some (decide (z = "test") || decide (z = "go")) := by
  have c : ∀ a b : Str, PyData.eqv (.str a) (.str b) = decide (a = b) := fun a b => by
    by_cases h : a = b <;> simp [PyData.eqv, h]
  simp only [cmpD, inD, flatD, List.all_cons, List.all_nil, Bool.and_true, if_true, List.any_cons, List.any_nil, c, Bool.or_false]
  congr 2
  · exact decide_eq_decide.mpr eq_comm
  · exact decide_eq_decide.mpr eq_comm
theorem in_ints (c : Int) (L : List Int) : inD (.int c) (.tuple (L.map .int)) = some (decide (c ∈ L)) := by
  have fl : (L.map PyData.int).all flatD = true := by
    rw [List.all_map]
    exact List.all_eq_true.mpr fun _ _ => rfl
  have key : ∀ L : List Int, ((L.map PyData.int).any fun z => PyData.eqv z (.int c)) = decide (c ∈ L)
    := fun L => by
    induction L with
    | nil => simp
    | cons x r ih =>
      simp only [List.map_cons, List.any_cons, ih, PyData.eqv, List.mem_cons]
      by_cases h : x = c
      · simp [h]
      · have : ¬ c = x := fun e => h e.symm
        simp [h, this]
  simp only [inD, fl, key]
  rfl
theorem last_ix {r : PyData} {k : RK} {t : Int} (h : ROK r k) (ht : jT r = some t) (st : Sto) : ixU (.d r) (.d (.int (-1))) st = .ok (.d (.int t)) st := by
  rw [jT_ok h] at ht
  cases h with
  | go u => cases ht; simp [ixU, dictGet, ixD, L2.atI, L2.ixN]
  | test s u => cases ht; simp [ixU, dictGet, ixD, L2.atI, L2.ixN]
  | _ => cases ht
theorem jumps_ok (k : Nat) {st : Sto} (hf : Flat st) {rs : List PyData} {ks : List RK} (R : RL rs ks) (hl : rs.length ≤ lim) : callN gl fnT (k + 2) 18 [.d (.tuple rs)] st = .ok (.d (.bool (jW (sortP (ags 0 ks)) 0 ks))) st := by
  have h0 := loops_ok k hf R hl
  have ll : (sortP (ags 0 ks)).length ≤ lim := by
    rw [sortP_len]
    have := ags_len 0 ks
    rw [R.length] at hl
    omega
  have h1 := fun row => around_ok k hf (sortP (ags 0 ks)) ll row
  rw [← fin_st (F := b_jumps_well) hf rfl]
  rw [show k + 2 = (k + 1) + 1 from rfl, callN]
  generalize callN gl fnT (k + 1) = cf at h0 h1
  rw [← jW_ok (sortP (ags 0 ks)) 0 R]
  generalize sortP (ags 0 ks) = L at h0 h1 ll
  have loop := forL_all (g := fun s => stays [.d (.tuple rs)] st s) (st := st) (f := fun x env s => match bindTg (.tup [2, 3]) x env with
      | some env1 => evSs gl cf l_jumps_well_0 env1 s
      | none => .bad) (fun e => ∃ a b c d f, e = [some (.d (.tuple rs)), some (.d (.list (L.map prD2))), a, b, c, d, f]) (jP L) (.d (.bool false)) (stays_rfl _ _) (enumD 0 rs) [some (.d (.tuple rs)), some (.d (.list (L.map prD2))), none, none, none, none, none]
    (enum_ok 0 R fun j r k h => by
      rintro e ⟨a, b, c, d, f, rfl⟩
      obtain ⟨z, ps, hr, hz⟩ := bT h
      have wt : ∀ env : Ev, env[3]? = some (some (.d r)) → evT gl cf (.cmp .isin (.idx (.var 3) (.con (.int 0))) (.glob 2)) env st = .ok (jT r).isSome st := fun env he => by
        subst hr
        simp [evT, evE, O.bind, he, ix_t0, gl2, cop, dcop, dictGet, vw, in_words, hz, tru, truD]
      have wt1 := wt [some (.d (.tuple rs)), some (.d (.list (L.map prD2))), some (.d (.int j)), some (.d r), c, d, f] rfl
      cases jt : jT r with
      | none =>
        rw [jt] at wt1
        refine ⟨fun _ => ⟨[some (.d (.tuple rs)), some (.d (.list (L.map prD2))), some (.d (.int j)), some (.d r), c, d, f], ?_, _, _, _, _, _, rfl⟩, fun q => ?_⟩
        · simp only [bindTg, setS, List.set_cons_succ, List.set_cons_zero, l_jumps_well_0, evSs, evS, wt1, Option.isSome_none, O.bind]
          rfl
        · simp [jP, jt] at q
      | some t =>
        rw [jt] at wt1
        have li := last_ix h jt st
        have cl : (cAr L t).length ≤ lim := by
          unfold cAr
          rw [List.length_map]
          exact Nat.le_trans (List.length_filter_le _ _) ll
        have hC : ∀ d f, evE gl cf c_jumps_well_0 [some (.d (.tuple rs)), some (.d (.list (L.map prD2))), some (.d (.int j)), some (.d r), some (.d (.int t)), d, f] st = .ok (.d (.list ((((cAr L t).map PyData.int).filter (inP fun c => !decide (c ∈ cAr L j))).map id))) st := fun d f => by
          refine e_comp_filter (us := [.d (.tuple ((cAr L t).map .int))]) (xs := (cAr L t).map .int) (by simp [evEs, evE, O.bind, h1]) (by simp [items, vws, vw]) (by rw [List.length_map]; exact cl) (fun x hx => ?_)
          obtain ⟨c, _, rfl⟩ := List.mem_map.mp hx
          exact ⟨_, rfl, by simp [evT, evE, evEs, O.bind, h1, cop, dcop, dictGet, vw, cmpD, in_ints, tru, truD, inP], fun _ => by simp [evE]⟩
        have em : ∀ M : List Int, (((M.map PyData.int).filter (inP fun c => !decide (c ∈ cAr L j))).map id).isEmpty = M.all fun c => decide (c ∈ cAr L j) := fun M => by
          induction M with
          | nil => rfl
          | cons x r ih =>
            simp only [List.map_cons, List.filter_cons, List.all_cons, ← ih]
            have : inP (fun c => !decide (c ∈ cAr L j)) (.int x) = !decide (x ∈ cAr L j) := rfl
            rw [this]
            cases decide (x ∈ cAr L j) <;> simp
        have em := em (cAr L t)
        generalize (((cAr L t).map PyData.int).filter (inP fun c => !decide (c ∈ cAr L j))).map id = E at hC em
        have jp : jP L (.tuple [.int j, r]) = (!decide (t ≤ (j : Int)) && E.isEmpty) := by
          simp only [jP, jt, jB, em]
        rw [jp]
        refine ⟨fun q => ⟨[some (.d (.tuple rs)), some (.d (.list (L.map prD2))), some (.d (.int j)), some (.d r), some (.d (.int t)), some (.d (.list E)), f], ?_, _, _, _, _, _, rfl⟩, fun q => ?_⟩
        · simp only [Bool.and_eq_true, Bool.not_eq_true', decide_eq_false_iff_not] at q
          simp only [bindTg, setS, List.set_cons_succ, List.set_cons_zero, l_jumps_well_0, evSs, evS, wt1, Option.isSome_some, O.bind, if_true]
          simp [evSs, evS, evT, evE, O.bind, li, hC, cop, dcop, vw, cmpD, tru, truD, q.1, q.2]
        · simp only [bindTg, setS, List.set_cons_succ, List.set_cons_zero, l_jumps_well_0, evSs, evS, wt1, Option.isSome_some, O.bind, if_true]
          by_cases q1 : t ≤ (j : Int)
          · simp [evSs, evS, evT, evE, O.bind, li, hC, cop, dcop, vw, cmpD, tru, truD, q1]
          · have q2 : E.isEmpty = false := by simpa [q1] using q
            simp [evSs, evS, evT, evE, O.bind, li, hC, cop, dcop, vw, cmpD, tru, truD, q1, q2]) ⟨_, _, _, _, _, rfl⟩
  cases q : (enumD 0 rs).all (jP L) with
  | true =>
    obtain ⟨e', he, _⟩ := loop.1 q
    have hb : evSs gl cf b_jumps_well.body [some (.d (.tuple rs)), none, none, none, none, none, none] st = .ok (.rt (.d (.bool true))) st := by
      refine evSs_nx (e1 := [some (.d (.tuple rs)), some (.d (.list (L.map prD2))), none, none, none, none, none]) (st1 := st) (by simp [evS, evE, evEs, O.bind, h0]) (evSs_nx (evS_for (us := [.d (.tuple rs)]) (st1 := st) (xs := enumD 0 rs) (by simp [evEs, evE, O.bind]) (by simp [items, vws, vw]) he) ?_)
      simp [evSs, evS, evE, O.bind]
    simp only [fnT, List.getElem?_cons_succ, List.getElem?_cons_zero, runF]
    rw [if_pos (by exact ⟨rfl, by decide⟩)]
    exact congrArg (fun o => O.bind o _) hb
  | false =>
    have he := loop.2 q
    have hb : evSs gl cf b_jumps_well.body [some (.d (.tuple rs)), none, none, none, none, none, none] st = .ok (.rt (.d (.bool false))) st := by
      refine evSs_nx (e1 := [some (.d (.tuple rs)), some (.d (.list (L.map prD2))), none, none, none, none, none]) (st1 := st) (by simp [evS, evE, evEs, O.bind, h0]) (evSs_rt (evS_for (us := [.d (.tuple rs)]) (st1 := st) (xs := enumD 0 rs) (by simp [evEs, evE, O.bind]) (by simp [items, vws, vw]) he))
    simp only [fnT, List.getElem?_cons_succ, List.getElem?_cons_zero, runF]
    rw [if_pos (by exact ⟨rfl, by decide⟩)]
    exact congrArg (fun o => O.bind o _) hb
end PI
set_option Elab.async false
set_option linter.all false
set_option maxRecDepth 100000
set_option maxHeartbeats 4000000
namespace PI
open PySem
def spanD (x : PyData) : Bool := match x with
  | .tuple [a, b] => worthD a && (worthD b && (match a, b with | .int i, .int j => decide (i ≤ j) | _, _ => false))
  | _ => false
theorem span_ok (k : Nat) {st : Sto} (hf : Flat st) (x : PyData) : callN gl fnT (k + 3) 12 [.d x] st = .ok (.d (.bool (spanD x))) st := by
  have h1 := row_ok (k + 1) hf x 2 2
  have h9 := fun y => worth_ok k hf y
  rw [← fin_st (F := b_is_span) hf rfl]
  rw [show k + 3 = (k + 2) + 1 from rfl, callN]
  rw [show k + 1 + 1 = k + 2 from rfl] at h1
  generalize callN gl fnT (k + 2) = cf at h1 h9
  cases e : rowD x 2 2 with
  | false =>
    have : spanD x = false := by
      unfold spanD
      split
      · simp [rowD] at e
      · rfl
    simp [fnT, runF, b_is_span, evSs, evS, evE, evEs, evT, O.bind, vw, tru, truD, h1, e, this]
  | true =>
    obtain ⟨a, b, rfl⟩ : ∃ a b, x = .tuple [a, b] := by
      cases x with
      | tuple xs =>
        simp only [rowD, Bool.and_eq_true, decide_eq_true_eq] at e
        match xs, e with
        | [a, b], _ => exact ⟨a, b, rfl⟩
        | [], h => simp at h
        | [_], h => simp at h
        | _ :: _ :: _ :: _, h => simp at h; omega
      | _ => simp [rowD] at e
    cases q1 : worthD a with
    | false => simp [fnT, runF, b_is_span, evSs, evS, evE, evEs, evT, O.bind, vw, tru, truD, setS, h1, h9, e, q1, spanD]
    | true =>
      cases q2 : worthD b with
      | false => simp [fnT, runF, b_is_span, evSs, evS, evE, evEs, evT, O.bind, vw, tru, truD, setS, h1, h9, e, q1, q2, spanD]
      | true =>
        cases a <;> first | (simp [worthD, wholeD] at q1; done) | skip
        cases b <;> first | (simp [worthD, wholeD] at q2; done) | skip
        simp [fnT, runF, b_is_span, evSs, evS, evE, evEs, evT, O.bind, vw, tru, truD, setS, cop, dcop, cmpD, h1, h9, e, q1, q2, spanD]
def rkOf (r : PyData) : RK := match r with
  | .tuple [.str z, .int m] => if z = "again" then .agn m else if z = "count" then .cnt else if z = "go" then .jmp m else .oth
  | .tuple [.str z, .int _, .int t] => if z = "test" then .jmp t else .oth
  | .tuple [.str z] => if z = "end" then .fin else .oth
  | _ => .oth
theorem fit1 {ps : List PyData} {s : Int × Int} (h : fitL ps [s] = true) : ∃ m, ps = [.int m] ∧ s.1 ≤ m ∧ m ≤ s.2 := by
  match ps, h with
  | [x], h =>
    simp only [fitL, Bool.and_true] at h
    cases x <;> first | (simp [wholeD] at h; done) | skip
    simp only [wholeD, Bool.and_eq_true, decide_eq_true_eq] at h
    exact ⟨_, rfl, h.1, h.2⟩
  | [], h => simp [fitL] at h
  | _ :: _ :: _, h => simp [fitL] at h
theorem fit2 {ps : List PyData} {s t : Int × Int} (h : fitL ps [s, t] = true) : ∃ m n, ps = [.int m, .int n] ∧ (s.1 ≤ m ∧ m ≤ s.2) ∧ t.1 ≤ n ∧ n ≤ t.2 := by
  match ps, h with
  | x :: r, h =>
    simp only [fitL, Bool.and_eq_true] at h
    obtain ⟨n, rfl, h2⟩ := fit1 (ps := r) (s := t) (by simpa [fitL] using h.2)
    have h1 := h.1
    cases x <;> first | (simp [wholeD] at h1; done) | skip
    simp only [wholeD, Bool.and_eq_true, decide_eq_true_eq] at h1
    exact ⟨_, n, rfl, h1, h2⟩
  | [], h => simp [fitL] at h
theorem fit0 {ps : List PyData} (h : fitL ps [] = true) : ps = [] := by
  cases ps with
  | nil => rfl
  | cons x r => simp [fitL] at h
theorem rok_of {r : PyData} {many arrays rows : Int} (h : formD r many arrays rows = true) : ROK r (rkOf r) := by
  unfold formD at h
  split at h
  · rename_i z ps
    split at h
    · rename_i ks hk
      by_cases z1 : z = "again"
      · subst z1
        have : ks = [.n] := by
          have : KS.lookup ("again" : Str) = some [Kd.n] := by decide +kernel
          rw [this] at hk; cases hk; rfl
        subst this
        obtain ⟨m, rfl, _⟩ := fit1 h
        exact .agn m
      by_cases z2 : z = "count"
      · subst z2
        have : ks = [.m] := by
          have : KS.lookup ("count" : Str) = some [Kd.m] := by decide +kernel
          rw [this] at hk; cases hk; rfl
        subst this
        obtain ⟨m, rfl, _⟩ := fit1 h
        have e : rkOf (.tuple [.str "count", .int m]) = .cnt := by simp [rkOf, w_count_again]
        rw [e]; exact .cnt m
      by_cases z3 : z = "go"
      · subst z3
        have : ks = [.n] := by
          have : KS.lookup ("go" : Str) = some [Kd.n] := by decide +kernel
          rw [this] at hk; cases hk; rfl
        subst this
        obtain ⟨m, rfl, _⟩ := fit1 h
        have e : rkOf (.tuple [.str "go", .int m]) = .jmp m := by simp [rkOf, w_go_again, w_go_count]
        rw [e]; exact .go m
      by_cases z4 : z = "test"
      · subst z4
        have : ks = [.r, .n] := by
          have : KS.lookup ("test" : Str) = some [Kd.r, Kd.n] := by decide +kernel
          rw [this] at hk; cases hk; rfl
        subst this
        obtain ⟨m, n, rfl, _⟩ := fit2 h
        have e : rkOf (.tuple [.str "test", .int m, .int n]) = .jmp n := by simp [rkOf]
        rw [e]; exact .test m n
      by_cases z5 : z = "end"
      · subst z5
        have : ks = [] := by
          have : KS.lookup ("end" : Str) = some [] := by decide +kernel
          rw [this] at hk; cases hk; rfl
        subst this
        have := fit0 h
        subst this
        have e : rkOf (.tuple [.str "end"]) = .fin := by simp [rkOf]
        rw [e]; exact .fin
      have e : rkOf (.tuple (.str z :: ps)) = .oth := by
        unfold rkOf
        split
        · rename_i heq; cases heq; simp [z1, z2, z3]
        · rename_i heq; cases heq; simp [z4]
        · rename_i heq; cases heq; simp [z5]
        · rfl
      rw [e]
      exact .oth z ps z1 z2 z3 z4 z5
    · cases h
  · cases h
theorem rl_of {many arrays rows : Int} : ∀ {rs : List PyData}, (rs.all fun r => formD r many arrays rows) = true → RL rs (rs.map rkOf)
  | [], _ => .nil
  | r :: rs, h => by
    simp only [List.all_cons, Bool.and_eq_true] at h
    exact .cons (rok_of h.1) (rl_of h.2)
def tL (x : PyData) : List PyData := match x with
  | .tuple l => l
  | _ => []
def iN (x : PyData) : Int := match x with
  | .int i => i
  | _ => 0
def rwD (rs : List PyData) : Bool := decide (fins 0 (rs.map rkOf) = [(rs.length : Int) - 1]) && (lW (sortP (ags 0 (rs.map rkOf))) (cnts 0 (rs.map rkOf)) && jW (sortP (ags 0 (rs.map rkOf))) 0 (rs.map rkOf))
def mx1 (n : Nat) : Int := if (n : Int) > 1 then n else 1
def codeD (x : PyData) : Bool := match x with
  | .tuple [asks, many, shown, arrays, rows] =>
    (rowD asks 0 3 && (tL asks).all spanD) && ((wholeD many (mx1 (tL asks).length) 16 && wholeD shown 0 (iN many)) && ((rowD arrays 0 2 && (tL arrays).all fun s => wholeD s 1 6) && (rowD rows 1 60 &&
      (((tL rows).all fun r => formD r (iN many) (tL arrays).length (tL rows).length) && rwD (tL rows)))))
  | _ => false
theorem prim_max1 {m : Bool} (n : Nat) (st : Sto) : prim m .max2 [.d (.int 1), .d (.int n)] st = .ok (.d (.int (mx1 n))) st := by
  simp [prim, srtT, vws, vw, primL, primD, maxD, mx1]
theorem code_ok (k : Nat) {st : Sto} (hf : Flat st) (x : PyData) (hz : ∀ a b c d e, x = .tuple [a, b, c, d, e] → (tL a).length ≤ lim ∧ (tL d).length ≤ lim ∧ (tL e).length ≤ lim) : callN gl fnT (k + 4) 10 [.d x] st = .ok (.d (.bool (codeD x))) st := by
  have h0 := fun y lo hi => whole_ok (k + 2) hf y lo hi
  have h1 := fun y lo hi => row_ok (k + 2) hf y lo hi
  have h11 := fun y => span_ok k hf y
  have h12 := fun y a b c => form_ok k hf y a b c
  have h13 := fun rs ks (R : RL rs ks) hl => ends_ok (k + 2) hf R hl
  have h15 := fun rs ks (R : RL rs ks) hl => lwell_ok (k + 1) hf R hl
  have h17 := fun rs ks (R : RL rs ks) hl => jumps_ok (k + 1) hf R hl
  rw [← fin_st (F := b_is_code) hf rfl]
  rw [show k + 4 = (k + 3) + 1 from rfl, callN]
  rw [show k + 2 + 1 = k + 3 from rfl] at h0 h1 h13
  rw [show k + 1 + 2 = k + 3 from rfl] at h15 h17
  generalize callN gl fnT (k + 3) = cf at h0 h1 h11 h12 h13 h15 h17
  cases e : rowD x 5 5 with
  | false =>
    have : codeD x = false := by
      unfold codeD
      split
      · simp [rowD] at e
      · rfl
    simp [fnT, runF, b_is_code, evSs, evS, evE, evEs, evT, O.bind, vw, tru, truD, h1, e, this]
  | true =>
  obtain ⟨asks, many, shown, arrays, rows, rfl⟩ : ∃ a b c d e, x = .tuple [a, b, c, d, e] := by
    cases x with
    | tuple xs =>
      simp only [rowD, Bool.and_eq_true, decide_eq_true_eq] at e
      have hl : xs.length = 5 := by omega
      match xs, hl with
      | [a, b, c, d, e], _ => exact ⟨a, b, c, d, e, rfl⟩
    | _ => simp [rowD] at e
  obtain ⟨z1, z2, z3⟩ := hz _ _ _ _ _ rfl
  cases e1 : rowD asks 0 3 with
  | false => simp [fnT, runF, b_is_code, evSs, evS, evE, evEs, evT, O.bind, vw, tru, truD, setS, gl3, h1, e, e1, codeD]
  | true =>
  obtain ⟨al, rfl⟩ : ∃ l, asks = .tuple l := by
    cases asks with
    | tuple l => exact ⟨l, rfl⟩
    | _ => simp [rowD] at e1
  have hC : ∀ a6 a7 a8, evE gl cf c_is_code_0 [some (.d (.tuple [.tuple al, many, shown, arrays, rows])), some (.d (.tuple al)), some (.d many), some (.d shown), some (.d arrays), some (.d rows), a6, a7, a8] st = .ok (.d (.list (al.map fun x => .bool (spanD x)))) st := fun a6 a7 a8 => by
    refine e_comp_map (us := [.d (.tuple al)]) (xs := al) (by simp [evEs, evE, O.bind]) (by simp [items, vws, vw]) z1 (fun x hx => ?_)
    exact ⟨_, rfl, by simp [evE, evEs, O.bind, h11]⟩
  have p1 := prim_all (m := false) al spanD st
  generalize (al.map fun x => PyData.bool (spanD x)) = M1 at hC p1
  cases e2 : al.all spanD with
  | false =>
    rw [e2] at p1
    simp [fnT, runF, b_is_code, evSs, evS, evE, evEs, evT, O.bind, vw, tru, truD, setS, gl3, h1, e, e1, hC, p1, codeD, tL, e2]
  | true =>
  rw [e2] at p1
  cases e3 : wholeD many (mx1 al.length) 16 with
  | false => simp [fnT, runF, b_is_code, evSs, evS, evE, evEs, evT, O.bind, vw, tru, truD, setS, gl3, gl4, prim_len_t, prim_max1, h0, h1, e, e1, hC, p1, codeD, tL, e2, e3]
  | true =>
  obtain ⟨mn, rfl⟩ : ∃ i, many = .int i := by
    cases many with
    | int i => exact ⟨i, rfl⟩
    | _ => simp [wholeD] at e3
  cases e4 : wholeD shown 0 mn with
  | false => simp [fnT, runF, b_is_code, evSs, evS, evE, evEs, evT, O.bind, vw, tru, truD, setS, gl3, gl4, prim_len_t, prim_max1, h0, h1, e, e1, hC, p1, codeD, tL, iN, e2, e3, e4]
  | true =>
  cases e5 : rowD arrays 0 2 with
  | false => simp [fnT, runF, b_is_code, evSs, evS, evE, evEs, evT, O.bind, vw, tru, truD, setS, gl3, gl4, gl5, prim_len_t, prim_max1, h0, h1, e, e1, hC, p1, codeD, tL, iN, e2, e3, e4, e5]
  | true =>
  obtain ⟨rl, rfl⟩ : ∃ l, arrays = .tuple l := by
    cases arrays with
    | tuple l => exact ⟨l, rfl⟩
    | _ => simp [rowD] at e5
  have hD : ∀ a6 a7 a8, evE gl cf c_is_code_1 [some (.d (.tuple [.tuple al, .int mn, shown, .tuple rl, rows])), some (.d (.tuple al)), some (.d (.int mn)), some (.d shown), some (.d (.tuple rl)), some (.d rows), a6, a7, a8] st = .ok (.d (.list (rl.map fun x => .bool (wholeD x 1 6)))) st := fun a6 a7 a8 => by
    refine e_comp_map (us := [.d (.tuple rl)]) (xs := rl) (by simp [evEs, evE, O.bind]) (by simp [items, vws, vw]) z2 (fun x hx => ?_)
    exact ⟨_, rfl, by simp [evE, evEs, O.bind, gl6, h0]⟩
  have p2 := prim_all (m := false) rl (fun x => wholeD x 1 6) st
  generalize (rl.map fun x => PyData.bool (wholeD x 1 6)) = M2 at hD p2
  cases e6 : rl.all fun s => wholeD s 1 6 with
  | false =>
    rw [e6] at p2
    simp [fnT, runF, b_is_code, evSs, evS, evE, evEs, evT, O.bind, vw, tru, truD, setS, gl3, gl4, gl5, prim_len_t, prim_max1, h0, h1, e, e1, hC, p1, hD, p2, codeD, tL, iN, e2, e3, e4, e5, e6]
  | true =>
  rw [e6] at p2
  cases e7 : rowD rows 1 60 with
  | false => simp [fnT, runF, b_is_code, evSs, evS, evE, evEs, evT, O.bind, vw, tru, truD, setS, gl3, gl4, gl5, gl7, prim_len_t, prim_max1, h0, h1, e, e1, hC, p1, hD, p2, codeD, tL, iN, e2, e3, e4, e5, e6, e7]
  | true =>
  obtain ⟨rs, rfl⟩ : ∃ l, rows = .tuple l := by
    cases rows with
    | tuple l => exact ⟨l, rfl⟩
    | _ => simp [rowD] at e7
  have hE : ∀ a6 a7 a8, evE gl cf c_is_code_2 [some (.d (.tuple [.tuple al, .int mn, shown, .tuple rl, .tuple rs])), some (.d (.tuple al)), some (.d (.int mn)), some (.d shown), some (.d (.tuple rl)), some (.d (.tuple rs)), a6, a7, a8] st = .ok (.d (.list (rs.map fun x => .bool (formD x mn rl.length rs.length)))) st := fun a6 a7 a8 => by
    refine e_comp_map (us := [.d (.tuple rs)]) (xs := rs) (by simp [evEs, evE, O.bind]) (by simp [items, vws, vw]) z3 (fun x hx => ?_)
    exact ⟨_, rfl, by simp [evE, evEs, O.bind, prim_len_t, h12]⟩
  have p3 := prim_all (m := false) rs (fun x => formD x mn rl.length rs.length) st
  generalize (rs.map fun x => PyData.bool (formD x mn rl.length rs.length)) = M3 at hE p3
  cases e8 : rs.all fun x => formD x mn rl.length rs.length with
  | false =>
    rw [e8] at p3
    simp [fnT, runF, b_is_code, evSs, evS, evE, evEs, evT, O.bind, vw, tru, truD, setS, gl3, gl4, gl5, gl7, prim_len_t, prim_max1, h0, h1, e, e1, hC, p1, hD, p2, hE, p3, codeD, tL, iN, e2, e3, e4, e5, e6, e7, e8]
  | true =>
  rw [e8] at p3
  have R := rl_of e8
  have q13 := h13 _ _ R z3
  have q15 := h15 _ _ R z3
  have q17 := h17 _ _ R z3
  have cd : codeD (.tuple [.tuple al, .int mn, shown, .tuple rl, .tuple rs]) = rwD rs := by
    simp only [codeD, tL, iN, e1, e2, e3, e4, e5, e6, e7, e8, Bool.true_and]
  rw [cd]
  unfold rwD
  generalize decide (fins 0 (rs.map rkOf) = [(rs.length : Int) - 1]) = b1 at q13 ⊢
  generalize lW (sortP (ags 0 (rs.map rkOf))) (cnts 0 (rs.map rkOf)) = b2 at q15 ⊢
  generalize jW (sortP (ags 0 (rs.map rkOf))) 0 (rs.map rkOf) = b3 at q17 ⊢
  cases b1 <;> cases b2 <;> simp [fnT, runF, b_is_code, evSs, evS, evE, evEs, evT, O.bind, vw, tru, truD, setS, gl3, gl4, gl5, gl7, prim_len_t, prim_max1, h0, h1, e, e1, hC, p1, hD, p2, hE, p3, tL, iN, e3, e4, e5, e7, q13, q15, q17]
end PI
set_option Elab.async false
set_option linter.all false
set_option maxRecDepth 100000
namespace PI
open PySem
def S1 : List Str := ["", "end", "rest", "again", "count", "go", "test", "set", "copy", "get", "put", "+", "-", "*", "<", "="]
mutual
def sz : PyData → Nat
  | .list xs => szL xs + 1
  | .tuple xs => szL xs + 1
  | .none => 1
  | .bool _ => 1
  | .int _ => 1
  | .str _ => 1
  | .dict _ => 1
def szL : List PyData → Nat
  | [] => 0
  | x :: r => sz x + szL r
end
def aG (n : Nat) : PyData → Prop
  | .none => True
  | .bool _ => True
  | .int i => -(2 * n + 2) ≤ i ∧ i ≤ 10 ^ 39 + 2 * n
  | .str z => z ∈ S1
  | .list xs => xs = []
  | .tuple xs => xs = []
  | .dict xs => xs = []
def oG : Nat → PyData → Prop
  | 0, x => aG 0 x
  | n + 1, .tuple xs => ∀ y ∈ xs, oG n y
  | n + 1, .list xs => ∀ y ∈ xs, oG n y
  | n + 1, x => aG (n + 1) x
theorem aG.up {n : Nat} : ∀ {x : PyData}, aG n x → aG (n + 1) x
  | .none, h => h
  | .bool _, h => h
  | .int i, h => by simp only [aG] at h ⊢; omega
  | .str _, h => h
  | .list _, h => h
  | .tuple _, h => h
  | .dict _, h => h
theorem oG.up : ∀ {n : Nat} {x : PyData}, oG n x → oG (n + 1) x
  | 0, .none, h => h
  | 0, .bool _, h => h
  | 0, .int i, h => aG.up (x := .int i) h
  | 0, .str _, h => h
  | 0, .dict _, h => h
  | 0, .list xs, h => by
    have : xs = [] := h
    subst this
    exact fun y m => by cases m
  | 0, .tuple xs, h => by
    have : xs = [] := h
    subst this
    exact fun y m => by cases m
  | n + 1, .none, h => h
  | n + 1, .bool _, h => h
  | n + 1, .int i, h => aG.up (x := .int i) h
  | n + 1, .str _, h => h
  | n + 1, .dict _, h => h
  | n + 1, .list xs, h => fun y m => oG.up (h y m)
  | n + 1, .tuple xs, h => fun y m => oG.up (h y m)
theorem oG.le {i j : Nat} {x : PyData} (h : i ≤ j) (o : oG i x) : oG j x := by
  induction j with
  | zero => exact Nat.le_zero.mp h ▸ o
  | succ j ih =>
    by_cases e : i = j + 1
    · exact e ▸ o
    · exact (ih (by omega)).up
theorem sz_pos : ∀ x : PyData, 1 ≤ sz x := fun x => by cases x <;> simp [sz]
theorem szL_len : ∀ xs : List PyData, xs.length ≤ szL xs
  | [] => Nat.le_refl _
  | x :: r => by
    have := szL_len r
    have := sz_pos x
    simp only [List.length_cons, szL]
    omega
theorem szL_app : ∀ xs ys : List PyData, szL (xs ++ ys) = szL xs + szL ys
  | [], ys => by simp [szL]
  | x :: r, ys => by
    have := szL_app r ys
    simp only [List.cons_append, szL]
    omega
theorem szL_mem : ∀ {xs : List PyData} {y : PyData}, y ∈ xs → sz y ≤ szL xs
  | x :: r, y, h => by
    rcases List.mem_cons.mp h with rfl | h
    · simp only [szL]; omega
    · have := szL_mem h
      simp only [szL]; omega
theorem shL : ∀ xs : List PyData, PyData.shownAll xs = xs.map PyData.shown
  | [] => by rw [PyData.shownAll]; rfl
  | x :: r => by rw [PyData.shownAll, shL r]; rfl
theorem neg_len : (List.range 60).all (fun k => decide ((Str.ofString (toString (-(k : Int)))).length ≤ 60)) = true := by kernel_rfl
theorem S1_len : S1.all (fun z => decide ((reprText z).length ≤ 60)) = true := by kernel_rfl
theorem int_len {n : Nat} {i : Int} (hn : n ≤ 20) (h : aG n (.int i)) : (PyData.shown (.int i)).length ≤ 60 := by
  simp only [aG] at h
  rw [PyData.shown]
  by_cases h0 : 0 ≤ i
  · exact Nat.le_trans (PyProof.Rows.toString_length_le h0 (k := 50) (by decide) (by
      have : (10 : Int) ^ 39 + 40 < 10 ^ 50 := by decide
      omega)) (by decide)
  · have := List.all_eq_true.mp neg_len (-i).toNat (List.mem_range.mpr (by omega))
    rw [show (-(((-i).toNat : Nat) : Int)) = i by omega] at this
    exact of_decide_eq_true this
theorem atom_len {n : Nat} {x : PyData} (hn : n ≤ 20) (h : aG n x) : x.shown.length + 2 ≤ 64 * sz x := by
  cases x with
  | none => rw [PyData.shown]; simp only [sz]; decide
  | bool b => rw [PyData.shown]; simp only [sz]; cases b <;> decide
  | int i => have := int_len hn h; simp only [sz]; omega
  | str z =>
    rw [PyData.shown]
    have := of_decide_eq_true (List.all_eq_true.mp S1_len z h)
    simp only [sz]
    omega
  | list xs => have e : xs = [] := h; subst e; rw [PyData.shown, PyData.shownAll]; simp only [sz, szL]; decide
  | tuple xs => have e : xs = [] := h; subst e; rw [PyData.shown, PyData.shownAll]; simp only [sz, szL]; decide
  | dict xs => have e : xs = [] := h; subst e; rw [PyData.shown, PyData.shownKv]; simp only [sz]; decide
theorem sumL : ∀ {xs : List PyData}, (∀ y ∈ xs, y.shown.length + 2 ≤ 64 * sz y) → ((PyData.shownAll xs).map fun x => x.length).sum + 2 * xs.length ≤ 64 * szL xs
  | [], _ => by simp [PyData.shownAll, szL]
  | x :: r, h => by
    have ih := sumL (xs := r) fun y m => h y (by simp [m])
    have hx := h x (by simp)
    rw [PyData.shownAll]
    simp only [List.map_cons, List.sum_cons, List.length_cons, szL]
    omega
theorem oG.len : ∀ {n : Nat} {x : PyData}, n ≤ 20 → oG n x → x.shown.length + 2 ≤ 64 * sz x
  | 0, x, hn, h => atom_len hn h
  | n + 1, .none, hn, h => atom_len hn h
  | n + 1, .bool _, hn, h => atom_len hn h
  | n + 1, .int i, hn, h => atom_len hn h
  | n + 1, .str _, hn, h => atom_len hn h
  | n + 1, .dict _, hn, h => atom_len hn h
  | n + 1, .list xs, hn, h => by
    have := sumL (xs := xs) fun y m => oG.len (n := n) (by omega) (h y m)
    have l := listText_len_le (PyData.shownAll xs)
    have e : (PyData.shownAll xs).length = xs.length := by rw [shL]; simp
    rw [PyData.shown]
    simp only [sz]
    omega
  | n + 1, .tuple xs, hn, h => by
    have := sumL (xs := xs) fun y m => oG.len (n := n) (by omega) (h y m)
    have l := tupleText_len_le (PyData.shownAll xs)
    have e : (PyData.shownAll xs).length = xs.length := by rw [shL]; simp
    rw [PyData.shown]
    simp only [sz]
    omega
theorem shAll : ∀ {xs : List PyData}, (∀ y ∈ xs, y.showable = true) → PyData.showableAll xs = true
  | [], _ => by rw [PyData.showableAll]
  | x :: r, h => by rw [PyData.showableAll, h x (by simp), shAll fun y m => h y (by simp [m])]; rfl
theorem dpAll : ∀ {xs : List PyData} {n : Nat}, (∀ y ∈ xs, y.depth ≤ n) → PyData.depthAll xs ≤ n
  | [], _, _ => by rw [PyData.depthAll]; omega
  | x :: r, n, h => by
    have h1 := h x (by simp)
    have h2 := dpAll (xs := r) (n := n) fun y m => h y (by simp [m])
    rw [PyData.depthAll]
    omega
theorem atom_sh {n : Nat} {x : PyData} (hn : n ≤ 20) (h : aG n x) : x.showable = true ∧ x.depth ≤ 1 := by
  cases x with
  | none => exact ⟨by rw [PyData.showable], by rw [PyData.depth]; omega⟩
  | bool b => exact ⟨by rw [PyData.showable], by rw [PyData.depth]; omega⟩
  | int i =>
    refine ⟨?_, by rw [PyData.depth]; omega⟩
    rw [PyData.showable]
    simp only [aG] at h
    have : i.natAbs.log2 < 150 := log_lt (by decide) (by
      have : (10 : Int) ^ 39 + 42 < 2 ^ 150 := by decide
      have e : ((2 ^ 150 : Nat) : Int) = 2 ^ 150 := by simp
      omega)
    exact decide_eq_true (by omega)
  | str z => exact ⟨by rw [PyData.showable], by rw [PyData.depth]; omega⟩
  | list xs => have e : xs = [] := h; subst e; exact ⟨by rw [PyData.showable, PyData.showableAll], by rw [PyData.depth, PyData.depthAll]; omega⟩
  | tuple xs => have e : xs = [] := h; subst e; exact ⟨by rw [PyData.showable, PyData.showableAll], by rw [PyData.depth, PyData.depthAll]; omega⟩
  | dict xs => have e : xs = [] := h; subst e; exact ⟨by rw [PyData.showable, PyData.showableKv], by rw [PyData.depth, PyData.depthKv]; omega⟩
theorem oG.sh : ∀ {n : Nat} {x : PyData}, n ≤ 20 → oG n x → x.showable = true ∧ x.depth ≤ n + 1
  | 0, x, hn, h => atom_sh hn h
  | n + 1, .none, hn, h => ⟨(atom_sh hn h).1, Nat.le_trans (atom_sh hn h).2 (by omega)⟩
  | n + 1, .bool _, hn, h => ⟨(atom_sh hn h).1, Nat.le_trans (atom_sh hn h).2 (by omega)⟩
  | n + 1, .int i, hn, h => ⟨(atom_sh hn h).1, Nat.le_trans (atom_sh hn h).2 (by omega)⟩
  | n + 1, .str _, hn, h => ⟨(atom_sh hn h).1, Nat.le_trans (atom_sh hn h).2 (by omega)⟩
  | n + 1, .dict _, hn, h => ⟨(atom_sh hn h).1, Nat.le_trans (atom_sh hn h).2 (by omega)⟩
  | n + 1, .list xs, hn, h => by
    refine ⟨?_, ?_⟩
    · rw [PyData.showable]
      exact shAll fun y m => (oG.sh (by omega) (h y m)).1
    · rw [PyData.depth]
      have := dpAll (xs := xs) (n := n + 1) fun y m => (oG.sh (by omega) (h y m)).2
      omega
  | n + 1, .tuple xs, hn, h => by
    refine ⟨?_, ?_⟩
    · rw [PyData.showable]
      exact shAll fun y m => (oG.sh (by omega) (h y m)).1
    · rw [PyData.depth]
      have := dpAll (xs := xs) (n := n + 1) fun y m => (oG.sh (by omega) (h y m)).2
      omega
/-- what the law may be given to look at -/
def Gd (n N : Nat) (x : PyData) : Prop := oG n x ∧ sz x ≤ N
theorem Gd.repr {n N : Nat} {x : PyData} (h : Gd n N x) (hn : n ≤ 20) (hN : N ≤ 15000) : reprD [x] = some (.str x.shown) := by
  obtain ⟨h1, h2⟩ := h
  have a := h1.sh hn
  have b := h1.len hn
  have c : x.depth ≤ 64 := by omega
  have d : x.shown.length ≤ lim := by rw [lim]; omega
  simp [reprD, a.1, c, d]
theorem tL_sz (x : PyData) : szL (tL x) ≤ sz x := by
  cases x <;> simp [tL, sz, szL]
theorem oG.tup {n : Nat} {xs : List PyData} (h : ∀ y ∈ xs, oG n y) : oG (n + 1) (.tuple xs) := h
end PI
set_option Elab.async false
set_option linter.all false
set_option maxRecDepth 100000
set_option maxHeartbeats 4000000
namespace PI
open PySem
theorem ix_mem {L : List PyData} {v : Int} (h0 : 0 ≤ v) (h1 : v < L.length) : ∃ y, ixD (.list L) (.int v) = some y ∧ y ∈ L := by
  have hv : v.toNat < L.length := by omega
  refine ⟨L[v.toNat], ?_, List.getElem_mem hv⟩
  simp [ixD, L2.atI, L2.ixN, h0, h1, hv]
theorem ixU_mem {L : List PyData} {v : Int} (st : Sto) (h0 : 0 ≤ v) (h1 : v < L.length) : ∃ y, ixU (.d (.list L)) (.d (.int v)) st = .ok (.d y) st ∧ y ∈ L := by
  obtain ⟨y, e, m⟩ := ix_mem h0 h1
  exact ⟨y, by simp [ixU, dictGet, e], m⟩
theorem take_ok (k : Nat) {st : Sto} {n m : Nat} {many : Int} {X : Ob} (h : st[n]? = some X) (hx : PotX m X) (hf : Flat st) (hm : 0 < many) (hm2 : many < 2 ^ 61) (hm9 : m < 2 ^ 60) :
    ∃ v Y, callN gl fnT (k + 1) 24 [.o n, .d (.int many)] st = .ok (.d (.int v)) (st.set n Y) ∧ PotX (m + 1) Y ∧ 0 ≤ v ∧ v < many :=
  fTake_ok gl (callN gl fnT k) h hx hf hm hm2 hm9
def Gen (o : O U) (st : Sto) (n m : Nat) (P : PyData → Prop) : Prop := ∃ d X, o = .ok (.d d) (st.set n X) ∧ PotX m X ∧ P d
theorem at_set {st : Sto} {n : Nat} {X : Ob} (h : st[n]? = some X) (Y : Ob) : (st.set n Y)[n]? = some Y := List.getElem?_set_self (List.getElem?_eq_some_iff.mp h).1
theorem fin_dead {F : Fn} {d : PyData} {st : Sto} {n : Nat} {X : Ob} (h : Flat st) (ht : F.trunc = true) (hx : refsB 0 X = true) (hn : n < st.length) : fin F st.length (.d d) ((st ++ [Ob.dead]).set n X) = .ok (.d d) (st.set n X) := by
  rw [List.set_append_left _ _ hn, fin_d ((h.set hx).app rfl) ht (by simp), List.take_left' (by simp)]
theorem cut_lo {xs : List PyData} {v : Nat} (h : v < xs.length) : cutL xs none (some (v : Int)) = xs.take v := by
  simp only [cutL, HT.sIx_none, HT.sIx_nat, List.drop_zero]
  congr 1
  omega
theorem cut_hi {xs : List PyData} {v : Nat} (h : v ≤ xs.length) : cutL xs (some (v : Int)) none = xs.drop v := by
  simp only [cutL, HT.sIx_none, HT.sIx_nat]
  rw [show min v xs.length = v by omega]
  exact List.take_of_length_le (by simp)
theorem len_at {st : Sto} {n : Nat} {X : Ob} (h : st[n]? = some X) : n < st.length := (List.getElem?_eq_some_iff.mp h).1
theorem at_app {st : Sto} {n : Nat} {X Z : Ob} (h : st[n]? = some X) : (st ++ [Z])[n]? = some X := by
  rw [List.getElem?_append_left (len_at h)]; exact h
/-- what a drawn code is -/
def drawnP (x : PyData) : Prop := codeD x = true ∧ oG 3 x ∧ sz x ≤ 400
theorem prim_repr {m : Bool} {x : PyData} (st : Sto) (h : reprD [x] = some (.str x.shown)) : prim m .repr [.d x] st = .ok (.d (.str x.shown)) st := by
  simp [prim, srtT, vws, vw, primL, primD, h]
theorem drawn_five {x : PyData} (h : codeD x = true) : ∃ a b c d e, x = .tuple [a, b, c, d, e] := by
  unfold codeD at h
  split at h
  · exact ⟨_, _, _, _, _, rfl⟩
  · cases h
end PI
set_option Elab.async false
set_option linter.all false
set_option maxRecDepth 100000
namespace PI
open PySem
/-- the loops of a drawn code, in their order, in many rows -/
structure LP (n : Nat) (L : List (Int × Int)) : Prop where
  two : L = [] ∨ (∃ x, L = [x]) ∨ (∃ x y, L = [x, y] ∧ x.1 < y.1 ∧ (x.2 < y.1 ∨ y.2 < x.2))
  rng : ∀ p ∈ L, 0 ≤ p.1 ∧ p.1 < p.2 ∧ p.2 + 2 ≤ n
theorem filt_split {α : Type} (f : α → Int) (i j : Int) (h : i < j) : ∀ {Q : List α}, Q.Pairwise (fun x y => f x < f y) →
    Q.filter (fun p => decide (i ≤ f p) && decide (f p < j)) = Q.filter (fun p => decide (f p = i)) ++ Q.filter (fun p => decide (i + 1 ≤ f p) && decide (f p < j))
  | [], _ => rfl
  | x :: r, hp => by
    have hr := List.pairwise_cons.mp hp
    have ih := filt_split f i j h hr.2
    rcases Int.lt_trichotomy (f x) i with c | c | c
    · have a1 : ¬ i ≤ f x := by omega
      have a2 : ¬ f x = i := by omega
      have a3 : ¬ i + 1 ≤ f x := by omega
      simp [List.filter_cons, a1, a2, a3, ih]
    · have a1 : i ≤ f x := by omega
      have a3 : ¬ i + 1 ≤ f x := by omega
      have a4 : f x < j := by omega
      rw [List.filter_cons_of_pos (by simp [a1, a4]), List.filter_cons_of_pos (by simp [c]), List.filter_cons_of_neg (by simp [a3]), ih]
      rfl
    · have a1 : i ≤ f x := by omega
      have a2 : ¬ f x = i := by omega
      have a3 : i + 1 ≤ f x := by omega
      have e : r.filter (fun p => decide (f p = i)) = [] := by
        rw [List.filter_eq_nil_iff]
        intro y hy
        have := hr.1 y hy
        simp
        omega
      rw [e, List.nil_append] at ih
      by_cases c2 : f x < j
      · simp [List.filter_cons, a1, a2, a3, c2, ih, e]
      · simp [List.filter_cons, a1, a2, a3, c2, ih, e]
theorem filt_one {α : Type} (f : α → Int) : ∀ {Q : List α} {p : α}, Q.Pairwise (fun x y => f x < f y) → p ∈ Q → Q.filter (fun q => decide (f q = f p)) = [p]
  | x :: r, p, hp, hm => by
    have hr := List.pairwise_cons.mp hp
    rcases List.mem_cons.mp hm with rfl | hm
    · have e : r.filter (fun q => decide (f q = f p)) = [] := by
        rw [List.filter_eq_nil_iff]
        intro y hy
        have := hr.1 y hy
        simp
        omega
      simp [List.filter_cons, e]
    · have := hr.1 p hm
      have a2 : ¬ f x = f p := by omega
      simp [List.filter_cons, a2, filt_one f hr.2 hm]
def okA (Q : List (Int × Int)) (i : Int) (k : RK) : Prop := (∃ p ∈ Q, p.2 = i ∧ k = .agn (p.1 + 1)) ∨ ((∀ m, k ≠ .agn m) ∧ ∀ p ∈ Q, p.2 ≠ i)
def okC (Q : List (Int × Int)) (i : Int) (k : RK) : Prop := (∃ p ∈ Q, p.1 = i ∧ k = .cnt) ∨ (k ≠ .cnt ∧ ∀ p ∈ Q, p.1 ≠ i)
theorem agsQ {Q : List (Int × Int)} (hQ : Q.Pairwise (fun x y => x.2 < y.2)) : ∀ (ks : List RK) (i : Nat), (∀ j (h : j < ks.length), okA Q ((i + j : Nat) : Int) ks[j]) →
    ags i ks = Q.filter (fun p => decide ((i : Int) ≤ p.2) && decide (p.2 < ((i + ks.length : Nat) : Int)))
  | [], i, _ => by
    rw [List.filter_eq_nil_iff.mpr]
    · rfl
    · intro a _
      simp
  | k :: r, i, h => by
    have ih := agsQ hQ r (i + 1) (fun j hj => by
      have := h (j + 1) (by simpa using hj)
      simpa [Nat.add_assoc, Nat.add_comm 1 j] using this)
    have h0 := h 0 (by simp)
    simp only [Nat.add_zero, List.getElem_cons_zero] at h0
    have sp := filt_split (fun p : Int × Int => p.2) (i : Int) ((i + (k :: r).length : Nat) : Int) (by simp only [List.length_cons]; omega) hQ
    rw [sp]
    have e : ((i + (k :: r).length : Nat) : Int) = ((i + 1 + r.length : Nat) : Int) := by simp only [List.length_cons]; omega
    rw [e]
    have e2 : ((i : Int) + 1) = ((i + 1 : Nat) : Int) := by simp
    rw [e2, ← ih]
    rcases h0 with ⟨p, hp, h1, h2⟩ | ⟨h1, h2⟩
    · have := filt_one (fun p : Int × Int => p.2) hQ hp
      rw [← h1, this, h2, ags, ← h1, Int.add_sub_cancel]
      rfl
    · have : Q.filter (fun q => decide (q.2 = (i : Int))) = [] := by
        rw [List.filter_eq_nil_iff]
        intro a ha
        simp [h2 a ha]
      rw [this, List.nil_append]
      cases k with
      | agn m => exact absurd rfl (h1 m)
      | _ => rfl
theorem cntsQ {Q : List (Int × Int)} (hQ : Q.Pairwise (fun x y => x.1 < y.1)) : ∀ (ks : List RK) (i : Nat), (∀ j (h : j < ks.length), okC Q ((i + j : Nat) : Int) ks[j]) →
    cnts i ks = (Q.filter (fun p => decide ((i : Int) ≤ p.1) && decide (p.1 < ((i + ks.length : Nat) : Int)))).map (·.1)
  | [], i, _ => by
    rw [List.filter_eq_nil_iff.mpr]
    · rfl
    · intro a _
      simp
  | k :: r, i, h => by
    have ih := cntsQ hQ r (i + 1) (fun j hj => by
      have := h (j + 1) (by simpa using hj)
      simpa [Nat.add_assoc, Nat.add_comm 1 j] using this)
    have h0 := h 0 (by simp)
    simp only [Nat.add_zero, List.getElem_cons_zero] at h0
    have sp := filt_split (fun p : Int × Int => p.1) (i : Int) ((i + (k :: r).length : Nat) : Int) (by simp only [List.length_cons]; omega) hQ
    rw [sp]
    have e : ((i + (k :: r).length : Nat) : Int) = ((i + 1 + r.length : Nat) : Int) := by simp only [List.length_cons]; omega
    rw [e]
    have e2 : ((i : Int) + 1) = ((i + 1 : Nat) : Int) := by simp
    rw [e2, List.map_append, ← ih]
    rcases h0 with ⟨p, hp, h1, h2⟩ | ⟨h1, h2⟩
    · have := filt_one (fun p : Int × Int => p.1) hQ hp
      rw [← h1, this, h2, cnts, ← h1]
      rfl
    · have : Q.filter (fun q => decide (q.1 = (i : Int))) = [] := by
        rw [List.filter_eq_nil_iff]
        intro a ha
        simp [h2 a ha]
      rw [this, List.map_nil, List.nil_append]
      cases k with
      | cnt => exact absurd rfl h1
      | _ => rfl
/-- what stands in row i of a drawn code -/
def kindOf (L : List (Int × Int)) (i : Int) (k : RK) : Prop :=
  (∃ p ∈ L, p.1 = i ∧ k = .cnt) ∨ (∃ p ∈ L, p.2 = i ∧ k = .agn (p.1 + 1)) ∨ ((∀ p ∈ L, p.1 ≠ i ∧ p.2 ≠ i) ∧ (k = .oth ∨ ∃ t, k = .jmp t ∧ i < t ∧ ∀ c ∈ cAr L t, c ∈ cAr L i))
theorem LP.apart {n : Nat} {L : List (Int × Int)} (h : LP n L) {p q : Int × Int} (hp : p ∈ L) (hq : q ∈ L) : p.1 ≠ q.2 := by
  rcases h.two with rfl | ⟨x, rfl⟩ | ⟨x, y, rfl, h1, h2⟩
  · cases hp
  · have r := h.rng x (by simp)
    simp only [List.mem_cons, List.not_mem_nil, or_false] at hp hq
    subst hp; subst hq
    omega
  · have r1 := h.rng x (by simp)
    have r2 := h.rng y (by simp)
    simp only [List.mem_cons, List.not_mem_nil, or_false] at hp hq
    rcases hp with rfl | rfl <;> rcases hq with rfl | rfl <;> omega
theorem kind_a {n : Nat} {L Q : List (Int × Int)} (h : LP n L) (hQ : ∀ p, p ∈ Q ↔ p ∈ L) {i : Int} {k : RK} (hk : kindOf L i k) : okA Q i k := by
  rcases hk with ⟨p, hp, h1, rfl⟩ | ⟨p, hp, h1, rfl⟩ | ⟨h1, h2⟩
  · exact Or.inr ⟨fun m => by simp, fun q hq e => h.apart hp ((hQ q).mp hq) (by omega)⟩
  · exact Or.inl ⟨p, (hQ p).mpr hp, h1, rfl⟩
  · refine Or.inr ⟨fun m => ?_, fun q hq => (h1 q ((hQ q).mp hq)).2⟩
    rcases h2 with rfl | ⟨t, rfl, _⟩ <;> simp
theorem kind_c {n : Nat} {L : List (Int × Int)} (h : LP n L) {i : Int} {k : RK} (hk : kindOf L i k) : okC L i k := by
  rcases hk with ⟨p, hp, h1, rfl⟩ | ⟨p, hp, h1, rfl⟩ | ⟨h1, h2⟩
  · exact Or.inl ⟨p, hp, h1, rfl⟩
  · exact Or.inr ⟨by simp, fun q hq e => h.apart hq hp (by omega)⟩
  · refine Or.inr ⟨?_, fun q hq => (h1 q hq).1⟩
    rcases h2 with rfl | ⟨t, rfl, _⟩ <;> simp
theorem ags_fin : ∀ (ks : List RK) (i : Nat), ags i (ks ++ [.fin]) = ags i ks
  | [], _ => rfl
  | k :: r, i => by cases k <;> simp [ags, ags_fin r]
theorem cnts_fin : ∀ (ks : List RK) (i : Nat), cnts i (ks ++ [.fin]) = cnts i ks
  | [], _ => rfl
  | k :: r, i => by cases k <;> simp [cnts, cnts_fin r]
theorem fins_fin : ∀ (ks : List RK) (i : Nat), (∀ k ∈ ks, k ≠ .fin) → fins i (ks ++ [.fin]) = [((i + ks.length : Nat) : Int)]
  | [], _, _ => rfl
  | k :: r, i, h => by
    have ih := fins_fin r (i + 1) fun k hk => h k (by simp [hk])
    rw [show i + 1 + r.length = i + (k :: r).length by simp only [List.length_cons]; omega] at ih
    cases k with
    | fin => exact absurd rfl (h .fin (by simp))
    | _ => exact ih
theorem kind_ne {L : List (Int × Int)} {i : Int} {k : RK} (hk : kindOf L i k) : k ≠ .fin := by
  rcases hk with ⟨p, hp, h1, rfl⟩ | ⟨p, hp, h1, rfl⟩ | ⟨h1, rfl | ⟨t, rfl, _⟩⟩ <;> simp
theorem jW_fin {L : List (Int × Int)} : ∀ (ks : List RK) (i : Nat), (∀ j (h : j < ks.length), kindOf L ((i + j : Nat) : Int) ks[j]) → jW L i (ks ++ [.fin]) = true
  | [], _, _ => rfl
  | k :: r, i, h => by
    have ih := jW_fin r (i + 1) (fun j hj => by
      have := h (j + 1) (by simpa using hj)
      simpa [Nat.add_assoc, Nat.add_comm 1 j] using this)
    have h0 := h 0 (by simp)
    simp only [Nat.add_zero, List.getElem_cons_zero] at h0
    rcases h0 with ⟨p, hp, h1, rfl⟩ | ⟨p, hp, h1, rfl⟩ | ⟨h1, rfl | ⟨t, rfl, h2, h3⟩⟩
    · exact ih
    · exact ih
    · exact ih
    · rw [List.cons_append, jW, ih, Bool.and_true, jB]
      simp only [Bool.and_eq_true, Bool.not_eq_true', decide_eq_false_iff_not, List.all_eq_true, decide_eq_true_eq]
      exact ⟨by omega, h3⟩
theorem LP.sort2 {n : Nat} {L : List (Int × Int)} (h : LP n L) : L.Pairwise (fun x y => x.1 < y.1) := by
  rcases h.two with rfl | ⟨x, rfl⟩ | ⟨x, y, rfl, h1, h2⟩ <;> simp
  omega
/-- the loops in the order of their ends -/
theorem LP.ends {n : Nat} {L : List (Int × Int)} (h : LP n L) : ∃ Q : List (Int × Int), Q.Pairwise (fun x y => x.2 < y.2) ∧ (∀ p, p ∈ Q ↔ p ∈ L) ∧ sortP Q = L := by
  rcases h.two with rfl | ⟨x, rfl⟩ | ⟨x, y, rfl, h1, h2⟩
  · exact ⟨[], by simp, fun _ => Iff.rfl, rfl⟩
  · exact ⟨[x], by simp, fun _ => Iff.rfl, rfl⟩
  · have r1 := h.rng x (by simp)
    have r2 := h.rng y (by simp)
    have nlt : ¬ y.1 < x.1 := by omega
    have neq : ¬ y.1 = x.1 := by omega
    rcases h2 with h2 | h2
    · refine ⟨[x, y], by simp; omega, fun _ => Iff.rfl, ?_⟩
      simp [sortP, insP, lexP, nlt, neq]
    · refine ⟨[y, x], by simp; omega, fun p => by simp [or_comm], ?_⟩
      simp [sortP, insP, lexP, h1]
theorem LP.well {n : Nat} {L : List (Int × Int)} (h : LP n L) : (L.all fun p => decide (p.1 < p.2)) = true ∧ (L.all fun p => stW L p.1 p.2) = true := by
  refine ⟨?_, ?_⟩
  · rw [List.all_eq_true]
    intro p hp
    exact decide_eq_true (h.rng p hp).2.1
  · rcases h.two with rfl | ⟨x, rfl⟩ | ⟨x, y, rfl, h1, h2⟩
    · rfl
    · simp [stW, outB]
    · have r1 := h.rng x (by simp)
      have r2 := h.rng y (by simp)
      have n1 : ¬ y.1 < x.1 := by omega
      rcases h2 with h2 | h2
      · have n2 : ¬ y.1 < x.2 := by omega
        simp [stW, outB, n1, n2]
      · have n2 : y.1 < x.2 := by omega
        simp [stW, outB, n1, n2, h1, h2]
theorem drawn_well {n : Nat} {L : List (Int × Int)} (h : LP n L) (ks : List RK) (hl : ks.length + 1 = n) (hk : ∀ j (h : j < ks.length), kindOf L ((j : Nat) : Int) ks[j]) :
    fins 0 (ks ++ [.fin]) = [((ks.length : Nat) : Int)] ∧ lW (sortP (ags 0 (ks ++ [.fin]))) (cnts 0 (ks ++ [.fin])) = true ∧ jW (sortP (ags 0 (ks ++ [.fin]))) 0 (ks ++ [.fin]) = true := by
  obtain ⟨Q, q1, q2, q3⟩ := h.ends
  have fA := agsQ q1 ks 0 (fun j hj => by
    have := kind_a h q2 (hk j hj)
    simpa using this)
  have fC := cntsQ h.sort2 ks 0 (fun j hj => by
    have := kind_c h (hk j hj)
    simpa using this)
  have eA : Q.filter (fun p => decide (((0 : Nat) : Int) ≤ p.2) && decide (p.2 < ((0 + ks.length : Nat) : Int))) = Q := by
    rw [List.filter_eq_self]
    intro p hp
    have := h.rng p ((q2 p).mp hp)
    simp
    omega
  have eC : L.filter (fun p => decide (((0 : Nat) : Int) ≤ p.1) && decide (p.1 < ((0 + ks.length : Nat) : Int))) = L := by
    rw [List.filter_eq_self]
    intro p hp
    have := h.rng p hp
    simp
    omega
  rw [eA] at fA
  rw [eC] at fC
  rw [ags_fin, cnts_fin, fA, fC, q3]
  refine ⟨?_, ?_, jW_fin ks 0 (fun j hj => by
    have := hk j hj
    simpa using this)⟩
  · have := fins_fin ks 0 (fun k hm => by
      obtain ⟨j, hj, rfl⟩ := List.getElem_of_mem hm
      exact kind_ne (hk j hj))
    rw [this]
    simp
  · rw [lW, h.well.1, h.well.2]
    simp
end PI
set_option Elab.async false
set_option linter.all false
set_option maxRecDepth 100000
set_option maxHeartbeats 4000000
namespace PI
open PySem
def TakeF (cf : Cf) : Prop := ∀ {st : Sto} {n m : Nat} {many : Int} {X : Ob}, st[n]? = some X → PotX m X → Flat st → 0 < many → many < 2 ^ 61 → m < 2 ^ 60 → ∃ v Y, cf 24 [.o n, .d (.int many)] st = .ok (.d (.int v)) (st.set n Y) ∧ PotX (m + 1) Y ∧ 0 ≤ v ∧ v < many
theorem takeF (k : Nat) : TakeF (callN gl fnT (k + 1)) := fun h hx hf hm hm2 hm9 => take_ok k h hx hf hm hm2 hm9
def clr (a b p q : Int) : Bool := decide (b < p) || (decide (q < a) || ((decide (p < a) && decide (b < q)) || (decide (a < p) && decide (q < b))))
structure CP (many : Nat) (C : List (Int × Int)) : Prop where
  two : C = [] ∨ (∃ x, C = [x]) ∨ ∃ x y : Int × Int, C = [x, y] ∧ clr y.1 y.2 x.1 x.2 = true
  rng : ∀ p ∈ C, 0 ≤ p.1 ∧ p.1 < p.2 ∧ p.2 + 2 ≤ many
theorem CP.lp {many : Nat} {C : List (Int × Int)} (h : CP many C) : LP many (sortP C) := by
  rcases h.two with rfl | ⟨x, rfl⟩ | ⟨x, y, rfl, hc⟩
  · exact ⟨Or.inl rfl, fun p hp => by cases hp⟩
  · exact ⟨Or.inr (Or.inl ⟨x, rfl⟩), h.rng⟩
  · have r1 := h.rng x (by simp)
    have r2 := h.rng y (by simp)
    simp only [clr, Bool.or_eq_true, Bool.and_eq_true, decide_eq_true_eq] at hc
    by_cases c : y.1 < x.1
    · have e : sortP [x, y] = [y, x] := by simp [sortP, insP, lexP, c]
      rw [e]
      exact ⟨Or.inr (Or.inr ⟨y, x, rfl, c, by omega⟩), fun p hp => h.rng p (by
        simp at hp ⊢
        exact hp.symm)⟩
    · have nq : ¬ y.1 = x.1 := by omega
      have e : sortP [x, y] = [x, y] := by simp [sortP, insP, lexP, c, nq]
      rw [e]
      exact ⟨Or.inr (Or.inr ⟨x, y, rfl, by omega, by omega⟩), h.rng⟩
def uP (C : List (Int × Int)) : List U := (C.map prD2).map .d
theorem usD_uP (C : List (Int × Int)) : usD (uP C) = some (C.map prD2) := usD_ds _
theorem clear_ok (cf : Cf) {S : Sto} {L : Nat} {C : List (Int × Int)} (h : S[L]? = some (.lst (uP C))) (hl : C.length ≤ 2) (a b : Int) (a0 a1 a3 a6 a7 a8 : Option U) :
    evE gl cf c__law_loops_0 [a0, a1, some (.o L), a3, some (.d (.int a)), some (.d (.int b)), a6, a7, a8] S = .ok (.d (.list (((C.map prD2).filter (prP (clr a b))).map fun _ => .int 1))) S := by
  refine e_comp_filter (us := [.o L]) (xs := C.map prD2) (by simp [evEs, evE, O.bind]) (by simp [items, vws, vw, h, usD_uP]) (by rw [List.length_map, lim]; omega) (fun x hx => ?_)
  obtain ⟨p, _, rfl⟩ := List.mem_map.mp hx
  refine ⟨_, rfl, ?_, fun q => by simp [evE]⟩
  simp only [prP, prD2, clr]
  by_cases h1 : b < p.1 <;> by_cases h2 : p.2 < a <;> by_cases h3 : p.1 < a <;> by_cases h4 : b < p.2 <;> by_cases h5 : a < p.1 <;>
    simp [evT, evE, O.bind, cop, dcop, vw, cmpD, tru, truD, h1, h2, h3, h4, h5]
end PI
set_option Elab.async false
set_option linter.all false
set_option maxRecDepth 100000
set_option maxHeartbeats 4000000
namespace PI
open PySem
theorem clear_add {many : Nat} {C : List (Int × Int)} (h : CP many C) {a b : Int} (hr : 0 ≤ a ∧ a < b ∧ b + 2 ≤ many) (h2 : C.length < 2) (hc : ((C.map prD2).filter (prP (clr a b))).length = C.length) : CP many (C ++ [(a, b)]) := by
  refine ⟨?_, fun p hp => ?_⟩
  · rcases h.two with rfl | ⟨x, rfl⟩ | ⟨x, y, rfl, _⟩
    · exact Or.inr (Or.inl ⟨_, rfl⟩)
    · refine Or.inr (Or.inr ⟨x, (a, b), rfl, ?_⟩)
      cases q : clr a b x.1 x.2 with
      | true => rfl
      | false =>
        have : prP (clr a b) (prD2 x) = false := q
        simp [this] at hc
    · simp at h2
  · rcases List.mem_append.mp hp with hp | hp
    · exact h.rng p hp
    · simp only [List.mem_cons, List.not_mem_nil, or_false] at hp
      subst hp
      exact hr
theorem CP.len {many : Nat} {C : List (Int × Int)} (h : CP many C) : C.length ≤ 2 := by
  rcases h.two with rfl | ⟨x, rfl⟩ | ⟨x, y, rfl, _⟩ <;> simp
theorem uP_app (C : List (Int × Int)) (a b : Int) : uP C ++ [.d (.tuple [.int a, .int b])] = uP (C ++ [(a, b)]) := by simp [uP, prD2]
theorem set_same {st : Sto} {n : Nat} {X : Ob} (h : st[n]? = some X) : st.set n X = st := by
  obtain ⟨h1, h2⟩ := List.getElem?_eq_some_iff.mp h
  subst h2
  exact List.set_getElem_self h1
def EnvO (many : Int) (n L : Nat) (e : Ev) : Prop := ∃ a3 a4 a5 a6 a7 a8 : Option U, e = [some (.o n), some (.d (.int many)), some (.o L), a3, a4, a5, a6, a7, a8]
theorem lp_step {cf : Cf} (hT : TakeF cf) {S : Sto} {n L m many : Nat} {X : Ob} {C : List (Int × Int)} (hX : S[n]? = some X) (pX : PotX m X) (hL : S[L]? = some (.lst (uP C))) (hnL : n ≠ L) (hf : Flat S) (hC : CP many C) (hm : 3 ≤ many ∧ many ≤ 30) (hm9 : m < 2 ^ 50) {e : Ev} (he : EnvO many n L e) :
    ∃ e' Y C', evSs gl cf l__law_loops_0 e S = .ok (.nx e') ((S.set n Y).set L (.lst (uP C'))) ∧ PotX (m + 2) Y ∧ CP many C' ∧ EnvO many n L e' := by
  obtain ⟨a3, a4, a5, a6, a7, a8, rfl⟩ := he
  have g3 : cmpD .gt (.int (many : Int)) (.int 3) = some (decide ((3 : Int) < many)) := rfl
  by_cases c : 3 < many
  · have c' : (3 : Int) < many := by omega
    obtain ⟨a, Y1, e1, p1, l1, u1⟩ := hT (many := (many : Int) - 2) hX pX hf (by omega) (by omega) (by omega)
    obtain ⟨b, Y2, e2, p2, l2, u2⟩ := hT (many := (many : Int) - 2 - a) (at_set hX Y1) p1 (hf.set p1.flat) (by omega) (by omega) (by omega)
    rw [List.set_set] at e2
    have hL2 : (S.set n Y2)[L]? = some (.lst (uP C)) := by rw [List.getElem?_set_ne hnL]; exact hL
    have hF := fun a6 => clear_ok cf hL2 hC.len a (a + 1 + b) (some (.o n)) (some (.d (.int (many : Int)))) a3 a6 a7 a8
    have n2 : prim false .len [.o L] (S.set n Y2) = .ok (.d (.int (C.length : Int))) (S.set n Y2) := by
      simp [prim, srtT, vws, vw, hL2, usD_uP, primL, primD, lenD]
    have hfl : ((C.map prD2).filter (prP (clr a (a + 1 + b)))).length ≤ 2 := Nat.le_trans (List.length_filter_le _ _) (by rw [List.length_map]; exact hC.len)
    obtain ⟨F, hFq⟩ : ∃ F, F = ((C.map prD2).filter (prP (clr a (a + 1 + b)))).map fun _ => PyData.int 1 := ⟨_, rfl⟩
    have hFl : F.length = ((C.map prD2).filter (prP (clr a (a + 1 + b)))).length := by rw [hFq, List.length_map]
    have n3 : prim false .len [.d (.list F)] (S.set n Y2) = .ok (.d (.int (F.length : Int))) (S.set n Y2) := by
      simp [prim, srtT, vws, vw, primL, primD, lenD]
    rw [← hFq] at hF
    have t4 : evS gl cf (.set 4 (.call 24 [.var 0, .bin .sub (.var 1) (.con (.int 2))])) [some (.o n), some (.d (.int (many : Int))), some (.o L), a3, a4, a5, a6, a7, a8] S = .ok (.nx [some (.o n), some (.d (.int (many : Int))), some (.o L), a3, some (.d (.int a)), a5, a6, a7, a8]) (S.set n Y1) := by
      simp [evS, evE, evEs, O.bind, bop, vt, vw, b_sub, e1]
    have t5 : evS gl cf (.set 5 (.bin .add (.bin .add (.var 4) (.con (.int 1))) (.call 24 [.var 0, .bin .sub (.bin .sub (.var 1) (.con (.int 2))) (.var 4)]))) [some (.o n), some (.d (.int (many : Int))), some (.o L), a3, some (.d (.int a)), a5, a6, a7, a8] (S.set n Y1) = .ok (.nx [some (.o n), some (.d (.int (many : Int))), some (.o L), a3, some (.d (.int a)), some (.d (.int (a + 1 + b))), a6, a7, a8]) (S.set n Y2) := by
      simp [evS, evE, evEs, O.bind, bop, vt, vw, b_sub, b_add, e2]
    have t6 : evS gl cf (.set 6 (c__law_loops_0)) [some (.o n), some (.d (.int (many : Int))), some (.o L), a3, some (.d (.int a)), some (.d (.int (a + 1 + b))), a6, a7, a8] (S.set n Y2) = .ok (.nx [some (.o n), some (.d (.int (many : Int))), some (.o L), a3, some (.d (.int a)), some (.d (.int (a + 1 + b))), some (.d (.list F)), a7, a8]) (S.set n Y2) := by
      rw [evS, hF, obind_ok]
      rfl
    have lt2 : cmpD .lt (.int (C.length : Int)) (.int 2) = some (decide ((C.length : Int) < 2)) := rfl
    have eqF : cmpD .eq (.int (F.length : Int)) (.int (C.length : Int)) = some (decide ((F.length : Int) = (C.length : Int))) := cmp_eq_int _ _
    have head : ∀ {o : O Fl}, evS gl cf (.ifs (.and (.cmp .lt (.prim false .len [.var 2]) (.con (.int 2))) (.cmp .eq (.prim false .len [.var 6]) (.prim false .len [.var 2]))) [.exp (.meth .append (.var 2) [.tup [.var 4, .var 5]])] []) [some (.o n), some (.d (.int (many : Int))), some (.o L), a3, some (.d (.int a)), some (.d (.int (a + 1 + b))), some (.d (.list F)), a7, a8] (S.set n Y2) = o →
        (∀ e1 s1, o = .ok (.nx e1) s1 → evSs gl cf l__law_loops_0 [some (.o n), some (.d (.int (many : Int))), some (.o L), a3, a4, a5, a6, a7, a8] S = o) := fun h e1 s1 ho => by
      subst ho
      refine evSs_nx ?_ evSs_nil
      have c3 : evT gl cf (.cmp .gt (.var 1) (.con (.int 3))) [some (.o n), some (.d (.int (many : Int))), some (.o L), a3, a4, a5, a6, a7, a8] S = .ok true S := by
        simp [evT, evE, O.bind, cop, dcop, vw, g3, c', tru, truD]
      rw [evS, c3, obind_ok, if_pos rfl]
      exact evSs_nx t4 (evSs_nx t5 (evSs_nx t6 (evSs_nx h evSs_nil)))
    by_cases c2 : (C.length : Int) < 2 ∧ (F.length : Int) = (C.length : Int)
    · have cl : C.length < 1000000 := by omega
      have ul : (uP C).length < 1000000 := by simpa [uP] using cl
      have eqC : cmpD .eq (.int (C.length : Int)) (.int (C.length : Int)) = some true := by rw [cmp_eq_int]; simp
      refine ⟨_, Y2, C ++ [(a, a + 1 + b)], head ?_ _ _ rfl, p2, clear_add hC ⟨l1, by omega, by omega⟩ (by omega) (by omega), ⟨a3, some (.d (.int a)), some (.d (.int (a + 1 + b))), some (.d (.list F)), a7, a8, rfl⟩⟩
      rw [← uP_app]
      simp [evSs, evS, evE, evEs, evT, O.bind, n2, n3, cop, dcop, vw, vt, lt2, eqC, c2.1, c2.2, tru, truD, usD, lim, meth, mApp, mOk, isLstO, hL2, ul]
    · refine ⟨_, Y2, C, head ?_ _ _ rfl, p2, hC, ⟨a3, some (.d (.int a)), some (.d (.int (a + 1 + b))), some (.d (.list F)), a7, a8, rfl⟩⟩
      rw [set_same hL2]
      by_cases c4 : (C.length : Int) < 2
      · have c5 : ¬ (F.length : Int) = (C.length : Int) := fun q => c2 ⟨c4, q⟩
        simp [evSs, evS, evE, evEs, evT, O.bind, n2, n3, cop, dcop, vw, vt, lt2, eqF, c4, c5, tru, truD, usD, lim]
      · simp [evSs, evS, evE, evEs, evT, O.bind, n2, n3, cop, dcop, vw, vt, lt2, eqF, c4, tru, truD, usD, lim]
  · have c' : ¬ (3 : Int) < many := by omega
    refine ⟨_, X, C, ?_, pX.mono (by omega), hC, ⟨a3, a4, a5, a6, a7, a8, rfl⟩⟩
    rw [set_same hX, set_same hL]
    simp [l__law_loops_0, evSs, evS, evE, evT, O.bind, cop, dcop, vw, g3, c', tru, truD]
end PI
set_option Elab.async false
set_option linter.all false
set_option maxRecDepth 100000
set_option maxHeartbeats 4000000
namespace PI
open PySem
theorem ds_flat (xs : List PyData) : refsB 0 (.lst (xs.map U.d)) = true := by
  simp [refsB, refsU]
theorem set_app2 {st : Sto} {n : Nat} {Y Z W : Ob} (hn : n < st.length) : ((st ++ [Z]).set n Y).set st.length W = st.set n Y ++ [W] := by
  rw [List.set_append_left _ _ hn, List.set_append_right _ _ (by simp)]
  simp
theorem drawn_loops (k : Nat) {st : Sto} {n m many : Nat} {X : Ob} (h : st[n]? = some X) (hx : PotX m X) (hf : Flat st) (hm : 3 ≤ many ∧ many ≤ 30) (hm9 : m < 2 ^ 49) :
    ∃ L Y, callN gl fnT (k + 2) 25 [.o n, .d (.int (many : Int))] st = .ok (.d (.list (L.map prD2))) (st.set n Y) ∧ PotX (m + 9) Y ∧ LP many L := by
  have hn := len_at h
  have hT : TakeF (callN gl fnT (k + 1)) := takeF k
  rw [show k + 2 = (k + 1) + 1 from rfl, callN]
  generalize callN gl fnT (k + 1) = cf at hT
  have f0 : Flat (st ++ [Ob.lst []]) := hf.app rfl
  obtain ⟨v, Y0, e0, p0, l0, u0⟩ := hT (many := 4) (at_app (Z := Ob.lst []) h) hx f0 (by decide) (by decide) (by omega)
  rw [List.set_append_left _ _ hn] at e0
  obtain ⟨e1, s1, q1, X1, C1, rfl, p1, c1, v1⟩ := forL_inv (g := fun s => stays [.d (.int v)] (st.set n Y0 ++ [Ob.lst []]) s) (f := fun x env s => match bindTg (.one 3) x env with
      | some env1 => evSs gl cf l__law_loops_0 env1 s
      | none => .bad) (fun j e s => ∃ X C, s = st.set n X ++ [.lst (uP C)] ∧ PotX (m + 1 + 2 * j) X ∧ CP many C ∧ EnvO many n st.length e) (fun _ _ s _ => rfl)
    ((List.range v.toNat).map fun i => .int (i : Nat)) 0 [some (.o n), some (.d (.int (many : Int))), some (.o st.length), none, none, none, none, none, none] (st.set n Y0 ++ [Ob.lst []]) (by
    rintro x hx j e s hj ⟨X, C, rfl, pX, hC, a3, a4, a5, a6, a7, a8, rfl⟩
    simp only [List.length_map, List.length_range] at hj
    have i1 : (st.set n X ++ [Ob.lst (uP C)])[n]? = some X := at_app (at_set h X)
    have i2 : (st.set n X ++ [Ob.lst (uP C)])[st.length]? = some (.lst (uP C)) := by simp
    obtain ⟨e', Y, C', q, pY, hC', ee⟩ := lp_step hT (m := m + 1 + 2 * j) i1 pX i2 (by omega) ((hf.set pX.flat).app (ds_flat _)) hC hm (by omega) (e := [some (.o n), some (.d (.int (many : Int))), some (.o st.length), some (.d x), a4, a5, a6, a7, a8]) ⟨_, _, _, _, _, _, rfl⟩
    have eq := set_app2 (st := st.set n X) (n := n) (Y := Y) (Z := Ob.lst (uP C)) (W := Ob.lst (uP C')) (by simpa using hn)
    rw [List.length_set, List.set_set] at eq
    rw [eq] at q
    refine ⟨e', st.set n Y ++ [Ob.lst (uP C')], ?_, Y, C', rfl, pY.mono (by omega), hC', ee⟩
    simp only [bindTg, List.set_cons_succ, List.set_cons_zero]
    exact q) ⟨Y0, [], by simp [uP], p0, ⟨Or.inl rfl, fun p hp => by cases hp⟩, ⟨_, _, _, _, _, _, rfl⟩⟩
  obtain ⟨a3, a4, a5, a6, a7, a8, rfl⟩ := v1
  refine ⟨sortP C1, X1, ?_, p1.mono (by simp; omega), c1.lp⟩
  have it : items .range [.d (.int v)] (st.set n Y0 ++ [Ob.lst []]) = some ((List.range v.toNat).map fun i => .int (i : Nat)) := by
    have e : v = ((v.toNat : Nat) : Int) := by omega
    rw [e]
    simp [items, vws, vw, rangeD]
    omega
  have lk : (st.set n X1 ++ [Ob.lst (uP C1)])[st.length]? = some (.lst (uP C1)) := by simp
  have so : prim false .sorted [.o st.length] (st.set n X1 ++ [Ob.lst (uP C1)]) = .ok (.d (.list ((sortP C1).map prD2))) (st.set n X1 ++ [Ob.lst (uP C1)]) := by
    have := prim_sorted_prs C1 (st.set n X1 ++ [Ob.lst (uP C1)]) (Nat.le_trans c1.len (by decide))
    simp only [prim, srtT, vws, vw, lk, usD_uP] at this ⊢
    exact this
  show runF gl cf b__law_loops [.o n, .d (.int (many : Int))] st = _
  have body : evSs gl cf b__law_loops.body [some (.o n), some (.d (.int (many : Int))), none, none, none, none, none, none, none] st = .ok (.rt (.d (.list ((sortP C1).map prD2)))) (st.set n X1 ++ [Ob.lst (uP C1)]) := by
    refine evSs_nx (e1 := [some (.o n), some (.d (.int (many : Int))), some (.o st.length), none, none, none, none, none, none]) (st1 := st ++ [Ob.lst []]) ?_ (evSs_nx (evS_for (us := [.d (.int v)]) (st1 := st.set n Y0 ++ [Ob.lst []]) ?_ it q1) (evSs_rt ?_))
    · simp [evS, evE, evEs, O.bind, mkL, lim]
    · simp [evE, evEs, O.bind, e0]
    · simp only [evS, evE, evEs, O.bind, List.getElem?_cons_succ, List.getElem?_cons_zero, so]
  have fe' := fin_d (F := b__law_loops) (n := st.length) (d := .list ((sortP C1).map prD2)) ((hf.set (n := n) p1.flat).app (show refsB 0 (Ob.lst (uP C1)) = true from ds_flat _)) rfl (by simp)
  simp only [runF]
  rw [if_pos (by exact ⟨rfl, by decide⟩)]
  simp only [List.map_cons, List.map_nil, List.length_cons, List.length_nil]
  show O.bind (evSs gl cf b__law_loops.body [some (.o n), some (.d (.int (many : Int))), none, none, none, none, none, none, none] st) _ = _
  rw [body]
  have tk : (st.set n X1 ++ [Ob.lst (uP C1)]).take st.length = st.set n X1 := List.take_left' (by simp)
  rw [obind_ok]
  rw [tk] at fe'
  exact fe'
end PI
set_option Elab.async false
set_option linter.all false
set_option maxRecDepth 100000
set_option maxHeartbeats 4000000
namespace PI
open PySem
theorem laround_ok (k : Nat) {st : Sto} (hf : Flat st) (L : List (Int × Int)) (hl : L.length ≤ lim) (row : Int) : callN gl fnT (k + 1) 26 [.d (.list (L.map prD2)), .d (.int row)] st = .ok (.d (.list ((cAr L row).map .int))) st := by
  rw [← fin_st (F := b__law_around) hf rfl, callN]
  generalize callN gl fnT k = cf
  have hC : evE gl cf c__law_around_0 [some (.d (.list (L.map prD2))), some (.d (.int row)), none, none] st = .ok (.d (.list (((L.map prD2).filter (prP fun a b => decide (a < row) && decide (row ≤ b))).map prF))) st := by
    refine e_comp_filter (us := [.d (.list (L.map prD2))]) (xs := L.map prD2) (by simp [evEs, evE, O.bind]) (by simp [items, vws, vw]) (by rw [List.length_map]; exact hl) (fun x hx => ?_)
    obtain ⟨p, _, rfl⟩ := List.mem_map.mp hx
    refine ⟨_, rfl, ?_, fun q => by simp [evE, prF, prD2]⟩
    by_cases h1 : p.1 < row <;> simp [evT, evE, O.bind, cop, dcop, vw, cmpD, tru, truD, prP, prD2, h1]
  rw [pr_filter, pr_fst] at hC
  simp [fnT, runF, b__law_around, evSs, evS, evE, evEs, O.bind, hC, cAr]
/-- a row that is drawn as a plain one -/
def plainP (regs arr : Int) (r : PyData) : Prop := (∀ N, formD r regs arr N = true) ∧ rkOf r = .oth ∧ oG 1 r ∧ sz r ≤ 5
theorem lk_get : KS.lookup ("get" : Str) = some [.r, .a, .r] := by kernel_rfl
theorem lk_put : KS.lookup ("put" : Str) = some [.a, .r, .r] := by kernel_rfl
theorem lk_set : KS.lookup ("set" : Str) = some [.r, .w] := by kernel_rfl
theorem lk_copy : KS.lookup ("copy" : Str) = some [.r, .r] := by kernel_rfl
theorem lk_rest : KS.lookup ("rest" : Str) = some [] := by kernel_rfl
theorem lk_test : KS.lookup ("test" : Str) = some [.r, .n] := by kernel_rfl
theorem lk_go : KS.lookup ("go" : Str) = some [.n] := by kernel_rfl
theorem lk_count : KS.lookup ("count" : Str) = some [.m] := by kernel_rfl
theorem lk_again : KS.lookup ("again" : Str) = some [.n] := by kernel_rfl
theorem lk_end : KS.lookup ("end" : Str) = some [] := by kernel_rfl
def opL : List Str := ["*", "+", "-", "<", "="]
theorem lk_op : ∀ z ∈ opL, KS.lookup z = some [.r, .r, .r] := by
  intro z hz
  simp only [opL, List.mem_cons, List.not_mem_nil, or_false] at hz
  rcases hz with rfl | rfl | rfl | rfl | rfl <;> kernel_rfl
theorem int_G {n : Nat} {i : Int} (h : 0 ≤ i) (h2 : i ≤ 100000) : oG n (.int i) := by
  have : aG n (.int i) := by
    simp only [aG]
    omega
  cases n <;> exact this
theorem str_G {n : Nat} {z : Str} (h : z ∈ S1) : oG n (.str z) := by cases n <;> exact h
theorem row3 {z : Str} {a b c : Int} (hz : z ∈ S1) (ha : 0 ≤ a ∧ a ≤ 100000) (hb : 0 ≤ b ∧ b ≤ 100000) (hc : 0 ≤ c ∧ c ≤ 100000) : oG 1 (.tuple [.str z, .int a, .int b, .int c]) ∧ sz (.tuple [.str z, .int a, .int b, .int c]) ≤ 5 := by
  refine ⟨oG.tup fun y hy => ?_, by simp [sz, szL]⟩
  simp only [List.mem_cons, List.not_mem_nil, or_false] at hy
  rcases hy with rfl | rfl | rfl | rfl
  · exact str_G hz
  · exact int_G ha.1 ha.2
  · exact int_G hb.1 hb.2
  · exact int_G hc.1 hc.2
theorem row2 {z : Str} {a b : Int} (hz : z ∈ S1) (ha : 0 ≤ a ∧ a ≤ 100000) (hb : 0 ≤ b ∧ b ≤ 100000) : oG 1 (.tuple [.str z, .int a, .int b]) ∧ sz (.tuple [.str z, .int a, .int b]) ≤ 5 := by
  refine ⟨oG.tup fun y hy => ?_, by simp [sz, szL]⟩
  simp only [List.mem_cons, List.not_mem_nil, or_false] at hy
  rcases hy with rfl | rfl | rfl
  · exact str_G hz
  · exact int_G ha.1 ha.2
  · exact int_G hb.1 hb.2
theorem row1 {z : Str} {a : Int} (hz : z ∈ S1) (ha : 0 ≤ a ∧ a ≤ 100000) : oG 1 (.tuple [.str z, .int a]) ∧ sz (.tuple [.str z, .int a]) ≤ 5 := by
  refine ⟨oG.tup fun y hy => ?_, by simp [sz, szL]⟩
  simp only [List.mem_cons, List.not_mem_nil, or_false] at hy
  rcases hy with rfl | rfl
  · exact str_G hz
  · exact int_G ha.1 ha.2
theorem row0 {z : Str} (hz : z ∈ S1) : oG 1 (.tuple [.str z]) ∧ sz (.tuple [.str z]) ≤ 5 := by
  refine ⟨oG.tup fun y hy => ?_, by simp [sz, szL]⟩
  simp only [List.mem_cons, List.not_mem_nil, or_false] at hy
  subst hy
  exact str_G hz
theorem plain_get {g A a s b : Int} (hg : g ≤ 16) (hA : A ≤ 2) (ha : 0 ≤ a ∧ a < g) (hs : 0 ≤ s ∧ s < A) (hb : 0 ≤ b ∧ b < g) : plainP g A (.tuple [.str "get", .int a, .int s, .int b]) := by
  refine ⟨fun N => ?_, by kernel_rfl, row3 (by simp [S1]) (by omega) (by omega) (by omega)⟩
  simp only [formD, lk_get, List.map_cons, List.map_nil, spanK, fitL, wholeD, Bool.and_true, Bool.and_eq_true, decide_eq_true_eq]
  omega
theorem plain_put {g A a s b : Int} (hg : g ≤ 16) (hA : A ≤ 2) (ha : 0 ≤ a ∧ a < g) (hs : 0 ≤ s ∧ s < A) (hb : 0 ≤ b ∧ b < g) : plainP g A (.tuple [.str "put", .int s, .int a, .int b]) := by
  refine ⟨fun N => ?_, by kernel_rfl, row3 (by simp [S1]) (by omega) (by omega) (by omega)⟩
  simp only [formD, lk_put, List.map_cons, List.map_nil, spanK, fitL, wholeD, Bool.and_true, Bool.and_eq_true, decide_eq_true_eq]
  omega
theorem plain_set {g A a w : Int} (hg : g ≤ 16) (ha : 0 ≤ a ∧ a < g) (hw : 0 ≤ w ∧ w ≤ 255) : plainP g A (.tuple [.str "set", .int a, .int w]) := by
  refine ⟨fun N => ?_, by kernel_rfl, row2 (by simp [S1]) (by omega) (by omega)⟩
  simp only [formD, lk_set, List.map_cons, List.map_nil, spanK, fitL, wholeD, Bool.and_true, Bool.and_eq_true, decide_eq_true_eq]
  omega
theorem plain_copy {g A a b : Int} (hg : g ≤ 16) (ha : 0 ≤ a ∧ a < g) (hb : 0 ≤ b ∧ b < g) : plainP g A (.tuple [.str "copy", .int a, .int b]) := by
  refine ⟨fun N => ?_, by kernel_rfl, row2 (by simp [S1]) (by omega) (by omega)⟩
  simp only [formD, lk_copy, List.map_cons, List.map_nil, spanK, fitL, wholeD, Bool.and_true, Bool.and_eq_true, decide_eq_true_eq]
  omega
theorem plain_rest {g A : Int} : plainP g A (.tuple [.str "rest"]) := by
  refine ⟨fun N => ?_, by kernel_rfl, row0 (by simp [S1])⟩
  simp only [formD, lk_rest, List.map_nil, fitL]
theorem plain_op {g A a b c : Int} {z : Str} (hz : z ∈ opL) (hg : g ≤ 16) (ha : 0 ≤ a ∧ a < g) (hb : 0 ≤ b ∧ b < g) (hc : 0 ≤ c ∧ c < g) : plainP g A (.tuple [.str z, .int a, .int b, .int c]) := by
  have hS : z ∈ S1 := by
    simp only [opL, List.mem_cons, List.not_mem_nil, or_false] at hz
    rcases hz with rfl | rfl | rfl | rfl | rfl <;> simp [S1]
  refine ⟨fun N => ?_, by rfl, row3 hS (by omega) (by omega) (by omega)⟩
  simp only [formD, lk_op z hz, List.map_cons, List.map_nil, spanK, fitL, wholeD, Bool.and_true, Bool.and_eq_true, decide_eq_true_eq]
  omega
end PI
set_option Elab.async false
set_option linter.all false
set_option maxRecDepth 100000
set_option maxHeartbeats 4000000
namespace PI
open PySem
theorem shaped_intsT (L : List Int) : SeqAt.shaped (.tuple (L.map .int)) = true := by
  simp [SeqAt.shaped, PyData.canLay0, PyData.depth, canLay_ints, depth_ints]
theorem plain_ok (k : Nat) {st : Sto} {n m : Nat} {X : Ob} {g : Int} {arr : List PyData} (h : st[n]? = some X) (hx : PotX m X) (hf : Flat st) (hg : 1 ≤ g ∧ g ≤ 16) (hA : arr.length ≤ 2) (hI : ∃ A : List Int, arr = A.map .int) (hm9 : m < 2 ^ 49) :
    Gen (callN gl fnT (k + 2) 27 [.o n, .d (.int g), .d (.tuple arr)] st) st n (m + 6) (plainP g arr.length) := by
  have hT : TakeF (callN gl fnT (k + 1)) := takeF k
  rw [show k + 2 = (k + 1) + 1 from rfl, callN]
  generalize callN gl fnT (k + 1) = cf at hT
  simp only [fnT, List.getElem?_cons_succ, List.getElem?_cons_zero]
  obtain ⟨v, Y1, e1, p1, l1, u1⟩ := hT (many := 9) h hx hf (by decide) (by decide) (by omega)
  obtain ⟨a, Y2, e2, p2, l2, u2⟩ := hT (many := g) (at_set h Y1) p1 (hf.set p1.flat) (by omega) (by omega) (by omega)
  rw [List.set_set] at e2
  obtain ⟨b, Y3, e3, p3, l3, u3⟩ := hT (many := g) (at_set h Y2) p2 (hf.set p2.flat) (by omega) (by omega) (by omega)
  rw [List.set_set] at e3
  obtain ⟨c, Y4, e4, p4, l4, u4⟩ := hT (many := g) (at_set h Y3) p3 (hf.set p3.flat) (by omega) (by omega) (by omega)
  rw [List.set_set] at e4
  have h4 := at_set h Y4
  have f4 := hf.set (n := n) p4.flat
  have s1 : evS gl cf (.set 3 (.call 24 [.var 0, .con (.int 9)])) [some (.o n), some (.d (.int g)), some (.d (.tuple arr)), none, none, none, none, none] st = .ok (.nx [some (.o n), some (.d (.int g)), some (.d (.tuple arr)), some (.d (.int v)), none, none, none, none]) (st.set n Y1) := by
    simp [evS, evE, evEs, O.bind, e1]
  have s2 : evS gl cf (.par [4, 5, 6] [.call 24 [.var 0, .var 1], .call 24 [.var 0, .var 1], .call 24 [.var 0, .var 1]]) [some (.o n), some (.d (.int g)), some (.d (.tuple arr)), some (.d (.int v)), none, none, none, none] (st.set n Y1) = .ok (.nx [some (.o n), some (.d (.int g)), some (.d (.tuple arr)), some (.d (.int v)), some (.d (.int a)), some (.d (.int b)), some (.d (.int c)), none]) (st.set n Y4) := by
    simp [evS, evE, evEs, O.bind, e2, e3, e4, setU]
  have fin : ∀ {r : PyData} {Y : Ob}, PotX (m + 6) Y → plainP g arr.length r → evSs gl cf [.ifs (.and (.cmp .ne (.var 2) (.tup [])) (.cmp .lt (.var 3) (.con (.int 3)))) [.set 7 (.call 24 [.var 0, .prim false .len [.var 2]]), .ret (.idx (.lst false [.tup [.con (.str "get"), .var 4, .var 7, .var 5], .tup [.con (.str "put"), .var 7, .var 5, .var 6]]) (.call 24 [.var 0, .con (.int 2)]))] [], .ifs (.cmp .lt (.var 3) (.con (.int 5))) [.ret (.tup [.con (.str "set"), .var 4, .idx (.lst false [.con (.int 0), .con (.int 1), .con (.int 255), .call 24 [.var 0, .con (.int 256)]]) (.call 24 [.var 0, .con (.int 4)])])] [], .ifs (.cmp .eq (.var 3) (.con (.int 5))) [.ret (.idx (.lst false [.tup [.con (.str "copy"), .var 4, .var 5], .tup [.con (.str "rest")]]) (.bin .div (.call 24 [.var 0, .con (.int 3)]) (.con (.int 2))))] [], .ret (.tup [.idx (.lst false [.con (.str "*"), .con (.str "+"), .con (.str "-"), .con (.str "*"), .con (.str "<"), .con (.str "=")]) (.call 24 [.var 0, .con (.int 6)]), .var 4, .var 5, .var 6])] [some (.o n), some (.d (.int g)), some (.d (.tuple arr)), some (.d (.int v)), some (.d (.int a)), some (.d (.int b)), some (.d (.int c)), none] (st.set n Y4) = .ok (.rt (.d r)) (st.set n Y) →
      Gen (runF gl cf b__law_plain_row [.o n, .d (.int g), .d (.tuple arr)] st) st n (m + 6) (plainP g arr.length) := fun {r Y} pY pr hr => by
    refine ⟨r, Y, ?_, pY, pr⟩
    rw [← fin_set (F := b__law_plain_row) hf rfl pY.flat]
    have body := evSs_nx s1 (evSs_nx s2 hr)
    simp only [runF]
    rw [if_pos (by exact ⟨rfl, by decide⟩)]
    simp only [List.map_cons, List.map_nil, List.length_cons, List.length_nil]
    show O.bind (evSs gl cf b__law_plain_row.body [some (.o n), some (.d (.int g)), some (.d (.tuple arr)), none, none, none, none, none] st) _ = _
    exact (congrArg (fun o => O.bind o _) body).trans rfl
  have lt3 : cmpD .lt (.int v) (.int 3) = some (decide (v < 3)) := rfl
  have lt5 : cmpD .lt (.int v) (.int 5) = some (decide (v < 5)) := rfl
  have eq5 : cmpD .eq (.int v) (.int 5) = some (decide (v = 5)) := cmp_eq_int _ _
  have nA : cmpD .ne (.tuple arr) (.tuple []) = some (!arr.isEmpty) := by
    cases arr with
    | nil => kernel_rfl
    | cons x r =>
      have sh : SeqAt.shaped (.tuple (x :: r)) = true := by
        obtain ⟨A, hI⟩ := hI
        rw [hI]
        exact shaped_intsT A
      have s0 : SeqAt.shaped (.tuple []) = true := by kernel_rfl
      simp [cmpD, sh, s0, PyData.eqv, PyData.eqvAll]
  have lA : ∀ s, prim false .len [.d (.tuple arr)] s = .ok (.d (.int (arr.length : Int))) s := fun s => prim_len_t arr s
  by_cases c1 : arr ≠ [] ∧ v < 3
  · have ae : arr.isEmpty = false := by cases arr <;> simp at c1 ⊢
    have ap : 0 < arr.length := List.length_pos_iff.mpr c1.1
    obtain ⟨w, Y5, e5, p5, l5, u5⟩ := hT (many := (arr.length : Int)) h4 p4 f4 (by omega) (by omega) (by omega)
    obtain ⟨x, Y6, e6, p6, l6, u6⟩ := hT (many := 2) (at_set h4 Y5) p5 (f4.set p5.flat) (by decide) (by decide) (by omega)
    rw [List.set_set] at e5 e6
    rw [List.set_set] at e6
    obtain ⟨r, er, mr⟩ := ixU_mem (L := [.tuple [.str "get", .int a, .int w, .int b], .tuple [.str "put", .int w, .int b, .int c]]) (v := x) (st.set n Y6) l6 (by simpa using u6)
    refine fin (r := r) (Y := Y6) (p6.mono (by omega)) ?_ ?_
    · simp only [List.mem_cons, List.not_mem_nil, or_false] at mr
      rcases mr with rfl | rfl
      · exact plain_get hg.2 (by omega) ⟨l2, u2⟩ ⟨l5, u5⟩ ⟨l3, u3⟩
      · exact plain_put hg.2 (by omega) ⟨l3, u3⟩ ⟨l5, u5⟩ ⟨l4, u4⟩
    · simp [evSs, evS, evE, evEs, evT, O.bind, cop, dcop, vw, nA, ae, lt3, c1.2, tru, truD, usD, lim, lA, e5, e6, mkL, er]
  · have c1' : (!arr.isEmpty && decide (v < 3)) = false := by
      cases arr with
      | nil => rfl
      | cons x r => simp at c1 ⊢; exact c1
    have skip : ∀ o, evSs gl cf [.ifs (.cmp .lt (.var 3) (.con (.int 5))) [.ret (.tup [.con (.str "set"), .var 4, .idx (.lst false [.con (.int 0), .con (.int 1), .con (.int 255), .call 24 [.var 0, .con (.int 256)]]) (.call 24 [.var 0, .con (.int 4)])])] [], .ifs (.cmp .eq (.var 3) (.con (.int 5))) [.ret (.idx (.lst false [.tup [.con (.str "copy"), .var 4, .var 5], .tup [.con (.str "rest")]]) (.bin .div (.call 24 [.var 0, .con (.int 3)]) (.con (.int 2))))] [], .ret (.tup [.idx (.lst false [.con (.str "*"), .con (.str "+"), .con (.str "-"), .con (.str "*"), .con (.str "<"), .con (.str "=")]) (.call 24 [.var 0, .con (.int 6)]), .var 4, .var 5, .var 6])] [some (.o n), some (.d (.int g)), some (.d (.tuple arr)), some (.d (.int v)), some (.d (.int a)), some (.d (.int b)), some (.d (.int c)), none] (st.set n Y4) = o → evSs gl cf [.ifs (.and (.cmp .ne (.var 2) (.tup [])) (.cmp .lt (.var 3) (.con (.int 3)))) [.set 7 (.call 24 [.var 0, .prim false .len [.var 2]]), .ret (.idx (.lst false [.tup [.con (.str "get"), .var 4, .var 7, .var 5], .tup [.con (.str "put"), .var 7, .var 5, .var 6]]) (.call 24 [.var 0, .con (.int 2)]))] [], .ifs (.cmp .lt (.var 3) (.con (.int 5))) [.ret (.tup [.con (.str "set"), .var 4, .idx (.lst false [.con (.int 0), .con (.int 1), .con (.int 255), .call 24 [.var 0, .con (.int 256)]]) (.call 24 [.var 0, .con (.int 4)])])] [], .ifs (.cmp .eq (.var 3) (.con (.int 5))) [.ret (.idx (.lst false [.tup [.con (.str "copy"), .var 4, .var 5], .tup [.con (.str "rest")]]) (.bin .div (.call 24 [.var 0, .con (.int 3)]) (.con (.int 2))))] [], .ret (.tup [.idx (.lst false [.con (.str "*"), .con (.str "+"), .con (.str "-"), .con (.str "*"), .con (.str "<"), .con (.str "=")]) (.call 24 [.var 0, .con (.int 6)]), .var 4, .var 5, .var 6])] [some (.o n), some (.d (.int g)), some (.d (.tuple arr)), some (.d (.int v)), some (.d (.int a)), some (.d (.int b)), some (.d (.int c)), none] (st.set n Y4) = o := fun o ho => by
      refine evSs_nx ?_ ho
      have ct : evT gl cf (.and (.cmp .ne (.var 2) (.tup [])) (.cmp .lt (.var 3) (.con (.int 3)))) [some (.o n), some (.d (.int g)), some (.d (.tuple arr)), some (.d (.int v)), some (.d (.int a)), some (.d (.int b)), some (.d (.int c)), none] (st.set n Y4) = .ok false (st.set n Y4) := by
        cases q : arr.isEmpty with
        | true => simp [evE, evEs, evT, O.bind, cop, dcop, vw, nA, q, tru, truD, usD, lim]
        | false =>
          rw [q] at c1'
          have q3 : ¬ v < 3 := by simpa using c1'
          simp [evE, evEs, evT, O.bind, cop, dcop, vw, nA, q, lt3, q3, tru, truD, usD, lim]
      rw [evS, ct, obind_ok]
      simp [evSs]
    by_cases c2 : v < 5
    · obtain ⟨w, Y5, e5, p5, l5, u5⟩ := hT (many := 256) h4 p4 f4 (by decide) (by decide) (by omega)
      obtain ⟨x, Y6, e6, p6, l6, u6⟩ := hT (many := 4) (at_set h4 Y5) p5 (f4.set p5.flat) (by decide) (by decide) (by omega)
      rw [List.set_set] at e5 e6
      rw [List.set_set] at e6
      obtain ⟨r, er, mr⟩ := ixU_mem (L := [.int 0, .int 1, .int 255, .int w]) (v := x) (st.set n Y6) l6 (by simpa using u6)
      obtain ⟨i, rfl, hi⟩ : ∃ i, r = .int i ∧ 0 ≤ i ∧ i ≤ 255 := by
        simp only [List.mem_cons, List.not_mem_nil, or_false] at mr
        rcases mr with rfl | rfl | rfl | rfl
        · exact ⟨_, rfl, by decide, by decide⟩
        · exact ⟨_, rfl, by decide, by decide⟩
        · exact ⟨_, rfl, by decide, by decide⟩
        · exact ⟨_, rfl, by omega, by omega⟩
      refine fin (r := .tuple [.str "set", .int a, .int i]) (Y := Y6) (p6.mono (by omega)) (plain_set hg.2 ⟨l2, u2⟩ hi) (skip _ ?_)
      simp [evSs, evS, evE, evEs, evT, O.bind, cop, dcop, vw, lt5, c2, tru, truD, usD, lim, e5, e6, mkL, er]
    · by_cases c3 : v = 5
      · obtain ⟨w, Y5, e5, p5, l5, u5⟩ := hT (many := 3) h4 p4 f4 (by decide) (by decide) (by omega)
        rw [List.set_set] at e5
        obtain ⟨r, er, mr⟩ := ixU_mem (L := [.tuple [.str "copy", .int a, .int b], .tuple [.str "rest"]]) (v := w / 2) (st.set n Y5) (by omega) (by simp; omega)
        have dv : bopD .div (.int w) (.int 2) = some (.int (w / 2)) := b_div (by decide) (by decide)
        refine fin (r := r) (Y := Y5) (p5.mono (by omega)) ?_ (skip _ ?_)
        · simp only [List.mem_cons, List.not_mem_nil, or_false] at mr
          rcases mr with rfl | rfl
          · exact plain_copy hg.2 ⟨l2, u2⟩ ⟨l3, u3⟩
          · exact plain_rest
        · subst c3
          have l55 : cmpD .lt (.int 5) (.int 5) = some false := by kernel_rfl
          have e55 : cmpD .eq (.int 5) (.int 5) = some true := by kernel_rfl
          simp [evSs, evS, evE, evEs, evT, O.bind, cop, dcop, vw, vt, bop, l55, e55, tru, truD, usD, lim, e5, mkL, dv, er]
      · obtain ⟨w, Y5, e5, p5, l5, u5⟩ := hT (many := 6) h4 p4 f4 (by decide) (by decide) (by omega)
        rw [List.set_set] at e5
        obtain ⟨r, er, mr⟩ := ixU_mem (L := [.str "*", .str "+", .str "-", .str "*", .str "<", .str "="]) (v := w) (st.set n Y5) l5 (by simpa using u5)
        obtain ⟨z, rfl, hz⟩ : ∃ z, r = .str z ∧ z ∈ opL := by
          simp only [List.mem_cons, List.not_mem_nil, or_false] at mr
          rcases mr with rfl | rfl | rfl | rfl | rfl | rfl <;> exact ⟨_, rfl, by simp [opL]⟩
        refine fin (r := .tuple [.str z, .int a, .int b, .int c]) (Y := Y5) (p5.mono (by omega)) (plain_op hz hg.2 ⟨l2, u2⟩ ⟨l3, u3⟩ ⟨l4, u4⟩) (skip _ ?_)
        simp [evSs, evS, evE, evEs, evT, O.bind, cop, dcop, vw, lt5, eq5, c2, c3, tru, truD, usD, lim, e5, mkL, er]
end PI
set_option Elab.async false
set_option linter.all false
set_option maxRecDepth 100000
set_option maxHeartbeats 4000000
namespace PI
open PySem
theorem any_ints (i : Int) : ∀ C : List Int, ((C.map PyData.int).any fun z => PyData.eqv z (.int i)) = decide (i ∈ C)
  | [] => by simp
  | x :: r => by
    rw [List.map_cons, List.any_cons, any_ints i r]
    by_cases h : x = i
    · simp [PyData.eqv, h]
    · have h' : ¬ i = x := fun e => h e.symm
      simp [PyData.eqv, h, h']
theorem flat_ints : ∀ C : List Int, (C.map PyData.int).all flatD = true
  | [] => rfl
  | x :: r => by rw [List.map_cons, List.all_cons, flat_ints r]; rfl
theorem in_intsL (i : Int) (C : List Int) : cmpD .isin (.int i) (.list (C.map .int)) = some (decide (i ∈ C)) := by
  simp only [cmpD, inD, flat_ints, any_ints]
  rfl
theorem notin_intsL (i : Int) (C : List Int) : cmpD .notin (.int i) (.list (C.map .int)) = some (!decide (i ∈ C)) := by
  simp only [cmpD, inD, flat_ints, any_ints]
  rfl
def fil (L : List (Int × Int)) (row k : Int) : List Int := (cAr L k).filter fun c => !decide (c ∈ cAr L row)
theorem int_filter (f : Int → Bool) : ∀ C : List Int, (C.map PyData.int).filter (inP f) = (C.filter f).map .int
  | [] => rfl
  | x :: r => by
    simp only [List.map_cons, List.filter_cons, int_filter f r]
    have : inP f (.int x) = f x := rfl
    rw [this]
    cases f x <;> simp
theorem inner_ok (cf : Cf) {S : Sto} {L : List (Int × Int)} (hl : L.length ≤ lim) {row k : Int} (hA : cf 26 [.d (.list (L.map prD2)), .d (.int k)] S = .ok (.d (.list ((cAr L k).map .int))) S) (env : Ev)
    (h7 : env[7]? = some (some (.d (.list (L.map prD2))))) (h14 : env[14]? = some (some (.d (.int k)))) (h12 : env[12]? = some (some (.d (.list ((cAr L row).map .int))))) (he : 18 < env.length) :
    evE gl cf c__law_code_2 env S = .ok (.d (.list ((fil L row k).map .int))) S := by
  have cl : ((cAr L k).map PyData.int).length ≤ lim := by
    rw [List.length_map, cAr, List.length_map]
    exact Nat.le_trans (List.length_filter_le _ _) hl
  have := e_comp_filter (G := gl) (cf := cf) (elt := .var 18) (tg := .one 18) (ik := .val) (es := [.call 26 [.var 7, .var 14]]) (env := env) (st := S) (us := [.d (.list ((cAr L k).map .int))]) (xs := (cAr L k).map .int) (c := .cmp .notin (.var 18) (.var 12)) (p := inP fun c => !decide (c ∈ cAr L row)) (h := id)
    (by simp [evEs, evE, O.bind, h7, h14, hA]) (by simp [items, vws, vw]) cl (fun x hx => by
      obtain ⟨c, _, rfl⟩ := List.mem_map.mp hx
      refine ⟨env.set 18 (some (.d (.int c))), by simp [bindTg], ?_, fun _ => ?_⟩
      · have g12 : (env.set 18 (some (U.d (.int c))))[12]? = some (some (.d (.list ((cAr L row).map .int)))) := by
          rw [List.getElem?_set_ne (by decide)]; exact h12
        have g18 : (env.set 18 (some (U.d (.int c))))[18]? = some (some (.d (.int c))) := List.getElem?_set_self he
        have ni := notin_intsL c (cAr L row)
        simp [evT, evE, O.bind, g12, g18, cop, dcop, dictGet, vw, ni, tru, truD, inP]
      · have g18 : (env.set 18 (some (U.d (.int c))))[18]? = some (some (.d (.int c))) := List.getElem?_set_self he
        simp [evE, g18])
  rw [List.map_id, int_filter] at this
  exact this
/-- where a jump in row at may go -/
def spP (L : List (Int × Int)) (row : Int) (k : Int) : Bool := decide (fil L row k = [])
def spots (L : List (Int × Int)) (row : Nat) (N : Nat) : List Int := ((List.range ((N : Int) - (row + 1)).toNat).map fun i => (row : Int) + 1 + (i : Nat)).filter (spP L row)
theorem spots_ok (cf : Cf) {S : Sto} {L : List (Int × Int)} (hl : L.length ≤ lim) {row N : Nat} (hN : N ≤ 30) (hrow : row < N) (hA : ∀ k : Int, cf 26 [.d (.list (L.map prD2)), .d (.int k)] S = .ok (.d (.list ((cAr L k).map .int))) S)
    {a0 a1 a3 a4 a5 a6 a8 a9 a11 a13 a14 a15 a16 a17 a18 : Option U} :
    evE gl cf c__law_code_3 [a0, a1, some (.d (.int (N : Int))), a3, a4, a5, a6, some (.d (.list (L.map prD2))), a8, a9, some (.d (.int (row : Int))), a11, some (.d (.list ((cAr L row).map .int))), a13, a14, a15, a16, a17, a18] S = .ok (.d (.list ((spots L row N).map .int))) S := by
  have it : items .range [.d (.int ((row : Int) + 1)), .d (.int (N : Int))] S = some (((List.range ((N : Int) - (row + 1)).toNat).map fun i => (row : Int) + 1 + (i : Nat)).map .int) := by
    simp [items, vws, vw, rangeD]
    omega
  have := e_comp_filter (G := gl) (cf := cf) (elt := .var 14) (tg := .one 14) (ik := .range) (es := [.bin .add (.var 10) (.con (.int 1)), .var 2]) (env := [a0, a1, some (.d (.int (N : Int))), a3, a4, a5, a6, some (.d (.list (L.map prD2))), a8, a9, some (.d (.int (row : Int))), a11, some (.d (.list ((cAr L row).map .int))), a13, a14, a15, a16, a17, a18]) (st := S) (us := [.d (.int ((row : Int) + 1)), .d (.int (N : Int))]) (xs := (((List.range ((N : Int) - (row + 1)).toNat).map fun i => (row : Int) + 1 + (i : Nat)).map .int)) (c := .cmp .eq (c__law_code_2) (.lst false [])) (p := inP (spP L row)) (h := id)
    (by simp [evEs, evE, O.bind, bop, vt, vw, b_add]) it (by simp [lim]; omega) (fun x hx => by
      obtain ⟨k, _, rfl⟩ := List.mem_map.mp hx
      refine ⟨_, rfl, ?_, fun _ => by simp [evE]⟩
      have ii := inner_ok cf hl (row := row) (hA k) [a0, a1, some (.d (.int (N : Int))), a3, a4, a5, a6, some (.d (.list (L.map prD2))), a8, a9, some (.d (.int (row : Int))), a11, some (.d (.list ((cAr L row).map .int))), a13, some (.d (.int k)), a15, a16, a17, a18] rfl rfl rfl (by simp)
      have ce : cmpD .eq (.list ((fil L row k).map .int)) (.list []) = some (decide (fil L row k = [])) := cmp_eq_ints (fil L row k) []
      show evT gl cf (.cmp .eq (c__law_code_2) (.lst false [])) [a0, a1, some (.d (.int (N : Int))), a3, a4, a5, a6, some (.d (.list (L.map prD2))), a8, a9, some (.d (.int (row : Int))), a11, some (.d (.list ((cAr L row).map .int))), a13, some (.d (.int k)), a15, a16, a17, a18] S = _
      generalize [a0, a1, some (U.d (.int (N : Int))), a3, a4, a5, a6, some (.d (.list (L.map prD2))), a8, a9, some (.d (.int (row : Int))), a11, some (.d (.list ((cAr L row).map .int))), a13, some (.d (.int k)), a15, a16, a17, a18] = env1 at ii
      generalize (fil L row k).map PyData.int = M at ii ce
      simp [evT, evE, evEs, O.bind, ii, mkL, usD, lim, cop, dcop, vw, ce, tru, truD, inP, spP])
  rw [List.map_id, int_filter] at this
  exact this
theorem spots_in {L : List (Int × Int)} {row N : Nat} {t : Int} (h : t ∈ spots L row N) : (row : Int) < t ∧ t < N ∧ ∀ c ∈ cAr L t, c ∈ cAr L row := by
  unfold spots at h
  rw [List.mem_filter] at h
  obtain ⟨h1, h2⟩ := h
  obtain ⟨i, hi, rfl⟩ := List.mem_map.mp h1
  have hi := List.mem_range.mp hi
  refine ⟨by omega, by omega, fun c hc => ?_⟩
  have h2 := of_decide_eq_true h2
  rw [fil, List.filter_eq_nil_iff] at h2
  have := h2 c hc
  simpa using this
theorem spots_pos {L : List (Int × Int)} {row N : Nat} (hL : LP N L) (h : row + 1 < N) : 0 < (spots L row N).length := by
  refine List.length_pos_of_mem (a := (N : Int) - 1) ?_
  unfold spots
  rw [List.mem_filter]
  refine ⟨List.mem_map.mpr ⟨N - (row + 1) - 1, List.mem_range.mpr (by omega), by omega⟩, decide_eq_true ?_⟩
  rw [fil, List.filter_eq_nil_iff]
  intro c hc
  rw [cAr] at hc
  obtain ⟨p, hp, rfl⟩ := List.mem_map.mp hc
  obtain ⟨hp1, hp2⟩ := List.mem_filter.mp hp
  have := hL.rng p hp1
  simp only [Bool.and_eq_true, decide_eq_true_eq] at hp2
  omega
theorem spots_len {L : List (Int × Int)} {row N : Nat} (hN : N ≤ 30) : (spots L row N).length ≤ 30 := by
  unfold spots
  refine Nat.le_trans (List.length_filter_le _ _) ?_
  rw [List.length_map, List.length_range]
  omega
theorem starts_ok (cf : Cf) {S : Sto} {L : List (Int × Int)} (hl : L.length ≤ lim)
    {a0 a1 a2 a3 a4 a5 a6 a8 a9 a10 a11 a12 a13 a14 a15 a16 a17 a18 : Option U} :
    evE gl cf c__law_code_4 [a0, a1, a2, a3, a4, a5, a6, some (.d (.list (L.map prD2))), a8, a9, a10, a11, a12, a13, a14, a15, a16, a17, a18] S = .ok (.d (.list ((L.map (·.1)).map .int))) S := by
  have := e_comp_map (G := gl) (cf := cf) (elt := .var 15) (tg := .tup [15, 16]) (ik := .val) (es := [.var 7]) (env := [a0, a1, a2, a3, a4, a5, a6, some (.d (.list (L.map prD2))), a8, a9, a10, a11, a12, a13, a14, a15, a16, a17, a18]) (st := S) (us := [.d (.list (L.map prD2))]) (xs := L.map prD2) (h := prF)
    (by simp [evEs, evE, O.bind]) (by simp [items, vws, vw]) (by rw [List.length_map]; exact hl) (fun x hx => by
      obtain ⟨p, _, rfl⟩ := List.mem_map.mp hx
      exact ⟨_, rfl, by simp [evE, prF, prD2]⟩)
  rw [pr_fst] at this
  exact this
end PI
set_option Elab.async false
set_option linter.all false
set_option maxRecDepth 100000
set_option maxHeartbeats 4000000
namespace PI
open PySem
def enD (L : List (Int × Int)) : PyData := .dict (L.map fun p => (.int p.2, .int p.1))
def endOf (L : List (Int × Int)) (i : Int) : Option Int := (L.find? fun p => decide (p.2 = i)).map (·.1)
theorem dict_end (S : Sto) (L : List (Int × Int)) (i : Int) : dictGet S (.d (enD L)) (.int i) = some ((endOf L i).map fun v => .d (.int v)) := by
  simp only [dictGet, enD, keyD, endOf, List.find?_map, Option.map_map]
  congr 1
  have e : ((fun p : PyData × PyData => decide (p.1 = .int i)) ∘ fun p : Int × Int => (PyData.int p.2, PyData.int p.1)) = fun p : Int × Int => decide (p.2 = i) := by
    funext p
    simp
  rw [e]
  cases L.find? fun p => decide (p.2 = i) <;> rfl
theorem endOf_some {L : List (Int × Int)} {i v : Int} (h : endOf L i = some v) : ∃ p ∈ L, p.2 = i ∧ p.1 = v := by
  unfold endOf at h
  obtain ⟨p, hp, rfl⟩ := Option.map_eq_some_iff.mp h
  exact ⟨p, List.mem_of_find?_eq_some hp, by simpa using List.find?_some hp, rfl⟩
theorem endOf_none {L : List (Int × Int)} {i : Int} (h : endOf L i = none) : ∀ p ∈ L, p.2 ≠ i := by
  unfold endOf at h
  rw [Option.map_eq_none_iff, List.find?_eq_none] at h
  intro p hp
  simpa using h p hp
def swP (x : PyData) : PyData := match x with
  | .tuple [a, b] => .tuple [b, a]
  | _ => .none
theorem ends_dict (cf : Cf) {S : Sto} {L : List (Int × Int)} {N : Nat} (h : LP N L)
    {a0 a1 a2 a3 a4 a5 a6 a8 a9 a10 a11 a12 a13 a14 a15 a16 a17 a18 : Option U} :
    evE gl cf (.frz (.mkd (c__law_code_1))) [a0, a1, a2, a3, a4, a5, a6, some (.d (.list (L.map prD2))), a8, a9, a10, a11, a12, a13, a14, a15, a16, a17, a18] S = .ok (.d (enD L)) (S ++ [.dead]) := by
  have hl : L.length ≤ 2 := by
    rcases h.two with rfl | ⟨x, rfl⟩ | ⟨x, y, rfl, _⟩ <;> simp
  have c := e_comp_map (G := gl) (cf := cf) (elt := .tup [.var 16, .var 15]) (tg := .tup [15, 16]) (ik := .val) (es := [.var 7]) (env := [a0, a1, a2, a3, a4, a5, a6, some (.d (.list (L.map prD2))), a8, a9, a10, a11, a12, a13, a14, a15, a16, a17, a18]) (st := S) (us := [.d (.list (L.map prD2))]) (xs := L.map prD2) (h := swP)
    (by simp [evEs, evE, O.bind]) (by simp [items, vws, vw]) (by rw [List.length_map, lim]; omega) (fun x hx => by
      obtain ⟨p, _, rfl⟩ := List.mem_map.mp hx
      exact ⟨_, rfl, by simp [evE, evEs, O.bind, usD, lim, swP, prD2]⟩)
  rw [List.map_map] at c
  have c' : evE gl cf c__law_code_1 [a0, a1, a2, a3, a4, a5, a6, some (.d (.list (L.map prD2))), a8, a9, a10, a11, a12, a13, a14, a15, a16, a17, a18] S = .ok (.d (.list (L.map (swP ∘ prD2)))) S := c
  rw [evE, evE, c', obind_ok]
  clear c c'
  rcases h.two with rfl | ⟨x, rfl⟩ | ⟨x, y, rfl, h1, h2⟩
  · simp [O.bind, mkDic, vw, pairsD, mergeU, kvD, enD]
  · simp [O.bind, mkDic, vw, pairsD, mergeU, kvD, enD, swP, prD2, keyD, lim, putK, kD]
  · have r1 := h.rng x (by simp)
    have r2 := h.rng y (by simp)
    have n1 : ¬ x.2 = y.2 := by omega
    simp [O.bind, mkDic, vw, pairsD, mergeU, kvD, enD, swP, prD2, keyD, lim, putK, kD, n1]
end PI
set_option Elab.async false
set_option linter.all false
set_option maxRecDepth 100000
set_option maxHeartbeats 4000000
namespace PI
open PySem
/-- a row of a drawn code -/
def rowP (L : List (Int × Int)) (g A : Int) (N : Nat) (i : Int) (r : PyData) : Prop := kindOf L i (rkOf r) ∧ formD r g A N = true ∧ oG 1 r ∧ sz r ≤ 5
theorem rk_count (m : Int) : rkOf (.tuple [.str "count", .int m]) = .cnt := by kernel_rfl
theorem rk_again (m : Int) : rkOf (.tuple [.str "again", .int m]) = .agn m := by kernel_rfl
theorem rk_go (m : Int) : rkOf (.tuple [.str "go", .int m]) = .jmp m := by kernel_rfl
theorem rk_test (s m : Int) : rkOf (.tuple [.str "test", .int s, .int m]) = .jmp m := by kernel_rfl
theorem rowP_count {L : List (Int × Int)} {g A i m : Int} {N : Nat} (h : ∃ p ∈ L, p.1 = i) (hm : 1 ≤ m ∧ m ≤ 6) : rowP L g A N i (.tuple [.str "count", .int m]) := by
  obtain ⟨p, hp, hi⟩ := h
  refine ⟨Or.inl ⟨p, hp, hi, rk_count m⟩, ?_, row1 (by simp [S1]) (by omega)⟩
  simp only [formD, lk_count, List.map_cons, List.map_nil, spanK, fitL, wholeD, Bool.and_true, Bool.and_eq_true, decide_eq_true_eq]
  omega
theorem rowP_again {L : List (Int × Int)} {g A i m : Int} {N : Nat} (hL : LP N L) (hN : N ≤ 30) (h : ∃ p ∈ L, p.2 = i ∧ p.1 + 1 = m) : rowP L g A N i (.tuple [.str "again", .int m]) := by
  obtain ⟨p, hp, hi, rfl⟩ := h
  have r := hL.rng p hp
  refine ⟨Or.inr (Or.inl ⟨p, hp, hi, rk_again _⟩), ?_, row1 (by simp [S1]) (by omega)⟩
  simp only [formD, lk_again, List.map_cons, List.map_nil, spanK, fitL, wholeD, Bool.and_true, Bool.and_eq_true, decide_eq_true_eq]
  omega
theorem rowP_go {L : List (Int × Int)} {g A m : Int} {i N : Nat} (hN : N ≤ 30) (h : ∀ p ∈ L, p.1 ≠ i ∧ p.2 ≠ i) (hm : m ∈ spots L i N) : rowP L g A N i (.tuple [.str "go", .int m]) := by
  obtain ⟨h1, h2, h3⟩ := spots_in hm
  refine ⟨Or.inr (Or.inr ⟨h, Or.inr ⟨m, rk_go m, h1, h3⟩⟩), ?_, row1 (by simp [S1]) (by omega)⟩
  simp only [formD, lk_go, List.map_cons, List.map_nil, spanK, fitL, wholeD, Bool.and_true, Bool.and_eq_true, decide_eq_true_eq]
  omega
theorem rowP_test {L : List (Int × Int)} {g A m s : Int} {i N : Nat} (hN : N ≤ 30) (hg : g ≤ 16) (h : ∀ p ∈ L, p.1 ≠ i ∧ p.2 ≠ i) (hs : 0 ≤ s ∧ s < g) (hm : m ∈ spots L i N) : rowP L g A N i (.tuple [.str "test", .int s, .int m]) := by
  obtain ⟨h1, h2, h3⟩ := spots_in hm
  refine ⟨Or.inr (Or.inr ⟨h, Or.inr ⟨m, rk_test s m, h1, h3⟩⟩), ?_, row2 (by simp [S1]) (by omega) (by omega)⟩
  simp only [formD, lk_test, List.map_cons, List.map_nil, spanK, fitL, wholeD, Bool.and_true, Bool.and_eq_true, decide_eq_true_eq]
  omega
theorem rowP_plain {L : List (Int × Int)} {g A i : Int} {N : Nat} {r : PyData} (h : ∀ p ∈ L, p.1 ≠ i ∧ p.2 ≠ i) (hr : plainP g A r) : rowP L g A N i r :=
  ⟨Or.inr (Or.inr ⟨h, Or.inl hr.2.1⟩), hr.1 N, hr.2.2⟩
def lastS : List S := [.ifs (.cmp .eq (.call 24 [.var 0, .con (.int 4)]) (.con (.int 0))) [.set 17 (.idx (.var 13) (.idx (.lst false [.call 24 [.var 0, .prim false .len [.var 13]], .call 24 [.var 0, .prim false .min2 [.con (.int 3), .prim false .len [.var 13]]]]) (.call 24 [.var 0, .con (.int 2)]))), .exp (.meth .append (.var 9) [.idx (.lst false [.tup [.con (.str "test"), .call 24 [.var 0, .var 3], .var 17], .tup [.con (.str "go"), .var 17]]) (.bin .div (.call 24 [.var 0, .con (.int 4)]) (.con (.int 3)))])] [.exp (.meth .append (.var 9) [.call 27 [.var 0, .var 3, .var 6]])]]
theorem l_code1 : l__law_code_1 = [.set 12 (.call 26 [.var 7, .var 10]), .set 13 (c__law_code_3), .ifs (.cmp .isin (.var 10) (c__law_code_4)) [.exp (.meth .append (.var 9) [.tup [.con (.str "count"), .bin .add (.con (.int 1)) (.call 24 [.var 0, .con (.int 3)])]])] [.ifs (.cmp .isin (.var 10) (.var 8)) [.exp (.meth .append (.var 9) [.tup [.con (.str "again"), .bin .add (.idx (.var 8) (.var 10)) (.con (.int 1))]])] lastS]] := rfl
theorem app_ok {S : Sto} {Lr : Nat} {rows : List PyData} (h : S[Lr]? = some (.lst (rows.map .d))) (hl : rows.length < 1000) (r : PyData) : meth .append (.o Lr) [.d r] S = .ok (.d .none) (S.set Lr (.lst ((rows ++ [r]).map .d))) := by
  have : (rows.map U.d).length < lim := by rw [List.length_map, lim]; omega
  simp [meth, mApp, h, this]
  simpa [lim] using this
theorem app_st {cf : Cf} {S S1 : Sto} {Lr : Nat} {rows : List PyData} {e : E} {env : Ev} {r : PyData} (h9 : env[9]? = some (some (.o Lr))) (h : S[Lr]? = some (.lst (rows.map .d))) (h1 : S1[Lr]? = some (.lst (rows.map .d))) (hl : rows.length < 1000)
    (he : evE gl cf e env S = .ok (.d r) S1) : evSs gl cf [.exp (.meth .append (.var 9) [e])] env S = .ok (.nx env) (S1.set Lr (.lst ((rows ++ [r]).map .d))) := by
  have a := app_ok h1 hl r
  have ok : mOk .append (.o Lr) S = true := by simp [mOk, isLstO, h]
  simp only [evSs, evS, evE, evEs, h9, O.bind, ok, if_true, he, a]
def EnvC (N : Int) (g : Int) (arr : List PyData) (L : List (Int × Int)) (n La Lr : Nat) (e : Ev) : Prop := ∃ a1 a5 a10 a11 a12 a13 a14 a15 a16 a17 a18 : Option U,
  e = [some (.o n), a1, some (.d (.int N)), some (.d (.int g)), some (.o La), a5, some (.d (.tuple arr)), some (.d (.list (L.map prD2))), some (.d (enD L)), some (.o Lr), a10, a11, a12, a13, a14, a15, a16, a17, a18]
structure CallsC (cf : Cf) : Prop where
  take : ∀ {st : Sto} {n m : Nat} {many : Int} {X : Ob}, st[n]? = some X → PotX m X → Flat st → 0 < many → many < 2 ^ 61 → m < 2 ^ 60 → ∃ v Y, cf 24 [.o n, .d (.int many)] st = .ok (.d (.int v)) (st.set n Y) ∧ PotX (m + 1) Y ∧ 0 ≤ v ∧ v < many
  plain : ∀ {st : Sto} {n m : Nat} {X : Ob} {g : Int} {arr : List PyData}, st[n]? = some X → PotX m X → Flat st → (1 ≤ g ∧ g ≤ 16) → arr.length ≤ 2 → (∃ A : List Int, arr = A.map .int) → m < 2 ^ 49 → Gen (cf 27 [.o n, .d (.int g), .d (.tuple arr)] st) st n (m + 6) (plainP g arr.length)
  around : ∀ {st : Sto} (L : List (Int × Int)) (row : Int), Flat st → L.length ≤ lim → cf 26 [.d (.list (L.map prD2)), .d (.int row)] st = .ok (.d (.list ((cAr L row).map .int))) st
theorem row_step {cf : Cf} (C : CallsC cf) {S : Sto} {n La Lr m N : Nat} {X : Ob} {g : Int} {arr rows : List PyData} {L : List (Int × Int)} (hX : S[n]? = some X) (pX : PotX m X) (hR : S[Lr]? = some (.lst (rows.map .d))) (hne : n ≠ Lr) (hf : Flat S) (hL : LP N L) (hN : N ≤ 30)
    (hg : 1 ≤ g ∧ g ≤ 16) (hA : arr.length ≤ 2) (hI : ∃ A : List Int, arr = A.map .int) (hl : rows.length < 1000) (hm9 : m < 2 ^ 48) (i : Nat) (hi : i + 1 < N) {e : Ev} (he : EnvC N g arr L n La Lr e) :
    ∃ e' Y r, (match bindTg (.one 10) (.int (i : Int)) e with
      | some env1 => evSs gl cf l__law_code_1 env1 S
      | none => .bad) = .ok (.nx e') ((S.set n Y).set Lr (.lst ((rows ++ [r]).map .d))) ∧ PotX (m + 20) Y ∧ rowP L g arr.length N i r ∧ EnvC N g arr L n La Lr e' := by
  obtain ⟨a1, a5, a10, a11, a12, a13, a14, a15, a16, a17, a18, rfl⟩ := he
  simp only [bindTg, List.set_cons_succ, List.set_cons_zero]
  have hl2 : L.length ≤ lim := by
    rcases hL.two with rfl | ⟨x, rfl⟩ | ⟨x, y, rfl, _⟩ <;> simp [lim]
  have hAr := fun k : Int => C.around L k hf hl2
  have s1 : evS gl cf (.set 12 (.call 26 [.var 7, .var 10])) [some (.o n), a1, some (.d (.int (N : Int))), some (.d (.int g)), some (.o La), a5, some (.d (.tuple arr)), some (.d (.list (L.map prD2))), some (.d (enD L)), some (.o Lr), some (.d (.int (i : Int))), a11, a12, a13, a14, a15, a16, a17, a18] S =
      .ok (.nx [some (.o n), a1, some (.d (.int (N : Int))), some (.d (.int g)), some (.o La), a5, some (.d (.tuple arr)), some (.d (.list (L.map prD2))), some (.d (enD L)), some (.o Lr), some (.d (.int (i : Int))), a11, some (.d (.list ((cAr L i).map .int))), a13, a14, a15, a16, a17, a18]) S := by
    simp only [evS, evE, evEs, O.bind, List.getElem?_cons_succ, List.getElem?_cons_zero, hAr, List.set_cons_succ, List.set_cons_zero]
  have s2 : evS gl cf (.set 13 (c__law_code_3)) [some (.o n), a1, some (.d (.int (N : Int))), some (.d (.int g)), some (.o La), a5, some (.d (.tuple arr)), some (.d (.list (L.map prD2))), some (.d (enD L)), some (.o Lr), some (.d (.int (i : Int))), a11, some (.d (.list ((cAr L i).map .int))), a13, a14, a15, a16, a17, a18] S =
      .ok (.nx [some (.o n), a1, some (.d (.int (N : Int))), some (.d (.int g)), some (.o La), a5, some (.d (.tuple arr)), some (.d (.list (L.map prD2))), some (.d (enD L)), some (.o Lr), some (.d (.int (i : Int))), a11, some (.d (.list ((cAr L i).map .int))), some (.d (.list ((spots L i N).map .int))), a14, a15, a16, a17, a18]) S := by
    rw [evS, spots_ok cf hl2 hN (by omega) hAr, obind_ok]
    rfl
  have st := starts_ok cf (S := S) hl2 (a0 := some (.o n)) (a1 := a1) (a2 := some (.d (.int (N : Int)))) (a3 := some (.d (.int g))) (a4 := some (.o La)) (a5 := a5) (a6 := some (.d (.tuple arr))) (a8 := some (.d (enD L))) (a9 := some (.o Lr)) (a10 := some (.d (.int (i : Int)))) (a11 := a11) (a12 := some (.d (.list ((cAr L i).map .int)))) (a13 := some (.d (.list ((spots L i N).map .int)))) (a14 := a14) (a15 := a15) (a16 := a16) (a17 := a17) (a18 := a18)
  have hne' : Lr ≠ n := fun e => hne e.symm
  have keep : ∀ Y, (S.set n Y)[Lr]? = some (.lst (rows.map .d)) := fun Y => by rw [List.getElem?_set_ne hne]; exact hR
  have in1 := in_intsL (i : Int) (L.map (·.1))
  have in2 := dict_end S L i
  generalize ((cAr L (i : Int)).map PyData.int) = H at s1 s2 st
  obtain ⟨K, hK⟩ : ∃ K, K = (spots L i N).map PyData.int := ⟨_, rfl⟩
  have kl : K.length = (spots L i N).length := by rw [hK, List.length_map]
  have kp : 0 < K.length := by rw [kl]; exact spots_pos hL hi
  have kz : K.length ≤ 30 := by rw [kl]; exact spots_len hN
  have km : ∀ y ∈ K, ∃ t, y = .int t ∧ t ∈ spots L i N := fun y hy => by
    rw [hK] at hy
    obtain ⟨t, ht, rfl⟩ := List.mem_map.mp hy
    exact ⟨t, rfl, ht⟩
  rw [← hK] at s2 st
  obtain ⟨D, hD⟩ : ∃ D, D = enD L := ⟨_, rfl⟩
  rw [← hD] at s1 s2 st in2
  rw [← hD]
  obtain ⟨P, hP⟩ : ∃ P, P = L.map prD2 := ⟨_, rfl⟩
  rw [← hP] at s1 s2 st
  rw [← hP]
  obtain ⟨F, hF⟩ : ∃ F, F = (L.map (·.1)).map PyData.int := ⟨_, rfl⟩
  rw [← hF] at st in1
  obtain ⟨b, hb⟩ : ∃ b, b = decide ((i : Int) ∈ L.map (·.1)) := ⟨_, rfl⟩
  rw [← hb] at in1
  have back : ∀ {e' : Ev} {o : Sto}, evSs gl cf [.ifs (.cmp .isin (.var 10) (c__law_code_4)) [.exp (.meth .append (.var 9) [.tup [.con (.str "count"), .bin .add (.con (.int 1)) (.call 24 [.var 0, .con (.int 3)])]])] [.ifs (.cmp .isin (.var 10) (.var 8)) [.exp (.meth .append (.var 9) [.tup [.con (.str "again"), .bin .add (.idx (.var 8) (.var 10)) (.con (.int 1))]])] lastS]] [some (.o n), a1, some (.d (.int (N : Int))), some (.d (.int g)), some (.o La), a5, some (.d (.tuple arr)), some (.d (.list P)), some (.d D), some (.o Lr), some (.d (.int (i : Int))), a11, some (.d (.list H)), some (.d (.list K)), a14, a15, a16, a17, a18] S = .ok (.nx e') o →
      evSs gl cf l__law_code_1 [some (.o n), a1, some (.d (.int (N : Int))), some (.d (.int g)), some (.o La), a5, some (.d (.tuple arr)), some (.d (.list P)), some (.d D), some (.o Lr), some (.d (.int (i : Int))), a11, a12, a13, a14, a15, a16, a17, a18] S = .ok (.nx e') o := fun h => by
    rw [l_code1]
    exact evSs_nx s1 (evSs_nx s2 h)
  have ct : evT gl cf (.cmp .isin (.var 10) (c__law_code_4)) [some (.o n), a1, some (.d (.int (N : Int))), some (.d (.int g)), some (.o La), a5, some (.d (.tuple arr)), some (.d (.list P)), some (.d D), some (.o Lr), some (.d (.int (i : Int))), a11, some (.d (.list H)), some (.d (.list K)), a14, a15, a16, a17, a18] S = .ok b S := by
    have v10 : evE gl cf (.var 10) [some (.o n), a1, some (.d (.int (N : Int))), some (.d (.int g)), some (.o La), a5, some (.d (.tuple arr)), some (.d (.list P)), some (.d D), some (.o Lr), some (.d (.int (i : Int))), a11, some (.d (.list H)), some (.d (.list K)), a14, a15, a16, a17, a18] S = .ok (.d (.int i)) S := by simp [evE]
    have cc : cop .isin (.d (.int (i : Int))) (.d (.list F)) S = .ok b S := by simp [cop, dcop, dictGet, vw, in1]
    rw [evT, evE, v10, obind_ok, st, obind_ok, cc, obind_ok, obind_ok]
    simp [tru, vw, truD]
  cases b with
  | true =>
    obtain ⟨v, Y1, e1, p1, l1, u1⟩ := C.take (many := 3) hX pX hf (by decide) (by decide) (by omega)
    have hv : ∃ p ∈ L, p.1 = (i : Int) := by
      have := of_decide_eq_true hb.symm
      obtain ⟨p, hp, h⟩ := List.mem_map.mp this
      exact ⟨p, hp, h⟩
    refine ⟨_, Y1, .tuple [.str "count", .int (1 + v)], back (evSs_nx ?_ evSs_nil), p1.mono (by omega), rowP_count hv (by omega), ⟨a1, a5, some (.d (.int (i : Int))), a11, some (.d (.list H)), some (.d (.list K)), a14, a15, a16, a17, a18, by rw [← hP, ← hD]⟩⟩
    rw [evS, ct, obind_ok, if_pos rfl]
    refine app_st rfl hR (keep Y1) hl ?_
    simp [evE, evEs, O.bind, usD, lim, bop, vt, vw, b_add, e1]
  | false =>
    have hn1 : ∀ p ∈ L, p.1 ≠ (i : Int) := fun p hp e => by
      have := of_decide_eq_false hb.symm
      exact this (List.mem_map.mpr ⟨p, hp, e⟩)
    cases q : endOf L (i : Int) with
    | some w =>
      rw [q] at in2
      obtain ⟨p, hp, hpi, hpw⟩ := endOf_some q
      have sX : (S.set n X).set Lr (.lst ((rows ++ [PyData.tuple [.str "again", .int (w + 1)]]).map .d)) = S.set Lr (.lst ((rows ++ [PyData.tuple [.str "again", .int (w + 1)]]).map .d)) := by rw [set_same hX]
      refine ⟨_, X, .tuple [.str "again", .int (w + 1)], back (evSs_nx ?_ evSs_nil), pX.mono (by omega), rowP_again hL hN ⟨p, hp, hpi, by omega⟩, ⟨a1, a5, some (.d (.int (i : Int))), a11, some (.d (.list H)), some (.d (.list K)), a14, a15, a16, a17, a18, by rw [← hP, ← hD]⟩⟩
      rw [sX, evS, ct, obind_ok, if_neg (by decide)]
      refine evSs_nx ?_ evSs_nil
      have c2 : evT gl cf (.cmp .isin (.var 10) (.var 8)) [some (.o n), a1, some (.d (.int (N : Int))), some (.d (.int g)), some (.o La), a5, some (.d (.tuple arr)), some (.d (.list P)), some (.d D), some (.o Lr), some (.d (.int (i : Int))), a11, some (.d (.list H)), some (.d (.list K)), a14, a15, a16, a17, a18] S = .ok true S := by
        simp [evT, evE, O.bind, cop, dcop, in2, vw, tru, truD]
      rw [evS, c2, obind_ok, if_pos rfl]
      refine app_st rfl hR hR hl ?_
      simp [evE, evEs, O.bind, usD, lim, bop, vt, vw, b_add, ixU, in2]
    | none =>
      rw [q] at in2
      have hn2 := endOf_none q
      have apart : ∀ p ∈ L, p.1 ≠ (i : Int) ∧ p.2 ≠ (i : Int) := fun p hp => ⟨hn1 p hp, hn2 p hp⟩
      obtain ⟨v, Y1, e1, p1, l1, u1⟩ := C.take (many := 4) hX pX hf (by decide) (by decide) (by omega)
      have h1 := at_set hX Y1
      have f1 := hf.set (n := n) p1.flat
      have c2 : evT gl cf (.cmp .isin (.var 10) (.var 8)) [some (.o n), a1, some (.d (.int (N : Int))), some (.d (.int g)), some (.o La), a5, some (.d (.tuple arr)), some (.d (.list P)), some (.d D), some (.o Lr), some (.d (.int (i : Int))), a11, some (.d (.list H)), some (.d (.list K)), a14, a15, a16, a17, a18] S = .ok false S := by
        simp [evT, evE, O.bind, cop, dcop, in2, vw, tru, truD]
      have z0 : cmpD .eq (.int v) (.int 0) = some (decide (v = 0)) := cmp_eq_int _ _
      have c3 : evT gl cf (.cmp .eq (.call 24 [.var 0, .con (.int 4)]) (.con (.int 0))) [some (.o n), a1, some (.d (.int (N : Int))), some (.d (.int g)), some (.o La), a5, some (.d (.tuple arr)), some (.d (.list P)), some (.d D), some (.o Lr), some (.d (.int (i : Int))), a11, some (.d (.list H)), some (.d (.list K)), a14, a15, a16, a17, a18] S = .ok (decide (v = 0)) (S.set n Y1) := by
        simp [evT, evE, evEs, O.bind, e1, cop, dcop, vw, z0, tru, truD]
      have back2 : ∀ {e' : Ev} {o : Sto}, evSs gl cf lastS [some (.o n), a1, some (.d (.int (N : Int))), some (.d (.int g)), some (.o La), a5, some (.d (.tuple arr)), some (.d (.list P)), some (.d D), some (.o Lr), some (.d (.int (i : Int))), a11, some (.d (.list H)), some (.d (.list K)), a14, a15, a16, a17, a18] S = .ok (.nx e') o → evSs gl cf l__law_code_1 [some (.o n), a1, some (.d (.int (N : Int))), some (.d (.int g)), some (.o La), a5, some (.d (.tuple arr)), some (.d (.list P)), some (.d D), some (.o Lr), some (.d (.int (i : Int))), a11, a12, a13, a14, a15, a16, a17, a18] S = .ok (.nx e') o := fun h => by
        refine back (evSs_nx ?_ evSs_nil)
        rw [evS, ct, obind_ok, if_neg (by decide)]
        refine evSs_nx ?_ evSs_nil
        rw [evS, c2, obind_ok, if_neg (by decide)]
        exact h
      by_cases c0 : v = 0
      · obtain ⟨w1, Y2, e2, p2, l2, u2⟩ := C.take (many := (K.length : Int)) h1 p1 f1 (by omega) (by omega) (by omega)
        rw [List.set_set] at e2
        obtain ⟨w2, Y3, e3, p3, l3, u3⟩ := C.take (many := (if (K.length : Int) < 3 then (K.length : Int) else 3)) (at_set hX Y2) p2 (hf.set p2.flat) (by split <;> omega) (by split <;> omega) (by omega)
        rw [List.set_set] at e3
        obtain ⟨w3, Y4, e4, p4, l4, u4⟩ := C.take (many := 2) (at_set hX Y3) p3 (hf.set p3.flat) (by decide) (by decide) (by omega)
        rw [List.set_set] at e4
        obtain ⟨y, ey, my⟩ := ixU_mem (L := [.int w1, .int w2]) (v := w3) (S.set n Y4) l4 (by simpa using u4)
        obtain ⟨j, rfl, hj0, hj1⟩ : ∃ j, y = .int j ∧ 0 ≤ j ∧ j < K.length := by
          simp only [List.mem_cons, List.not_mem_nil, or_false] at my
          rcases my with rfl | rfl
          · exact ⟨_, rfl, l2, u2⟩
          · refine ⟨_, rfl, l3, ?_⟩
            split at u3 <;> omega
        obtain ⟨y2, ey2, my2⟩ := ixU_mem (L := K) (v := j) (S.set n Y4) hj0 hj1
        obtain ⟨t, rfl, ht⟩ := km y2 my2
        obtain ⟨s, Y5, e5, p5, l5, u5⟩ := C.take (many := g) (at_set hX Y4) p4 (hf.set p4.flat) (by omega) (by omega) (by omega)
        rw [List.set_set] at e5
        obtain ⟨w6, Y6, e6, p6, l6, u6⟩ := C.take (many := 4) (at_set hX Y5) p5 (hf.set p5.flat) (by decide) (by decide) (by omega)
        rw [List.set_set] at e6
        obtain ⟨r, er, mr⟩ := ixU_mem (L := [.tuple [.str "test", .int s, .int t], .tuple [.str "go", .int t]]) (v := w6 / 3) (S.set n Y6) (by omega) (by simp; omega)
        have dv : bopD .div (.int w6) (.int 3) = some (.int (w6 / 3)) := b_div (by decide) (by decide)
        have rp : rowP L g arr.length N i r := by
          simp only [List.mem_cons, List.not_mem_nil, or_false] at mr
          rcases mr with rfl | rfl
          · exact rowP_test hN hg.2 apart ⟨l5, u5⟩ ht
          · exact rowP_go hN apart ht
        refine ⟨_, Y6, r, back2 (evSs_nx ?_ evSs_nil), p6.mono (by omega), rp, ⟨a1, a5, some (.d (.int (i : Int))), a11, some (.d (.list H)), some (.d (.list K)), a14, a15, a16, some (.d (.int t)), a18, by rw [← hP, ← hD]⟩⟩
        rw [evS, c3, obind_ok, if_pos (by simpa using c0)]
        have nK : ∀ s, prim false .len [.d (.list K)] s = .ok (.d (.int (K.length : Int))) s := fun s => by simp [prim, srtT, vws, vw, primL, primD, lenD]
        have nM : ∀ s, prim false .min2 [.d (.int 3), .d (.int (K.length : Int))] s = .ok (.d (.int (if (K.length : Int) < 3 then (K.length : Int) else 3))) s := fun s => by simp [prim, srtT, vws, vw, primL, primD, minD]
        generalize (if (K.length : Int) < 3 then (K.length : Int) else 3) = mn at e3 nM
        have t17 : evS gl cf (.set 17 (.idx (.var 13) (.idx (.lst false [.call 24 [.var 0, .prim false .len [.var 13]], .call 24 [.var 0, .prim false .min2 [.con (.int 3), .prim false .len [.var 13]]]]) (.call 24 [.var 0, .con (.int 2)])))) [some (.o n), a1, some (.d (.int (N : Int))), some (.d (.int g)), some (.o La), a5, some (.d (.tuple arr)), some (.d (.list P)), some (.d D), some (.o Lr), some (.d (.int (i : Int))), a11, some (.d (.list H)), some (.d (.list K)), a14, a15, a16, a17, a18] (S.set n Y1) = .ok (.nx [some (.o n), a1, some (.d (.int (N : Int))), some (.d (.int g)), some (.o La), a5, some (.d (.tuple arr)), some (.d (.list P)), some (.d D), some (.o Lr), some (.d (.int (i : Int))), a11, some (.d (.list H)), some (.d (.list K)), a14, a15, a16, some (.d (.int t)), a18]) (S.set n Y4) := by
          simp [evS, evE, evEs, O.bind, nK, nM, e2, e3, e4, mkL, usD, lim, ey, ey2]
        refine evSs_nx t17 (app_st rfl (keep Y4) (keep Y6) hl ?_)
        simp [evE, evEs, O.bind, e5, e6, mkL, usD, lim, bop, vt, vw, dv, er]
      · obtain ⟨r, Y2, e2, p2, pr⟩ := C.plain (g := g) (arr := arr) h1 p1 f1 hg hA hI (by omega)
        rw [List.set_set] at e2
        refine ⟨_, Y2, r, back2 (evSs_nx ?_ evSs_nil), p2.mono (by omega), rowP_plain apart pr, ⟨a1, a5, some (.d (.int (i : Int))), a11, some (.d (.list H)), some (.d (.list K)), a14, a15, a16, a17, a18, by rw [← hP, ← hD]⟩⟩
        rw [evS, c3, obind_ok, if_neg (by simpa using c0)]
        refine app_st rfl (keep Y1) (keep Y2) hl ?_
        simp [evE, evEs, O.bind, e2]
end PI
set_option Elab.async false
set_option linter.all false
set_option maxRecDepth 100000
set_option maxHeartbeats 4000000
namespace PI
open PySem
/-- a span that is drawn -/
def askP (x : PyData) : Prop := spanD x = true ∧ oG 1 x ∧ sz x ≤ 3
theorem askP_mk {a b : Int} (h0 : 0 ≤ a) (h1 : a ≤ b) (h2 : b ≤ 255) : askP (.tuple [.int a, .int b]) := by
  refine ⟨?_, oG.tup fun y hy => ?_, by simp [sz, szL]⟩
  · have w1 : worthD (.int a) = true := by
      simp only [worthD, wholeD, Bool.and_eq_true, decide_eq_true_eq]
      omega
    have w2 : worthD (.int b) = true := by
      simp only [worthD, wholeD, Bool.and_eq_true, decide_eq_true_eq]
      omega
    simp [spanD, w1, w2, h1]
  · simp only [List.mem_cons, List.not_mem_nil, or_false] at hy
    rcases hy with rfl | rfl
    · exact int_G h0 (by omega)
    · exact int_G (by omega) (by omega)
theorem app_st4 {cf : Cf} {S S1 : Sto} {Lr : Nat} {rows : List PyData} {e : E} {env : Ev} {r : PyData} (h9 : env[4]? = some (some (.o Lr))) (h : S[Lr]? = some (.lst (rows.map .d))) (h1 : S1[Lr]? = some (.lst (rows.map .d))) (hl : rows.length < 1000)
    (he : evE gl cf e env S = .ok (.d r) S1) : evSs gl cf [.exp (.meth .append (.var 4) [e])] env S = .ok (.nx env) (S1.set Lr (.lst ((rows ++ [r]).map .d))) := by
  have a := app_ok h1 hl r
  have ok : mOk .append (.o Lr) S = true := by simp [mOk, isLstO, h]
  simp only [evSs, evS, evE, evEs, h9, O.bind, ok, if_true, he, a]
def EnvA (N : Int) (g : Int) (n La : Nat) (e : Ev) : Prop := ∃ a1 a5 a6 a7 a8 a9 a10 a11 a12 a13 a14 a15 a16 a17 a18 : Option U,
  e = [some (.o n), a1, some (.d (.int N)), some (.d (.int g)), some (.o La), a5, a6, a7, a8, a9, a10, a11, a12, a13, a14, a15, a16, a17, a18]
theorem ask_step {cf : Cf} (C : CallsC cf) {S : Sto} {n La m : Nat} {X : Ob} {N g : Int} {asks : List PyData} (hX : S[n]? = some X) (pX : PotX m X) (hR : S[La]? = some (.lst (asks.map .d))) (hne : n ≠ La) (hf : Flat S) (hl : asks.length < 1000) (hm9 : m < 2 ^ 48) (x : PyData) {e : Ev} (he : EnvA N g n La e) :
    ∃ e' Y r, (match bindTg (.one 5) x e with
      | some env1 => evSs gl cf l__law_code_0 env1 S
      | none => .bad) = .ok (.nx e') ((S.set n Y).set La (.lst ((asks ++ [r]).map .d))) ∧ PotX (m + 4) Y ∧ askP r ∧ EnvA N g n La e' := by
  obtain ⟨a1, a5, a6, a7, a8, a9, a10, a11, a12, a13, a14, a15, a16, a17, a18, rfl⟩ := he
  simp only [bindTg, List.set_cons_succ, List.set_cons_zero]
  have keep : ∀ Y, (S.set n Y)[La]? = some (.lst (asks.map .d)) := fun Y => by rw [List.getElem?_set_ne hne]; exact hR
  obtain ⟨v, Y1, e1, p1, l1, u1⟩ := C.take (many := 254) hX pX hf (by decide) (by decide) (by omega)
  obtain ⟨w, Y2, e2, p2, l2, u2⟩ := C.take (many := 4) (at_set hX Y1) p1 (hf.set p1.flat) (by decide) (by decide) (by omega)
  rw [List.set_set] at e2
  obtain ⟨y, ey, my⟩ := ixU_mem (L := [.int 0, .int 1, .int 254, .int v]) (v := w) (S.set n Y2) l2 (by simpa using u2)
  obtain ⟨a, rfl, ha0, ha1⟩ : ∃ a, y = .int a ∧ 0 ≤ a ∧ a ≤ 254 := by
    simp only [List.mem_cons, List.not_mem_nil, or_false] at my
    rcases my with rfl | rfl | rfl | rfl
    · exact ⟨_, rfl, by decide, by decide⟩
    · exact ⟨_, rfl, by decide, by decide⟩
    · exact ⟨_, rfl, by decide, by decide⟩
    · exact ⟨_, rfl, by omega, by omega⟩
  obtain ⟨u, Y3, e3, p3, l3, u3⟩ := C.take (many := (if 256 - a < 3 then 256 - a else 3)) (at_set hX Y2) p2 (hf.set p2.flat) (by split <;> omega) (by split <;> omega) (by omega)
  rw [List.set_set] at e3
  have nM : ∀ s, prim false .min2 [.d (.int 3), .d (.int (256 - a))] s = .ok (.d (.int (if 256 - a < 3 then 256 - a else 3))) s := fun s => by simp [prim, srtT, vws, vw, primL, primD, minD]
  have hu : a + u ≤ 255 := by split at u3 <;> omega
  refine ⟨_, Y3, .tuple [.int a, .int (a + u)], ?_, p3.mono (by omega), askP_mk ha0 (by omega) hu, ⟨a1, some (.d x), a6, a7, a8, a9, a10, some (.d (.int a)), a12, a13, a14, a15, a16, a17, a18, rfl⟩⟩
  generalize (if 256 - a < 3 then 256 - a else 3) = mn at e3 nM
  have t11 : evS gl cf (.set 11 (.idx (.lst false [.con (.int 0), .con (.int 1), .con (.int 254), .call 24 [.var 0, .con (.int 254)]]) (.call 24 [.var 0, .con (.int 4)]))) [some (.o n), a1, some (.d (.int N)), some (.d (.int g)), some (.o La), some (.d x), a6, a7, a8, a9, a10, a11, a12, a13, a14, a15, a16, a17, a18] S = .ok (.nx [some (.o n), a1, some (.d (.int N)), some (.d (.int g)), some (.o La), some (.d x), a6, a7, a8, a9, a10, some (.d (.int a)), a12, a13, a14, a15, a16, a17, a18]) (S.set n Y2) := by
    simp [evS, evE, evEs, O.bind, e1, e2, mkL, usD, lim, ey]
  refine evSs_nx t11 (app_st4 rfl (keep Y2) (keep Y3) hl ?_)
  simp [evE, evEs, O.bind, e3, nM, usD, lim, bop, vt, vw, b_add, b_sub]
/-- a comprehension that draws -/
theorem compL_draw {g : Sto → Bool} {f : PyData → Sto → O (Option U)} (I : Nat → Sto → Prop) (P : PyData → Prop) (hg : ∀ j s, I j s → g s = true) : ∀ (xs : List PyData) (i : Nat) (s : Sto),
    (∀ x ∈ xs, ∀ j s, j < i + xs.length → I j s → ∃ d s', f x s = .ok (some (.d d)) s' ∧ P d ∧ I (j + 1) s') → I i s → ∃ (ds : List PyData) (s' : Sto), compL g f xs s = .ok (ds.map .d) s' ∧ ds.length = xs.length ∧ (∀ d ∈ ds, P d) ∧ I (i + xs.length) s'
  | [], i, s, _, h => ⟨[], s, by simp [compL, hg i s h], rfl, (fun d hd => by cases hd), h⟩
  | x :: r, i, s, step, h => by
    obtain ⟨d, s1, q1, pd, h1⟩ := step x (by simp) i s (by simp) h
    obtain ⟨ds, s2, q2, l2, pds, h2⟩ := compL_draw I P hg r (i + 1) s1 (fun y hy j s hj hi => step y (by simp [hy]) j s (by simp; omega) hi) h1
    refine ⟨d :: ds, s2, ?_, by simp [l2], ?_, by rwa [List.length_cons, show i + (r.length + 1) = i + 1 + r.length by omega]⟩
    · simp [compL, hg i s h, q1, O.bind, q2]
    · intro y hy
      rcases List.mem_cons.mp hy with rfl | hy
      · exact pd
      · exact pds y hy
end PI
set_option Elab.async false
set_option linter.all false
set_option maxRecDepth 100000
set_option maxHeartbeats 4000000
namespace PI
open PySem
theorem szL_le {c : Nat} : ∀ {xs : List PyData}, (∀ y ∈ xs, sz y ≤ c) → szL xs ≤ c * xs.length
  | [], _ => by simp [szL]
  | x :: r, h => by
    have ih := szL_le (c := c) (xs := r) fun y m => h y (by simp [m])
    have h1 := h x (by simp)
    simp only [szL, List.length_cons, Nat.mul_add]
    omega
theorem final_code {asks arr rows : List PyData} {g sh : Int} {N : Nat} {L : List (Int × Int)} (ha : asks.length ≤ 3) (ha2 : (asks.length : Int) ≤ g) (hp : ∀ a ∈ asks, askP a) (hg : 1 ≤ g ∧ g ≤ 4) (hs : 0 ≤ sh ∧ sh ≤ g)
    (hr : arr.length ≤ 2) (hr2 : ∀ a ∈ arr, ∃ i : Int, a = .int i ∧ 1 ≤ i ∧ i ≤ 6) (hL : LP N L) (hN : 3 ≤ N ∧ N ≤ 30) (hl : rows.length + 1 = N) (hrow : ∀ j (h : j < rows.length), rowP L g arr.length N j rows[j]) :
    drawnP (.tuple [.tuple asks, .int g, .int sh, .tuple arr, .tuple (rows ++ [.tuple [.str "end"]])]) := by
  have rk : (rows ++ [PyData.tuple [.str "end"]]).map rkOf = rows.map rkOf ++ [.fin] := by
    have : rkOf (.tuple [.str "end"]) = .fin := by kernel_rfl
    rw [List.map_append, List.map_cons, List.map_nil, this]
  have w := drawn_well hL (rows.map rkOf) (by simpa using hl) (fun j hj => by
    have := (hrow j (by simpa using hj)).1
    simpa using this)
  have fend : formD (.tuple [.str "end"]) g arr.length N = true := by simp only [formD, lk_end, List.map_nil, fitL]
  have hmem : ∀ r ∈ rows, formD r g arr.length N = true ∧ oG 1 r ∧ sz r ≤ 5 := fun r m => by
    obtain ⟨j, hj, rfl⟩ := List.getElem_of_mem m
    exact (hrow j hj).2
  refine ⟨?_, ?_, ?_⟩
  · have rl : (rows ++ [PyData.tuple [.str "end"]]).length = N := by simpa using hl
    have c1 : rowD (.tuple asks) 0 3 = true := by simp only [rowD, Bool.and_eq_true, decide_eq_true_eq]; omega
    have c2 : asks.all spanD = true := List.all_eq_true.mpr fun a m => (hp a m).1
    have c3 : wholeD (.int g) (mx1 asks.length) 16 = true := by
      have m1 : mx1 asks.length ≤ g := by
        unfold mx1
        by_cases q : (asks.length : Int) > 1
        · rw [if_pos q]; exact ha2
        · rw [if_neg q]; omega
      simp only [wholeD, Bool.and_eq_true, decide_eq_true_eq]
      omega
    have c4 : wholeD (.int sh) 0 g = true := by simp only [wholeD, Bool.and_eq_true, decide_eq_true_eq]; omega
    have c5 : rowD (.tuple arr) 0 2 = true := by simp only [rowD, Bool.and_eq_true, decide_eq_true_eq]; omega
    have c6 : (arr.all fun s => wholeD s 1 6) = true := List.all_eq_true.mpr fun a m => by
      obtain ⟨i, rfl, h1, h2⟩ := hr2 a m
      simp only [wholeD, Bool.and_eq_true, decide_eq_true_eq]
      omega
    have c7 : rowD (.tuple (rows ++ [.tuple [.str "end"]])) 1 60 = true := by simp only [rowD, Bool.and_eq_true, decide_eq_true_eq, rl]; omega
    have c8 : ((rows ++ [PyData.tuple [.str "end"]]).all fun r => formD r g arr.length N) = true := by
      rw [List.all_append, Bool.and_eq_true]
      exact ⟨List.all_eq_true.mpr fun r m => (hmem r m).1, by simp [fend]⟩
    have c9 : rwD (rows ++ [.tuple [.str "end"]]) = true := by
      rw [rwD, rk, w.1, w.2.1, w.2.2, rl]
      simp
      omega
    simp only [codeD, tL, iN, c1, c2, c3, c4, c5, c6, c7, rl, c8, c9, Bool.and_self]
  · refine oG.tup fun y hy => ?_
    simp only [List.mem_cons, List.not_mem_nil, or_false] at hy
    rcases hy with rfl | rfl | rfl | rfl | rfl
    · exact oG.tup fun a m => (hp a m).2.1
    · exact int_G (by omega) (by omega)
    · exact int_G (by omega) (by omega)
    · refine oG.tup fun a m => ?_
      obtain ⟨i, rfl, h1, h2⟩ := hr2 a m
      exact int_G (by omega) (by omega)
    · refine oG.tup fun a m => ?_
      rcases List.mem_append.mp m with m | m
      · exact (hmem a m).2.1
      · simp only [List.mem_cons, List.not_mem_nil, or_false] at m
        subst m
        exact (row0 (by simp [S1])).1
  · have b1 := szL_le (c := 3) (xs := asks) fun a m => (hp a m).2.2
    have b2 := szL_le (c := 1) (xs := arr) fun a m => by
      obtain ⟨i, rfl, h1, h2⟩ := hr2 a m
      simp [sz]
    have b3 := szL_le (c := 5) (xs := rows) fun a m => (hmem a m).2.2
    simp only [sz, szL, szL_app]
    omega
end PI
set_option Elab.async false
set_option linter.all false
set_option maxRecDepth 100000
set_option maxHeartbeats 4000000
namespace PI
open PySem
theorem asks_loop {cf : Cf} (C : CallsC cf) {st : Sto} {n m : Nat} {X : Ob} (h : st[n]? = some X) (pX : PotX m X) (hf : Flat st) (w : Nat) (hw : w ≤ 2) (hm9 : m < 2 ^ 47) {N g : Int} {e : Ev} (he : EnvA N g n st.length e) (g0 : Sto → Bool) (hg0 : ∀ s, g0 s = true) :
    ∃ (e' : Ev) (Y : Ob) (ds : List PyData), forL g0 (fun x env s => match bindTg (.one 5) x env with
      | some env1 => evSs gl cf l__law_code_0 env1 s
      | none => .bad) ((List.range w).map fun i => .int (i : Nat)) e (st ++ [Ob.lst []]) = .ok (.nx e') (st.set n Y ++ [Ob.lst (ds.map .d)]) ∧ PotX (m + 8) Y ∧ ds.length = w ∧ (∀ d ∈ ds, askP d) ∧ EnvA N g n st.length e' := by
  have hn := len_at h
  obtain ⟨e1, s1, q1, X1, ds, rfl, p1, l1, a1, v1⟩ := forL_inv (g := g0) (f := fun x env s => match bindTg (.one 5) x env with
      | some env1 => evSs gl cf l__law_code_0 env1 s
      | none => .bad) (fun j e s => ∃ X, ∃ ds : List PyData, s = st.set n X ++ [Ob.lst (ds.map .d)] ∧ PotX (m + 4 * j) X ∧ ds.length = j ∧ (∀ d ∈ ds, askP d) ∧ EnvA N g n st.length e) (fun _ _ s _ => hg0 s)
    ((List.range w).map fun i => .int (i : Nat)) 0 e (st ++ [Ob.lst []]) (by
    rintro x hx j e s hj ⟨X, ds, rfl, pX, hl, ha, he⟩
    simp only [List.length_map, List.length_range] at hj
    have i1 : (st.set n X ++ [Ob.lst (ds.map .d)])[n]? = some X := at_app (at_set h X)
    have i2 : (st.set n X ++ [Ob.lst (ds.map .d)])[st.length]? = some (.lst (ds.map .d)) := by simp
    obtain ⟨e', Y, r, q, pY, hr, ee⟩ := ask_step C i1 pX i2 (by omega) ((hf.set pX.flat).app (ds_flat _)) (by omega) (by omega) x he
    have eq := set_app2 (st := st.set n X) (n := n) (Y := Y) (Z := Ob.lst (ds.map .d)) (W := Ob.lst ((ds ++ [r]).map .d)) (by simpa using hn)
    rw [List.length_set, List.set_set] at eq
    rw [eq] at q
    refine ⟨e', _, q, Y, ds ++ [r], rfl, pY.mono (by omega), by simp [hl], fun d hd => ?_, ee⟩
    rcases List.mem_append.mp hd with hd | hd
    · exact ha d hd
    · simp only [List.mem_cons, List.not_mem_nil, or_false] at hd
      subst hd
      exact hr) ⟨X, [], by rw [set_same h]; rfl, pX, rfl, (fun d hd => by cases hd), he⟩
  simp only [List.length_map, List.length_range, Nat.zero_add] at l1 p1
  exact ⟨e1, X1, ds, q1, p1.mono (by omega), l1, a1, v1⟩
def arrP (d : PyData) : Prop := ∃ i : Int, d = .int i ∧ 1 ≤ i ∧ i ≤ 6
theorem arr_comp {cf : Cf} (C : CallsC cf) {S : Sto} {n m : Nat} {X : Ob} (h : S[n]? = some X) (pX : PotX m X) (hf : Flat S) (hm9 : m < 2 ^ 47) {a1 a2 a3 a4 a5 a6 a7 a8 a9 a10 a11 a12 a13 a14 a15 a16 a17 a18 : Option U} :
    ∃ (Y : Ob) (ds : List PyData), evE gl cf c__law_code_0 [some (.o n), a1, a2, a3, a4, a5, a6, a7, a8, a9, a10, a11, a12, a13, a14, a15, a16, a17, a18] S = .ok (.d (.list ds)) (S.set n Y) ∧ PotX (m + 3) Y ∧ ds.length ≤ 2 ∧ ∀ d ∈ ds, arrP d := by
  obtain ⟨v, Y1, e1, p1, l1, u1⟩ := C.take (many := 3) h pX hf (by decide) (by decide) (by omega)
  obtain ⟨w, rfl⟩ : ∃ w : Nat, v = (w : Int) := ⟨v.toNat, by omega⟩
  have it : items .range [.d (.int (w : Int))] (S.set n Y1) = some ((List.range w).map fun i => .int (i : Nat)) := by
    simp [items, vws, vw, rangeD]
    omega
  obtain ⟨ds, s2, q2, l2, a2', Y, hs, pY⟩ := compL_draw (g := fun s => stays [.d (.int (w : Int))] (S.set n Y1) s) (f := fun x s => match bindTg (.one 5) x [some (.o n), a1, a2, a3, a4, a5, a6, a7, a8, a9, a10, a11, a12, a13, a14, a15, a16, a17, a18] with
        | some env1 => (evTs gl cf [] env1 s).bind fun b s1 => if b then (evE gl cf (.bin .add (.con (.int 1)) (.call 24 [.var 0, .con (.int 6)])) env1 s1).bind fun u s2 => .ok (some u) s2 else .ok none s1
        | none => .bad) (fun j s => ∃ Y, s = S.set n Y ∧ PotX (m + 1 + j) Y) arrP (fun _ s _ => rfl) ((List.range w).map fun i => .int (i : Nat)) 0 (S.set n Y1) (by
    rintro x hx j s hj ⟨Z, rfl, pZ⟩
    simp only [List.length_map, List.length_range] at hj
    obtain ⟨u, Y2, e2, p2, l2, u2⟩ := C.take (many := 6) (at_set h Z) pZ (hf.set pZ.flat) (by decide) (by decide) (by omega)
    rw [List.set_set] at e2
    refine ⟨.int (1 + u), S.set n Y2, ?_, ⟨_, rfl, by omega, by omega⟩, Y2, rfl, p2.mono (by omega)⟩
    simp [bindTg, evTs, evE, evEs, O.bind, e2, bop, vt, vw, b_add]) ⟨Y1, rfl, p1⟩
  subst hs
  simp only [List.length_map, List.length_range, Nat.zero_add] at l2 pY
  refine ⟨Y, ds, ?_, pY.mono (by omega), by omega, a2'⟩
  have he : evEs gl cf [.call 24 [.var 0, .con (.int 3)]] [some (.o n), a1, a2, a3, a4, a5, a6, a7, a8, a9, a10, a11, a12, a13, a14, a15, a16, a17, a18] S = .ok [.d (.int (w : Int))] (S.set n Y1) := by
    simp [evEs, evE, O.bind, e1]
  rw [c__law_code_0, evE, he]
  simp only [obind_ok, it]
  refine (congrArg (fun o => O.bind o fun vs st2 => mkL false vs st2) q2).trans ?_
  rw [obind_ok]
  exact mkL_ds _ _ (by rw [lim]; omega)
end PI
set_option Elab.async false
set_option linter.all false
set_option maxRecDepth 100000
set_option maxHeartbeats 4000000
namespace PI
open PySem
theorem forL_rng {g : Sto → Bool} {f : PyData → Ev → Sto → O Fl} (I : Nat → Ev → Sto → Prop) (hg : ∀ j e s, I j e s → g s = true) : ∀ (k i : Nat) (e : Ev) (s : Sto), (∀ j e s, i ≤ j → j < i + k → I j e s → ∃ e' s', f (.int (j : Nat)) e s = .ok (.nx e') s' ∧ I (j + 1) e' s') → I i e s →
    ∃ e' s', forL g f ((List.range' i k).map fun i => .int (i : Nat)) e s = .ok (.nx e') s' ∧ I (i + k) e' s'
  | 0, i, e, s, _, h => ⟨e, s, by simp [forL, hg i e s h], h⟩
  | k + 1, i, e, s, step, h => by
    obtain ⟨e1, s1, q1, h1⟩ := step i e s (Nat.le_refl _) (by omega) h
    obtain ⟨e2, s2, q2, h2⟩ := forL_rng I hg k (i + 1) e1 s1 (fun j e s h1 h2 => step j e s (by omega) (by omega)) h1
    refine ⟨e2, s2, ?_, by rwa [show i + (k + 1) = i + 1 + k by omega]⟩
    rw [List.range'_succ, List.map_cons, forL, if_pos (hg i e s h), q1, obind_ok]
    exact q2
theorem set_app3 {st : Sto} {n : Nat} {X Y A D Z W : Ob} (hn : n < st.length) : ((st.set n X ++ [A, D, Z]).set n Y).set (st.length + 2) W = st.set n Y ++ [A, D, W] := by
  rw [List.set_append_left _ _ (by simpa using hn), List.set_set, List.set_append_right _ _ (by simp)]
  simp
theorem rows_loop {cf : Cf} (C : CallsC cf) {st : Sto} {n m N : Nat} {X A D : Ob} {g : Int} {arr : List PyData} {L : List (Int × Int)} (h : st[n]? = some X) (pX : PotX m X) (hf : Flat st) (fA : refsB 0 A = true) (fD : refsB 0 D = true) (hL : LP N L) (hN : 3 ≤ N ∧ N ≤ 30)
    (hg : 1 ≤ g ∧ g ≤ 16) (hA : arr.length ≤ 2) (hI : ∃ A : List Int, arr = A.map .int) (hm9 : m < 2 ^ 47) {e : Ev} (he : EnvC N g arr L n st.length (st.length + 2) e) (g0 : Sto → Bool) (hg0 : ∀ s, g0 s = true) :
    ∃ (e' : Ev) (Y : Ob) (rows : List PyData), forL g0 (fun x env s => match bindTg (.one 10) x env with
      | some env1 => evSs gl cf l__law_code_1 env1 s
      | none => .bad) ((List.range (N - 1)).map fun i => .int (i : Nat)) e (st ++ [A, D, Ob.lst []]) = .ok (.nx e') (st.set n Y ++ [A, D, Ob.lst (rows.map .d)]) ∧ PotX (m + 600) Y ∧ rows.length = N - 1 ∧ (∀ j (h : j < rows.length), rowP L g arr.length N j rows[j]) ∧ EnvC N g arr L n st.length (st.length + 2) e' := by
  have hn := len_at h
  rw [List.range_eq_range']
  obtain ⟨e1, s1, q1, X1, rows, rfl, p1, l1, r1, v1⟩ := forL_rng (g := g0) (f := fun x env s => match bindTg (.one 10) x env with
      | some env1 => evSs gl cf l__law_code_1 env1 s
      | none => .bad) (fun j e s => ∃ X, ∃ rows : List PyData, s = st.set n X ++ [A, D, Ob.lst (rows.map .d)] ∧ PotX (m + 20 * j) X ∧ rows.length = j ∧ (∀ i (h : i < rows.length), rowP L g arr.length N i rows[i]) ∧ EnvC N g arr L n st.length (st.length + 2) e) (fun _ _ s _ => hg0 s)
    (N - 1) 0 e (st ++ [A, D, Ob.lst []]) (by
    rintro j e s _ hj ⟨X, rows, rfl, pX, hl, hr, he⟩
    have i1 : (st.set n X ++ [A, D, Ob.lst (rows.map .d)])[n]? = some X := by
      rw [List.getElem?_append_left (by simpa using hn)]
      exact at_set h X
    have i2 : (st.set n X ++ [A, D, Ob.lst (rows.map .d)])[st.length + 2]? = some (.lst (rows.map .d)) := by
      rw [List.getElem?_append_right (by simp)]
      simp
    have fS : Flat (st.set n X ++ [A, D, Ob.lst (rows.map .d)]) := by
      have := (((hf.set (n := n) pX.flat).app fA).app fD).app (ds_flat rows)
      simpa using this
    obtain ⟨e', Y, r, q, pY, pr, ee⟩ := row_step C i1 pX i2 (by omega) fS hL hN.2 hg hA hI (by omega) (by omega) j (by omega) he
    rw [set_app3 hn] at q
    refine ⟨e', _, q, Y, rows ++ [r], rfl, pY.mono (by omega), by simp [hl], fun i hi => ?_, ee⟩
    by_cases c : i < rows.length
    · rw [List.getElem_append_left c]
      exact hr i c
    · have e : i = rows.length := by
        simp at hi
        omega
      subst e
      rw [List.getElem_append_right (Nat.le_refl _)]
      simp only [Nat.sub_self, List.getElem_cons_zero]
      rw [hl]
      exact pr) ⟨X, [], by rw [set_same h]; rfl, pX, rfl, (fun i hi => by cases hi), he⟩
  simp only [Nat.zero_add] at l1 p1
  exact ⟨e1, X1, rows, q1, p1.mono (by omega), l1, r1, v1⟩
end PI
set_option Elab.async false
set_option linter.all false
set_option maxRecDepth 100000
set_option maxHeartbeats 4000000
namespace PI
open PySem
theorem callsC (k : Nat) : CallsC (callN gl fnT (k + 2)) where
  take := fun h hx hf hm hm2 hm9 => take_ok (k + 1) h hx hf hm hm2 hm9
  plain := fun h hx hf hg hA hI hm => plain_ok k h hx hf hg hA hI hm
  around := fun L row hf hl => laround_ok (k + 1) hf L hl row
def nR (x : PyData) : Nat := match x with
  | .tuple [_, _, _, _, .tuple rs] => rs.length
  | _ => 0
theorem code_drawn (k : Nat) {st : Sto} {n m : Nat} {X : Ob} (h : st[n]? = some X) (hx : PotX m X) (hf : Flat st) (hm9 : m < 2 ^ 46) {T : Int} (hT : 3 ≤ T ∧ T ≤ 30) : Gen (callN gl fnT (k + 3) 28 [.o n, .d (.int T)] st) st n (m + 1000) (fun x => drawnP x ∧ (nR x : Int) ≤ T) := by
  have hn := len_at h
  have C := callsC k
  have DL := fun {st : Sto} {n m many : Nat} {X : Ob} (h : st[n]? = some X) (hx : PotX m X) (hf : Flat st) (hm : 3 ≤ many ∧ many ≤ 30) (hm9 : m < 2 ^ 49) => drawn_loops k h hx hf hm hm9
  rw [show k + 3 = (k + 2) + 1 from rfl, callN]
  generalize callN gl fnT (k + 2) = cf at C DL
  simp only [fnT, List.getElem?_cons_succ, List.getElem?_cons_zero]
  obtain ⟨v0, Y0, q0, p0, l0, u0⟩ := C.take (many := T - 2) h hx hf (by omega) (by omega) (by omega)
  obtain ⟨N, hN⟩ : ∃ N : Nat, 3 + v0 = (N : Int) := ⟨(3 + v0).toNat, by omega⟩
  obtain ⟨v1, Y1, q1, p1, l1, u1⟩ := C.take (many := 4) (at_set h Y0) p0 (hf.set p0.flat) (by decide) (by decide) (by omega)
  rw [List.set_set] at q1
  have bN : bopD .add (.int 3) (.int v0) = some (.int (N : Int)) := by rw [b_add, hN]
  have t1 : evS gl cf (.set 2 (.bin .add (.con (.int 3)) (.call 24 [.var 0, .bin .sub (.var 1) (.con (.int 2))]))) [some (.o n), some (.d (.int T)), none, none, none, none, none, none, none, none, none, none, none, none, none, none, none, none, none] st = .ok (.nx [some (.o n), some (.d (.int T)), some (.d (.int (N : Int))), none, none, none, none, none, none, none, none, none, none, none, none, none, none, none, none]) (st.set n Y0) := by
    have b18 : bopD .sub (.int T) (.int 2) = some (.int (T - 2)) := b_sub
    simp [evS, evE, evEs, O.bind, bop, vt, vw, b18, q0, bN]
  have t2 : evS gl cf (.set 3 (.bin .add (.con (.int 1)) (.call 24 [.var 0, .con (.int 4)]))) [some (.o n), some (.d (.int T)), some (.d (.int (N : Int))), none, none, none, none, none, none, none, none, none, none, none, none, none, none, none, none] (st.set n Y0) = .ok (.nx [some (.o n), some (.d (.int T)), some (.d (.int (N : Int))), some (.d (.int (1 + v1))), none, none, none, none, none, none, none, none, none, none, none, none, none, none, none]) (st.set n Y1) := by
    simp [evS, evE, evEs, O.bind, bop, vt, vw, q1, b_add]
  have t3 : evS gl cf (.set 4 (.lst true [])) [some (.o n), some (.d (.int T)), some (.d (.int (N : Int))), some (.d (.int (1 + v1))), none, none, none, none, none, none, none, none, none, none, none, none, none, none, none] (st.set n Y1) = .ok (.nx [some (.o n), some (.d (.int T)), some (.d (.int (N : Int))), some (.d (.int (1 + v1))), some (.o st.length), none, none, none, none, none, none, none, none, none, none, none, none, none, none]) (st.set n Y1 ++ [Ob.lst []]) := by
    simp [evS, evE, evEs, O.bind, mkL, lim]
  obtain ⟨w', Y2, q2, p2, l2, u2⟩ := C.take (many := (if 1 + v1 + 1 < 3 then 1 + v1 + 1 else 3)) (at_app (Z := Ob.lst []) (at_set h Y1)) p1 ((hf.set p1.flat).app rfl) (by split <;> omega) (by split <;> omega) (by omega)
  rw [List.set_append_left _ _ (by simpa using hn), List.set_set] at q2
  obtain ⟨w, rfl⟩ : ∃ w : Nat, w' = (w : Int) := ⟨w'.toNat, by omega⟩
  have hw : w ≤ 2 ∧ (w : Int) ≤ 1 + v1 := by split at u2 <;> omega
  have AL := asks_loop C (at_set h Y2) p2 (hf.set p2.flat) w hw.1 (by omega) (N := (N : Int)) (g := 1 + v1) (e := [some (.o n), some (.d (.int T)), some (.d (.int (N : Int))), some (.d (.int (1 + v1))), some (.o st.length), none, none, none, none, none, none, none, none, none, none, none, none, none, none]) (by simp only [List.length_set]; exact ⟨_, _, _, _, _, _, _, _, _, _, _, _, _, _, _, rfl⟩) (fun s => stays [.d (.int (w : Int))] (st.set n Y2 ++ [Ob.lst []]) s) (fun s => rfl)
  simp only [List.length_set, List.set_set] at AL
  obtain ⟨e4, Y3, asks, q3, p3, l3, a3, a1, a5, a6, a7, a8, a9, a10, a11, a12, a13, a14, a15, a16, a17, a18, rfl⟩ := AL
  have it4 : items .range [.d (.int (w : Int))] (st.set n Y2 ++ [Ob.lst []]) = some ((List.range w).map fun i => .int (i : Nat)) := by
    simp [items, vws, vw, rangeD]
    omega
  have t4 : evS gl cf (.forr (.one 5) .range [.call 24 [.var 0, .prim false .min2 [.con (.int 3), .bin .add (.var 3) (.con (.int 1))]]] l__law_code_0) [some (.o n), some (.d (.int T)), some (.d (.int (N : Int))), some (.d (.int (1 + v1))), some (.o st.length), none, none, none, none, none, none, none, none, none, none, none, none, none, none] (st.set n Y1 ++ [Ob.lst []]) = .ok (.nx [some (.o n), a1, some (.d (.int (N : Int))), some (.d (.int (1 + v1))), some (.o st.length), a5, a6, a7, a8, a9, a10, a11, a12, a13, a14, a15, a16, a17, a18]) (st.set n Y3 ++ [Ob.lst (asks.map .d)]) := by
    refine evS_for (us := [.d (.int (w : Int))]) (st1 := st.set n Y2 ++ [Ob.lst []]) ?_ it4 q3
    have nM : ∀ s, prim false .min2 [.d (.int 3), .d (.int (1 + v1 + 1))] s = .ok (.d (.int (if 1 + v1 + 1 < 3 then 1 + v1 + 1 else 3))) s := fun s => by simp only [prim, srtT, vws, vw, primL, primD, minD]
    generalize (if 1 + v1 + 1 < 3 then 1 + v1 + 1 else 3) = mn at q2 nM
    simp only [evEs, evE, O.bind, List.getElem?_cons_succ, List.getElem?_cons_zero, bop, vt, vw, b_add, nM, q2]
  have h3 : (st.set n Y3 ++ [Ob.lst (asks.map U.d)])[n]? = some Y3 := at_app (at_set h Y3)
  have f3 : Flat (st.set n Y3 ++ [Ob.lst (asks.map U.d)]) := (hf.set p3.flat).app (ds_flat _)
  obtain ⟨Y4, arr, q4, p4, l4, r4⟩ := arr_comp C h3 p3 f3 (by omega) (a1 := a1) (a2 := some (.d (.int (N : Int)))) (a3 := some (.d (.int (1 + v1)))) (a4 := some (.o st.length)) (a5 := a5) (a6 := a6) (a7 := a7) (a8 := a8) (a9 := a9) (a10 := a10) (a11 := a11) (a12 := a12) (a13 := a13) (a14 := a14) (a15 := a15) (a16 := a16) (a17 := a17) (a18 := a18)
  rw [List.set_append_left _ _ (by simpa using hn), List.set_set] at q4
  have t5 : evS gl cf (.set 6 (.prim false .tuple [c__law_code_0])) [some (.o n), a1, some (.d (.int (N : Int))), some (.d (.int (1 + v1))), some (.o st.length), a5, a6, a7, a8, a9, a10, a11, a12, a13, a14, a15, a16, a17, a18] (st.set n Y3 ++ [Ob.lst (asks.map .d)]) = .ok (.nx [some (.o n), a1, some (.d (.int (N : Int))), some (.d (.int (1 + v1))), some (.o st.length), a5, some (.d (.tuple arr)), a7, a8, a9, a10, a11, a12, a13, a14, a15, a16, a17, a18]) (st.set n Y4 ++ [Ob.lst (asks.map .d)]) := by
    have pt : ∀ s, prim false .tuple [.d (.list arr)] s = .ok (.d (.tuple arr)) s := fun s => by simp [prim, srtT, vws, vw, primL, primD, tupD]
    rw [evS, evE, evEs, q4, obind_ok, evEs, obind_ok, obind_ok, pt, obind_ok]
    rfl
  have h4 : (st.set n Y4 ++ [Ob.lst (asks.map U.d)])[n]? = some Y4 := at_app (at_set h Y4)
  have f4 : Flat (st.set n Y4 ++ [Ob.lst (asks.map U.d)]) := (hf.set p4.flat).app (ds_flat _)
  obtain ⟨L, Y5, q5, p5, hL⟩ := DL (many := N) h4 p4 f4 (by omega) (by omega)
  rw [List.set_append_left _ _ (by simpa using hn), List.set_set] at q5
  have t6 : evS gl cf (.set 7 (.call 25 [.var 0, .var 2])) [some (.o n), a1, some (.d (.int (N : Int))), some (.d (.int (1 + v1))), some (.o st.length), a5, some (.d (.tuple arr)), a7, a8, a9, a10, a11, a12, a13, a14, a15, a16, a17, a18] (st.set n Y4 ++ [Ob.lst (asks.map .d)]) = .ok (.nx [some (.o n), a1, some (.d (.int (N : Int))), some (.d (.int (1 + v1))), some (.o st.length), a5, some (.d (.tuple arr)), some (.d (.list (L.map prD2))), a8, a9, a10, a11, a12, a13, a14, a15, a16, a17, a18]) (st.set n Y5 ++ [Ob.lst (asks.map .d)]) := by
    simp only [evS, evEs, evE, O.bind, List.getElem?_cons_succ, List.getElem?_cons_zero, q5, List.set_cons_succ, List.set_cons_zero]
  have t7 : evS gl cf (.set 8 (.frz (.mkd (c__law_code_1)))) [some (.o n), a1, some (.d (.int (N : Int))), some (.d (.int (1 + v1))), some (.o st.length), a5, some (.d (.tuple arr)), some (.d (.list (L.map prD2))), a8, a9, a10, a11, a12, a13, a14, a15, a16, a17, a18] (st.set n Y5 ++ [Ob.lst (asks.map .d)]) = .ok (.nx [some (.o n), a1, some (.d (.int (N : Int))), some (.d (.int (1 + v1))), some (.o st.length), a5, some (.d (.tuple arr)), some (.d (.list (L.map prD2))), some (.d (enD L)), a9, a10, a11, a12, a13, a14, a15, a16, a17, a18]) (st.set n Y5 ++ [Ob.lst (asks.map .d)] ++ [Ob.dead]) := by
    rw [evS, ends_dict cf hL, obind_ok]
    rfl
  have t8 : evS gl cf (.set 9 (.lst true [])) [some (.o n), a1, some (.d (.int (N : Int))), some (.d (.int (1 + v1))), some (.o st.length), a5, some (.d (.tuple arr)), some (.d (.list (L.map prD2))), some (.d (enD L)), a9, a10, a11, a12, a13, a14, a15, a16, a17, a18] (st.set n Y5 ++ [Ob.lst (asks.map .d)] ++ [Ob.dead]) = .ok (.nx [some (.o n), a1, some (.d (.int (N : Int))), some (.d (.int (1 + v1))), some (.o st.length), a5, some (.d (.tuple arr)), some (.d (.list (L.map prD2))), some (.d (enD L)), some (.o (st.length + 2)), a10, a11, a12, a13, a14, a15, a16, a17, a18]) (st.set n Y5 ++ [Ob.lst (asks.map .d), Ob.dead, Ob.lst []]) := by
    simp [evS, evE, evEs, O.bind, mkL, lim]
  have hI : ∃ A : List Int, arr = A.map .int := by
    clear q4 t5 t6 t7 t8 q5
    induction arr with
    | nil => exact ⟨[], rfl⟩
    | cons x r ih =>
      obtain ⟨i, rfl, _⟩ := r4 x (by simp)
      obtain ⟨A, rfl⟩ := ih (by simp at l4; omega) (fun d hd => r4 d (by simp [hd]))
      exact ⟨i :: A, rfl⟩
  have RLp := rows_loop C (at_set h Y5) p5 (hf.set p5.flat) (ds_flat asks) (show refsB 0 Ob.dead = true from rfl) hL (by omega) (g := 1 + v1) (arr := arr) (by omega) l4 hI (by omega) (e := [some (.o n), a1, some (.d (.int (N : Int))), some (.d (.int (1 + v1))), some (.o st.length), a5, some (.d (.tuple arr)), some (.d (.list (L.map prD2))), some (.d (enD L)), some (.o (st.length + 2)), a10, a11, a12, a13, a14, a15, a16, a17, a18]) (by simp only [List.length_set]; exact ⟨_, _, _, _, _, _, _, _, _, _, _, rfl⟩) (fun s => stays [.d (.int ((N : Int) - 1))] (st.set n Y5 ++ [Ob.lst (asks.map .d), Ob.dead, Ob.lst []]) s) (fun s => rfl)
  simp only [List.length_set, List.set_set] at RLp
  obtain ⟨e9, Y6, rows, q6, p6, l6, r6, b1, b5, b10, b11, b12, b13, b14, b15, b16, b17, b18, rfl⟩ := RLp
  have it9 : items .range [.d (.int ((N : Int) - 1))] (st.set n Y5 ++ [Ob.lst (asks.map .d), Ob.dead, Ob.lst []]) = some ((List.range (N - 1)).map fun i => .int (i : Nat)) := by
    have e : ((N : Int) - 1).toNat = N - 1 := by omega
    simp [items, vws, vw, rangeD, e]
    omega
  have t9 : evS gl cf (.forr (.one 10) .range [.bin .sub (.var 2) (.con (.int 1))] l__law_code_1) [some (.o n), a1, some (.d (.int (N : Int))), some (.d (.int (1 + v1))), some (.o st.length), a5, some (.d (.tuple arr)), some (.d (.list (L.map prD2))), some (.d (enD L)), some (.o (st.length + 2)), a10, a11, a12, a13, a14, a15, a16, a17, a18] (st.set n Y5 ++ [Ob.lst (asks.map .d), Ob.dead, Ob.lst []]) = .ok (.nx [some (.o n), b1, some (.d (.int (N : Int))), some (.d (.int (1 + v1))), some (.o st.length), b5, some (.d (.tuple arr)), some (.d (.list (L.map prD2))), some (.d (enD L)), some (.o (st.length + 2)), b10, b11, b12, b13, b14, b15, b16, b17, b18]) (st.set n Y6 ++ [Ob.lst (asks.map .d), Ob.dead, Ob.lst (rows.map .d)]) := by
    refine evS_for (us := [.d (.int ((N : Int) - 1))]) (st1 := st.set n Y5 ++ [Ob.lst (asks.map .d), Ob.dead, Ob.lst []]) ?_ it9 q6
    simp only [evEs, evE, O.bind, List.getElem?_cons_succ, List.getElem?_cons_zero, bop, vt, vw, b_sub]
  have h6 : (st.set n Y6 ++ [Ob.lst (asks.map U.d), Ob.dead, Ob.lst (rows.map U.d)])[n]? = some Y6 := by
    rw [List.getElem?_append_left (by simpa using hn)]
    exact at_set h Y6
  have f6 : Flat (st.set n Y6 ++ [Ob.lst (asks.map U.d), Ob.dead, Ob.lst (rows.map U.d)]) := by
    have := (((hf.set (n := n) p6.flat).app (ds_flat asks)).app (show refsB 0 Ob.dead = true from rfl)).app (ds_flat rows)
    simpa using this
  obtain ⟨sh, Y7, q7, p7, l7, u7⟩ := C.take (many := 1 + v1 + 1) h6 p6 f6 (by omega) (by omega) (by omega)
  rw [List.set_append_left _ _ (by simpa using hn), List.set_set] at q7
  have drawn := final_code (asks := asks) (arr := arr) (rows := rows) (g := 1 + v1) (sh := sh) (N := N) (L := L) (by omega) (by omega) a3 (by omega) (by omega) l4 r4 hL (by omega) (by omega) r6
  refine ⟨_, Y7, ?_, p7.mono (by omega), drawn, by simp [nR]; omega⟩
  have t10 : evS gl cf (.ret (.tup [.prim false .tuple [.var 4], .var 3, .call 24 [.var 0, .bin .add (.var 3) (.con (.int 1))], .var 6, .prim false .tuple [.bin .add (.var 9) (.lst false [.tup [.con (.str "end")]])]])) [some (.o n), b1, some (.d (.int (N : Int))), some (.d (.int (1 + v1))), some (.o st.length), b5, some (.d (.tuple arr)), some (.d (.list (L.map prD2))), some (.d (enD L)), some (.o (st.length + 2)), b10, b11, b12, b13, b14, b15, b16, b17, b18] (st.set n Y6 ++ [Ob.lst (asks.map .d), Ob.dead, Ob.lst (rows.map .d)]) =
      .ok (.rt (.d (.tuple [.tuple asks, .int (1 + v1), .int sh, .tuple arr, .tuple (rows ++ [.tuple [.str "end"]])]))) (st.set n Y7 ++ [Ob.lst (asks.map .d), Ob.dead, Ob.lst (rows.map .d)]) := by
    have pa : prim false .tuple [.o st.length] (st.set n Y6 ++ [Ob.lst (asks.map U.d), Ob.dead, Ob.lst (rows.map U.d)]) = .ok (.d (.tuple asks)) (st.set n Y6 ++ [Ob.lst (asks.map U.d), Ob.dead, Ob.lst (rows.map U.d)]) := by
      have lk : (st.set n Y6 ++ [Ob.lst (asks.map U.d), Ob.dead, Ob.lst (rows.map U.d)])[st.length]? = some (.lst (asks.map .d)) := by
        rw [List.getElem?_append_right (by simp)]
        simp
      generalize st.set n Y6 ++ [Ob.lst (asks.map U.d), Ob.dead, Ob.lst (rows.map U.d)] = SS at lk
      simp [prim, srtT, vws, vw, lk, usD_ds, primL, primD, tupD]
    have lk7 : (st.set n Y7 ++ [Ob.lst (asks.map U.d), Ob.dead, Ob.lst (rows.map U.d)])[st.length + 2]? = some (.lst (rows.map .d)) := by
      rw [List.getElem?_append_right (by simp)]
      simp
    generalize st.set n Y6 ++ [Ob.lst (asks.map U.d), Ob.dead, Ob.lst (rows.map U.d)] = SS at q7 pa
    generalize st.set n Y7 ++ [Ob.lst (asks.map U.d), Ob.dead, Ob.lst (rows.map U.d)] = SS7 at q7 lk7
    have ad : bopD .add (.list rows) (.list [.tuple [.str "end"]]) = some (.list (rows ++ [.tuple [.str "end"]])) := by
      have : rows.length + 1 ≤ lim := by rw [lim]; omega
      simp [bopD, this]
    have us : usD (rows.map U.d) = some rows := usD_ds rows
    generalize rows.map U.d = RU at lk7 us
    have pt : prim false .tuple [.d (.list (rows ++ [.tuple [.str "end"]]))] SS7 = .ok (.d (.tuple (rows ++ [.tuple [.str "end"]]))) SS7 := by simp [prim, srtT, vws, vw, primL, primD, tupD]
    simp [evS, evE, evEs, O.bind, pa, bop, vt, vw, b_add, q7, lk7, us, mkL, usD, lim, ad, pt]
  have body : evSs gl cf b__law_code.body [some (.o n), some (.d (.int T)), none, none, none, none, none, none, none, none, none, none, none, none, none, none, none, none, none] st = .ok (.rt (.d (.tuple [.tuple asks, .int (1 + v1), .int sh, .tuple arr, .tuple (rows ++ [.tuple [.str "end"]])]))) (st.set n Y7 ++ [Ob.lst (asks.map .d), Ob.dead, Ob.lst (rows.map .d)]) :=
    evSs_nx t1 (evSs_nx t2 (evSs_nx t3 (evSs_nx t4 (evSs_nx t5 (evSs_nx t6 (evSs_nx t7 (evSs_nx t8 (evSs_nx t9 (evSs_rt t10)))))))))
  have fS : Flat (st.set n Y7 ++ [Ob.lst (asks.map U.d), Ob.dead, Ob.lst (rows.map U.d)]) := by
    have := (((hf.set (n := n) p7.flat).app (ds_flat asks)).app (show refsB 0 Ob.dead = true from rfl)).app (ds_flat rows)
    simpa using this
  have fe := fin_d (F := b__law_code) (n := st.length) (d := .tuple [.tuple asks, .int (1 + v1), .int sh, .tuple arr, .tuple (rows ++ [.tuple [.str "end"]])]) fS rfl (by simp)
  have tk : (st.set n Y7 ++ [Ob.lst (asks.map U.d), Ob.dead, Ob.lst (rows.map U.d)]).take st.length = st.set n Y7 := List.take_left' (by simp)
  rw [tk] at fe
  simp only [runF]
  rw [if_pos (by exact ⟨rfl, by decide⟩)]
  simp only [List.map_cons, List.map_nil, List.length_cons, List.length_nil]
  show O.bind (evSs gl cf b__law_code.body [some (.o n), some (.d (.int T)), none, none, none, none, none, none, none, none, none, none, none, none, none, none, none, none, none] st) _ = _
  rw [body, obind_ok]
  exact fe
end PI
set_option Elab.async false
set_option linter.all false
set_option maxRecDepth 100000
set_option maxHeartbeats 8000000
namespace PI
open PySem
/-- one row of the law's own opening and shutting -/
def nstep (i : Int) (k : RK) (S : List Int) : Option (List Int) := match k with
  | .cnt => if (S ++ [i]).length > 2 then none else some (S ++ [i])
  | .agn m => match S.getLast? with
    | none => none
    | some p => if m = p + 1 then (if S.dropLast.length > 2 then none else some S.dropLast) else none
  | _ => if S.length > 2 then none else some S
def nrun (i : Nat) : List RK → List Int → Option (List (List Int) × List Int)
  | [], S => some ([], S)
  | k :: r, S => match nstep i k S with
    | none => none
    | some S' => (nrun (i + 1) r S').map fun p => (S :: p.1, p.2)
theorem nstep_len {i : Int} {k : RK} {S S' : List Int} (h : nstep i k S = some S') : S'.length ≤ 2 := by
  have cut : ∀ T : List Int, (if T.length > 2 then none else some T) = some S' → S'.length ≤ 2 := fun T h => by
    split at h
    · cases h
    · cases h; omega
  cases k with
  | cnt => exact cut _ h
  | agn m =>
    simp only [nstep] at h
    split at h
    · cases h
    · split at h
      · exact cut _ h
      · cases h
  | jmp t => exact cut _ h
  | fin => exact cut _ h
  | oth => exact cut _ h
end PI
set_option Elab.async false
set_option linter.all false
set_option maxRecDepth 100000
set_option maxHeartbeats 4000000
/-! The two looks at loops tell alike. -/
namespace PI
open PySem
theorem mem_ags : ∀ (ks : List RK) (i : Nat) (p q : Int), (p, q) ∈ ags i ks ↔ ∃ j : Nat, q = ((i + j : Nat) : Int) ∧ ks[j]? = some (.agn (p + 1))
  | [], i, p, q => by simp [ags]
  | k :: r, i, p, q => by
    have ih := mem_ags r (i + 1) p q
    have tail : (∃ j : Nat, q = ((i + 1 + j : Nat) : Int) ∧ r[j]? = some (.agn (p + 1))) ↔ ∃ j : Nat, q = ((i + (j + 1) : Nat) : Int) ∧ (k :: r)[j + 1]? = some (.agn (p + 1)) := by
      simp only [List.getElem?_cons_succ, Nat.add_assoc, Nat.add_comm 1]
    have split : (∃ j : Nat, q = ((i + j : Nat) : Int) ∧ (k :: r)[j]? = some (.agn (p + 1))) ↔ ((q = (i : Int) ∧ k = .agn (p + 1)) ∨ ∃ j : Nat, q = ((i + (j + 1) : Nat) : Int) ∧ (k :: r)[j + 1]? = some (.agn (p + 1))) := by
      constructor
      · rintro ⟨j, h1, h2⟩
        cases j with
        | zero => exact .inl ⟨by simpa using h1, by simpa using h2⟩
        | succ j => exact .inr ⟨j, h1, h2⟩
      · rintro (⟨h1, h2⟩ | ⟨j, h1, h2⟩)
        · exact ⟨0, by simpa using h1, by simp [h2]⟩
        · exact ⟨j + 1, h1, h2⟩
    rw [split, ← tail, ← ih]
    cases k with
    | agn m =>
      simp only [ags, List.mem_cons, Prod.mk.injEq, RK.agn.injEq]
      constructor
      · rintro (⟨h1, h2⟩ | h)
        · exact .inl ⟨h2, by omega⟩
        · exact .inr h
      · rintro (⟨h1, h2⟩ | h)
        · exact .inl ⟨by omega, h1⟩
        · exact .inr h
    | _ => simp [ags]
theorem mem_cnts : ∀ (ks : List RK) (i : Nat) (p : Int), p ∈ cnts i ks ↔ ∃ j : Nat, p = ((i + j : Nat) : Int) ∧ ks[j]? = some .cnt
  | [], i, p => by simp [cnts]
  | k :: r, i, p => by
    have ih := mem_cnts r (i + 1) p
    have tail : (∃ j : Nat, p = ((i + 1 + j : Nat) : Int) ∧ r[j]? = some .cnt) ↔ ∃ j : Nat, p = ((i + (j + 1) : Nat) : Int) ∧ (k :: r)[j + 1]? = some .cnt := by
      simp only [List.getElem?_cons_succ, Nat.add_assoc, Nat.add_comm 1]
    have split : (∃ j : Nat, p = ((i + j : Nat) : Int) ∧ (k :: r)[j]? = some .cnt) ↔ ((p = (i : Int) ∧ k = .cnt) ∨ ∃ j : Nat, p = ((i + (j + 1) : Nat) : Int) ∧ (k :: r)[j + 1]? = some .cnt) := by
      constructor
      · rintro ⟨j, h1, h2⟩
        cases j with
        | zero => exact .inl ⟨by simpa using h1, by simpa using h2⟩
        | succ j => exact .inr ⟨j, h1, h2⟩
      · rintro (⟨h1, h2⟩ | ⟨j, h1, h2⟩)
        · exact ⟨0, by simpa using h1, by simp [h2]⟩
        · exact ⟨j + 1, h1, h2⟩
    rw [split, ← tail, ← ih]
    cases k <;> simp [cnts]
theorem cnts_ge {ks : List RK} {i : Nat} {p : Int} (h : p ∈ cnts i ks) : (i : Int) ≤ p := by
  obtain ⟨j, e, _⟩ := (mem_cnts ks i p).mp h
  omega
theorem cnts_pw : ∀ (ks : List RK) (i : Nat), (cnts i ks).Pairwise (· < ·)
  | [], i => by simp [cnts]
  | k :: r, i => by
    have ih := cnts_pw r (i + 1)
    cases k with
    | cnt =>
      simp only [cnts, List.pairwise_cons]
      exact ⟨fun a ha => by have := cnts_ge ha; omega, ih⟩
    | _ => exact ih
theorem insP_mem (x : Int × Int) : ∀ (L : List (Int × Int)) (y : Int × Int), y ∈ insP x L ↔ y = x ∨ y ∈ L
  | [], y => by simp [insP]
  | z :: r, y => by
    unfold insP
    split
    · simp only [List.mem_cons, insP_mem x r y]
      constructor
      · rintro (h | h | h)
        · exact .inr (.inl h)
        · exact .inl h
        · exact .inr (.inr h)
      · rintro (h | h | h)
        · exact .inr (.inl h)
        · exact .inl h
        · exact .inr (.inr h)
    · simp
theorem sortP_mem : ∀ (L : List (Int × Int)) (y : Int × Int), y ∈ sortP L ↔ y ∈ L
  | [], y => by simp [sortP]
  | x :: r, y => by simp [sortP, insP_mem, sortP_mem r]
/-- weakly rising by the first part -/
theorem insP_pwL (x : Int × Int) : ∀ L : List (Int × Int), L.Pairwise (fun a b => a.1 ≤ b.1) → (insP x L).Pairwise (fun a b => a.1 ≤ b.1)
  | [], _ => by simp [insP]
  | z :: r, h => by
    rw [List.pairwise_cons] at h
    unfold insP
    split
    · rename_i q
      rw [List.pairwise_cons]
      refine ⟨fun b hb => ?_, insP_pwL x r h.2⟩
      rcases (insP_mem x r b).mp hb with rfl | hb
      · simp only [lexP, Bool.or_eq_true, Bool.and_eq_true, decide_eq_true_eq] at q
        omega
      · exact h.1 b hb
    · rename_i q
      have q' : x.1 ≤ z.1 := by
        simp only [lexP, Bool.or_eq_true, Bool.and_eq_true, decide_eq_true_eq, not_or] at q
        omega
      rw [List.pairwise_cons, List.pairwise_cons]
      refine ⟨fun b hb => ?_, h⟩
      rcases List.mem_cons.mp hb with rfl | hb
      · exact q'
      · exact Int.le_trans q' (h.1 b hb)
theorem sortP_pw1 : ∀ L : List (Int × Int), (sortP L).Pairwise (fun a b => a.1 ≤ b.1)
  | [] => by simp [sortP]
  | x :: r => insP_pwL x _ (sortP_pw1 r)
theorem insP_permL (x : Int × Int) : ∀ L : List (Int × Int), (insP x L).Perm (x :: L)
  | [] => List.Perm.refl _
  | z :: r => by
    unfold insP
    split
    · exact (List.Perm.cons z (insP_permL x r)).trans (List.Perm.swap x z r)
    · exact List.Perm.refl _
theorem sortP_perm1 : ∀ L : List (Int × Int), (sortP L).Perm L
  | [] => List.Perm.refl _
  | x :: r => (insP_permL x _).trans (List.Perm.cons x (sortP_perm1 r))
/-- two rising rows of the same numbers are one -/
theorem rising_ext : ∀ {l m : List Int}, l.Pairwise (· < ·) → m.Pairwise (· < ·) → (∀ x, x ∈ l ↔ x ∈ m) → l = m
  | [], [], _, _, _ => rfl
  | [], y :: s, _, _, h => by have := (h y).mpr List.mem_cons_self; cases this
  | x :: r, [], _, _, h => by have := (h x).mp List.mem_cons_self; cases this
  | x :: r, y :: s, hl, hm, h => by
    rw [List.pairwise_cons] at hl hm
    have e : x = y := by
      have h1 := (h x).mp List.mem_cons_self
      have h2 := (h y).mpr List.mem_cons_self
      rcases List.mem_cons.mp h1 with h1 | h1
      · exact h1
      rcases List.mem_cons.mp h2 with h2 | h2
      · exact h2.symm
      have := hl.1 y h2
      have := hm.1 x h1
      omega
    subst e
    congr 1
    refine rising_ext hl.2 hm.2 fun z => ⟨fun hz => ?_, fun hz => ?_⟩
    · rcases List.mem_cons.mp ((h z).mp (List.mem_cons_of_mem _ hz)) with e | q
      · have := hl.1 z hz; omega
      · exact q
    · rcases List.mem_cons.mp ((h z).mpr (List.mem_cons_of_mem _ hz)) with e | q
      · have := hm.1 z hz; omega
      · exact q
theorem mem_cAr {L : List (Int × Int)} {row c : Int} : c ∈ cAr L row ↔ ∃ b, (c, b) ∈ L ∧ c < row ∧ row ≤ b := by
  unfold cAr
  rw [List.mem_map]
  constructor
  · rintro ⟨⟨a, b⟩, h, rfl⟩
    rw [List.mem_filter] at h
    simp only [Bool.and_eq_true, decide_eq_true_eq] at h
    exact ⟨b, h.1, h.2⟩
  · rintro ⟨b, h1, h2, h3⟩
    exact ⟨(c, b), List.mem_filter.mpr ⟨h1, by simp [h2, h3]⟩, rfl⟩
end PI
set_option Elab.async false
set_option linter.all false
set_option maxRecDepth 100000
set_option maxHeartbeats 4000000
namespace PI
open PySem
theorem cAr_app (s t : List (Int × Int)) (r : Int) : cAr (s ++ t) r = cAr s r ++ cAr t r := by simp [cAr]
theorem cAr_cons (x : Int × Int) (t : List (Int × Int)) (r : Int) : cAr (x :: t) r = (if x.1 < r ∧ r ≤ x.2 then [x.1] else []) ++ cAr t r := by
  by_cases h : x.1 < r <;> by_cases h2 : r ≤ x.2 <;> simp [cAr, List.filter_cons, h, h2]
theorem cAr_congr {L : List (Int × Int)} {r r' : Int} (h : ∀ p ∈ L, (p.1 < r ∧ r ≤ p.2) ↔ (p.1 < r' ∧ r' ≤ p.2)) : cAr L r = cAr L r' := by
  unfold cAr
  congr 1
  refine List.filter_congr fun p hp => ?_
  have := h p hp
  rw [← Bool.decide_and, ← Bool.decide_and]
  exact decide_eq_decide.mpr this
theorem cAr_none {L : List (Int × Int)} {r : Int} (h : ∀ p ∈ L, ¬(p.1 < r ∧ r ≤ p.2)) : cAr L r = [] := by
  unfold cAr
  rw [List.map_eq_nil_iff, List.filter_eq_nil_iff]
  intro p hp
  have := h p hp
  rwa [← Bool.decide_and, decide_eq_true_eq]
structure LW (ks : List RK) (L : List (Int × Int)) : Prop where
  a : ∀ p q, (p, q) ∈ L ↔ ∃ j : Nat, q = (j : Int) ∧ ks[j]? = some (.agn (p + 1))
  c : ∀ p : Int, (∃ q, (p, q) ∈ L) ↔ ∃ j : Nat, p = (j : Int) ∧ ks[j]? = some .cnt
  pw : L.Pairwise fun a b => a.1 < b.1
  lt : ∀ p ∈ L, p.1 < p.2
  out : ∀ p ∈ L, (outB L p.1).length < 2
  lam : ∀ p ∈ L, ∀ o b, (o, b) ∈ L → o < p.1 → p.1 < b → p.2 < b
theorem lw_of {ks : List RK} (h : lW (sortP (ags 0 ks)) (cnts 0 ks) = true) : LW ks (sortP (ags 0 ks)) := by
  unfold lW at h
  simp only [Bool.and_eq_true, decide_eq_true_eq, List.all_eq_true] at h
  obtain ⟨⟨h1, h2⟩, h3⟩ := h
  have hC := cnts_pw ks 0
  rw [← h1] at hC
  refine ⟨fun p q => ?_, fun p => ?_, List.pairwise_map.mp hC, h2, fun p hp => ?_, fun p hp o b ho h4 h5 => ?_⟩
  · rw [sortP_mem, mem_ags]
    simp only [Nat.zero_add]
  · have m := mem_cnts ks 0 p
    simp only [Nat.zero_add] at m
    rw [← m, ← h1, List.mem_map]
    constructor
    · rintro ⟨q, hq⟩; exact ⟨_, hq, rfl⟩
    · rintro ⟨⟨a, b⟩, hq, rfl⟩; exact ⟨b, hq⟩
  · have := h3 p hp
    simp only [stW, Bool.and_eq_true, decide_eq_true_eq] at this
    omega
  · have := h3 p hp
    simp only [stW, Bool.and_eq_true, decide_eq_true_eq, List.all_eq_true] at this
    refine this.2 b ?_
    unfold outB
    rw [List.mem_map]
    exact ⟨(o, b), List.mem_filter.mpr ⟨ho, by simp [h4, h5]⟩, rfl⟩
theorem fwd_step {ks : List RK} {L : List (Int × Int)} (W : LW ks L) {j : Nat} {k : RK} (hj : ks[j]? = some k) (h2 : (cAr L j).length ≤ 2) : nstep j k (cAr L j) = some (cAr L ((j + 1 : Nat) : Int)) ∧ (cAr L ((j + 1 : Nat) : Int)).length ≤ 2 := by
  have e1 : ((j + 1 : Nat) : Int) = (j : Int) + 1 := by simp
  rw [e1]
  have parts : ∀ {x : Int × Int} {s t : List (Int × Int)}, L = s ++ x :: t → (∀ p ∈ s, p ∈ L ∧ p.1 < x.1) ∧ (∀ p ∈ t, p ∈ L ∧ x.1 < p.1) := fun {x s t} e => by
    have pw := W.pw
    rw [e, List.pairwise_append, List.pairwise_cons] at pw
    obtain ⟨_, ⟨p2, _⟩, p3⟩ := pw
    exact ⟨fun p hp => ⟨by rw [e]; simp [hp], p3 p hp x List.mem_cons_self⟩, fun p hp => ⟨by rw [e]; simp [hp], p2 p hp⟩⟩
  have rowOf : ∀ {p q : Int}, (p, q) ∈ L → q = (j : Int) → k = .agn (p + 1) := fun {p q} h e => by
    obtain ⟨i, h1, h3⟩ := (W.a p q).mp h
    have : i = j := by omega
    subst this
    rw [hj] at h3
    exact Option.some.inj h3
  have rowC : ∀ {p q : Int}, (p, q) ∈ L → p = (j : Int) → k = .cnt := fun {p q} h e => by
    obtain ⟨i, h1, h3⟩ := (W.c p).mp ⟨q, h⟩
    have : i = j := by omega
    subst this
    rw [hj] at h3
    exact Option.some.inj h3
  have plain : (∀ m, k ≠ .agn m) → k ≠ .cnt → cAr L ((j : Int) + 1) = cAr L j := fun n1 n2 => cAr_congr fun p hp => by
    have a1 : p.1 ≠ j := fun e => n2 (rowC (p := p.1) (q := p.2) hp e)
    have a2 : p.2 ≠ j := fun e => n1 _ (rowOf (p := p.1) (q := p.2) hp e)
    omega
  have same : (∀ m, k ≠ .agn m) → k ≠ .cnt → (if (cAr L j).length > 2 then none else some (cAr L j)) = some (cAr L ((j : Int) + 1)) ∧ (cAr L ((j : Int) + 1)).length ≤ 2 := fun n1 n2 => by
    rw [plain n1 n2, if_neg (by omega)]
    exact ⟨rfl, h2⟩
  cases k with
  | jmp t => exact same (fun m e => by cases e) (fun e => by cases e)
  | fin => exact same (fun m e => by cases e) (fun e => by cases e)
  | oth => exact same (fun m e => by cases e) (fun e => by cases e)
  | cnt =>
    obtain ⟨b, hb⟩ := (W.c (j : Int)).mpr ⟨j, rfl, hj⟩
    have hlt : (j : Int) < b := W.lt _ hb
    obtain ⟨s, t, e⟩ := List.append_of_mem hb
    obtain ⟨p1, p2⟩ := parts e
    have n2 : ∀ p ∈ L, p.2 ≠ j := fun p hp q => by have := rowOf (p := p.1) (q := p.2) hp q; cases this
    have hs : cAr s ((j : Int) + 1) = cAr s j := cAr_congr fun p hp => by
      have := p1 p hp
      have := n2 p this.1
      simp only at *
      omega
    have ht : ∀ r : Int, r ≤ (j : Int) + 1 → cAr t r = [] := fun r hr => cAr_none fun p hp => by
      have := p2 p hp
      simp only at *
      omega
    have eL1 : cAr L ((j : Int) + 1) = cAr s j ++ [(j : Int)] := by
      rw [e, cAr_app, cAr_cons, hs, ht _ (by omega), if_pos (by constructor <;> simp only <;> omega)]
      simp
    have eL0 : cAr L j = cAr s j := by
      rw [e, cAr_app, cAr_cons, ht _ (by omega), if_neg (by simp only; omega)]
      simp
    have ol : (cAr L j).length = (outB L j).length := by
      unfold cAr outB
      rw [List.length_map, List.length_map]
      congr 1
      refine List.filter_congr fun p hp => ?_
      have := n2 p hp
      rw [← Bool.decide_and, ← Bool.decide_and]
      refine decide_eq_decide.mpr ?_
      omega
    have o2 := W.out _ hb
    simp only at o2
    rw [← ol] at o2
    have l : (cAr L j ++ [(j : Int)]).length ≤ 2 := by simp; omega
    simp only [nstep]
    rw [if_neg (by omega), eL1, ← eL0]
    exact ⟨rfl, l⟩
  | agn m =>
    have hp : (m - 1, (j : Int)) ∈ L := (W.a _ _).mpr ⟨j, rfl, by rw [hj]; congr 2; omega⟩
    have hlt : m - 1 < (j : Int) := W.lt _ hp
    obtain ⟨s, t, e⟩ := List.append_of_mem hp
    obtain ⟨p1, p2⟩ := parts e
    have n1 : ∀ p ∈ L, p.1 ≠ j := fun p hp q => by have := rowC (p := p.1) (q := p.2) hp q; cases this
    have nj : ∀ p ∈ L, p.2 = j → p.1 = m - 1 := fun p hp q => by
      have := rowOf (p := p.1) (q := p.2) hp q
      have := RK.agn.inj this
      omega
    have hs : cAr s ((j : Int) + 1) = cAr s j := cAr_congr fun p hp => by
      have h1 := p1 p hp
      have h2 := nj p h1.1
      simp only at *
      by_cases q : p.2 = j
      · have := h2 q; omega
      · omega
    have ht : ∀ r : Int, r = (j : Int) ∨ r = (j : Int) + 1 → cAr t r = [] := fun r hr => cAr_none fun p hp' => by
      have h1 := p2 p hp'
      have h2 := nj p h1.1
      have h3 := n1 p h1.1
      simp only at h1
      rintro ⟨h4, h5⟩
      by_cases q : p.2 = j
      · have := h2 q; omega
      · have := W.lam p h1.1 (m - 1) j hp h1.2 (by omega)
        omega
    have eL1 : cAr L ((j : Int) + 1) = cAr s j := by
      rw [e, cAr_app, cAr_cons, hs, ht _ (.inr rfl), if_neg (by simp only; omega)]
      simp
    have eL0 : cAr L j = cAr s j ++ [m - 1] := by
      rw [e, cAr_app, cAr_cons, ht _ (.inl rfl), if_pos (by constructor <;> simp only <;> omega)]
      simp
    rw [eL0] at h2 ⊢
    rw [eL1]
    have l : (cAr s j).length ≤ 2 := by simp at h2; omega
    simp only [nstep, List.getLast?_append, List.getLast?_singleton, Option.some_or, List.dropLast_concat]
    rw [if_pos (by omega), if_neg (by omega)]
    exact ⟨rfl, l⟩
theorem fwd_run {ks : List RK} {L : List (Int × Int)} (W : LW ks L) : ∀ (m j : Nat), j + m = ks.length → (cAr L j).length ≤ 2 → nrun j (ks.drop j) (cAr L j) = some ((List.range' j m).map fun i : Nat => cAr L (i : Int), cAr L (ks.length : Int))
  | 0, j, h, h2 => by
    have : j = ks.length := by omega
    subst this
    simp [nrun]
  | m + 1, j, h, h2 => by
    have hj : j < ks.length := by omega
    have hk : ks[j]? = some ks[j] := by simp [hj]
    obtain ⟨q1, q2⟩ := fwd_step W hk h2
    have ih := fwd_run W m (j + 1) (by omega) q2
    rw [List.drop_eq_getElem_cons hj]
    simp only [nrun, q1, ih, Option.map_some, List.range'_succ, List.map_cons]
theorem fwd_all {ks : List RK} {L : List (Int × Int)} (W : LW ks L) : nrun 0 ks [] = some ((List.range' 0 ks.length).map fun i : Nat => cAr L (i : Int), []) := by
  have c0 : cAr L ((0 : Nat) : Int) = [] := cAr_none fun p hp => by
    obtain ⟨j, e, _⟩ := (W.c p.1).mp ⟨p.2, hp⟩
    rw [e]
    omega
  have cn : cAr L (ks.length : Int) = [] := cAr_none fun p hp => by
    obtain ⟨j, e, hj⟩ := (W.a p.1 p.2).mp hp
    have := (List.getElem?_eq_some_iff.mp hj).1
    rw [e]
    omega
  have := fwd_run W ks.length 0 (by omega) (by rw [c0]; simp)
  rw [c0, cn, List.drop_zero] at this
  exact this
end PI
set_option Elab.async false
set_option linter.all false
set_option maxRecDepth 100000
set_option maxHeartbeats 4000000
namespace PI
open PySem
section
variable {G : List U} {cf : Cf} {elt : E} {tg : Tg} {ik : Ik} {es : List E} {env : Ev} {st : Sto} {us : List U} {xs : List PyData}
theorem prim_any {m : Bool} (bs : List PyData) (p : PyData → Bool) (st : Sto) : prim m .any [.d (.list (bs.map fun x => .bool (p x)))] st = .ok (.d (.bool (bs.any p))) st := by
  simp [prim, srtT, vws, vw, primL, primD, anyD, boolsD_map]
/-- any([elt for tg in ..]) -/
theorem e_any {m : Bool} {p : PyData → Bool} (he : evEs G cf es env st = .ok us st) (hi : items ik us st = some xs) (hl : xs.length ≤ lim)
    (hx : ∀ x ∈ xs, ∃ e1, bindTg tg x env = some e1 ∧ evE G cf elt e1 st = .ok (.d (.bool (p x))) st) :
    evE G cf (.prim m .any [.comp false elt tg ik es []]) env st = .ok (.d (.bool (xs.any p))) st := by
  have h := e_comp_map (h := fun x => .bool (p x)) he hi hl hx
  rw [evE, evEs, h, obind_ok, evEs, obind_ok, obind_ok]
  exact prim_any xs p st
end
theorem row_len {x : PyData} {lo hi : Int} (h : rowD x lo hi = true) : ∃ xs, x = .tuple xs ∧ lo ≤ xs.length ∧ (xs.length : Int) ≤ hi := by
  unfold rowD at h
  split at h
  · simp only [Bool.and_eq_true, decide_eq_true_eq] at h
    exact ⟨_, rfl, h.1, h.2⟩
  · cases h
/-- what a code is made of -/
theorem code_parts {x : PyData} (h : codeD x = true) : ∃ a b c d rs m ar, x = .tuple [a, b, c, d, .tuple rs] ∧ 1 ≤ rs.length ∧ rs.length ≤ 60 ∧ (rs.all fun r => formD r m ar rs.length) = true ∧ rwD rs = true ∧ (tL a).length ≤ 3 ∧ (tL d).length ≤ 2 := by
  obtain ⟨a, b, c, d, e, rfl⟩ := drawn_five h
  simp only [codeD, Bool.and_eq_true] at h
  obtain ⟨⟨h1, _⟩, _, ⟨h2, _⟩, h3, h4, h5⟩ := h
  obtain ⟨as, rfl, _, h1⟩ := row_len h1
  obtain ⟨ds, rfl, _, h2⟩ := row_len h2
  obtain ⟨rs, rfl, h6, h3⟩ := row_len h3
  simp only [tL] at h4 h5 ⊢
  exact ⟨_, _, _, _, rs, _, _, rfl, by omega, by omega, h4, h5, by simp only []; omega, by simp only []; omega⟩
theorem need_ok (k : Nat) {st : Sto} (hf : Flat st) {x : PyData} (h : codeD x = true) : callN gl fnT (k + 5) 11 [.d x] st = .ok (.d .none) st := by
  have l : (60 : Nat) ≤ lim := by decide
  have c := code_ok k hf x (by
    obtain ⟨a, b, c, d, rs, m, ar, rfl, h1, h2, _, _, h3, h4⟩ := code_parts h
    intro a' b' c' d' e' he
    cases he
    exact ⟨by omega, by omega, by simp only [tL]; omega⟩)
  rw [h] at c
  rw [show k + 5 = (k + 4) + 1 from rfl, callN]
  generalize callN gl fnT (k + 4) = cf at c
  simp only [fnT, List.getElem?_cons_succ, List.getElem?_cons_zero]
  simp [runF, b_need_code, evSs, evS, evE, evEs, evT, O.bind, c, tru, truD, vw, fin_st hf]
theorem ix_t4 {a b c d e : PyData} (st : Sto) : ixU (.d (.tuple [a, b, c, d, e])) (.d (.int 4)) st = .ok (.d e) st := by simp [ixU, dictGet, ixD, L2.atI, L2.ixN]
def codeL (rs : List PyData) : List (Int × Int) := sortP (ags 0 (rs.map rkOf))
theorem codeL_len (rs : List PyData) : (codeL rs).length ≤ rs.length := by
  rw [codeL, sortP_len]
  exact Nat.le_trans (ags_len _ _) (by simp)
theorem lloops_ok (k : Nat) {st : Sto} (hf : Flat st) {rs : List PyData} {ks : List RK} (R : RL rs ks) (hl : rs.length ≤ lim) : callN gl fnT (k + 1) 29 [.d (.tuple rs)] st = .ok (.d (.list ((sortP (ags 0 ks)).map prD2))) st := by
  rw [← fin_st (F := b__law_loops_of) hf rfl, callN]
  generalize callN gl fnT k = cf
  have hC : evE gl cf c__law_loops_of_0 [some (.d (.tuple rs)), none, none] st = .ok (.d (.list (((enumD 0 rs).filter (isW "again")).map agH))) st := by
    refine e_comp_filter (us := [.d (.tuple rs)]) (xs := enumD 0 rs) (by simp [evEs, evE, O.bind]) (by simp [items, vws, vw]) (by rw [enumD_len]; exact hl) (enum_ok 0 R fun j r k h => ?_)
    refine ⟨_, rfl, word_test cf "again" 2 st _ h rfl, fun q => ?_⟩
    cases h with
    | agn m => simp [evE, evEs, O.bind, ix_t1, bop, vt, vw, b_sub, usD, lim, agH, prD2]
    | oth z ps h1 h2 h3 h4 h5 => simp [isW, h1] at q
    | _ => simp [isW, w_again_count, w_again_go, w_again_test, w_again_end, w_count_again, w_count_go, w_count_test, w_count_end, w_go_again, w_go_count, w_go_test, w_go_end, w_test_again, w_test_count, w_test_go, w_test_end, w_end_again, w_end_count, w_end_go, w_end_test] at q
  rw [ags_map 0 R] at hC
  have hs := prim_sorted_prs (ags 0 ks) st (by have := ags_len 0 ks; rw [R.length] at hl; omega)
  simp [fnT, runF, b__law_loops_of, evSs, evS, evE, evEs, O.bind, hC, hs]
/-! ### jumps -/
def jps (i : Nat) : List RK → List (Int × Int)
  | [] => []
  | .jmp t :: r => ((i : Int), t) :: jps (i + 1) r
  | _ :: r => jps (i + 1) r
theorem jps_len : ∀ (i : Nat) (ks : List RK), (jps i ks).length ≤ ks.length
  | _, [] => Nat.le_refl _
  | i, k :: r => by
    have := jps_len (i + 1) r
    cases k <;> simp [jps] <;> omega
def jpB (x : PyData) : Bool := match x with
  | .tuple [_, r] => (jT r).isSome
  | _ => false
def jpH (x : PyData) : PyData := match x with
  | .tuple [i, r] => match jT r with
    | some t => .tuple [i, .int t]
    | none => .none
  | _ => .none
theorem jps_map : ∀ {rs : List PyData} {ks : List RK} (i : Nat), RL rs ks → ((enumD i rs).filter jpB).map jpH = (jps i ks).map prD2
  | _, _, _, .nil => rfl
  | _, _, i, .cons (k := k) r t => by
    have ih := jps_map (i + 1) t
    have h := jT_ok r
    rw [enumD, List.filter_cons]
    cases k with
    | jmp u => simp [jpB, h, jps, ih, jpH, prD2]
    | _ => simpa [jpB, h, jps] using ih
def overB (J : List (Int × Int)) (s : Int) : Bool := J.any fun p => decide (p.1 < s) && decide (s < p.2)
def ovP (s : Int) (x : PyData) : Bool := match x with
  | .tuple [.int i, r] => match jT r with
    | some t => decide (i < s) && decide (s < t)
    | none => false
  | _ => false
theorem ov_any (s : Int) : ∀ {rs : List PyData} {ks : List RK} (i : Nat), RL rs ks → (enumD i rs).any (ovP s) = overB (jps i ks) s
  | _, _, _, .nil => rfl
  | _, _, i, .cons (k := k) r t => by
    have ih := ov_any s (i + 1) t
    have h := jT_ok r
    rw [enumD, List.any_cons, ih]
    cases k with
    | jmp u => simp [ovP, h, jps, overB]
    | _ => simp [ovP, h, jps, overB]
theorem passed_ok (k : Nat) {st : Sto} (hf : Flat st) (J : List (Int × Int)) (hl : J.length ≤ lim) (s : Int) : callN gl fnT (k + 1) 22 [.d (.list (J.map prD2)), .d (.int s)] st = .ok (.d (.bool (overB J s))) st := by
  rw [← fin_st (F := b_is_passed) hf rfl, callN]
  generalize callN gl fnT k = cf
  have hC : evE gl cf (.prim false .any [c_is_passed_0]) [some (.d (.list (J.map prD2))), some (.d (.int s)), none, none] st = .ok (.d (.bool ((J.map prD2).any (prP fun a b => decide (a < s) && decide (s < b))))) st := by
    refine e_any (us := [.d (.list (J.map prD2))]) (xs := J.map prD2) (by simp [evEs, evE, O.bind]) (by simp [items, vws, vw]) (by rw [List.length_map]; exact hl) (fun x hx => ?_)
    obtain ⟨p, _, rfl⟩ := List.mem_map.mp hx
    refine ⟨_, rfl, ?_⟩
    by_cases h1 : p.1 < s <;> simp [evT, evE, O.bind, cop, dcop, vw, cmpD, tru, truD, prP, prD2, h1]
  have e : ((J.map prD2).any (prP fun a b => decide (a < s) && decide (s < b))) = overB J s := by
    rw [List.any_map]; rfl
  rw [e] at hC
  simp [fnT, runF, b_is_passed, evSs, evS, hC, O.bind]
def seamB (L J : List (Int × Int)) (s : Int) : Bool := decide (cAr L s = []) && !overB J s
def inI (n : Nat) : List Int := (List.range (n - 1)).map fun i : Nat => 1 + (i : Int)
/-- the rows that are seams -/
def seamI (L J : List (Int × Int)) (n : Nat) : List Int := 0 :: ((inI n).filter (seamB L J) ++ [(n : Int)])
theorem inI_len (n : Nat) : (inI n).length = n - 1 := by simp [inI]
theorem rng_in (n : Nat) (h : 1 ≤ n) (h2 : n ≤ 60) (st : Sto) : items .range [.d (.int 1), .d (.int (n : Int))] st = some ((inI n).map .int) := by
  have e : ((n : Int) - 1).toNat = n - 1 := by omega
  simp [items, vws, vw, rangeD, e, inI]
  omega
theorem seamsin_ok (k : Nat) {st : Sto} (hf : Flat st) {rs : List PyData} {ks : List RK} (R : RL rs ks) (h1 : 1 ≤ rs.length) (h60 : rs.length ≤ 60) :
    callN gl fnT (k + 2) 21 [.d (.tuple rs)] st = .ok (.d (.list ((seamI (sortP (ags 0 ks)) (jps 0 ks) rs.length).map .int))) st := by
  have l60 : (60 : Nat) < lim := by decide
  have lo := loops_ok k hf R (by omega)
  have hkl : ks.length = rs.length := R.length.symm
  have ll : (sortP (ags 0 ks)).length ≤ lim := by
    rw [sortP_len]
    have := ags_len 0 ks
    omega
  have jl : (jps 0 ks).length ≤ lim := by
    have := jps_len 0 ks
    omega
  have ar := fun row => around_ok k hf (sortP (ags 0 ks)) ll row
  have pa := fun s => passed_ok k hf (jps 0 ks) jl s
  rw [← fin_st (F := b_seams_in) hf rfl]
  rw [show k + 2 = (k + 1) + 1 from rfl, callN]
  generalize callN gl fnT (k + 1) = cf at lo ar pa
  generalize sortP (ags 0 ks) = L at lo ar ll
  have jm := jps_map 0 R
  generalize jps 0 ks = J at pa jl jm
  simp only [fnT, List.getElem?_cons_succ, List.getElem?_cons_zero]
  have s1 : evS gl cf (.set 1 (.call 15 [.var 0])) [some (.d (.tuple rs)), none, none, none, none, none] st = .ok (.nx [some (.d (.tuple rs)), some (.d (.list (L.map prD2))), none, none, none, none]) st := by
    simp [evS, evE, evEs, O.bind, lo]
  have hC : evE gl cf c_seams_in_0 [some (.d (.tuple rs)), some (.d (.list (L.map prD2))), none, none, none, none] st = .ok (.d (.list (J.map prD2))) st := by
    rw [← jm]
    refine e_comp_filter (us := [.d (.tuple rs)]) (xs := enumD 0 rs) (by simp [evEs, evE, O.bind]) (by simp [items, vws, vw]) (by rw [enumD_len]; omega) (enum_ok 0 R fun j r k h => ?_)
    obtain ⟨z, ps, hr, hz⟩ := bT h
    have wt : evT gl cf (.cmp .isin (.idx (.var 5) (.con (.int 0))) (.glob 2)) [some (.d (.tuple rs)), some (.d (.list (L.map prD2))), none, none, some (.d (.int j)), some (.d r)] st = .ok (jT r).isSome st := by
      subst hr
      simp [evT, evE, O.bind, ix_t0, gl2, cop, dcop, dictGet, vw, in_words, hz, tru, truD]
    refine ⟨_, rfl, wt, fun q => ?_⟩
    simp only [jpB] at q
    obtain ⟨t, jt⟩ := Option.isSome_iff_exists.mp q
    have li := last_ix h jt st
    simp [evE, evEs, O.bind, li, usD, lim, jpH, jt]
  have s2 : evS gl cf (.set 2 (c_seams_in_0)) [some (.d (.tuple rs)), some (.d (.list (L.map prD2))), none, none, none, none] st = .ok (.nx [some (.d (.tuple rs)), some (.d (.list (L.map prD2))), some (.d (.list (J.map prD2))), none, none, none]) st := by
    rw [evS, hC, obind_ok]
    rfl
  have hD : evE gl cf c_seams_in_1 [some (.d (.tuple rs)), some (.d (.list (L.map prD2))), some (.d (.list (J.map prD2))), none, none, none] st = .ok (.d (.list (((inI rs.length).filter (seamB L J)).map .int))) st := by
    rw [← int_filter]
    have := e_comp_filter (G := gl) (cf := cf) (elt := .var 4) (tg := .one 4) (ik := .range) (es := [.con (.int 1), .prim false .len [.var 0]]) (env := [some (.d (.tuple rs)), some (.d (.list (L.map prD2))), some (.d (.list (J.map prD2))), none, none, none]) (st := st)
      (c := .and (.cmp .eq (.call 19 [.var 1, .var 4]) (.tup [])) (.not (.call 22 [.var 2, .var 4]))) (p := inP (seamB L J)) (h := id)
      (us := [.d (.int 1), .d (.int (rs.length : Int))]) (xs := (inI rs.length).map .int) (by simp [evEs, evE, O.bind, prim_len_t]) (rng_in rs.length h1 h60 st) (by rw [List.length_map, inI_len]; omega) (fun x hx => by
        obtain ⟨s, _, rfl⟩ := List.mem_map.mp hx
        refine ⟨_, rfl, ?_, fun _ => by simp [evE]⟩
        have a := ar s
        have p := pa s
        have em : cmpD .eq (.tuple ((cAr L s).map .int)) (.tuple []) = some (decide (cAr L s = [])) := by
          cases cAr L s <;> simp [cmpD, eqD, flatD]
        have ii : inP (seamB L J) (.int s) = seamB L J s := rfl
        rw [ii, seamB]
        generalize (cAr L s).map PyData.int = C at a em
        generalize decide (cAr L s = []) = d at em
        generalize overB J s = o at p
        cases d <;> simp [evT, evE, evEs, O.bind, a, p, usD, cop, dcop, vw, em, tru, truD])
    rw [List.map_id] at this
    exact this
  have s3 : evS gl cf (.set 3 (c_seams_in_1)) [some (.d (.tuple rs)), some (.d (.list (L.map prD2))), some (.d (.list (J.map prD2))), none, none, none] st = .ok (.nx [some (.d (.tuple rs)), some (.d (.list (L.map prD2))), some (.d (.list (J.map prD2))), some (.d (.list (((inI rs.length).filter (seamB L J)).map .int))), none, none]) st := by
    rw [evS, hD, obind_ok]
    rfl
  have il : ((inI rs.length).filter (seamB L J)).length ≤ 60 := Nat.le_trans (List.length_filter_le _ _) (by rw [inI_len]; omega)
  have s4 : evS gl cf (.ret (.bin .add (.bin .add (.lst false [.con (.int 0)]) (.var 3)) (.lst false [.prim false .len [.var 0]]))) [some (.d (.tuple rs)), some (.d (.list (L.map prD2))), some (.d (.list (J.map prD2))), some (.d (.list (((inI rs.length).filter (seamB L J)).map .int))), none, none] st = .ok (.rt (.d (.list ((seamI L J rs.length).map .int)))) st := by
    have e : (seamI L J rs.length).map PyData.int = .int 0 :: (((inI rs.length).filter (seamB L J)).map .int ++ [.int (rs.length : Int)]) := by simp [seamI]
    rw [e]
    have ml : (((inI rs.length).filter (seamB L J)).map PyData.int).length ≤ 60 := by rw [List.length_map]; exact il
    generalize ((inI rs.length).filter (seamB L J)).map PyData.int = M at ml
    have a1 : bopD .add (.list [.int 0]) (.list M) = some (.list (.int 0 :: M)) := by
      simp [bopD, lim]
      omega
    have a2 : bopD .add (.list (.int 0 :: M)) (.list [.int (rs.length : Int)]) = some (.list (.int 0 :: (M ++ [.int (rs.length : Int)]))) := by
      simp [bopD, lim]
      omega
    simp [evS, evE, evEs, O.bind, mkL, usD, lim, bop, vt, vw, a1, a2, prim_len_t]
  have body : evSs gl cf b_seams_in.body [some (.d (.tuple rs)), none, none, none, none, none] st = _ := evSs_nx s1 (evSs_nx s2 (evSs_nx s3 (evSs_rt s4)))
  rw [runF, if_pos (by exact ⟨rfl, by decide⟩)]
  exact congrArg (fun o => O.bind o _) body
theorem seamsof_ok (k : Nat) {st : Sto} (hf : Flat st) {a b c d : PyData} {rs : List PyData} (h : codeD (.tuple [a, b, c, d, .tuple rs]) = true) :
    callN gl fnT (k + 6) 20 [.d (.tuple [a, b, c, d, .tuple rs])] st = .ok (.d (.tuple ((seamI (codeL rs) (jps 0 (rs.map rkOf)) rs.length).map .int))) st := by
  have n := need_ok k hf h
  obtain ⟨_, _, _, _, rs', m, ar, he, h1, h2, h3, h4, _, _⟩ := code_parts h
  cases he
  have si := seamsin_ok (k + 3) hf (rl_of h3) h1 h2
  rw [show k + 6 = (k + 5) + 1 from rfl, callN]
  rw [show k + 3 + 2 = k + 5 from rfl] at si
  generalize callN gl fnT (k + 5) = cf at n si
  simp only [fnT, List.getElem?_cons_succ, List.getElem?_cons_zero]
  have pt : ∀ ds : List PyData, prim false .tuple [.d (.list ds)] st = .ok (.d (.tuple ds)) st := fun ds => by simp [prim, srtT, vws, vw, primL, primD, tupD]
  unfold codeL
  simp [runF, b_seams_of, evSs, evS, evE, evEs, O.bind, n, si, ix_t4, pt, fin_st hf]
end PI
set_option Elab.async false
set_option linter.all false
set_option maxRecDepth 100000
set_option maxHeartbeats 4000000
namespace PI
open PySem
def uI (S : List Int) : List U := S.map fun x => .d (.int x)
theorem usD_uI (S : List Int) : usD (uI S) = some (S.map .int) := by
  rw [uI, show (S.map fun x => U.d (.int x)) = (S.map PyData.int).map U.d by rw [List.map_map]; rfl]
  exact usD_ds _
theorem flat_uI (S : List Int) : refsB 0 (.lst (uI S)) = true := by
  simp [refsB, uI, refsU]
theorem over_ok {cf : Cf} {st : Sto} {rs : List PyData} {ks : List RK} (R : RL rs ks) (hl : rs.length ≤ lim) (s : Int) (a1 a2 a4 a5 a6 : Option U) :
    ∃ N : List Int, evE gl cf c__law_seams_0 [some (.d (.tuple rs)), a1, a2, some (.d (.int s)), a4, a5, a6] st = .ok (.d (.list (N.map .int))) st ∧ decide (N = []) = !overB (jps 0 ks) s := by
  refine ⟨((enumD 0 rs).filter (ovP s)).map fun _ => 1, ?_, ?_⟩
  · rw [List.map_map]
    refine e_comp_filter (us := [.d (.tuple rs)]) (xs := enumD 0 rs) (by simp [evEs, evE, O.bind]) (by simp [items, vws, vw]) (by rw [enumD_len]; exact hl) (enum_ok 0 R fun j r k h => ?_)
    obtain ⟨z, ps, hr, hz⟩ := bT h
    refine ⟨_, rfl, ?_, fun _ => by simp [evE]⟩
    have wt : evE gl cf (.cmp .isin (.idx (.var 6) (.con (.int 0))) (.tup [.con (.str "test"), .con (.str "go")])) [some (.d (.tuple rs)), a1, a2, some (.d (.int s)), a4, some (.d (.int j)), some (.d r)] st = .ok (.d (.bool (jT r).isSome)) st := by
      subst hr
      simp [evE, evEs, O.bind, ix_t0, usD, lim, cop, dcop, dictGet, vw, in_words, hz]
    cases jt : jT r with
    | none =>
      rw [jt] at wt
      have e : ovP s (.tuple [.int j, r]) = false := by simp [ovP, jt]
      rw [e]
      simp only [List.set_cons_succ, List.set_cons_zero]
      rw [evT, evE, wt, obind_ok]
      simp [O.bind, tru, vw, truD]
    | some t =>
      rw [jt] at wt
      have e : ovP s (.tuple [.int j, r]) = (decide ((j : Int) < s) && decide (s < t)) := by simp [ovP, jt]
      rw [e]
      have li := last_ix h jt st
      simp only [List.set_cons_succ, List.set_cons_zero]
      rw [evT, evE, wt, obind_ok]
      by_cases q : (j : Int) < s <;> simp [O.bind, tru, vw, truD, evE, li, cop, dcop, cmpD, q]
  · rw [← ov_any s 0 R]
    generalize enumD 0 rs = M
    induction M with
    | nil => rfl
    | cons x r ih =>
      rw [List.filter_cons, List.any_cons]
      cases ovP s x <;> simp at ih ⊢
      exact ih
theorem sl_loop {cf : Cf} {st : Sto} {rs : List PyData} {ks : List RK} (R : RL rs ks) (hl : rs.length ≤ lim) (L : List (Int × Int)) (hA : ∀ (s : Int) S, Flat S → cf 26 [.d (.list (L.map prD2)), .d (.int s)] S = .ok (.d (.list ((cAr L s).map .int))) S) (hf : Flat st) (g : Sto → Bool) (hg : ∀ s, g s = true) :
    ∀ (xs F : List Int) (a3 a4 a5 a6 : Option U), F.length + xs.length < lim → ∃ b3 b4 b5 b6, forL g (fun x env s => match bindTg (.one 3) x env with
      | some env1 => evSs gl cf l__law_seams_0 env1 s
      | none => .bad) (xs.map .int) [some (.d (.tuple rs)), some (.d (.list (L.map prD2))), some (.o st.length), a3, a4, a5, a6] (st ++ [.lst (uI F)]) = .ok (.nx [some (.d (.tuple rs)), some (.d (.list (L.map prD2))), some (.o st.length), b3, b4, b5, b6]) (st ++ [.lst (uI (F ++ xs.filter (seamB L (jps 0 ks))))])
  | [], F, a3, a4, a5, a6, _ => ⟨a3, a4, a5, a6, by simp [forL, hg]⟩
  | x :: r, F, a3, a4, a5, a6, hn => by
    have hn' : F.length + r.length + 1 < lim := by simpa [Nat.add_assoc] using hn
    have f1 : Flat (st ++ [Ob.lst (uI F)]) := hf.app (flat_uI F)
    obtain ⟨N, q, hN⟩ := over_ok (cf := cf) (st := st ++ [.lst (uI F)]) R hl x (some (.d (.list (L.map prD2)))) (some (.o st.length)) a4 a5 a6
    have ha := hA x _ f1
    have key : evSs gl cf l__law_seams_0 [some (.d (.tuple rs)), some (.d (.list (L.map prD2))), some (.o st.length), some (.d (.int x)), a4, a5, a6] (st ++ [.lst (uI F)]) = .ok (.nx [some (.d (.tuple rs)), some (.d (.list (L.map prD2))), some (.o st.length), some (.d (.int x)), some (.d (.list (N.map .int))), a5, a6]) (st ++ [.lst (uI (F ++ if seamB L (jps 0 ks) x then [x] else []))]) := by
      have s1 : evS gl cf (.set 4 (c__law_seams_0)) [some (.d (.tuple rs)), some (.d (.list (L.map prD2))), some (.o st.length), some (.d (.int x)), a4, a5, a6] (st ++ [.lst (uI F)]) = .ok (.nx [some (.d (.tuple rs)), some (.d (.list (L.map prD2))), some (.o st.length), some (.d (.int x)), some (.d (.list (N.map .int))), a5, a6]) (st ++ [.lst (uI F)]) := by
        rw [evS, q, obind_ok]
        rfl
      refine evSs_nx s1 (evSs_nx ?_ evSs_nil)
      have c1 := cmp_eq_ints N []
      have c2 := cmp_eq_ints (cAr L x) []
      simp only [List.map_nil] at c1 c2
      have m1 : mOk .append (.o st.length) (st ++ [Ob.lst (uI F)]) = true := by simp [mOk, isLstO]
      have ap : meth .append (.o st.length) [.d (.int x)] (st ++ [Ob.lst (uI F)]) = .ok (.d .none) (st ++ [Ob.lst (uI (F ++ [x]))]) := by
        have ul : F.length < lim := by omega
        simp only [meth, mApp]
        simp [ul, uI]
      have sb : seamB L (jps 0 ks) x = (decide (N = []) && decide (cAr L x = [])) := by
        rw [seamB, hN, Bool.and_comm]
      rw [sb]
      rw [hN] at c1
      rw [hN]
      generalize N.map PyData.int = NM at c1
      generalize (cAr L x).map PyData.int = CM at ha c2
      generalize decide (cAr L x = []) = d2 at c2
      generalize (!overB (jps 0 ks) x) = d1 at c1
      generalize L.map prD2 = LM at ha
      cases d1 <;> cases d2 <;> simp [evS, evSs, evT, evE, evEs, O.bind, ha, mkL, usD, lim, cop, dcop, vw, c1, c2, tru, truD, m1, ap]
    have fl : (if seamB L (jps 0 ks) x then [x] else []).length ≤ 1 := by split <;> simp
    obtain ⟨b3, b4, b5, b6, ih⟩ := sl_loop R hl L hA hf g hg r (F ++ if seamB L (jps 0 ks) x then [x] else []) (some (.d (.int x))) (some (.d (.list (N.map .int)))) a5 a6 (by rw [List.length_append]; omega)
    refine ⟨b3, b4, b5, b6, ?_⟩
    rw [List.map_cons, forL, if_pos (hg _)]
    simp only [bindTg, List.set_cons_succ, List.set_cons_zero]
    rw [key, obind_ok]
    refine Eq.trans ih ?_
    have e : F ++ (if seamB L (jps 0 ks) x then [x] else []) ++ r.filter (seamB L (jps 0 ks)) = F ++ (x :: r).filter (seamB L (jps 0 ks)) := by
      rw [List.filter_cons, List.append_assoc]
      cases seamB L (jps 0 ks) x <;> rfl
    rw [e]
theorem lseams_ok (k : Nat) {st : Sto} (hf : Flat st) {rs : List PyData} {ks : List RK} (R : RL rs ks) (h1 : 1 ≤ rs.length) (h60 : rs.length ≤ 60) :
    callN gl fnT (k + 2) 31 [.d (.tuple rs)] st = .ok (.d (.list ((seamI (sortP (ags 0 ks)) (jps 0 ks) rs.length).map .int))) st := by
  have l60 : (70 : Nat) < lim := by decide
  have lo := lloops_ok k hf R (by omega)
  have hkl : ks.length = rs.length := R.length.symm
  have ll : (sortP (ags 0 ks)).length ≤ lim := by
    rw [sortP_len]
    have := ags_len 0 ks
    omega
  have hA : ∀ (s : Int) S, Flat S → callN gl fnT (k + 1) 26 [.d (.list ((sortP (ags 0 ks)).map prD2)), .d (.int s)] S = .ok (.d (.list ((cAr (sortP (ags 0 ks)) s).map .int))) S := fun s S hS => laround_ok k hS (sortP (ags 0 ks)) ll s
  rw [show k + 2 = (k + 1) + 1 from rfl, callN]
  generalize callN gl fnT (k + 1) = cf at lo hA
  simp only [fnT, List.getElem?_cons_succ, List.getElem?_cons_zero]
  obtain ⟨L, hL⟩ : ∃ L, L = sortP (ags 0 ks) := ⟨_, rfl⟩
  rw [← hL] at lo hA ⊢
  have s1 : evS gl cf (.set 1 (.call 29 [.var 0])) [some (.d (.tuple rs)), none, none, none, none, none, none] st = .ok (.nx [some (.d (.tuple rs)), some (.d (.list (L.map prD2))), none, none, none, none, none]) st := by
    simp [evS, evE, evEs, O.bind, lo]
  have s2 : evS gl cf (.set 2 (.lst true [.con (.int 0)])) [some (.d (.tuple rs)), some (.d (.list (L.map prD2))), none, none, none, none, none] st = .ok (.nx [some (.d (.tuple rs)), some (.d (.list (L.map prD2))), some (.o st.length), none, none, none, none]) (st ++ [.lst (uI [0])]) := by
    simp [evS, evE, evEs, O.bind, mkL, uI, lim]
  obtain ⟨b3, b4, b5, b6, q⟩ := sl_loop (st := st) R (by omega) L hA hf (fun s => stays [.d (.int 1), .d (.int (rs.length : Int))] (st ++ [.lst (uI [0])]) s) (fun s => rfl) (inI rs.length) [0] none none none none (by rw [inI_len]; simp; omega)
  have s3 := evS_for (us := [.d (.int 1), .d (.int (rs.length : Int))]) (st1 := st ++ [.lst (uI [0])]) (tg := .one 3) (ik := .range) (es := [.con (.int 1), .prim false .len [.var 0]]) (e := [some (.d (.tuple rs)), some (.d (.list (L.map prD2))), some (.o st.length), none, none, none, none]) (st := st ++ [.lst (uI [0])]) (by simp [evEs, evE, O.bind, prim_len_t]) (rng_in rs.length h1 h60 _) q
  obtain ⟨F, hF⟩ : ∃ F, F = [0] ++ (inI rs.length).filter (seamB L (jps 0 ks)) := ⟨_, rfl⟩
  rw [← hF] at s3
  have il : ((inI rs.length).filter (seamB L (jps 0 ks))).length ≤ 60 := Nat.le_trans (List.length_filter_le _ _) (by rw [inI_len]; omega)
  have fl : F.length ≤ 61 := by rw [hF]; simp; omega
  have e : (seamI L (jps 0 ks) rs.length).map PyData.int = F.map .int ++ [.int (rs.length : Int)] := by simp [seamI, hF]
  have s4 : evS gl cf (.ret (.bin .add (.var 2) (.lst false [.prim false .len [.var 0]]))) [some (.d (.tuple rs)), some (.d (.list (L.map prD2))), some (.o st.length), b3, b4, b5, b6] (st ++ [.lst (uI F)]) = .ok (.rt (.d (.list ((seamI L (jps 0 ks) rs.length).map .int)))) (st ++ [.lst (uI F)]) := by
    rw [e]
    have u := usD_uI F
    have a1 : bopD .add (.list (F.map .int)) (.list [.int (rs.length : Int)]) = some (.list (F.map .int ++ [.int (rs.length : Int)])) := by
      simp [bopD, lim]
      omega
    generalize F.map PyData.int = FM at u a1
    generalize uI F = UF at u
    simp [evS, evE, evEs, O.bind, mkL, usD, lim, bop, vt, vw, a1, prim_len_t, u]
  have body : evSs gl cf b__law_seams.body [some (.d (.tuple rs)), none, none, none, none, none, none] st = _ := evSs_nx s1 (evSs_nx s2 (evSs_nx s3 (evSs_rt s4)))
  rw [runF, if_pos (by exact ⟨rfl, by decide⟩)]
  exact (congrArg (fun o => O.bind o _) body).trans (fin_app (F := b__law_seams) hf (flat_uI F) rfl)
end PI
set_option Elab.async false
set_option linter.all false
set_option maxRecDepth 100000
set_option maxHeartbeats 4000000
namespace PI
open PySem
theorem cut_m1 (xs : List PyData) : cutL xs none (some (-1)) = xs.dropLast := by
  have e : HT.sIx xs.length xs.length (some (-1)) = xs.length - 1 := by
    simp only [HT.sIx]
    rw [if_pos (by decide)]
    omega
  simp only [cutL, HT.sIx_none, e, List.drop_zero, Nat.sub_zero, List.dropLast_eq_take]
theorem cut_le (xs : List PyData) (v : Nat) : cutL xs none (some (v : Int)) = xs.take v := by
  simp only [cutL, HT.sIx_none, HT.sIx_nat, List.drop_zero, Nat.sub_zero]
  by_cases h : v ≤ xs.length
  · rw [Nat.min_eq_left h]
  · rw [Nat.min_eq_right (by omega), List.take_of_length_le (Nat.le_refl _), List.take_of_length_le (by omega)]
theorem ix_trow {xs : List PyData} {y : PyData} (st : Sto) {i : Nat} (h : xs[i]? = some y) : ixU (.d (.tuple xs)) (.d (.int (i : Int))) st = .ok (.d y) st := by
  obtain ⟨hl, e⟩ := List.getElem?_eq_some_iff.mp h
  have h0 : (0 : Int) ≤ (i : Int) := by omega
  have h1 : (i : Int) < xs.length := by omega
  simp [ixU, dictGet, ixD, L2.atI, L2.ixN, h0, h1, hl, e]
theorem ix_tlast {xs : List PyData} {y : PyData} (st : Sto) (h : xs.getLast? = some y) : ixU (.d (.tuple xs)) (.d (.int (-1))) st = .ok (.d y) st := by
  have a : L2.atI xs (-1) = some y := by
    obtain ⟨ys, e⟩ := List.getLast?_eq_some_iff.mp h
    subst e
    have l : (1 : Int) ≤ (ys.length : Int) + 1 := by omega
    have l2 : (-1 + ((ys.length : Int) + 1)).toNat = ys.length := by omega
    simp [L2.atI, L2.ixN, l, l2]
  simp [ixU, dictGet, ixD, a]
theorem wt_e (cf : Cf) (w : Str) (i : Nat) {env : Ev} (st : Sto) {z : Str} {ps : List PyData} (h : env[i]? = some (some (.d (.tuple (.str z :: ps))))) : evE gl cf (.cmp .eq (.idx (.var i) (.con (.int 0))) (.con (.str w))) env st = .ok (.d (.bool (decide (z = w)))) st := by
  simp [evE, O.bind, h, ix_t0, cop, dcop, vw, cmp_eq_str]
/-- one step of the law's own -/
inductive Stp (ks : List RK) (L : List (Int × Int)) : Nat → List Int → Nat → List Int → Prop
  | back {j m : Nat} {S : List Int} {l : Int} : ks[j]? = some (.agn (m : Int)) → S.getLast? = some l → 1 < l → Stp ks L j S m (S.dropLast ++ [l - 1])
  | on {j : Nat} {S : List Int} {k : RK} : ks[j]? = some k → k ≠ .cnt → k ≠ .fin → Stp ks L j S (j + 1) (S.take (cAr L ((j + 1 : Nat) : Int)).length)
  | cnt {j : Nat} {S : List Int} {c : Int} : ks[j]? = some .cnt → 1 ≤ c ∧ c ≤ 6 → Stp ks L j S (j + 1) (S ++ [c])
  | jmp {j t : Nat} {S : List Int} : ks[j]? = some (.jmp (t : Int)) → Stp ks L j S t (S.take (cAr L (t : Int)).length)
theorem next_ok {cf : Cf} {st : Sto} (hf : Flat st) {a b c d : PyData} {rs : List PyData} {L : List (Int × Int)} (hr60 : rs.length ≤ 60) (hll : L.length ≤ 60)
    (hL : cf 29 [.d (.tuple rs)] st = .ok (.d (.list (L.map prD2))) st) (hA : ∀ s : Int, cf 26 [.d (.list (L.map prD2)), .d (.int s)] st = .ok (.d (.list ((cAr L s).map .int))) st)
    {j : Nat} {r : PyData} {k : RK} (hj : rs[j]? = some r) (hk : ROK r k) {ks : List RK} (hkj : ks[j]? = some k) (hfin : k ≠ .fin) (hag : ∀ m, k = .agn m → 0 ≤ m) (hjm : ∀ t, k = .jmp t → 0 ≤ t) (hcn : ∀ c, r = .tuple [.str "count", .int c] → 1 ≤ c ∧ c ≤ 6)
    (S : List Int) (hS : S.length ≤ 3) (hSa : ∀ m, k = .agn m → S ≠ []) (ch : Int) :
    ∃ j' S', runF gl cf b__law_next [.d (.tuple [a, b, c, d, .tuple rs]), .d (.tuple [.int (j : Int), .tuple (S.map .int), .tuple []]), .d (.int ch)] st = .ok (.d (.tuple [.int ((j' : Nat) : Int), .tuple (S'.map .int)])) st ∧ Stp ks L j S j' S' := by
  obtain ⟨X, hX⟩ : ∃ X, X = PyData.tuple [a, b, c, d, .tuple rs] := ⟨_, rfl⟩
  have i4 : ixU (.d X) (.d (.int 4)) st = .ok (.d (.tuple rs)) st := by rw [hX]; exact ix_t4 st
  have ij := ix_trow st hj
  rw [← hX]
  clear hX
  obtain ⟨P, hP⟩ : ∃ P, P = PyData.tuple [.int (j : Int), .tuple (S.map .int), .tuple []] := ⟨_, rfl⟩
  rw [← hP]
  obtain ⟨SM, hSM⟩ : ∃ SM, SM = S.map PyData.int := ⟨_, rfl⟩
  have sml : SM.length = S.length := by rw [hSM]; simp
  -- the first three rows
  have s1 : evS gl cf (.unp [6, 7, 8] (.var 1)) [some (.d X), some (.d P), some (.d (.int ch)), none, none, none, none, none, none] st = .ok (.nx [some (.d X), some (.d P), some (.d (.int ch)), none, none, none, some (.d (.int (j : Int))), some (.d (.tuple SM)), some (.d (.tuple []))]) st := by
    rw [hP, ← hSM]
    simp [evS, evE, O.bind, setS]
  have s2 : evS gl cf (.set 3 (.idx (.var 0) (.con (.int 4)))) [some (.d X), some (.d P), some (.d (.int ch)), none, none, none, some (.d (.int (j : Int))), some (.d (.tuple SM)), some (.d (.tuple []))] st = .ok (.nx [some (.d X), some (.d P), some (.d (.int ch)), some (.d (.tuple rs)), none, none, some (.d (.int (j : Int))), some (.d (.tuple SM)), some (.d (.tuple []))]) st := by
    simp [evS, evE, O.bind, i4]
  have s3 : evS gl cf (.set 4 (.idx (.var 3) (.var 6))) [some (.d X), some (.d P), some (.d (.int ch)), some (.d (.tuple rs)), none, none, some (.d (.int (j : Int))), some (.d (.tuple SM)), some (.d (.tuple []))] st = .ok (.nx [some (.d X), some (.d P), some (.d (.int ch)), some (.d (.tuple rs)), some (.d r), none, some (.d (.int (j : Int))), some (.d (.tuple SM)), some (.d (.tuple []))]) st := by
    simp [evS, evE, O.bind, ij]
  -- what the last three rows tell: the place, the lefts
  have last : ∀ (z : Str) (ps : List PyData), r = .tuple (.str z :: ps) → z ≠ "end" → z ≠ "count" → (∀ e, e = [some (.d X), some (.d P), some (.d (.int ch)), some (.d (.tuple rs)), some (.d r), none, some (.d (.int (j : Int))), some (.d (.tuple SM)), some (.d (.tuple []))] → evT gl cf (.and (.cmp .eq (.idx (.var 4) (.con (.int 0))) (.con (.str "again"))) (.cmp .gt (.idx (.var 7) (.neg (.con (.int 1)))) (.con (.int 1)))) e st = .ok false st) → ∀ to : Nat,
      (∀ e, e = [some (.d X), some (.d P), some (.d (.int ch)), some (.d (.tuple rs)), some (.d r), none, some (.d (.int (j : Int))), some (.d (.tuple SM)), some (.d (.tuple []))] → evE gl cf (.ife (.or (.cmp .eq (.idx (.var 4) (.con (.int 0))) (.con (.str "go"))) (.and (.cmp .eq (.idx (.var 4) (.con (.int 0))) (.con (.str "test"))) (.cmp .eq (.var 2) (.con (.int 1))))) (.idx (.var 4) (.neg (.con (.int 1)))) (.bin .add (.var 6) (.con (.int 1)))) e st = .ok (.d (.int (to : Int))) st) →
      runF gl cf b__law_next [.d X, .d P, .d (.int ch)] st = .ok (.d (.tuple [.int (to : Int), .tuple ((S.take (cAr L (to : Int)).length).map .int)])) st := by
    intro z ps hz n1 n2 hag2 to hto
    have e1 := hag2 _ rfl
    have e2 := hto _ rfl
    have w1 := wt_e cf "end" 4 (env := [some (.d X), some (.d P), some (.d (.int ch)), some (.d (.tuple rs)), some (.d r), none, some (.d (.int (j : Int))), some (.d (.tuple SM)), some (.d (.tuple []))]) st (z := z) (ps := ps) (by rw [hz]; rfl)
    have w2 := wt_e cf "count" 4 (env := [some (.d X), some (.d P), some (.d (.int ch)), some (.d (.tuple rs)), some (.d r), some (.d (.int (to : Int))), some (.d (.int (j : Int))), some (.d (.tuple SM)), some (.d (.tuple []))]) st (z := z) (ps := ps) (by rw [hz]; rfl)
    rw [decide_eq_false n1] at w1
    rw [decide_eq_false n2] at w2
    have s4 : evS gl cf (.ifs (.cmp .eq (.idx (.var 4) (.con (.int 0))) (.con (.str "end"))) [.ret (.con .none)] []) [some (.d X), some (.d P), some (.d (.int ch)), some (.d (.tuple rs)), some (.d r), none, some (.d (.int (j : Int))), some (.d (.tuple SM)), some (.d (.tuple []))] st = .ok (.nx [some (.d X), some (.d P), some (.d (.int ch)), some (.d (.tuple rs)), some (.d r), none, some (.d (.int (j : Int))), some (.d (.tuple SM)), some (.d (.tuple []))]) st := by
      rw [evS, evT, w1, obind_ok]
      simp [O.bind, tru, vw, truD, evSs]
    have s5 : evS gl cf (.ifs (.and (.cmp .eq (.idx (.var 4) (.con (.int 0))) (.con (.str "again"))) (.cmp .gt (.idx (.var 7) (.neg (.con (.int 1)))) (.con (.int 1)))) [.ret (.tup [.idx (.var 4) (.con (.int 1)), .bin .add (.slice (.var 7) [] [.neg (.con (.int 1))]) (.tup [.bin .sub (.idx (.var 7) (.neg (.con (.int 1)))) (.con (.int 1))])])] []) [some (.d X), some (.d P), some (.d (.int ch)), some (.d (.tuple rs)), some (.d r), none, some (.d (.int (j : Int))), some (.d (.tuple SM)), some (.d (.tuple []))] st = .ok (.nx [some (.d X), some (.d P), some (.d (.int ch)), some (.d (.tuple rs)), some (.d r), none, some (.d (.int (j : Int))), some (.d (.tuple SM)), some (.d (.tuple []))]) st := by
      rw [evS, e1, obind_ok]
      simp [evSs]
    have s6 : evS gl cf (.set 5 (.ife (.or (.cmp .eq (.idx (.var 4) (.con (.int 0))) (.con (.str "go"))) (.and (.cmp .eq (.idx (.var 4) (.con (.int 0))) (.con (.str "test"))) (.cmp .eq (.var 2) (.con (.int 1))))) (.idx (.var 4) (.neg (.con (.int 1)))) (.bin .add (.var 6) (.con (.int 1))))) [some (.d X), some (.d P), some (.d (.int ch)), some (.d (.tuple rs)), some (.d r), none, some (.d (.int (j : Int))), some (.d (.tuple SM)), some (.d (.tuple []))] st = .ok (.nx [some (.d X), some (.d P), some (.d (.int ch)), some (.d (.tuple rs)), some (.d r), some (.d (.int (to : Int))), some (.d (.int (j : Int))), some (.d (.tuple SM)), some (.d (.tuple []))]) st := by
      rw [evS, e2, obind_ok]
      rfl
    have s7 : evS gl cf (.ifs (.cmp .eq (.idx (.var 4) (.con (.int 0))) (.con (.str "count"))) [.ret (.tup [.var 5, .bin .add (.var 7) (.tup [.idx (.var 4) (.con (.int 1))])])] []) [some (.d X), some (.d P), some (.d (.int ch)), some (.d (.tuple rs)), some (.d r), some (.d (.int (to : Int))), some (.d (.int (j : Int))), some (.d (.tuple SM)), some (.d (.tuple []))] st = .ok (.nx [some (.d X), some (.d P), some (.d (.int ch)), some (.d (.tuple rs)), some (.d r), some (.d (.int (to : Int))), some (.d (.int (j : Int))), some (.d (.tuple SM)), some (.d (.tuple []))]) st := by
      rw [evS, evT, w2, obind_ok]
      simp [O.bind, tru, vw, truD, evSs]
    have s8 : evS gl cf (.ret (.tup [.var 5, .slice (.var 7) [] [.prim false .len [.call 26 [.call 29 [.var 3], .var 5]]]])) [some (.d X), some (.d P), some (.d (.int ch)), some (.d (.tuple rs)), some (.d r), some (.d (.int (to : Int))), some (.d (.int (j : Int))), some (.d (.tuple SM)), some (.d (.tuple []))] st = .ok (.rt (.d (.tuple [.int (to : Int), .tuple ((S.take (cAr L (to : Int)).length).map .int)]))) st := by
      have ha := hA (to : Int)
      have cl := cut_le SM (cAr L (to : Int)).length
      have pl : prim false .len [.d (.list ((cAr L (to : Int)).map .int))] st = .ok (.d (.int ((cAr L (to : Int)).length : Int))) st := by
        rw [prim_len_l, List.length_map]
      rw [hSM] at cl ⊢
      rw [← List.map_take] at cl
      generalize (cAr L (to : Int)).map PyData.int = AM at ha pl
      generalize (cAr L (to : Int)).length = al at cl pl ⊢
      generalize (S.take al).map PyData.int = TM at cl
      generalize S.map PyData.int = SM at cl
      simp [evS, evE, evEs, O.bind, hL, ha, pl, vw, usD, optI, sliceD, cl, lim]
    have body : evSs gl cf b__law_next.body [some (.d X), some (.d P), some (.d (.int ch)), none, none, none, none, none, none] st = _ := evSs_nx s1 (evSs_nx s2 (evSs_nx s3 (evSs_nx s4 (evSs_nx s5 (evSs_nx s6 (evSs_nx s7 (evSs_rt s8)))))))
    rw [runF, if_pos (by exact ⟨rfl, by decide⟩)]
    exact (congrArg (fun o => O.bind o _) body).trans (fin_st hf rfl)
  have hjl := (List.getElem?_eq_some_iff.mp hj).1
  -- words that aren't again
  have nag : ∀ (z : Str) (ps : List PyData), r = .tuple (.str z :: ps) → z ≠ "again" → ∀ e, e = [some (.d X), some (.d P), some (.d (.int ch)), some (.d (.tuple rs)), some (.d r), none, some (.d (.int (j : Int))), some (.d (.tuple SM)), some (.d (.tuple []))] → evT gl cf (.and (.cmp .eq (.idx (.var 4) (.con (.int 0))) (.con (.str "again"))) (.cmp .gt (.idx (.var 7) (.neg (.con (.int 1)))) (.con (.int 1)))) e st = .ok false st := by
    rintro z ps hz ne e rfl
    have w := wt_e cf "again" 4 (env := [some (.d X), some (.d P), some (.d (.int ch)), some (.d (.tuple rs)), some (.d r), none, some (.d (.int (j : Int))), some (.d (.tuple SM)), some (.d (.tuple []))]) st (z := z) (ps := ps) (by rw [hz]; rfl)
    rw [decide_eq_false ne] at w
    rw [evT, evE, w, obind_ok]
    simp [O.bind, tru, vw, truD]
  -- words that go on
  have ahead : ∀ (z : Str) (ps : List PyData), r = .tuple (.str z :: ps) → z ≠ "go" → (z = "test" → ch ≠ 1) → ∀ e, e = [some (.d X), some (.d P), some (.d (.int ch)), some (.d (.tuple rs)), some (.d r), none, some (.d (.int (j : Int))), some (.d (.tuple SM)), some (.d (.tuple []))] → evE gl cf (.ife (.or (.cmp .eq (.idx (.var 4) (.con (.int 0))) (.con (.str "go"))) (.and (.cmp .eq (.idx (.var 4) (.con (.int 0))) (.con (.str "test"))) (.cmp .eq (.var 2) (.con (.int 1))))) (.idx (.var 4) (.neg (.con (.int 1)))) (.bin .add (.var 6) (.con (.int 1)))) e st = .ok (.d (.int ((j + 1 : Nat) : Int))) st := by
    rintro z ps hz n1 n2 e rfl
    have w1 := wt_e cf "go" 4 (env := [some (.d X), some (.d P), some (.d (.int ch)), some (.d (.tuple rs)), some (.d r), none, some (.d (.int (j : Int))), some (.d (.tuple SM)), some (.d (.tuple []))]) st (z := z) (ps := ps) (by rw [hz]; rfl)
    have w2 := wt_e cf "test" 4 (env := [some (.d X), some (.d P), some (.d (.int ch)), some (.d (.tuple rs)), some (.d r), none, some (.d (.int (j : Int))), some (.d (.tuple SM)), some (.d (.tuple []))]) st (z := z) (ps := ps) (by rw [hz]; rfl)
    rw [decide_eq_false n1] at w1
    rw [evE, evE, w1, obind_ok]
    simp only [tru, vw, truD, O.bind]
    rw [evE, w2, obind_ok]
    by_cases q : z = "test"
    · have c1 := cmp_eq_int ch 1
      rw [decide_eq_false (n2 q)] at c1
      simp [O.bind, tru, vw, truD, q, evE, cop, dcop, c1, bop, vt, b_add]
    · simp [O.bind, tru, vw, truD, q, evE, bop, vt, b_add]
  -- words that jump
  have away : ∀ (z : Str) (ps : List PyData) (t : Int), r = .tuple (.str z :: ps) → (z = "go" ∨ (z = "test" ∧ ch = 1)) → (z :: []) ≠ [] → jT r = some t → ∀ e, e = [some (.d X), some (.d P), some (.d (.int ch)), some (.d (.tuple rs)), some (.d r), none, some (.d (.int (j : Int))), some (.d (.tuple SM)), some (.d (.tuple []))] → evE gl cf (.ife (.or (.cmp .eq (.idx (.var 4) (.con (.int 0))) (.con (.str "go"))) (.and (.cmp .eq (.idx (.var 4) (.con (.int 0))) (.con (.str "test"))) (.cmp .eq (.var 2) (.con (.int 1))))) (.idx (.var 4) (.neg (.con (.int 1)))) (.bin .add (.var 6) (.con (.int 1)))) e st = .ok (.d (.int t)) st := by
    rintro z ps t hz hw _ jt e rfl
    have li := last_ix hk jt st
    have w1 := wt_e cf "go" 4 (env := [some (.d X), some (.d P), some (.d (.int ch)), some (.d (.tuple rs)), some (.d r), none, some (.d (.int (j : Int))), some (.d (.tuple SM)), some (.d (.tuple []))]) st (z := z) (ps := ps) (by rw [hz]; rfl)
    have w2 := wt_e cf "test" 4 (env := [some (.d X), some (.d P), some (.d (.int ch)), some (.d (.tuple rs)), some (.d r), none, some (.d (.int (j : Int))), some (.d (.tuple SM)), some (.d (.tuple []))]) st (z := z) (ps := ps) (by rw [hz]; rfl)
    rw [evE, evE, w1, obind_ok]
    by_cases q : z = "go"
    · simp [O.bind, tru, vw, truD, q, evE, li]
    · obtain ⟨z1, c1⟩ : z = "test" ∧ ch = 1 := by
        rcases hw with h | h
        · exact absurd h q
        · exact h
      rw [decide_eq_false q]
      simp only [tru, vw, truD, O.bind]
      rw [evE, w2, obind_ok]
      have c2 := cmp_eq_int ch 1
      rw [decide_eq_true c1] at c2
      simp [O.bind, tru, vw, truD, z1, evE, cop, dcop, c2, li]
  cases hk with
  | fin => exact absurd rfl hfin
  | agn m =>
    have m0 := hag m rfl
    have ne := hSa m rfl
    obtain ⟨S0, l, rfl⟩ : ∃ S0 l, S = S0 ++ [l] := ⟨S.dropLast, S.getLast ne, (List.dropLast_concat_getLast ne).symm⟩
    have gl1 : SM.getLast? = some (.int l) := by rw [hSM]; simp
    have il := ix_tlast st gl1
    have w := wt_e cf "again" 4 (env := [some (.d X), some (.d P), some (.d (.int ch)), some (.d (.tuple rs)), some (.d (.tuple [.str "again", .int m])), none, some (.d (.int (j : Int))), some (.d (.tuple SM)), some (.d (.tuple []))]) st (z := "again") (ps := [.int m]) rfl
    have gt : ∀ b, decide (1 < l) = b → evT gl cf (.and (.cmp .eq (.idx (.var 4) (.con (.int 0))) (.con (.str "again"))) (.cmp .gt (.idx (.var 7) (.neg (.con (.int 1)))) (.con (.int 1)))) [some (.d X), some (.d P), some (.d (.int ch)), some (.d (.tuple rs)), some (.d (.tuple [.str "again", .int m])), none, some (.d (.int (j : Int))), some (.d (.tuple SM)), some (.d (.tuple []))] st = .ok b st := by
      rintro b rfl
      rw [evT, evE, w, obind_ok]
      simp [O.bind, tru, vw, truD, evE, il, cop, dcop, cmpD]
    by_cases q : 1 < l
    · obtain ⟨mn, rfl⟩ : ∃ mn : Nat, m = (mn : Int) := ⟨m.toNat, by omega⟩
      refine ⟨mn, S0 ++ [l - 1], ?_, by simpa using Stp.back hkj (S := S0 ++ [l]) (l := l) (by simp) q⟩
      have e1 := gt true (decide_eq_true q)
      have w1 := wt_e cf "end" 4 (env := [some (.d X), some (.d P), some (.d (.int ch)), some (.d (.tuple rs)), some (.d (.tuple [.str "again", .int (mn : Int)])), none, some (.d (.int (j : Int))), some (.d (.tuple SM)), some (.d (.tuple []))]) st (z := "again") (ps := [.int (mn : Int)]) rfl
      rw [decide_eq_false (by decide +kernel)] at w1
      have s4 : evS gl cf (.ifs (.cmp .eq (.idx (.var 4) (.con (.int 0))) (.con (.str "end"))) [.ret (.con .none)] []) [some (.d X), some (.d P), some (.d (.int ch)), some (.d (.tuple rs)), some (.d (.tuple [.str "again", .int (mn : Int)])), none, some (.d (.int (j : Int))), some (.d (.tuple SM)), some (.d (.tuple []))] st = .ok (.nx [some (.d X), some (.d P), some (.d (.int ch)), some (.d (.tuple rs)), some (.d (.tuple [.str "again", .int (mn : Int)])), none, some (.d (.int (j : Int))), some (.d (.tuple SM)), some (.d (.tuple []))]) st := by
        rw [evS, evT, w1, obind_ok]
        simp [O.bind, tru, vw, truD, evSs]
      have dl : SM.dropLast = S0.map .int := by rw [hSM]; simp
      have c1 := cut_m1 SM
      rw [dl] at c1
      have a1 : bopD .add (.tuple (S0.map .int)) (.tuple [.int (l - 1)]) = some (.tuple ((S0 ++ [l - 1]).map .int)) := by
        have : S0.length + 1 ≤ 1000000 := by simp at hS; omega
        simp [bopD, lim, this]
      have i1 : ixU (.d (.tuple [.str "again", .int (mn : Int)])) (.d (.int 1)) st = .ok (.d (.int (mn : Int))) st := ix_t1 _
      have s5 : evS gl cf (.ifs (.and (.cmp .eq (.idx (.var 4) (.con (.int 0))) (.con (.str "again"))) (.cmp .gt (.idx (.var 7) (.neg (.con (.int 1)))) (.con (.int 1)))) [.ret (.tup [.idx (.var 4) (.con (.int 1)), .bin .add (.slice (.var 7) [] [.neg (.con (.int 1))]) (.tup [.bin .sub (.idx (.var 7) (.neg (.con (.int 1)))) (.con (.int 1))])])] []) [some (.d X), some (.d P), some (.d (.int ch)), some (.d (.tuple rs)), some (.d (.tuple [.str "again", .int (mn : Int)])), none, some (.d (.int (j : Int))), some (.d (.tuple SM)), some (.d (.tuple []))] st = .ok (.rt (.d (.tuple [.int (mn : Int), .tuple ((S0 ++ [l - 1]).map .int)]))) st := by
        rw [evS, e1, obind_ok]
        generalize S0.map PyData.int = S0M at c1 a1
        generalize (S0 ++ [l - 1]).map PyData.int = S1M at a1
        simp [evSs, evS, evE, evEs, O.bind, i1, il, c1, a1, vw, vt, usD, optI, sliceD, bop, b_sub, lim]
      have body : evSs gl cf b__law_next.body [some (.d X), some (.d P), some (.d (.int ch)), none, none, none, none, none, none] st = _ := evSs_nx s1 (evSs_nx s2 (evSs_nx s3 (evSs_nx s4 (evSs_rt s5))))
      rw [runF, if_pos (by exact ⟨rfl, by decide⟩)]
      exact (congrArg (fun o => O.bind o _) body).trans (fin_st hf rfl)
    · refine ⟨j + 1, _, last "again" [.int m] rfl (by decide +kernel) (by decide +kernel) (fun e he => by rw [he]; exact gt false (decide_eq_false q)) (j + 1) (ahead "again" [.int m] rfl (by decide +kernel) (fun h => absurd h (by decide +kernel))), ?_⟩
      exact Stp.on hkj RK.noConfusion RK.noConfusion
  | cnt c =>
    refine ⟨j + 1, S ++ [c], ?_, Stp.cnt hkj (hcn c rfl)⟩
    have e1 := nag "count" [.int c] rfl (by decide +kernel) _ rfl
    have e2 := ahead "count" [.int c] rfl (by decide +kernel) (fun h => absurd h (by decide +kernel)) _ rfl
    have w1 := wt_e cf "end" 4 (env := [some (.d X), some (.d P), some (.d (.int ch)), some (.d (.tuple rs)), some (.d (.tuple [.str "count", .int c])), none, some (.d (.int (j : Int))), some (.d (.tuple SM)), some (.d (.tuple []))]) st (z := "count") (ps := [.int c]) rfl
    have w2 := wt_e cf "count" 4 (env := [some (.d X), some (.d P), some (.d (.int ch)), some (.d (.tuple rs)), some (.d (.tuple [.str "count", .int c])), some (.d (.int ((j + 1 : Nat) : Int))), some (.d (.int (j : Int))), some (.d (.tuple SM)), some (.d (.tuple []))]) st (z := "count") (ps := [.int c]) rfl
    rw [decide_eq_false (by decide +kernel)] at w1
    rw [decide_eq_true rfl] at w2
    have s4 : evS gl cf (.ifs (.cmp .eq (.idx (.var 4) (.con (.int 0))) (.con (.str "end"))) [.ret (.con .none)] []) [some (.d X), some (.d P), some (.d (.int ch)), some (.d (.tuple rs)), some (.d (.tuple [.str "count", .int c])), none, some (.d (.int (j : Int))), some (.d (.tuple SM)), some (.d (.tuple []))] st = .ok (.nx [some (.d X), some (.d P), some (.d (.int ch)), some (.d (.tuple rs)), some (.d (.tuple [.str "count", .int c])), none, some (.d (.int (j : Int))), some (.d (.tuple SM)), some (.d (.tuple []))]) st := by
      rw [evS, evT, w1, obind_ok]
      simp [O.bind, tru, vw, truD, evSs]
    have s5 : evS gl cf (.ifs (.and (.cmp .eq (.idx (.var 4) (.con (.int 0))) (.con (.str "again"))) (.cmp .gt (.idx (.var 7) (.neg (.con (.int 1)))) (.con (.int 1)))) [.ret (.tup [.idx (.var 4) (.con (.int 1)), .bin .add (.slice (.var 7) [] [.neg (.con (.int 1))]) (.tup [.bin .sub (.idx (.var 7) (.neg (.con (.int 1)))) (.con (.int 1))])])] []) [some (.d X), some (.d P), some (.d (.int ch)), some (.d (.tuple rs)), some (.d (.tuple [.str "count", .int c])), none, some (.d (.int (j : Int))), some (.d (.tuple SM)), some (.d (.tuple []))] st = .ok (.nx [some (.d X), some (.d P), some (.d (.int ch)), some (.d (.tuple rs)), some (.d (.tuple [.str "count", .int c])), none, some (.d (.int (j : Int))), some (.d (.tuple SM)), some (.d (.tuple []))]) st := by
      rw [evS, e1, obind_ok]
      simp [evSs]
    have s6 : evS gl cf (.set 5 (.ife (.or (.cmp .eq (.idx (.var 4) (.con (.int 0))) (.con (.str "go"))) (.and (.cmp .eq (.idx (.var 4) (.con (.int 0))) (.con (.str "test"))) (.cmp .eq (.var 2) (.con (.int 1))))) (.idx (.var 4) (.neg (.con (.int 1)))) (.bin .add (.var 6) (.con (.int 1))))) [some (.d X), some (.d P), some (.d (.int ch)), some (.d (.tuple rs)), some (.d (.tuple [.str "count", .int c])), none, some (.d (.int (j : Int))), some (.d (.tuple SM)), some (.d (.tuple []))] st = .ok (.nx [some (.d X), some (.d P), some (.d (.int ch)), some (.d (.tuple rs)), some (.d (.tuple [.str "count", .int c])), some (.d (.int ((j + 1 : Nat) : Int))), some (.d (.int (j : Int))), some (.d (.tuple SM)), some (.d (.tuple []))]) st := by
      rw [evS, e2, obind_ok]
      rfl
    have a1 : bopD .add (.tuple SM) (.tuple [.int c]) = some (.tuple ((S ++ [c]).map .int)) := by
      have : S.length + 1 ≤ 1000000 := by omega
      rw [hSM]
      simp [bopD, lim, this]
    have i1 : ixU (.d (.tuple [.str "count", .int c])) (.d (.int 1)) st = .ok (.d (.int c)) st := ix_t1 _
    have s7 : evS gl cf (.ifs (.cmp .eq (.idx (.var 4) (.con (.int 0))) (.con (.str "count"))) [.ret (.tup [.var 5, .bin .add (.var 7) (.tup [.idx (.var 4) (.con (.int 1))])])] []) [some (.d X), some (.d P), some (.d (.int ch)), some (.d (.tuple rs)), some (.d (.tuple [.str "count", .int c])), some (.d (.int ((j + 1 : Nat) : Int))), some (.d (.int (j : Int))), some (.d (.tuple SM)), some (.d (.tuple []))] st = .ok (.rt (.d (.tuple [.int ((j + 1 : Nat) : Int), .tuple ((S ++ [c]).map .int)]))) st := by
      rw [evS, evT, w2, obind_ok]
      generalize (S ++ [c]).map PyData.int = S1M at a1
      simp [O.bind, tru, vw, vt, truD, evSs, evS, evE, evEs, i1, usD, bop, a1, lim]
    have body : evSs gl cf b__law_next.body [some (.d X), some (.d P), some (.d (.int ch)), none, none, none, none, none, none] st = _ := evSs_nx s1 (evSs_nx s2 (evSs_nx s3 (evSs_nx s4 (evSs_nx s5 (evSs_nx s6 (evSs_rt s7))))))
    rw [runF, if_pos (by exact ⟨rfl, by decide⟩)]
    exact (congrArg (fun o => O.bind o _) body).trans (fin_st hf rfl)
  | go t =>
    have t0 := hjm t rfl
    obtain ⟨tn, rfl⟩ : ∃ tn : Nat, t = (tn : Int) := ⟨t.toNat, by omega⟩
    refine ⟨tn, _, last "go" [.int (tn : Int)] rfl (by decide +kernel) (by decide +kernel) (nag "go" [.int (tn : Int)] rfl (by decide +kernel)) tn (away "go" [.int (tn : Int)] (tn : Int) rfl (Or.inl rfl) (by simp) (by rw [jT_ok (.go _)])), Stp.jmp hkj⟩
  | test s t =>
    have t0 := hjm t rfl
    obtain ⟨tn, rfl⟩ : ∃ tn : Nat, t = (tn : Int) := ⟨t.toNat, by omega⟩
    by_cases q : ch = 1
    · exact ⟨tn, _, last "test" [.int s, .int (tn : Int)] rfl (by decide +kernel) (by decide +kernel) (nag "test" [.int s, .int (tn : Int)] rfl (by decide +kernel)) tn (away "test" [.int s, .int (tn : Int)] (tn : Int) rfl (Or.inr ⟨rfl, q⟩) (by simp) (by rw [jT_ok (.test _ _)])), Stp.jmp hkj⟩
    · exact ⟨j + 1, _, last "test" [.int s, .int (tn : Int)] rfl (by decide +kernel) (by decide +kernel) (nag "test" [.int s, .int (tn : Int)] rfl (by decide +kernel)) (j + 1) (ahead "test" [.int s, .int (tn : Int)] rfl (by decide +kernel) (fun _ => q)), Stp.on hkj RK.noConfusion RK.noConfusion⟩
  | oth z ps h1 h2 h3 h4 h5 =>
    exact ⟨j + 1, _, last z ps rfl h5 h2 (nag z ps rfl h1) (j + 1) (ahead z ps rfl h3 (fun h => absurd h h4)), Stp.on hkj RK.noConfusion RK.noConfusion⟩
end PI
set_option Elab.async false
set_option linter.all false
set_option maxRecDepth 100000
set_option maxHeartbeats 4000000
namespace PI
open PySem
theorem cAr_zero {ks : List RK} {L : List (Int × Int)} (W : LW ks L) : cAr L ((0 : Nat) : Int) = [] := cAr_none fun p hp => by
  obtain ⟨j, e, _⟩ := (W.c p.1).mp ⟨p.2, hp⟩
  rw [e]
  omega
theorem cAr_two {ks : List RK} {L : List (Int × Int)} (W : LW ks L) : ∀ j : Nat, j ≤ ks.length → (cAr L j).length ≤ 2
  | 0, _ => by rw [cAr_zero W]; simp
  | j + 1, h => by
    have hj : j < ks.length := by omega
    exact (fwd_step W (List.getElem?_eq_getElem hj) (cAr_two W j (by omega))).2
theorem again_last {ks : List RK} {L : List (Int × Int)} (W : LW ks L) {j : Nat} {m : Int} (hj : ks[j]? = some (.agn m)) : (cAr L j).getLast? = some (m - 1) ∧ cAr L ((j + 1 : Nat) : Int) = (cAr L j).dropLast := by
  have hl := (List.getElem?_eq_some_iff.mp hj).1
  have h := (fwd_step W hj (cAr_two W j (by omega))).1
  simp only [nstep] at h
  split at h
  · cases h
  · rename_i p hp
    split at h
    · rename_i e
      split at h
      · cases h
      · have h3 := Option.some.inj h
        refine ⟨?_, h3.symm⟩
        rw [hp, e]
        simp
    · cases h
theorem cnt_next {ks : List RK} {L : List (Int × Int)} (W : LW ks L) {j : Nat} (hj : ks[j]? = some .cnt) : cAr L ((j + 1 : Nat) : Int) = cAr L j ++ [(j : Int)] := by
  have hl := (List.getElem?_eq_some_iff.mp hj).1
  have h := (fwd_step W hj (cAr_two W j (by omega))).1
  simp only [nstep] at h
  split at h
  · cases h
  · exact (Option.some.inj h).symm
theorem on_next {ks : List RK} {L : List (Int × Int)} (W : LW ks L) {j : Nat} {k : RK} (hj : ks[j]? = some k) (h1 : k ≠ .cnt) : cAr L ((j + 1 : Nat) : Int) <+: cAr L j := by
  cases k with
  | cnt => exact absurd rfl h1
  | agn m =>
    rw [(again_last W hj).2]
    exact List.dropLast_prefix _
  | _ =>
    have hl := (List.getElem?_eq_some_iff.mp hj).1
    have h := (fwd_step W hj (cAr_two W j (by omega))).1
    simp only [nstep] at h
    split at h
    · cases h
    · rw [← Option.some.inj h]
      exact List.prefix_refl _
theorem cAr_pw {ks : List RK} {L : List (Int × Int)} (W : LW ks L) (r : Int) : (cAr L r).Pairwise (· < ·) := by
  unfold cAr
  rw [List.pairwise_map]
  exact W.pw.filter _
theorem back_same {ks : List RK} {L : List (Int × Int)} (W : LW ks L) {p q : Int} (h : (p, q) ∈ L) : cAr L (p + 1) = cAr L q := by
  have lt := W.lt _ h
  simp only at lt
  refine cAr_congr fun o ho => ?_
  have lo := W.lt o ho
  refine ⟨fun ⟨a, b⟩ => ?_, fun ⟨a, b⟩ => ?_⟩
  · by_cases e : o.1 = p
    · have : o.2 = q := by
        have u : ∀ x ∈ L, ∀ y ∈ L, x.1 = y.1 → x = y := by
          intro x hx y hy exy
          rcases List.mem_iff_getElem.mp hx with ⟨i, hi, rfl⟩
          rcases List.mem_iff_getElem.mp hy with ⟨i', hi', rfl⟩
          rcases Nat.lt_trichotomy i i' with c | c | c
          · have := List.pairwise_iff_getElem.mp W.pw i i' hi hi' c
            omega
          · subst c; rfl
          · have := List.pairwise_iff_getElem.mp W.pw i' i hi' hi c
            omega
        have := u o ho (p, q) h e
        rw [this]
      omega
    · have := W.lam (p, q) h o.1 o.2 ho (by simp only; omega) (by simp only; omega)
      simp only at this
      omega
  · by_cases c : o.1 ≤ p
    · omega
    · have := W.lam o ho p q h (by omega) (by omega)
      omega
/-- a jump leads out of loops alone -/
theorem jmp_prefix {ks : List RK} {L : List (Int × Int)} (W : LW ks L) {j t : Int} (hj : j < t) (h2 : (cAr L j).length ≤ 2) (hs : ∀ c ∈ cAr L t, c ∈ cAr L j) : cAr L t <+: cAr L j := by
  have pj := cAr_pw W j
  have pt := cAr_pw W t
  -- what stands around t is shut under what lies further out around j
  have down : ∀ c d, c ∈ cAr L j → d ∈ cAr L t → c < d → c ∈ cAr L t := by
    intro c d hc hd cd
    obtain ⟨b, hb, b1, b2⟩ := mem_cAr.mp hc
    obtain ⟨b', hb', b3, b4⟩ := mem_cAr.mp hd
    obtain ⟨b'', hb'', b5, b6⟩ := mem_cAr.mp (hs d hd)
    have := W.lam (d, b') hb' c b hb cd (by simp only; omega)
    simp only at this
    exact mem_cAr.mpr ⟨b, hb, by omega, by omega⟩
  generalize cAr L j = C at *
  generalize cAr L t = T at *
  match C, T with
  | _, [] => exact List.nil_prefix
  | [], a :: r => exact absurd (hs a (by simp)) (by simp)
  | [f], [a] =>
    have := hs a (by simp)
    simp at this
    rw [this]
    exact List.prefix_refl _
  | [f], a :: b :: r =>
    have h1 := hs a (by simp)
    have h2 := hs b (by simp)
    have := (List.pairwise_cons.mp pt).1 b (by simp)
    simp at h1 h2
    omega
  | [f, g], [a] =>
    have h1 := hs a (by simp)
    simp at h1
    rcases h1 with rfl | rfl
    · exact ⟨[g], rfl⟩
    · have fg := (List.pairwise_cons.mp pj).1 a (by simp)
      have := down f a (by simp) (by simp) fg
      simp at this
      omega
  | [f, g], [a, b] =>
    have h1 := hs a (by simp)
    have h2 := hs b (by simp)
    have ab := (List.pairwise_cons.mp pt).1 b (by simp)
    have fg := (List.pairwise_cons.mp pj).1 g (by simp)
    simp at h1 h2
    have e1 : a = f := by omega
    have e2 : b = g := by omega
    rw [e1, e2]
    exact List.prefix_refl _
  | [f, g], a :: b :: c :: r =>
    have h1 := hs a (by simp)
    have h2 := hs b (by simp)
    have h3 := hs c (by simp)
    have ab := (List.pairwise_cons.mp pt).1 b (by simp)
    have bc := (List.pairwise_cons.mp (List.pairwise_cons.mp pt).2).1 c (by simp)
    simp at h1 h2 h3
    omega
  | f :: g :: h :: r, _ => simp at h2
/-! ### the measure -/
def enc (a b c d e : Nat) : Nat := (((a * 7 + b) * 16 + c) * 7 + d) * 16 + e
def mu (n j : Nat) (C S : List Int) : Nat := match C, S with
  | [], _ => enc (n - 1 - j) 6 0 0 0
  | [f], [l] => enc (n - 1 - f.toNat) (l - 1).toNat (n - 1 - j) 6 0
  | [f, g], [l, m] => enc (n - 1 - f.toNat) (l - 1).toNat (n - 1 - g.toNat) (m - 1).toNat (n - 1 - j)
  | _, _ => 0
/-- where a walk stands -/
structure WS (ks : List RK) (L : List (Int × Int)) (j : Nat) (S : List Int) : Prop where
  lt : j < ks.length
  len : S.length = (cAr L j).length
  rng : ∀ l ∈ S, 1 ≤ l ∧ l ≤ 6
theorem cAr_lt {ks : List RK} {L : List (Int × Int)} (W : LW ks L) {r c : Int} (h : c ∈ cAr L r) : 0 ≤ c ∧ c < r := by
  obtain ⟨b, hb, h1, _⟩ := mem_cAr.mp h
  obtain ⟨j, e, _⟩ := (W.c c).mp ⟨b, hb⟩
  omega
theorem mu_lt {ks : List RK} {L : List (Int × Int)} (W : LW ks L) {j : Nat} {S : List Int} (h : WS ks L j S) (hn : ks.length ≤ 16) : mu ks.length j (cAr L j) S < 200704 := by
  have r := h.rng
  have el := h.len
  have l2 := cAr_two W j (by have := h.lt; omega)
  generalize cAr L (j : Int) = C at *
  match C, S, el with
  | [], _, _ => simp only [mu, enc]; omega
  | [f], [l], _ =>
    have := r l (by simp)
    simp only [mu, enc]; omega
  | [f, g], [l, m], _ =>
    have := r l (by simp)
    have := r m (by simp)
    simp only [mu, enc]; omega
  | f :: g :: h :: r, _, _ => simp at l2
/-- on, to a row ahead that stands in some of the loops -/
theorem mu_ahead {ks : List RK} {L : List (Int × Int)} (W : LW ks L) {j j' : Nat} {S : List Int} (h : WS ks L j S) (hn : ks.length ≤ 16) (hj : j < j') (hj' : j' < ks.length) (hp : cAr L j' <+: cAr L j) :
    WS ks L j' (S.take (cAr L j').length) ∧ mu ks.length j' (cAr L j') (S.take (cAr L j').length) < mu ks.length j (cAr L j) S := by
  have l2 := cAr_two W j (by omega)
  have lp := hp.length_le
  have el := h.len
  refine ⟨⟨hj', by rw [List.length_take, h.len]; omega, fun l hl => h.rng l (List.mem_of_mem_take hl)⟩, ?_⟩
  have cl := fun c (hc : c ∈ cAr L j) => cAr_lt W hc
  have r := h.rng
  generalize cAr L (j : Int) = C at *
  generalize cAr L (j' : Int) = T at *
  match C, T, S, el with
  | [], [], [], _ => simp only [mu, enc, List.length_nil, List.take_zero]; omega
  | [f], [], [l], _ =>
    have := cl f (by simp)
    simp only [mu, enc]; omega
  | [f], [t], [l], _ =>
    have e : t = f := by simpa using hp
    subst e
    simp only [mu, enc, List.length_singleton, List.take_succ_cons, List.take_zero]
    omega
  | [f, g], [], [l, m], _ =>
    have := cl f (by simp)
    simp only [mu, enc]; omega
  | [f, g], [t], [l, m], _ =>
    have e : t = f := by simpa using hp
    subst e
    have := cl g (by simp)
    have := r m (by simp)
    simp only [mu, enc, List.length_singleton, List.take_succ_cons, List.take_zero]
    omega
  | [f, g], [t, u], [l, m], _ =>
    have e : t = f ∧ u = g := by simpa using hp
    obtain ⟨rfl, rfl⟩ := e
    simp only [mu, enc, List.length_cons, List.length_nil, List.take_succ_cons, List.take_zero]
    omega
  | [], t :: r, _, _ => simp at lp
  | [f], t :: u :: r, _, _ => simp at lp
  | [f, g], t :: u :: v :: r, _, _ => simp at lp
  | f :: g :: h :: r, _, _, _ => simp at l2
theorem mu_cnt {ks : List RK} {L : List (Int × Int)} (W : LW ks L) {j : Nat} {S : List Int} (h : WS ks L j S) (hn : ks.length ≤ 16) (hj : ks[j]? = some .cnt) (hj' : j + 1 < ks.length) {c : Int} (hc : 1 ≤ c ∧ c ≤ 6) :
    WS ks L (j + 1) (S ++ [c]) ∧ mu ks.length (j + 1) (cAr L ((j + 1 : Nat) : Int)) (S ++ [c]) < mu ks.length j (cAr L j) S := by
  have e := cnt_next W hj
  have l2 := cAr_two W (j + 1) (by omega)
  have el := h.len
  rw [e] at l2 ⊢
  refine ⟨⟨hj', by rw [e, List.length_append, List.length_append, el]; rfl, fun l hl => ?_⟩, ?_⟩
  · rcases List.mem_append.mp hl with m | m
    · exact h.rng l m
    · rw [List.mem_singleton.mp m]
      exact hc
  have cl := fun c (hc : c ∈ cAr L j) => cAr_lt W hc
  have lt := h.lt
  generalize cAr L (j : Int) = C at *
  match C, S, el with
  | [], [], _ =>
    simp only [List.nil_append, mu, enc]
    omega
  | [f], [l], _ =>
    simp only [List.cons_append, List.nil_append, mu, enc]
    omega
  | f :: g :: r, _, _ => simp at l2
theorem mu_back {ks : List RK} {L : List (Int × Int)} (W : LW ks L) {j m : Nat} {S : List Int} (h : WS ks L j S) (hn : ks.length ≤ 16) (hj : ks[j]? = some (.agn (m : Int))) {l : Int} (hl : S.getLast? = some l) (h1 : 1 < l) :
    WS ks L m (S.dropLast ++ [l - 1]) ∧ mu ks.length m (cAr L m) (S.dropLast ++ [l - 1]) < mu ks.length j (cAr L j) S ∧ m ≤ j ∧ ((m : Int) - 1, (j : Int)) ∈ L := by
  have mem : ((m : Int) - 1, (j : Int)) ∈ L := (W.a _ _).mpr ⟨j, rfl, by rw [hj]; simp⟩
  have lt := W.lt _ mem
  simp only at lt
  have same := back_same W mem
  rw [show (m : Int) - 1 + 1 = (m : Int) by omega] at same
  have l2 := cAr_two W j (by have := h.lt; omega)
  have el := h.len
  have jl := h.lt
  have r := h.rng
  obtain ⟨S0, rfl⟩ : ∃ S0, S = S0 ++ [l] := List.getLast?_eq_some_iff.mp hl
  rw [List.dropLast_concat]
  refine ⟨⟨by omega, by rw [same, ← el]; simp, fun x hx => ?_⟩, ?_, by omega, mem⟩
  · rcases List.mem_append.mp hx with q | q
    · exact r x (by simp [q])
    · rw [List.mem_singleton.mp q]
      have := r l (by simp)
      omega
  rw [same]
  have cl := fun c (hc : c ∈ cAr L j) => cAr_lt W hc
  have rl := r l (by simp)
  generalize cAr L (j : Int) = C at *
  match C, S0, el with
  | [f], [], _ =>
    simp only [List.nil_append, mu, enc]
    omega
  | [f, g], [l0], _ =>
    simp only [List.cons_append, List.nil_append, mu, enc]
    omega
  | [], _, e => simp at e
  | [f], _ :: _, e => simp at e
  | [f, g], [], e => simp at e
  | [f, g], _ :: _ :: _, e => simp at e
  | f :: g :: h :: r, _, _ => simp at l2
end PI
set_option Elab.async false
set_option linter.all false
set_option maxRecDepth 100000
set_option maxHeartbeats 4000000
namespace PI
open PySem
theorem filt_next : ∀ {D : List Int}, D.Pairwise (· < ·) → ∀ {j j' : Int}, j < j' → (∀ s ∈ D, ¬(j < s ∧ s < j')) → D.filter (fun s => decide (s ≤ j')) = D.filter (fun s => decide (s ≤ j)) ++ (if j' ∈ D then [j'] else [])
  | [], _, j, j', _, _ => by simp
  | s :: r, hp, j, j', hj, hs => by
    obtain ⟨h1, h2⟩ := List.pairwise_cons.mp hp
    by_cases q : s ≤ j
    · have ih := filt_next h2 hj fun x hx => hs x (by simp [hx])
      have ne : j' ≠ s := by omega
      rw [List.filter_cons_of_pos (by simp; omega), List.filter_cons_of_pos (by simp [q]), ih]
      simp [ne]
    · have hs' := hs s (by simp)
      have e1 : r.filter (fun s => decide (s ≤ j)) = [] := List.filter_eq_nil_iff.mpr fun x hx => by
        have := h1 x hx
        simp
        omega
      have e2 : r.filter (fun s => decide (s ≤ j')) = [] := List.filter_eq_nil_iff.mpr fun x hx => by
        have := h1 x hx
        simp
        omega
      have e3 : (s :: r).filter (fun s => decide (s ≤ j)) = [] := by
        rw [List.filter_cons_of_neg (by simp; omega), e1]
      rw [e3]
      by_cases e : s = j'
      · subst e
        rw [List.filter_cons_of_pos (by simp), e2]
        simp
      · have nm : j' ∉ s :: r := by
          intro hm
          rcases List.mem_cons.mp hm with h | h
          · omega
          · have := h1 _ h
            omega
        rw [List.filter_cons_of_neg (by simp; omega), e2, if_neg nm]
        rfl
def seamD (L J : List (Int × Int)) (n : Nat) : List Int := 0 :: (inI n).filter (seamB L J)
theorem seamI_D (L J : List (Int × Int)) (n : Nat) : seamI L J n = seamD L J n ++ [(n : Int)] := by simp [seamI, seamD]
theorem mem_inI {n : Nat} {s : Int} (h : s ∈ inI n) : 1 ≤ s ∧ s < n := by
  obtain ⟨i, hi, rfl⟩ := List.mem_map.mp h
  have := List.mem_range.mp hi
  omega
theorem inI_pw (n : Nat) : (inI n).Pairwise (· < ·) := by
  rw [inI, List.pairwise_map]
  exact List.pairwise_lt_range.imp fun h => by omega
theorem seamD_pw (L J : List (Int × Int)) (n : Nat) : (seamD L J n).Pairwise (· < ·) := by
  refine List.pairwise_cons.mpr ⟨fun s hs => ?_, (inI_pw n).filter _⟩
  have := mem_inI (List.mem_filter.mp hs).1
  omega
/-- a code's kinds -/
structure CW (ks : List RK) (L : List (Int × Int)) : Prop where
  W : LW ks L
  n1 : 1 ≤ ks.length
  n16 : ks.length ≤ 16
  fin : ∀ j, ks[j]? = some .fin ↔ j + 1 = ks.length
  jmp : ∀ (j : Nat) t, ks[j]? = some (.jmp t) → (j : Int) < t ∧ t < ks.length ∧ ∀ c ∈ cAr L t, c ∈ cAr L j
theorem jps_mem : ∀ (ks : List RK) (i j : Nat) (t : Int), ks[j]? = some (.jmp t) → (((i + j : Nat) : Int), t) ∈ jps i ks
  | [], i, j, t, h => by simp at h
  | k :: r, i, 0, t, h => by
    have e : k = .jmp t := by simpa using h
    subst e
    simp [jps]
  | k :: r, i, j + 1, t, h => by
    have ih := jps_mem r (i + 1) j t (by simpa using h)
    rw [show i + 1 + j = i + (j + 1) by omega] at ih
    cases k with
    | jmp u => simp only [jps, List.mem_cons]; exact Or.inr ih
    | _ => simpa [jps] using ih
theorem seam_facts {ks : List RK} {L : List (Int × Int)} (C : CW ks L) {s : Int} (hs : s ∈ seamD L (jps 0 ks) ks.length) : 0 ≤ s ∧ s < ks.length ∧ cAr L s = [] ∧ ∀ (j : Nat) t, ks[j]? = some (.jmp t) → ¬((j : Int) < s ∧ s < t) := by
  have n1 := C.n1
  rcases List.mem_cons.mp hs with rfl | h
  · refine ⟨by omega, by omega, cAr_zero C.W, fun j t hj => by omega⟩
  · obtain ⟨h1, h2⟩ := List.mem_filter.mp h
    have r := mem_inI h1
    simp only [seamB, Bool.and_eq_true, decide_eq_true_eq, Bool.not_eq_true'] at h2
    refine ⟨by omega, by omega, h2.1, fun j t hj hb => ?_⟩
    have m := jps_mem ks 0 j t hj
    rw [Nat.zero_add] at m
    have : overB (jps 0 ks) s = true := by
      rw [overB, List.any_eq_true]
      exact ⟨_, m, by simp [hb]⟩
    rw [this] at h2
    exact absurd h2.2 (by simp)
/-- what the visited seams are -/
def VI (ks : List RK) (L : List (Int × Int)) (j : Nat) (V : List Int) : Prop := V.filter (fun x => decide (x ∈ seamI L (jps 0 ks) ks.length)) = (seamD L (jps 0 ks) ks.length).filter (fun s => decide (s ≤ (j : Int)))
theorem VI.ahead {ks : List RK} {L : List (Int × Int)} {j j' : Nat} {V : List Int} (h : VI ks L j V) (hj : j < j') (hj' : j' < ks.length) (hs : ∀ s ∈ seamD L (jps 0 ks) ks.length, ¬((j : Int) < s ∧ s < (j' : Int))) : VI ks L j' (V ++ [(j' : Int)]) := by
  unfold VI at h ⊢
  rw [List.filter_append, h, filt_next (seamD_pw _ _ _) (by omega : (j : Int) < (j' : Int)) hs]
  congr 1
  have e : ((j' : Int) ∈ seamI L (jps 0 ks) ks.length) ↔ (j' : Int) ∈ seamD L (jps 0 ks) ks.length := by
    rw [seamI_D, List.mem_append, List.mem_singleton]
    constructor
    · rintro (h | h)
      · exact h
      · omega
    · exact Or.inl
  by_cases q : (j' : Int) ∈ seamD L (jps 0 ks) ks.length
  · rw [if_pos q, List.filter_cons_of_pos (by simp [e, q])]
    rfl
  · rw [if_neg q, List.filter_cons_of_neg (by simp [e, q])]
    rfl
theorem VI.back {ks : List RK} {L : List (Int × Int)} (C : CW ks L) {j m : Nat} {V : List Int} (h : VI ks L j V) (hm : m ≤ j) (hj : j < ks.length) (hp : ((m : Int) - 1, (j : Int)) ∈ L) : VI ks L m (V ++ [(m : Int)]) := by
  unfold VI at h ⊢
  have no : ∀ s ∈ seamD L (jps 0 ks) ks.length, ¬((m : Int) ≤ s ∧ s ≤ (j : Int)) := fun s hs hb => by
    have f := (seam_facts C hs).2.2.1
    have : (m : Int) - 1 ∈ cAr L s := mem_cAr.mpr ⟨_, hp, by omega, by omega⟩
    rw [f] at this
    cases this
  have nm : ¬((m : Int) ∈ seamI L (jps 0 ks) ks.length) := by
    rw [seamI_D, List.mem_append, List.mem_singleton]
    rintro (h | h)
    · exact no _ h ⟨by omega, by omega⟩
    · omega
  rw [List.filter_append, h, List.filter_cons_of_neg (by simp [nm]), List.filter_nil, List.append_nil]
  refine List.filter_congr fun s hs => ?_
  have := no s hs
  by_cases q : s ≤ (j : Int)
  · rw [decide_eq_true q, decide_eq_true (by omega)]
  · rw [decide_eq_false q, decide_eq_false (by omega)]
theorem stp_ok {ks : List RK} {L : List (Int × Int)} (C : CW ks L) {j j' : Nat} {S S' V : List Int} (hs : Stp ks L j S j' S') (h : WS ks L j S) (hV : VI ks L j V) (hnf : ks[j]? ≠ some .fin) :
    WS ks L j' S' ∧ mu ks.length j' (cAr L j') S' < mu ks.length j (cAr L j) S ∧ VI ks L j' (V ++ [(j' : Int)]) := by
  have hl := h.lt
  have j1 : j + 1 < ks.length := by
    have : ¬(j + 1 = ks.length) := fun e => hnf ((C.fin j).mpr e)
    omega
  cases hs with
  | back hk hl2 h1 =>
    obtain ⟨a, b, c, d⟩ := mu_back C.W h C.n16 hk hl2 h1
    exact ⟨a, b, hV.back C c hl d⟩
  | on hk hc hf =>
    obtain ⟨a, b⟩ := mu_ahead C.W h C.n16 (by omega : j < j + 1) j1 (on_next C.W hk hc)
    exact ⟨a, b, hV.ahead (by omega) j1 fun s _ => by omega⟩
  | cnt hk hc =>
    obtain ⟨a, b⟩ := mu_cnt C.W h C.n16 hk j1 hc
    exact ⟨a, b, hV.ahead (by omega) j1 fun s _ => by omega⟩
  | jmp hk =>
    obtain ⟨t1, t2, t3⟩ := C.jmp j _ hk
    obtain ⟨a, b⟩ := mu_ahead C.W h C.n16 (by omega : j < j') (by omega) (jmp_prefix C.W t1 (cAr_two C.W j (by omega)) t3)
    exact ⟨a, b, hV.ahead (by omega) (by omega) fun s hs => (seam_facts C hs).2.2.2 j _ hk⟩
theorem VI.all {ks : List RK} {L : List (Int × Int)} (C : CW ks L) {j : Nat} {V : List Int} (h : VI ks L j V) (hj : ks[j]? = some .fin) : V.filter (fun x => decide (x ∈ seamI L (jps 0 ks) ks.length)) = seamD L (jps 0 ks) ks.length := by
  rw [h, List.filter_eq_self]
  intro s hs
  have := (seam_facts C hs).2.1
  have := (C.fin j).mp hj
  simp
  omega
theorem VI.zero {ks : List RK} {L : List (Int × Int)} (C : CW ks L) : VI ks L 0 [0] := by
  unfold VI
  have m : (0 : Int) ∈ seamI L (jps 0 ks) ks.length := by simp [seamI]
  rw [List.filter_cons_of_pos (by simp [m]), List.filter_nil]
  have p := seamD_pw L (jps 0 ks) ks.length
  unfold seamD at p ⊢
  rw [List.filter_cons_of_pos (by simp)]
  have e : ((inI ks.length).filter (seamB L (jps 0 ks))).filter (fun s => decide (s ≤ ((0 : Nat) : Int))) = [] := List.filter_eq_nil_iff.mpr fun x hx => by
    have := mem_inI (List.mem_filter.mp hx).1
    simp
    omega
  rw [e]
theorem WS.zero {ks : List RK} {L : List (Int × Int)} (C : CW ks L) : WS ks L 0 [] := ⟨C.n1, by rw [cAr_zero C.W], fun l hl => by cases hl⟩
theorem mem_fins : ∀ (ks : List RK) (i : Nat) (p : Int), p ∈ fins i ks ↔ ∃ j : Nat, p = ((i + j : Nat) : Int) ∧ ks[j]? = some .fin
  | [], i, p => by simp [fins]
  | k :: r, i, p => by
    have ih := mem_fins r (i + 1) p
    have sh : (∃ j : Nat, p = ((i + 1 + j : Nat) : Int) ∧ r[j]? = some .fin) → ∃ j : Nat, p = ((i + j : Nat) : Int) ∧ (k :: r)[j]? = some .fin := fun ⟨j, e, h⟩ => ⟨j + 1, by omega, by simpa using h⟩
    have un : (∃ j : Nat, p = ((i + j : Nat) : Int) ∧ (k :: r)[j]? = some .fin) → (k = .fin ∧ p = (i : Int)) ∨ ∃ j : Nat, p = ((i + 1 + j : Nat) : Int) ∧ r[j]? = some .fin := by
      rintro ⟨j, e, h⟩
      cases j with
      | zero => exact Or.inl ⟨by simpa using h, by simpa using e⟩
      | succ j => exact Or.inr ⟨j, by omega, by simpa using h⟩
    cases k with
    | fin =>
      simp only [fins, List.mem_cons, ih]
      constructor
      · rintro (rfl | h)
        · exact ⟨0, by simp, rfl⟩
        · exact sh h
      · intro h
        rcases un h with ⟨_, e⟩ | h
        · exact Or.inl e
        · exact Or.inr h
    | _ =>
      simp only [fins, ih]
      constructor
      · exact sh
      · intro h
        rcases un h with ⟨e, _⟩ | h
        · cases e
        · exact h
theorem jW_at {L : List (Int × Int)} : ∀ (ks : List RK) (i : Nat), jW L i ks = true → ∀ (j : Nat) t, ks[j]? = some (.jmp t) → jB L ((i + j : Nat) : Int) t = true
  | [], i, h, j, t, hj => by simp at hj
  | k :: r, i, h, j, t, hj => by
    cases j with
    | zero =>
      have e : k = .jmp t := by simpa using hj
      subst e
      simp only [jW, Bool.and_eq_true] at h
      exact h.1
    | succ j =>
      have hr : jW L (i + 1) r = true := by
        cases k with
        | jmp u => simp only [jW, Bool.and_eq_true] at h; exact h.2
        | _ => simpa [jW] using h
      have := jW_at r (i + 1) hr j t (by simpa using hj)
      rwa [show i + 1 + j = i + (j + 1) by omega] at this
theorem rok_at : ∀ {rs : List PyData} {ks : List RK}, RL rs ks → ∀ (j : Nat) {r : PyData}, rs[j]? = some r → ∃ k, ks[j]? = some k ∧ ROK r k
  | _, _, .nil, j, r, h => by simp at h
  | _, _, .cons (k := k) hr R, 0, r, h => by
    simp only [List.getElem?_cons_zero, Option.some.injEq] at h
    subst h
    exact ⟨k, rfl, hr⟩
  | _, _, .cons hr R, j + 1, r, h => by
    simpa using rok_at R j (by simpa using h)
theorem code_cw {rs : List PyData} {m ar : Int} (h1 : 1 ≤ rs.length) (h16 : rs.length ≤ 16) (hf : (rs.all fun r => formD r m ar rs.length) = true) (hr : rwD rs = true) : CW (rs.map rkOf) (codeL rs) := by
  simp only [rwD, Bool.and_eq_true, decide_eq_true_eq] at hr
  obtain ⟨f1, f2, f3⟩ := hr
  refine ⟨lw_of f2, by simpa using h1, by simpa using h16, fun j => ?_, fun j t hj => ?_⟩
  · have e : (rs.length : Int) - 1 ∈ fins 0 (rs.map rkOf) := by rw [f1]; simp
    rw [List.length_map]
    constructor
    · intro h
      have : ((0 + j : Nat) : Int) ∈ fins 0 (rs.map rkOf) := (mem_fins _ 0 _).mpr ⟨j, rfl, h⟩
      rw [f1] at this
      simp at this
      omega
    · intro h
      obtain ⟨i, e1, e2⟩ := (mem_fins _ 0 _).mp e
      have : i = j := by omega
      rw [← this]
      exact e2
  · have b := jW_at _ 0 f3 j t hj
    rw [Nat.zero_add] at b
    simp only [jB, Bool.and_eq_true, Bool.not_eq_true', decide_eq_false_iff_not, List.all_eq_true, decide_eq_true_eq] at b
    refine ⟨by omega, ?_, b.2⟩
    rw [List.getElem?_map] at hj
    obtain ⟨r, hr1, hr2⟩ := Option.map_eq_some_iff.mp hj
    have hm : r ∈ rs := List.mem_of_getElem? hr1
    have fr := List.all_eq_true.mp hf r hm
    have ro := rok_of fr
    rw [hr2] at ro
    rw [List.length_map]
    cases ro with
    | go _ =>
      simp only [formD, lk_go, List.map_cons, List.map_nil, spanK, fitL, wholeD, Bool.and_true, Bool.and_eq_true, decide_eq_true_eq] at fr
      omega
    | test s _ =>
      simp only [formD, lk_test, List.map_cons, List.map_nil, spanK, fitL, wholeD, Bool.and_true, Bool.and_eq_true, decide_eq_true_eq] at fr
      omega
end PI
set_option Elab.async false
set_option linter.all false
set_option maxRecDepth 100000
set_option maxHeartbeats 4000000
namespace PI
open PySem
theorem whl_run {c : Ev → Sto → O Bool} {f : Ev → Sto → O Fl} (I : Nat → Ev → Sto → Prop) (D : Ev → Sto → Prop)
    (step : ∀ m e s, I m e s → (c e s = .ok false s ∧ D e s) ∨ (c e s = .ok true s ∧ ∃ m' e' s', m' < m ∧ f e s = .ok (.nx e') s' ∧ I m' e' s')) :
    ∀ (fuel m : Nat) (e : Ev) (s : Sto), m < fuel → I m e s → ∃ e' s', whlL c f fuel e s = .ok (.nx e') s' ∧ D e' s'
  | 0, m, e, s, h, _ => absurd h (by omega)
  | fuel + 1, m, e, s, h, hi => by
    rcases step m e s hi with ⟨q, d⟩ | ⟨q, m', e', s', hm, q2, hi'⟩
    · exact ⟨e, s, by simp [whlL, q, O.bind], d⟩
    · obtain ⟨e2, s2, q3, d⟩ := whl_run I D step fuel m' e' s' (by omega) hi'
      exact ⟨e2, s2, by simp [whlL, q, q2, O.bind, q3], d⟩
theorem ix_olast {st : Sto} {a : Nat} {S : List Int} (lk : st[a]? = some (.lst (uI S))) {p : Int} (h : S.getLast? = some p) : ixU (.o a) (.d (.int (-1))) st = .ok (.d (.int p)) st := by
  have a' : L2.atI (uI S) (-1) = some (.d (.int p)) := by
    obtain ⟨ys, e⟩ := List.getLast?_eq_some_iff.mp h
    subst e
    have l : (1 : Int) ≤ (ys.length : Int) + 1 := by omega
    have l2 : (-1 + ((ys.length : Int) + 1)).toNat = ys.length := by omega
    simp [uI, L2.atI, L2.ixN, l, l2]
  have d : dictGet st (.o a) (.int (-1)) = none := by simp only [dictGet, lk]
  simp only [ixU, d, lk, a']
theorem cmp_ne_str (x y : Str) : cmpD .ne (.str x) (.str y) = some (!decide (x = y)) := by
  simp only [cmpD, flatD, Bool.and_self, Bool.true_or, if_true, PyData.eqv]
  by_cases h : x = y <;> simp [h]
theorem rok_end {r : PyData} {k : RK} (h : ROK r k) : ∃ z ps, r = .tuple (.str z :: ps) ∧ (z = "end" ↔ k = .fin) := by
  cases h with
  | oth z ps h1 h2 h3 h4 h5 => exact ⟨z, ps, rfl, ⟨fun e => absurd e h5, fun e => by cases e⟩⟩
  | agn m => exact ⟨_, _, rfl, ⟨fun e => absurd e (by decide +kernel), fun e => by cases e⟩⟩
  | cnt m => exact ⟨_, _, rfl, ⟨fun e => absurd e (by decide +kernel), fun e => by cases e⟩⟩
  | go m => exact ⟨_, _, rfl, ⟨fun e => absurd e (by decide +kernel), fun e => by cases e⟩⟩
  | test s m => exact ⟨_, _, rfl, ⟨fun e => absurd e (by decide +kernel), fun e => by cases e⟩⟩
  | fin => exact ⟨_, _, rfl, ⟨fun _ => rfl, fun _ => rfl⟩⟩
def lcE (n a : Nat) (X : PyData) (S : List Int) (a4 : Option U) : Ev := [some (.o n), some (.d X), some (.o a), some (.d (.tuple (S.map .int))), a4]
theorem come_ok (k : Nat) {st : Sto} {n m : Nat} {Xo : Ob} (h : st[n]? = some Xo) (hx : PotX m Xo) (hf : Flat st) (hm9 : m < 2 ^ 45) {a b c d : PyData} {rs : List PyData} (hc : codeD (.tuple [a, b, c, d, .tuple rs]) = true) (h16 : rs.length ≤ 16) :
    ∃ (V : List Int) (Y : Ob), callN gl fnT (k + 3) 32 [.o n, .d (.tuple [a, b, c, d, .tuple rs])] st = .ok (.d (.list (V.map .int))) (st.set n Y) ∧ PotX (m + 200710) Y ∧ V.filter (fun x => decide (x ∈ seamI (codeL rs) (jps 0 (rs.map rkOf)) rs.length)) = seamD (codeL rs) (jps 0 (rs.map rkOf)) rs.length ∧ V.length ≤ 200710 := by
  have hn := len_at h
  have l60 : (200715 : Nat) < lim := by decide
  obtain ⟨_, _, _, _, rs', mm, ar, he, h1, h2, h3, h4, _, _⟩ := code_parts hc
  cases he
  have R := rl_of h3
  have C := code_cw h1 h16 h3 h4
  have hkl : (rs.map rkOf).length = rs.length := by simp
  have cl := codeL_len rs
  obtain ⟨X, hX⟩ : ∃ X, X = PyData.tuple [a, b, c, d, .tuple rs] := ⟨_, rfl⟩
  obtain ⟨ks, hks⟩ : ∃ ks, ks = rs.map rkOf := ⟨_, rfl⟩
  obtain ⟨L, hL⟩ : ∃ L, L = codeL rs := ⟨_, rfl⟩
  have hNx : ∀ {s : Sto} (hs : Flat s) {j : Nat} {S : List Int} (hw : WS ks L j S) (hnf : ks[j]? ≠ some .fin) (ch : Int), ∃ j' S', callN gl fnT (k + 2) 30 [.d X, .d (.tuple [.int (j : Int), .tuple (S.map .int), .tuple []]), .d (.int ch)] s = .ok (.d (.tuple [.int ((j' : Nat) : Int), .tuple (S'.map .int)])) s ∧ Stp ks L j S j' S' := by
    intro s hs j S hw hnf ch
    have lo := lloops_ok k hs R (by omega)
    have la := fun s' => laround_ok k hs (codeL rs) (by omega) s'
    have jl := hw.lt
    rw [hks, hkl] at jl
    have hr := List.getElem?_eq_getElem jl
    obtain ⟨kk, hk1, hk2⟩ := rok_at R j hr
    rw [← hks] at hk1
    rw [show k + 2 = (k + 1) + 1 from rfl, callN]
    simp only [fnT, List.getElem?_cons_succ, List.getElem?_cons_zero]
    rw [show sortP (ags 0 (rs.map rkOf)) = codeL rs from rfl, ← hL] at lo
    rw [← hL] at la
    have fr := List.all_eq_true.mp h3 _ (List.getElem_mem jl)
    have c2 := cAr_two C.W j (by rw [hkl]; omega)
    have el := hw.len
    rw [hX]
    refine next_ok hs (by omega) (by rw [hL]; omega) lo la hr hk2 hk1 (fun e => hnf (by rw [hk1, e])) (fun m' e => ?_) (fun t e => ?_) (fun c' e => ?_) S (by rw [el, hL]; omega) (fun m' e hS => ?_) ch
    · subst e
      obtain ⟨p, q, hq⟩ : ∃ p q, m' = p + 1 ∧ (p, q) ∈ codeL rs := ⟨m' - 1, (j : Int), by omega, (C.W.a _ _).mpr ⟨j, rfl, by rw [← hks, hk1]; simp⟩⟩
      obtain ⟨j0, e0, _⟩ := (C.W.c p).mp ⟨q, hq.2⟩
      omega
    · subst e
      have := (C.jmp j t (by rw [← hks]; exact hk1)).1
      omega
    · rw [e] at fr
      simp only [formD, lk_count, List.map_cons, List.map_nil, spanK, fitL, wholeD, Bool.and_true, Bool.and_eq_true, decide_eq_true_eq] at fr
      omega
    · subst e
      have := (again_last C.W (j := j) (m := m') (by rw [← hks]; exact hk1)).1
      rw [← hL] at this
      rw [hS] at el
      have e0 : cAr L (j : Int) = [] := List.length_eq_zero_iff.mp el.symm
      rw [e0] at this
      cases this
  have hT : TakeF (callN gl fnT (k + 2)) := takeF (k + 1)
  rw [← hks, ← hL] at C
  rw [← hX, ← hks, ← hL, show k + 3 = (k + 2) + 1 from rfl, callN]
  have i4 : ∀ s, ixU (.d X) (.d (.int 4)) s = .ok (.d (.tuple rs)) s := fun s => by rw [hX]; exact ix_t4 s
  generalize callN gl fnT (k + 2) = cf at hT hNx
  simp only [fnT, List.getElem?_cons_succ, List.getElem?_cons_zero]
  have s1 : evS gl cf (.set 2 (.lst true [.con (.int 0)])) [some (.o n), some (.d X), none, none, none] st = .ok (.nx [some (.o n), some (.d X), some (.o st.length), none, none]) (st ++ [.lst (uI [0])]) := by
    simp [evS, evE, evEs, O.bind, mkL, uI, lim]
  have s2 : evS gl cf (.set 3 (.tup [])) [some (.o n), some (.d X), some (.o st.length), none, none] (st ++ [.lst (uI [0])]) = .ok (.nx (lcE n st.length X [] none)) (st ++ [.lst (uI [0])]) := by
    simp [evS, evE, evEs, O.bind, usD, lcE]
  have W := whl_run (c := fun env s => evT gl cf (.cmp .ne (.idx (.idx (.idx (.var 1) (.con (.int 4))) (.idx (.var 2) (.neg (.con (.int 1))))) (.con (.int 0))) (.con (.str "end"))) env s)
    (f := fun env s => evSs gl cf [.unp [4, 3] (.call 30 [.var 1, .tup [.idx (.var 2) (.neg (.con (.int 1))), .var 3, .tup []], .call 24 [.var 0, .con (.int 2)]]), .exp (.meth .append (.var 2) [.var 4])] env s)
    (fun mm e s => ∃ (j : Nat) (S V : List Int) (Y : Ob) (a4 : Option U), e = lcE n st.length X S a4 ∧ s = st.set n Y ++ [.lst (uI V)] ∧ mm = mu ks.length j (cAr L j) S ∧ PotX (m + V.length) Y ∧ WS ks L j S ∧ VI ks L j V ∧ V.getLast? = some (j : Int) ∧ V.length + mm ≤ 200705)
    (fun e s => ∃ (j : Nat) (S V : List Int) (Y : Ob) (a4 : Option U), e = lcE n st.length X S a4 ∧ s = st.set n Y ++ [.lst (uI V)] ∧ PotX (m + V.length) Y ∧ VI ks L j V ∧ ks[j]? = some .fin ∧ V.length ≤ 200705)
    (by
      rintro mm e s ⟨j, S, V, Y, a4, rfl, rfl, rfl, pY, hw, hV, hlast, hlen⟩
      have jl := hw.lt
      have jl2 : j < rs.length := by rw [hks, hkl] at jl; exact jl
      have hr := List.getElem?_eq_getElem jl2
      obtain ⟨kk, hk1, hk2⟩ := rok_at R j hr
      rw [← hks] at hk1
      obtain ⟨z, ps, hz, hend⟩ := rok_end hk2
      have lk : (st.set n Y ++ [Ob.lst (uI V)])[st.length]? = some (.lst (uI V)) := by simp
      have f1 : Flat (st.set n Y ++ [Ob.lst (uI V)]) := (hf.set pY.flat).app (flat_uI V)
      have io := ix_olast lk hlast
      have ir := ix_trow (st.set n Y ++ [Ob.lst (uI V)]) hr
      have cond : evT gl cf (.cmp .ne (.idx (.idx (.idx (.var 1) (.con (.int 4))) (.idx (.var 2) (.neg (.con (.int 1))))) (.con (.int 0))) (.con (.str "end"))) (lcE n st.length X S a4) (st.set n Y ++ [Ob.lst (uI V)]) = .ok (!decide (z = "end")) (st.set n Y ++ [Ob.lst (uI V)]) := by
        have it0 : ixU (.d rs[j]) (.d (.int 0)) (st.set n Y ++ [Ob.lst (uI V)]) = .ok (.d (.str z)) (st.set n Y ++ [Ob.lst (uI V)]) := by rw [hz]; exact ix_t0 _
        have cn := cmp_ne_str z "end"
        generalize st.set n Y ++ [Ob.lst (uI V)] = SS at io ir it0
        simp [lcE, evT, evE, O.bind, i4, io, ir, it0, cop, dcop, vw, cn, tru, truD]
      by_cases q : z = "end"
      · left
        rw [cond, decide_eq_true q]
        refine ⟨rfl, j, S, V, Y, a4, rfl, rfl, pY, hV, ?_, by omega⟩
        rw [hk1, hend.mp q]
      · right
        rw [cond, decide_eq_false q]
        have hnf : ks[j]? ≠ some .fin := fun e => q (hend.mpr (by rw [hk1] at e; exact Option.some.inj e))
        have hset : ∀ Y', (st.set n Y ++ [Ob.lst (uI V)]).set n Y' = st.set n Y' ++ [Ob.lst (uI V)] := fun Y' => by
          rw [List.set_append_left _ _ (by simpa using hn), List.set_set]
        obtain ⟨ch, Y1, q1, p1, c0, c1⟩ := hT (many := 2) (st := st.set n Y ++ [Ob.lst (uI V)]) (n := n) (m := m + V.length) (X := Y) (by rw [List.getElem?_append_left (by simpa using hn)]; exact at_set h Y) pY f1 (by decide) (by decide) (by omega)
        rw [hset] at q1
        have f2 : Flat (st.set n Y1 ++ [Ob.lst (uI V)]) := (hf.set p1.flat).app (flat_uI V)
        obtain ⟨j', S', q2, hs⟩ := hNx f2 hw hnf ch
        obtain ⟨w1, w2, w3⟩ := stp_ok C hs hw hV hnf
        refine ⟨rfl, _, lcE n st.length X S' (some (.d (.int ((j' : Nat) : Int)))), st.set n Y1 ++ [.lst (uI (V ++ [(j' : Int)]))], w2, ?_, j', S', V ++ [(j' : Int)], Y1, _, rfl, rfl, rfl, by rw [List.length_append, ← Nat.add_assoc]; exact p1, w1, w3, by simp, by rw [List.length_append, List.length_singleton]; omega⟩
        have ap : meth .append (.o st.length) [.d (.int (j' : Int))] (st.set n Y1 ++ [Ob.lst (uI V)]) = .ok (.d .none) (st.set n Y1 ++ [Ob.lst (uI (V ++ [(j' : Int)]))]) := by
          have ul : V.length < lim := by omega
          simp only [meth, mApp]
          simp [ul, uI]
        have m1 : mOk .append (.o st.length) (st.set n Y1 ++ [Ob.lst (uI V)]) = true := by simp [mOk, isLstO]
        generalize st.set n Y ++ [Ob.lst (uI V)] = SS at io q1
        generalize st.set n Y1 ++ [Ob.lst (uI V)] = SS1 at q1 q2 ap m1
        generalize st.set n Y1 ++ [Ob.lst (uI (V ++ [(j' : Int)]))] = SS2 at ap
        unfold lcE
        generalize S.map PyData.int = SM at q2
        generalize S'.map PyData.int = SM' at q2
        simp [evSs, evS, evE, evEs, O.bind, io, q1, q2, ap, m1, usD, lim, setS])
    FU (mu ks.length 0 (cAr L ((0 : Nat) : Int)) []) (lcE n st.length X [] none) (st ++ [.lst (uI [0])]) (by
      have := mu_lt C.W (WS.zero C) C.n16
      have e : FU = 100000000 := rfl
      omega) (by
      have := mu_lt C.W (WS.zero C) C.n16
      refine ⟨0, [], [0], Xo, none, rfl, ?_, rfl, hx.mono (by omega), WS.zero C, VI.zero C, rfl, by show 1 + mu ks.length 0 (cAr L ((0 : Nat) : Int)) [] ≤ 200705; omega⟩
      obtain ⟨hh, e⟩ := List.getElem?_eq_some_iff.mp h
      rw [← e]
      simp)
  obtain ⟨e3, s3, q3, j, S, V, Y, a4, rfl, rfl, pY, hV, hjf, hlen⟩ := W
  have all := hV.all C hjf
  rw [hks, hkl, ← hks] at all
  have t3 : evS gl cf (.whl (.cmp .ne (.idx (.idx (.idx (.var 1) (.con (.int 4))) (.idx (.var 2) (.neg (.con (.int 1))))) (.con (.int 0))) (.con (.str "end"))) [.unp [4, 3] (.call 30 [.var 1, .tup [.idx (.var 2) (.neg (.con (.int 1))), .var 3, .tup []], .call 24 [.var 0, .con (.int 2)]]), .exp (.meth .append (.var 2) [.var 4])]) (lcE n st.length X [] none) (st ++ [.lst (uI [0])]) = .ok (.nx (lcE n st.length X S a4)) (st.set n Y ++ [.lst (uI V)]) := by
    rw [evS]
    exact q3
  have s4 : evS gl cf (.ret (.frz (.var 2))) (lcE n st.length X S a4) (st.set n Y ++ [.lst (uI V)]) = .ok (.rt (.d (.list (V.map .int)))) (st.set n Y ++ [.dead]) := by
    have lk : (st.set n Y ++ [Ob.lst (uI V)])[st.length]? = some (.lst (uI V)) := by simp
    have u := usD_uI V
    have ds : (st.set n Y ++ [Ob.lst (uI V)]).set st.length .dead = st.set n Y ++ [.dead] := by simp
    have v : vw (st.set n Y ++ [Ob.lst (uI V)]) (.o st.length) = some (.list (V.map .int)) := by simp only [vw, lk, u]; rfl
    simp only [lcE, evS, evE, O.bind, List.getElem?_cons_succ, List.getElem?_cons_zero, v, ds]
  have body : evSs gl cf b__law_come.body [some (.o n), some (.d X), none, none, none] st = _ := evSs_nx s1 (evSs_nx s2 (evSs_nx t3 (evSs_rt s4)))
  refine ⟨V, Y, ?_, pY.mono (by omega), all, by omega⟩
  rw [runF, if_pos (by exact ⟨rfl, by decide⟩)]
  have fe := fin_d (F := b__law_come) (n := st.length) (d := .list (V.map .int)) ((hf.set (n := n) pY.flat).app (show refsB 0 Ob.dead = true from rfl)) rfl (by simp)
  rw [List.take_left' (by simp)] at fe
  exact (congrArg (fun o => O.bind o _) body).trans fe
end PI
set_option Elab.async false
set_option linter.all false
set_option maxRecDepth 100000
set_option maxHeartbeats 4000000
namespace PI
open PySem
theorem szL_ints : ∀ xs : List Int, szL (xs.map .int) = xs.length
  | [] => rfl
  | x :: r => by simp [szL, sz, szL_ints r]; omega
theorem aG_small {i : Int} (h : 0 ≤ i) (h2 : i < 100000) : aG 0 (.int i) := by
  have : (100000 : Int) ≤ 10 ^ 39 := by decide
  simp only [aG]
  omega
theorem ints_gd {M : List Int} (h : ∀ x ∈ M, 0 ≤ x ∧ x < 100000) (hl : M.length ≤ 1000) : Gd 1 15000 (.tuple (M.map .int)) := by
  refine ⟨fun y hy => ?_, ?_⟩
  · obtain ⟨c, hc, rfl⟩ := List.mem_map.mp hy
    have := h c hc
    exact aG_small (by omega) (by omega)
  · simp only [sz, szL_ints]
    omega
theorem ne_self (x : PyData) (st : Sto) : cop .ne (.d (.str x.shown)) (.d (.str x.shown)) st = .ok false st := by
  generalize x.shown = z
  simp [cop, dcop, vw, cmpD, flatD, PyData.eqv]
theorem seamI_gd (L J : List (Int × Int)) {n : Nat} (hn : n ≤ 60) : Gd 1 15000 (.tuple ((seamI L J n).map .int)) := by
  refine ints_gd (fun x hx => ?_) ?_
  · rw [seamI_D] at hx
    rcases List.mem_append.mp hx with h | h
    · rcases List.mem_cons.mp h with rfl | h
      · omega
      · have := mem_inI (List.mem_filter.mp h).1
        omega
    · rw [List.mem_singleton.mp h]
      omega
  · have : ((inI n).filter (seamB L J)).length ≤ 60 := Nat.le_trans (List.length_filter_le _ _) (by rw [inI_len]; omega)
    simp only [seamI, List.length_cons, List.length_append, List.length_nil]
    omega
structure Calls (cf : Cf) : Prop where
  pot : ∀ (st : Sto) (ns : List Int) (k : Nat), k < 2 ^ 30 → ∃ X, PotX 0 X ∧ cf 23 [.s ns, .d (.int k)] st = .ok (.o st.length) (st ++ [X])
  take : TakeF cf
  code : ∀ {st : Sto} {n m : Nat} {X : Ob}, st[n]? = some X → PotX m X → Flat st → m < 2 ^ 40 → ∀ {T : Int}, 3 ≤ T ∧ T ≤ 30 → Gen (cf 28 [.o n, .d (.int T)] st) st n (m + 1000) (fun x => drawnP x ∧ (nR x : Int) ≤ T)
  seams : ∀ {st : Sto}, Flat st → ∀ {a b c d : PyData} {rs : List PyData}, codeD (.tuple [a, b, c, d, .tuple rs]) = true → cf 20 [.d (.tuple [a, b, c, d, .tuple rs])] st = .ok (.d (.tuple ((seamI (codeL rs) (jps 0 (rs.map rkOf)) rs.length).map .int))) st
  lseams : ∀ {st : Sto}, Flat st → ∀ {a b c d : PyData} {rs : List PyData}, codeD (.tuple [a, b, c, d, .tuple rs]) = true → cf 31 [.d (.tuple rs)] st = .ok (.d (.list ((seamI (codeL rs) (jps 0 (rs.map rkOf)) rs.length).map .int))) st
  come : ∀ {st : Sto} {n m : Nat} {Xo : Ob}, st[n]? = some Xo → PotX m Xo → Flat st → m < 2 ^ 45 → ∀ {a b c d : PyData} {rs : List PyData}, codeD (.tuple [a, b, c, d, .tuple rs]) = true → rs.length ≤ 16 →
    ∃ (V : List Int) (Y : Ob), cf 32 [.o n, .d (.tuple [a, b, c, d, .tuple rs])] st = .ok (.d (.list (V.map .int))) (st.set n Y) ∧ PotX (m + 200710) Y ∧ V.filter (fun x => decide (x ∈ seamI (codeL rs) (jps 0 (rs.map rkOf)) rs.length)) = seamD (codeL rs) (jps 0 (rs.map rkOf)) rs.length ∧ V.length ≤ 200710
theorem calls68 : Calls (callN gl fnT 199) where
  pot := fun st ns k hk => ⟨_, fPot_pot ns k, fPot_ok gl (callN gl fnT 198) st ns k hk⟩
  take := takeF 198
  code := @fun st n m X h hx hf hm T hT => code_drawn 196 h hx hf (by omega) hT
  seams := @fun st hf a b c d rs h => seamsof_ok 193 hf h
  lseams := @fun st hf a b c d rs h => by
    obtain ⟨_, _, _, _, rs', m, ar, he, h1, h2, h3, h4, _, _⟩ := code_parts h
    cases he
    exact lseams_ok 197 hf (rl_of h3) h1 h2
  come := @fun st n m Xo h hx hf hm a b c d rs hc h16 => come_ok 196 h hx hf hm hc h16
theorem turn_ok {cf : Cf} (C : Calls cf) (ns : List Int) {st : Sto} {n m : Nat} {Xo : Ob} (h : st[n]? = some Xo) (hx : PotX m Xo) (hf : Flat st) (hm : m < 2 ^ 45) {a b c d : PyData} {rs : List PyData} (hc : codeD (.tuple [a, b, c, d, .tuple rs]) = true) (h16 : rs.length ≤ 16) (a1 a5 a6 a7 : Option U) :
    ∃ b6 b7 Y, evSs gl cf l_law_0 [some (.s ns), a1, some (.o n), some (.d (.tuple [a, b, c, d, .tuple rs])), some (.d (.tuple ((seamI (codeL rs) (jps 0 (rs.map rkOf)) rs.length).map .int))), a5, a6, a7] st =
      .ok (.nx [some (.s ns), a1, some (.o n), some (.d (.tuple [a, b, c, d, .tuple rs])), some (.d (.tuple ((seamI (codeL rs) (jps 0 (rs.map rkOf)) rs.length).map .int))), a5, b6, b7]) (st.set n Y) ∧ PotX (m + 200710) Y := by
  have l2 : (200715 : Nat) < lim := by decide
  obtain ⟨V, Y, q, p, e, vl⟩ := C.come h hx hf hm hc h16
  refine ⟨some (.d (.list (V.map .int))), a7, Y, ?_, p⟩
  obtain ⟨X, hX⟩ : ∃ X, X = PyData.tuple [a, b, c, d, .tuple rs] := ⟨_, rfl⟩
  rw [← hX] at q ⊢
  have sD := seamI_D (codeL rs) (jps 0 (rs.map rkOf)) rs.length
  generalize seamI (codeL rs) (jps 0 (rs.map rkOf)) rs.length = I at e sD ⊢
  generalize seamD (codeL rs) (jps 0 (rs.map rkOf)) rs.length = D at e sD
  have comp : evE gl cf c_law_0 [some (.s ns), a1, some (.o n), some (.d X), some (.d (.tuple (I.map .int))), a5, some (.d (.list (V.map .int))), a7] (st.set n Y) = .ok (.d (.list (D.map .int))) (st.set n Y) := by
    rw [← e, ← int_filter]
    have := e_comp_filter (G := gl) (cf := cf) (elt := .var 7) (tg := .one 7) (ik := .val) (es := [.var 6]) (env := [some (.s ns), a1, some (.o n), some (.d X), some (.d (.tuple (I.map .int))), a5, some (.d (.list (V.map .int))), a7]) (st := st.set n Y)
      (c := .cmp .isin (.var 7) (.var 4)) (p := inP fun x => decide (x ∈ I)) (h := id) (us := [.d (.list (V.map .int))]) (xs := V.map .int) (by simp [evEs, evE, O.bind]) (by simp [items, vws, vw]) (by rw [List.length_map]; omega) (fun x hx => by
        obtain ⟨s, _, rfl⟩ := List.mem_map.mp hx
        refine ⟨_, rfl, ?_, fun _ => by simp [evE]⟩
        have ii := in_ints s I
        have ip : inP (fun x => decide (x ∈ I)) (.int s) = decide (s ∈ I) := rfl
        rw [ip]
        generalize I.map PyData.int = IM at ii
        simp [evT, evE, O.bind, cop, dcop, dictGet, vw, cmpD, ii, tru, truD])
    rw [List.map_id] at this
    exact this
  have cm := cut_m1 (I.map PyData.int)
  rw [show (I.map PyData.int).dropLast = D.map .int by rw [sD]; simp] at cm
  have pl : ∀ ds : List PyData, ds.length ≤ lim → prim false .list [.d (.tuple ds)] (st.set n Y) = .ok (.d (.list ds)) (st.set n Y) := fun ds h => by
    simp [prim, srtT, vws, vw, primL, lstD, mkL, usD_ds, h]
  have dl : (D.map PyData.int).length ≤ lim := by
    rw [← e, List.length_map]
    exact Nat.le_trans (List.length_filter_le _ _) (by omega)
  have pl' := pl _ dl
  have cn := cmp_ne_ints D D
  rw [decide_eq_true rfl] at cn
  have s1 : evS gl cf (.set 6 (.call 32 [.var 2, .var 3])) [some (.s ns), a1, some (.o n), some (.d X), some (.d (.tuple (I.map .int))), a5, a6, a7] st = .ok (.nx [some (.s ns), a1, some (.o n), some (.d X), some (.d (.tuple (I.map .int))), a5, some (.d (.list (V.map .int))), a7]) (st.set n Y) := by
    simp only [evS, evE, evEs, O.bind, List.getElem?_cons_succ, List.getElem?_cons_zero, q, List.set_cons_succ, List.set_cons_zero]
  refine evSs_nx s1 (evSs_nx ?_ evSs_nil)
  generalize D.map PyData.int = DM at comp cm pl' cn
  generalize I.map PyData.int = IM at comp cm ⊢
  generalize V.map PyData.int = VM at comp ⊢
  simp [evS, evT, evE, evEs, O.bind, comp, cm, pl', cn, vw, usD, optI, sliceD, cop, dcop, tru, truD, evSs]
def EnvL (ns : List Int) (e : Ev) : Prop := ∃ a1 a2 a3 a4 a5 a6 a7 : Option U, e = [some (.s ns), a1, a2, a3, a4, a5, a6, a7]
theorem cell_ok {cf : Cf} (C : Calls cf) (ns : List Int) (k : Nat) (hk : k < 2 ^ 30) {st : Sto} (hf : Flat st) {a2 a3 a4 a5 a6 a7 : Option U} :
    ∃ e' st', evSs gl cf l_law_1 [some (.s ns), some (.d (.int k)), a2, a3, a4, a5, a6, a7] st = .ok (.nx e') st' ∧ Flat st' ∧ EnvL ns e' := by
  obtain ⟨X, p0, e0⟩ := C.pot st ns k hk
  have h0 : (st ++ [X])[st.length]? = some X := by simp
  have f0 : Flat (st ++ [X]) := hf.app p0.flat
  generalize st ++ [X] = S at e0 h0 f0
  generalize st.length = L at e0 h0
  obtain ⟨v, Y0, e1, p1, v0, v1⟩ := C.take (many := 2) h0 p0 f0 (by decide) (by decide) (by omega)
  obtain ⟨T, ix, hT⟩ : ∃ T : Int, ixU (.d (.list [.int 8, .int 16])) (.d (.int v)) (S.set L Y0) = .ok (.d (.int T)) (S.set L Y0) ∧ 3 ≤ T ∧ T ≤ 16 := by
    have hv : v = 0 ∨ v = 1 := by omega
    rcases hv with rfl | rfl
    · exact ⟨8, by simp [ixU, dictGet, ixD, L2.atI, L2.ixN], by decide⟩
    · exact ⟨16, by simp [ixU, dictGet, ixD, L2.atI, L2.ixN], by decide⟩
  obtain ⟨x, Y1, e2, p2, c1, c2⟩ := C.code (T := T) (at_set h0 Y0) p1 (f0.set p1.flat) (by omega) (by omega)
  rw [List.set_set] at e2
  have f2 : Flat (S.set L Y1) := f0.set p2.flat
  obtain ⟨a, b, c, d, rs, mm, ar, rfl, h1, h2, h3, h4, _, _⟩ := code_parts c1.1
  have h16 : rs.length ≤ 16 := by simp only [nR] at c2; omega
  have hs := C.seams f2 c1.1
  have hl := C.lseams f2 c1.1
  have gd := prim_repr (m := false) (S.set L Y1) ((seamI_gd (codeL rs) (jps 0 (rs.map rkOf)) h2).repr (by decide) (Nat.le_refl _))
  have ns' := ne_self (.tuple ((seamI (codeL rs) (jps 0 (rs.map rkOf)) rs.length).map .int)) (S.set L Y1)
  have i4 := ix_t4 (a := a) (b := b) (c := c) (d := d) (e := .tuple rs) (S.set L Y1)
  obtain ⟨Xc, hXc⟩ : ∃ Xc, Xc = PyData.tuple [a, b, c, d, .tuple rs] := ⟨_, rfl⟩
  obtain ⟨I, hI⟩ : ∃ I, I = (seamI (codeL rs) (jps 0 (rs.map rkOf)) rs.length).map PyData.int := ⟨_, rfl⟩
  have lp := forL_inv (g := fun s => stays [.d (.int 6)] (S.set L Y1) s) (f := fun x env s => match bindTg (.one 5) x env with
      | some env1 => evSs gl cf l_law_0 env1 s
      | none => .bad) (fun j e s => ∃ Y b5 b6 b7, s = S.set L Y ∧ PotX (1001 + 200710 * j) Y ∧ e = [some (.s ns), some (.d (.int k)), some (.o L), some (.d Xc), some (.d (.tuple I)), b5, b6, b7]) (fun _ _ s _ => rfl)
    ((List.range 6).map fun i => .int (i : Nat)) 0 [some (.s ns), some (.d (.int k)), some (.o L), some (.d Xc), some (.d (.tuple I)), a5, a6, a7] (S.set L Y1) (by
    rintro x hx j e s hj ⟨Y, b5, b6, b7, rfl, pY, rfl⟩
    have hj : j < 6 := by simpa using hj
    obtain ⟨i, hi, rfl⟩ := List.mem_map.mp hx
    obtain ⟨c6, c7, Y', q, p⟩ := turn_ok C ns (at_set h0 Y) pY (f0.set pY.flat) (by omega) c1.1 h16 (some (.d (.int k))) (some (.d (.int (i : Nat)))) b6 b7
    rw [List.set_set, ← hXc, ← hI] at q
    refine ⟨_, _, ?_, Y', some (.d (.int (i : Nat))), c6, c7, rfl, by rw [show 1001 + 200710 * (j + 1) = 1001 + 200710 * j + 200710 by omega]; exact p, rfl⟩
    simp only [bindTg, List.set_cons_succ, List.set_cons_zero]
    exact q) ⟨Y1, a5, a6, a7, rfl, p2.mono (by omega), rfl⟩
  obtain ⟨e9, s9, q9, Y9, b5, b6, b7, rfl, p9, rfl⟩ := lp
  rw [← hXc] at e2 hs i4
  rw [← hI] at hs gd ns'
  have pt : prim false .tuple [.d (.list I)] (S.set L Y1) = .ok (.d (.tuple I)) (S.set L Y1) := by simp [prim, srtT, vws, vw, primL, primD, tupD]
  rw [← hI] at hl
  have it : items .range [.d (.int 6)] (S.set L Y1) = some ((List.range 6).map fun i => .int (i : Nat)) := by
    simp [items, vws, vw, rangeD]
  refine ⟨_, _, evSs_nx (e1 := [some (.s ns), some (.d (.int k)), some (.o L), a3, a4, a5, a6, a7]) (st1 := S) ?_ (evSs_nx (e1 := [some (.s ns), some (.d (.int k)), some (.o L), some (.d Xc), a4, a5, a6, a7]) (st1 := S.set L Y1) ?_
    (evSs_nx (e1 := [some (.s ns), some (.d (.int k)), some (.o L), some (.d Xc), some (.d (.tuple I)), a5, a6, a7]) (st1 := S.set L Y1) ?_ (evSs_nx (e1 := [some (.s ns), some (.d (.int k)), some (.o L), some (.d Xc), some (.d (.tuple I)), a5, a6, a7]) (st1 := S.set L Y1) ?_
      (evSs_nx (evS_for (us := [.d (.int 6)]) (st1 := S.set L Y1) ?_ it q9) evSs_nil)))), f0.set p9.flat, ⟨_, _, _, _, _, _, _, rfl⟩⟩
  · simp only [evS, evE, evEs, O.bind, List.getElem?_cons_succ, List.getElem?_cons_zero, e0, List.set_cons_succ, List.set_cons_zero]
  · simp [evS, evE, evEs, O.bind, mkL, lim, usD, e1, ix, e2]
  · simp [evS, evE, evEs, O.bind, i4, hl, pt]
  · generalize (PyData.tuple I).shown = z at gd ns'
    simp [evS, evSs, evT, evE, evEs, O.bind, hs, gd, ns', tru, vw, truD]
  · simp [evEs, evE, O.bind]
theorem law_body {cf : Cf} (C : Calls cf) (ns : List Int) (hn : ns.length ≤ 63) : ∃ st', runF gl cf b_law [.s ns] [] = .ok (.d (.bool true)) st' := by
  refine ⟨[], ?_⟩
  obtain ⟨N, hN, hN2⟩ : ∃ N : Nat, N ≤ 20 ∧ (if (if (ns.length : Int) < 20 then (ns.length : Int) else 20) > 1 then (if (ns.length : Int) < 20 then (ns.length : Int) else 20) else 1) = (N : Int) := by
    refine ⟨(if (if (ns.length : Int) < 20 then (ns.length : Int) else 20) > 1 then (if (ns.length : Int) < 20 then (ns.length : Int) else 20) else 1).toNat, ?_, ?_⟩ <;> (repeat' split) <;> omega
  obtain ⟨e1, s1, q1, f1, vv⟩ := forL_inv (g := fun s => stays [.d (.int N)] [] s) (f := fun x env s => match bindTg (.one 1) x env with
      | some env1 => evSs gl cf l_law_1 env1 s
      | none => .bad) (fun j e s => Flat s ∧ EnvL ns e) (fun _ _ s _ => rfl)
    ((List.range N).map fun i => .int (i : Nat)) 0 [some (.s ns), none, none, none, none, none, none, none] [] (by
    rintro x hx j e s hj ⟨fY, b1, b2, b3, b4, b5, b6, b7, rfl⟩
    obtain ⟨i, hi, rfl⟩ := List.mem_map.mp hx
    have hi := List.mem_range.mp hi
    obtain ⟨e', s', q, f', ee⟩ := cell_ok C ns i (by omega) fY (a2 := b2) (a3 := b3) (a4 := b4) (a5 := b5) (a6 := b6) (a7 := b7)
    refine ⟨e', s', ?_, f', ee⟩
    simp only [bindTg, List.set_cons_succ, List.set_cons_zero]
    exact q) ⟨Flat.nil, ⟨_, _, _, _, _, _, _, rfl⟩⟩
  have it : items .range [.d (.int N)] [] = some ((List.range N).map fun i => .int (i : Nat)) := by
    simp [items, vws, vw, rangeD]
    omega
  have body : evSs gl cf b_law.body [some (.s ns), none, none, none, none, none, none, none] [] = .ok (.rt (.d (.bool true))) s1 := by
    refine evSs_nx (evS_for (us := [.d (.int N)]) (st1 := []) ?_ it q1) ?_
    · simp only [evE, evEs, O.bind, List.getElem?_cons_zero, prim, srtT, vws, vw, primL, primD, lenD, minD, maxD, List.length_map, hN2]
    · simp [evSs, evS, evE, O.bind]
  have fe' := fin_d (F := b_law) (d := .bool true) f1 rfl (Nat.zero_le s1.length)
  rw [runF, if_pos (by exact ⟨rfl, by decide⟩)]
  exact (congrArg (fun o => O.bind o _) body).trans fe'
theorem math0 (ns : List Int) (hn : ns.length ≤ 63) : ∃ st', callN gl fnT 200 33 [.s ns] [] = .ok (.d (.bool true)) st' := law_body calls68 ns hn
end PI
set_option Elab.async false
set_option linter.all false
set_option maxRecDepth 100000
namespace PI
open PySem PySem.Spec PyProof.Rows L2

/-! ### worlds -/
mutual
inductive Rp (K : PySem.W.Frag) (G : Hp) : V → PyData → Prop
  | non : Rp K G .non .none
  | bl (b : Bool) : Rp K G (.bl b) (.bool b)
  | int (i : Int) : Rp K G (.int i) (.int i)
  | str (x : Str) : Rp K G (.str x) (.str x)
  | lst {a : Addr} {xs : List V} {ds : List PyData} : G a = some (.lst xs) → RpL K G xs ds → Rp K G (.ref a) (.list ds)
  | tup {a : Addr} {xs : List V} {ds : List PyData} : SqT K G a xs → RpL K G xs ds → Rp K G (.ref a) (.tuple ds)
  | dic {a : Addr} {xs : List (Key × V)} {ds : List (PyData × PyData)} : G a = some (.dK xs) → RpK K G xs ds → Rp K G (.ref a) (.dict ds)
inductive RpL (K : PySem.W.Frag) (G : Hp) : List V → List PyData → Prop
  | nil : RpL K G [] []
  | cons {v : V} {vs : List V} {d : PyData} {ds : List PyData} : Rp K G v d → RpL K G vs ds → RpL K G (v :: vs) (d :: ds)
inductive RpK (K : PySem.W.Frag) (G : Hp) : List (Key × V) → List (PyData × PyData) → Prop
  | nil : RpK K G [] []
  | cons {k : Key} {v : V} {vs : List (Key × V)} {d : PyData} {ds : List (PyData × PyData)} : Rp K G v d → RpK K G vs ds → RpK K G ((k, v) :: vs) ((kD k, d) :: ds)
end
theorem Same.rd {H H' : Hp} {a : Addr} {o : HO} (e : Same H H') (h : Rd H a o) : Rd H' a o := by
  rcases h with h | ⟨u, h⟩
  · exact .inl (e _ _ h)
  · exact .inr ⟨u, e _ _ h⟩
theorem Same.sqT {K : PySem.W.Frag} {H H' : Hp} {a : Addr} {xs : List V} (e : Same H H') (h : SqT K H a xs) : SqT K H' a xs := by
  rcases h with h | h
  · exact .inl (Same.rd e h)
  · exact .inr h
mutual
theorem Rp.mono {K : PySem.W.Frag} {G G' : Hp} (e : Same G G') : ∀ {v : V} {d : PyData}, Rp K G v d → Rp K G' v d
  | _, _, .non => .non
  | _, _, .bl b => .bl b
  | _, _, .int i => .int i
  | _, _, .str x => .str x
  | _, _, .lst h r => .lst (e _ _ h) (RpL.mono e r)
  | _, _, .tup h r => .tup (Same.sqT e h) (RpL.mono e r)
  | _, _, .dic h r => .dic (e _ _ h) (RpK.mono e r)
theorem RpL.mono {K : PySem.W.Frag} {G G' : Hp} (e : Same G G') : ∀ {v : List V} {d : List PyData}, RpL K G v d → RpL K G' v d
  | _, _, .nil => .nil
  | _, _, .cons h r => .cons (Rp.mono e h) (RpL.mono e r)
theorem RpK.mono {K : PySem.W.Frag} {G G' : Hp} (e : Same G G') : ∀ {v : List (Key × V)} {d : List (PyData × PyData)}, RpK K G v d → RpK K G' v d
  | _, _, .nil => .nil
  | _, _, .cons h r => .cons (Rp.mono e h) (RpK.mono e r)
end
theorem RpL.length {K : PySem.W.Frag} {G : Hp} : ∀ {v : List V} {d : List PyData}, RpL K G v d → v.length = d.length
  | _, _, .nil => rfl
  | _, _, .cons _ r => by simp [RpL.length r]
theorem RpL.get {K : PySem.W.Frag} {G : Hp} : ∀ {v : List V} {d : List PyData} {i : Nat} {x : PyData}, RpL K G v d → d[i]? = some x → ∃ u, v[i]? = some u ∧ Rp K G u x
  | _, _, _, _, .nil, h => by simp at h
  | _, _, 0, _, .cons r _, h => by simp at h; subst h; exact ⟨_, rfl, r⟩
  | _, _, i + 1, _, .cons _ t, h => by
    obtain ⟨u, h1, h2⟩ := RpL.get (i := i) t (by simpa using h)
    exact ⟨u, by simpa using h1, h2⟩
theorem RpL.append {K : PySem.W.Frag} {G : Hp} : ∀ {v w : List V} {d e : List PyData}, RpL K G v d → RpL K G w e → RpL K G (v ++ w) (d ++ e)
  | _, _, _, _, .nil, h => h
  | _, _, _, _, .cons r t, h => .cons r (RpL.append t h)
theorem RpL.drop {K : PySem.W.Frag} {G : Hp} : ∀ {v : List V} {d : List PyData} (n : Nat), RpL K G v d → RpL K G (v.drop n) (d.drop n)
  | _, _, 0, h => h
  | _, _, _ + 1, .nil => .nil
  | _, _, n + 1, .cons _ t => RpL.drop n t
theorem RpL.take {K : PySem.W.Frag} {G : Hp} : ∀ {v : List V} {d : List PyData} (n : Nat), RpL K G v d → RpL K G (v.take n) (d.take n)
  | _, _, 0, _ => .nil
  | _, _, _ + 1, .nil => .nil
  | _, _, n + 1, .cons r t => .cons r (RpL.take n t)
theorem RpL.rep {K : PySem.W.Frag} {G : Hp} {v : List V} {d : List PyData} (h : RpL K G v d) : ∀ k, RpL K G (List.replicate k v).flatten (List.replicate k d).flatten
  | 0 => .nil
  | k + 1 => by
    simp only [List.replicate_succ, List.flatten_cons]
    exact h.append (RpL.rep h k)
theorem RpL.ints {K : PySem.W.Frag} {G : Hp} : ∀ {vs : List V} {ds : List PyData} {ns : List Int}, RpL K G vs ds → intsD ds = some ns → vs = ns.map V.int
  | _, _, _, .nil, h => by simp [intsD] at h; subst h; rfl
  | _, _, _, .cons (d := .int i) r t, h => by
    simp only [intsD, Option.map_eq_some_iff] at h
    obtain ⟨ns, h, rfl⟩ := h
    cases r
    rw [RpL.ints t h]; rfl
  | _, _, _, .cons (d := .none) r t, h => by simp [intsD] at h
  | _, _, _, .cons (d := .bool _) r t, h => by simp [intsD] at h
  | _, _, _, .cons (d := .str _) r t, h => by simp [intsD] at h
  | _, _, _, .cons (d := .list _) r t, h => by simp [intsD] at h
  | _, _, _, .cons (d := .tuple _) r t, h => by simp [intsD] at h
  | _, _, _, .cons (d := .dict _) r t, h => by simp [intsD] at h
theorem RpL.bools {K : PySem.W.Frag} {G : Hp} : ∀ {vs : List V} {ds : List PyData} {ns : List Bool}, RpL K G vs ds → boolsD ds = some ns → vs = ns.map V.bl
  | _, _, _, .nil, h => by simp [boolsD] at h; subst h; rfl
  | _, _, _, .cons (d := .bool i) r t, h => by
    simp only [boolsD, Option.map_eq_some_iff] at h
    obtain ⟨ns, h, rfl⟩ := h
    cases r
    rw [RpL.bools t h]; rfl
  | _, _, _, .cons (d := .none) r t, h => by simp [boolsD] at h
  | _, _, _, .cons (d := .int _) r t, h => by simp [boolsD] at h
  | _, _, _, .cons (d := .str _) r t, h => by simp [boolsD] at h
  | _, _, _, .cons (d := .list _) r t, h => by simp [boolsD] at h
  | _, _, _, .cons (d := .tuple _) r t, h => by simp [boolsD] at h
  | _, _, _, .cons (d := .dict _) r t, h => by simp [boolsD] at h
theorem RpL.strs {K : PySem.W.Frag} {G : Hp} : ∀ {vs : List V} {ds : List PyData} {ns : List Str}, RpL K G vs ds → strsD ds = some ns → vs = ns.map V.str
  | _, _, _, .nil, h => by simp [strsD] at h; subst h; rfl
  | _, _, _, .cons (d := .str i) r t, h => by
    simp only [strsD, Option.map_eq_some_iff] at h
    obtain ⟨ns, h, rfl⟩ := h
    cases r
    rw [RpL.strs t h]; rfl
  | _, _, _, .cons (d := .none) r t, h => by simp [strsD] at h
  | _, _, _, .cons (d := .int _) r t, h => by simp [strsD] at h
  | _, _, _, .cons (d := .bool _) r t, h => by simp [strsD] at h
  | _, _, _, .cons (d := .list _) r t, h => by simp [strsD] at h
  | _, _, _, .cons (d := .tuple _) r t, h => by simp [strsD] at h
  | _, _, _, .cons (d := .dict _) r t, h => by simp [strsD] at h
theorem RpL.ofInts {K : PySem.W.Frag} {G : Hp} : ∀ ns : List Int, RpL K G (ns.map V.int) (ns.map PyData.int)
  | [] => .nil
  | n :: r => .cons (.int n) (RpL.ofInts r)
theorem RpL.ofStrs {K : PySem.W.Frag} {G : Hp} : ∀ ns : List Str, RpL K G (ns.map V.str) (ns.map PyData.str)
  | [] => .nil
  | n :: r => .cons (.str n) (RpL.ofStrs r)

structure Wd where
  G : Hp
  iot : List Addr
structure Le (W W' : Wd) : Prop where
  g : Same W.G W'.G
  i : ∃ t, W'.iot = W.iot ++ t
theorem Le.refl (W : Wd) : Le W W := ⟨fun _ _ h => h, [], by simp⟩
theorem Le.trans {W W1 W2 : Wd} (a : Le W W1) (b : Le W1 W2) : Le W W2 := by
  obtain ⟨t, e⟩ := a.i
  obtain ⟨t2, e2⟩ := b.i
  exact ⟨a.g.trans b.g, t ++ t2, by rw [e2, e, List.append_assoc]⟩
theorem Le.ix {W W' : Wd} (l : Le W W') {n : Nat} {a : Addr} (h : W.iot[n]? = some a) : W'.iot[n]? = some a := by
  obtain ⟨t, e⟩ := l.i
  rw [e, List.getElem?_append_left (List.getElem?_eq_some_iff.mp h).1]
  exact h

/-- where the defs stand -/
structure Fa where
  w : World
  ad : Nat → Option Addr
/-- a written dict with text keys -/
structure KTab (K : PySem.W.Frag) (w : World) (a : Addr) (ks : List Str) (φ : Str → Option Value → Prop) : Prop where
  ex : ∃ es n, KDict K w a es n ∧ es.toList.map He.keyOf = He.keysIn w.params ks
  get : ∀ z, ∃ r, PySem.W.nsIn K a z = some r ∧ φ z r
theorem KTab.kd {K : PySem.W.Frag} {w : World} {a : Addr} {ks : List Str} {φ : Str → Option Value → Prop} (T : KTab K w a ks φ) : ∃ es n, KDict K w a es n := by
  obtain ⟨es, n, D, _⟩ := T.ex
  exact ⟨es, n, D⟩
def tabF (fa : Fa) (kvs : List (Str × Nat)) (z : Str) (r : Option Value) : Prop := match kvs.lookup z with
  | none => r = none
  | some n => ∃ b, fa.ad n = some b ∧ r = some (.ref b)
def tabD (K : PySem.W.Frag) (kvs : List (Str × PyData)) (z : Str) (r : Option Value) : Prop := match kvs.lookup z with
  | none => r = none
  | some x => ∃ v u, r = some u ∧ RelV v u ∧ Rp K (fun _ => none) v x
section
variable (K : PySem.W.Frag) (fa : Fa)
def URp (W : Wd) (v : V) : U → Prop
  | .d x => Rp K W.G v x
  | .o n => ∃ a, W.iot[n]? = some a ∧ v = .ref a
  | .f n => ∃ a, fa.ad n = some a ∧ v = .ref a
  | .t kvs => ∃ a, KTab K fa.w a (kvs.map (·.1)) (tabF fa kvs) ∧ v = .ref a
  | .td kvs => ∃ a, KTab K fa.w a (kvs.map (·.1)) (tabD K kvs) ∧ v = .ref a
  | .s ns => ∃ a, SqL K W.G a (ns.map V.int) ∧ v = .ref a
inductive UL (W : Wd) : List V → List U → Prop
  | nil : UL W [] []
  | cons {v : V} {vs : List V} {u : U} {us : List U} : URp K fa W v u → UL W vs us → UL W (v :: vs) (u :: us)
inductive UK (W : Wd) : List (Key × V) → List (Key × U) → Prop
  | nil : UK W [] []
  | cons {k : Key} {v : V} {vs : List (Key × V)} {u : U} {us : List (Key × U)} : URp K fa W v u → UK W vs us → UK W ((k, v) :: vs) ((k, u) :: us)
def ORp (W : Wd) (H : Hp) (a : Addr) : Ob → Prop
  | .dead => True
  | .lst us => ∃ vs, H a = some (.lst vs) ∧ W.G a = none ∧ UL K fa W vs us
  | .dic kvs => ∃ vs, H a = some (.dK vs) ∧ W.G a = none ∧ UK K fa W vs kvs
structure Sim (W : Wd) (st : Sto) (H : Hp) : Prop where
  sub : Same W.G H
  len : W.iot.length = st.length
  nd : W.iot.Nodup
  ob : ∀ (n : Nat) (a : Addr) (b : Ob), W.iot[n]? = some a → st[n]? = some b → ORp K fa W H a b
  tr : ∀ a ∈ W.iot, H a ≠ none
end
section
variable {K : PySem.W.Frag} {fa : Fa} {W W' : Wd} {st : Sto} {H : Hp}
theorem URp.mono {v : V} : ∀ {u : U}, URp K fa W v u → Le W W' → URp K fa W' v u
  | .d _, h, l => Rp.mono l.g h
  | .o _, ⟨a, h, e⟩, l => ⟨a, l.ix h, e⟩
  | .f _, h, _ => h
  | .t _, h, _ => h
  | .td _, h, _ => h
  | .s _, ⟨a, h, e⟩, l => ⟨a, l.g.seq h, e⟩
theorem UL.mono : ∀ {vs : List V} {us : List U}, UL K fa W vs us → Le W W' → UL K fa W' vs us
  | _, _, .nil, _ => .nil
  | _, _, .cons r t, l => .cons (r.mono l) (UL.mono t l)
theorem UK.mono : ∀ {vs : List (Key × V)} {us : List (Key × U)}, UK K fa W vs us → Le W W' → UK K fa W' vs us
  | _, _, .nil, _ => .nil
  | _, _, .cons r t, l => .cons (r.mono l) (UK.mono t l)
theorem UL.length : ∀ {vs : List V} {us : List U}, UL K fa W vs us → vs.length = us.length
  | _, _, .nil => rfl
  | _, _, .cons _ t => by simp [UL.length t]
theorem UK.length : ∀ {vs : List (Key × V)} {us : List (Key × U)}, UK K fa W vs us → vs.length = us.length
  | _, _, .nil => rfl
  | _, _, .cons _ t => by simp [UK.length t]
theorem UL.get : ∀ {vs : List V} {us : List U} {i : Nat} {u : U}, UL K fa W vs us → us[i]? = some u → ∃ v, vs[i]? = some v ∧ URp K fa W v u
  | _, _, _, _, .nil, h => by simp at h
  | _, _, 0, _, .cons r _, h => by simp at h; subst h; exact ⟨_, rfl, r⟩
  | _, _, i + 1, _, .cons _ t, h => by
    obtain ⟨u, h1, h2⟩ := UL.get (i := i) t (by simpa using h)
    exact ⟨u, by simpa using h1, h2⟩
theorem UL.append : ∀ {v w : List V} {d e : List U}, UL K fa W v d → UL K fa W w e → UL K fa W (v ++ w) (d ++ e)
  | _, _, _, _, .nil, h => h
  | _, _, _, _, .cons r t, h => .cons r (UL.append t h)
theorem UL.set {x : V} {u : U} (r : URp K fa W x u) : ∀ {vs : List V} {us : List U} (i : Nat), UL K fa W vs us → UL K fa W (vs.set i x) (us.set i u)
  | _, _, _, .nil => .nil
  | _, _, 0, .cons _ t => .cons r t
  | _, _, i + 1, .cons q t => .cons q (UL.set r i t)
theorem UL.dropLast : ∀ {vs : List V} {us : List U}, UL K fa W vs us → UL K fa W vs.dropLast us.dropLast
  | _, _, .nil => .nil
  | _, _, .cons _ .nil => .nil
  | _, _, .cons r (.cons r2 t) => .cons r (UL.dropLast (.cons r2 t))
theorem UL.eraseIdx : ∀ {vs : List V} {us : List U} (i : Nat), UL K fa W vs us → UL K fa W (vs.eraseIdx i) (us.eraseIdx i)
  | _, _, _, .nil => .nil
  | _, _, 0, .cons _ t => t
  | _, _, i + 1, .cons q t => .cons q (UL.eraseIdx i t)
theorem UL.data : ∀ {vs : List V} {us : List U} {ds : List PyData}, UL K fa W vs us → usD us = some ds → RpL K W.G vs ds
  | _, _, _, .nil, h => by simp [usD] at h; subst h; exact .nil
  | _, _, _, .cons (u := .d x) r t, h => by
    simp only [usD, Option.map_eq_some_iff] at h
    obtain ⟨ds, h, rfl⟩ := h
    exact .cons r (UL.data t h)
  | _, _, _, .cons (u := .o _) r t, h => by simp [usD] at h
  | _, _, _, .cons (u := .f _) r t, h => by simp [usD] at h
  | _, _, _, .cons (u := .s _) r t, h => by simp [usD] at h
  | _, _, _, .cons (u := .t _) r t, h => by simp [usD] at h
  | _, _, _, .cons (u := .td _) r t, h => by simp [usD] at h
theorem UL.ofData : ∀ {vs : List V} {ds : List PyData}, RpL K W.G vs ds → UL K fa W vs (ds.map .d)
  | _, _, .nil => .nil
  | _, _, .cons r t => .cons r (UL.ofData t)
theorem UK.data : ∀ {vs : List (Key × V)} {us : List (Key × U)} {ds : List (PyData × PyData)}, UK K fa W vs us → kvD us = some ds → RpK K W.G vs ds
  | _, _, _, .nil, h => by simp [kvD] at h; subst h; exact .nil
  | _, _, _, .cons (u := .d x) r t, h => by
    simp only [kvD, Option.map_eq_some_iff] at h
    obtain ⟨ds, h, rfl⟩ := h
    exact .cons r (UK.data t h)
  | _, _, _, .cons (u := .o _) r t, h => by simp [kvD] at h
  | _, _, _, .cons (u := .f _) r t, h => by simp [kvD] at h
  | _, _, _, .cons (u := .s _) r t, h => by simp [kvD] at h
  | _, _, _, .cons (u := .t _) r t, h => by simp [kvD] at h
  | _, _, _, .cons (u := .td _) r t, h => by simp [kvD] at h

/-! ### how worlds grow -/
theorem same_upd {H : Hp} {p : Addr} {o : HO} (h : H p = none) : Same H (upd H p o) := fun b x e => by
  rw [upd_ne (ne_of_none e h)]; exact e
theorem Sim.free (S : Sim K fa W st H) {p : Addr} (h : H p = none) : W.G p = none := S.sub.free h
theorem Sim.notin (S : Sim K fa W st H) {p : Addr} (h : H p = none) : p ∉ W.iot := fun m => S.tr p m h
theorem ORp.mono {H H' : Hp} {a : Addr} : ∀ {b : Ob}, ORp K fa W H a b → Le W W' → H' a = H a → (H a ≠ none → W.G a = none → W'.G a = none) → ORp K fa W' H' a b
  | .dead, _, _, _, _ => True.intro
  | .lst us, ⟨vs, h1, h2, h3⟩, l, e, g => ⟨vs, by rw [e]; exact h1, g (by rw [h1]; simp) h2, h3.mono l⟩
  | .dic us, ⟨vs, h1, h2, h3⟩, l, e, g => ⟨vs, by rw [e]; exact h1, g (by rw [h1]; simp) h2, h3.mono l⟩
/-- how world and heap go on: what the world does not know stays -/
structure Lx (W : Wd) (H : Hp) (W' : Wd) (H' : Hp) : Prop where
  le : Le W W'
  keep : ∀ a o, H a = some o → a ∉ W.iot → W.G a = none → H' a = some o ∧ a ∉ W'.iot ∧ W'.G a = none
theorem Lx.refl (W : Wd) (H : Hp) : Lx W H W H := ⟨Le.refl W, fun _ _ e n g => ⟨e, n, g⟩⟩
theorem Lx.trans {W1 W2 : Wd} {H1 H2 : Hp} (a : Lx W H W1 H1) (b : Lx W1 H1 W2 H2) : Lx W H W2 H2 :=
  ⟨a.le.trans b.le, fun x o e n g => let ⟨e1, n1, g1⟩ := a.keep x o e n g; b.keep x o e1 n1 g1⟩
/-- a new thing that stays as it is -/
theorem Sim.new (S : Sim K fa W st H) {p : Addr} {o : HO} (h : H p = none) : Sim K fa ⟨upd W.G p o, W.iot⟩ st (upd H p o) ∧ Lx W H ⟨upd W.G p o, W.iot⟩ (upd H p o) := by
  have l : Le W ⟨upd W.G p o, W.iot⟩ := ⟨same_upd (S.free h), [], by simp⟩
  refine ⟨⟨fun b x e => ?_, S.len, S.nd, fun n a b e1 e2 => ?_, fun a m => ?_⟩, l, fun a u e n g => ⟨by rw [upd_ne (ne_of_none e h)]; exact e, n, by show upd W.G p o a = none; rw [upd_ne (ne_of_none e h)]; exact g⟩⟩
  · by_cases hb : b = p
    · subst hb; rw [upd_same]; have e' : upd W.G b o b = some x := e; rw [upd_same] at e'; exact e'
    · rw [upd_ne hb]; have e' : upd W.G p o b = some x := e; rw [upd_ne hb] at e'; exact S.sub _ _ e'
  · have np : a ≠ p := fun z => S.notin h (z ▸ List.mem_of_getElem? e1)
    exact (S.ob n a b e1 e2).mono l (upd_ne np) fun _ g => by show upd W.G p o a = none; rw [upd_ne np]; exact g
  · have np : a ≠ p := fun z => S.notin h (z ▸ m)
    rw [upd_ne np]; exact S.tr a m
/-- a new object -/
theorem Sim.alloc (S : Sim K fa W st H) {p : Addr} {o : HO} {b : Ob} (h : H p = none) (hb : ORp K fa ⟨W.G, W.iot ++ [p]⟩ (upd H p o) p b) : Sim K fa ⟨W.G, W.iot ++ [p]⟩ (st ++ [b]) (upd H p o) ∧ Lx W H ⟨W.G, W.iot ++ [p]⟩ (upd H p o) := by
  have l : Le W ⟨W.G, W.iot ++ [p]⟩ := ⟨fun _ _ e => e, [p], rfl⟩
  refine ⟨⟨fun b x e => ?_, by simp [S.len], ?_, fun n a c e1 e2 => ?_, fun a m => ?_⟩, l, fun a u e n g => ⟨by rw [upd_ne (ne_of_none e h)]; exact e, fun z => (List.mem_append.mp z).elim n fun z => ne_of_none e h (by simpa using z), g⟩⟩
  · rw [upd_ne (ne_of_none e (S.free h))]; exact S.sub _ _ e
  · show (W.iot ++ [p]).Nodup
    rw [List.nodup_append]
    refine ⟨S.nd, by simp, fun a m b hb z => ?_⟩
    have : b = p := by simpa using hb
    exact S.notin h (this ▸ z ▸ m)
  · have e1' : (W.iot ++ [p])[n]? = some a := e1
    by_cases hn : n < W.iot.length
    · rw [List.getElem?_append_left hn] at e1'
      rw [List.getElem?_append_left (by rw [← S.len]; exact hn)] at e2
      have np : a ≠ p := fun z => S.notin h (z ▸ List.mem_of_getElem? e1')
      exact (S.ob n a c e1' e2).mono l (upd_ne np) fun _ g => g
    · have hn2 : n = W.iot.length := by
        have := (List.getElem?_eq_some_iff.mp e1').1
        simp at this; omega
      subst hn2
      rw [List.getElem?_append_right (Nat.le_refl _)] at e1'
      simp at e1'
      rw [S.len, List.getElem?_append_right (Nat.le_refl _)] at e2
      simp at e2
      subst e1'; subst e2
      exact hb
  · rcases List.mem_append.mp m with m | m
    · have np : a ≠ p := fun z => S.notin h (z ▸ m)
      rw [upd_ne np]; exact S.tr a m
    · have : a = p := by simpa using m
      subst this; rw [upd_same]; simp
theorem nodup_ix' {l : List Addr} (h : l.Nodup) {i j : Nat} {a : Addr} (h1 : l[i]? = some a) (h2 : l[j]? = some a) : i = j := by
  obtain ⟨x, e1⟩ := List.getElem?_eq_some_iff.mp h1
  obtain ⟨y, e2⟩ := List.getElem?_eq_some_iff.mp h2
  exact (List.getElem_inj h).mp (e1.trans e2.symm)
/-- an object is changed -/
theorem Sim.write (S : Sim K fa W st H) {n : Nat} {a : Addr} {o : HO} {b : Ob} (hi : W.iot[n]? = some a) (hg : W.G a = none) (hb : ORp K fa W (upd H a o) a b) : Sim K fa W (st.set n b) (upd H a o) ∧ Lx W H W (upd H a o) := by
  refine ⟨⟨fun b x e => ?_, by simp [S.len], S.nd, fun m c d e1 e2 => ?_, fun c m => ?_⟩, Le.refl W, fun c u e n g => ⟨by rw [upd_ne (show c ≠ a by intro z; subst z; exact n (List.mem_of_getElem? hi))]; exact e, n, g⟩⟩
  · rw [upd_ne (ne_of_none e hg)]; exact S.sub _ _ e
  · by_cases hm : n = m
    · subst hm
      rw [hi] at e1; cases e1
      have : n < st.length := by rw [← S.len]; exact (List.getElem?_eq_some_iff.mp hi).1
      rw [List.getElem?_set_self this] at e2; cases e2
      exact hb
    · rw [List.getElem?_set_ne hm] at e2
      have nc : c ≠ a := fun z => hm (nodup_ix' S.nd hi (z ▸ e1))
      exact (S.ob m c d e1 e2).mono (Le.refl _) (upd_ne nc) fun _ g => g
  · by_cases hc : c = a
    · subst hc; rw [upd_same]; simp
    · rw [upd_ne hc]; exact S.tr c m
/-- an object stays as it is from here on -/
theorem Sim.freeze (S : Sim K fa W st H) {n : Nat} {a : Addr} {o : HO} (hi : W.iot[n]? = some a) (hh : H a = some o) (hg : W.G a = none) :
    Sim K fa ⟨upd W.G a o, W.iot⟩ (st.set n .dead) H ∧ Lx W H ⟨upd W.G a o, W.iot⟩ H := by
  have l : Le W ⟨upd W.G a o, W.iot⟩ := ⟨same_upd hg, [], by simp⟩
  refine ⟨⟨fun b x e => ?_, by simp [S.len], S.nd, fun m c d e1 e2 => ?_, S.tr⟩, l, fun c u e n g => ⟨e, n, by show upd W.G a o c = none; rw [upd_ne (show c ≠ a by intro z; subst z; exact n (List.mem_of_getElem? hi))]; exact g⟩⟩
  · by_cases hb : b = a
    · subst hb; have e' : upd W.G b o b = some x := e; rw [upd_same] at e'; rw [hh]; exact e'
    · have e' : upd W.G a o b = some x := e; rw [upd_ne hb] at e'; exact S.sub _ _ e'
  · have e1' : W.iot[m]? = some c := e1
    by_cases hm : n = m
    · subst hm
      have : n < st.length := by rw [← S.len]; exact (List.getElem?_eq_some_iff.mp hi).1
      rw [List.getElem?_set_self this] at e2; cases e2
      exact True.intro
    · rw [List.getElem?_set_ne hm] at e2
      have nc : c ≠ a := fun z => hm (nodup_ix' S.nd hi (z ▸ e1'))
      exact (S.ob m c d e1' e2).mono l rfl fun _ g => by show upd W.G a o c = none; rw [upd_ne nc]; exact g

/-- an object that was laid ahead -/
theorem Sim.adopt (S : Sim K fa W st H) {p : Addr} {b : Ob} (h : H p ≠ none) (hn : p ∉ W.iot) (hb : ORp K fa ⟨W.G, W.iot ++ [p]⟩ H p b) : Sim K fa ⟨W.G, W.iot ++ [p]⟩ (st ++ [b]) H := by
  have l : Le W ⟨W.G, W.iot ++ [p]⟩ := ⟨fun _ _ e => e, [p], rfl⟩
  refine ⟨S.sub, by simp [S.len], ?_, fun n a c e1 e2 => ?_, fun a m => ?_⟩
  · show (W.iot ++ [p]).Nodup
    rw [List.nodup_append]
    refine ⟨S.nd, by simp, fun a m b hb z => ?_⟩
    have : b = p := by simpa using hb
    exact hn (this ▸ z ▸ m)
  · have e1' : (W.iot ++ [p])[n]? = some a := e1
    by_cases hn : n < W.iot.length
    · rw [List.getElem?_append_left hn] at e1'
      rw [List.getElem?_append_left (by rw [← S.len]; exact hn)] at e2
      exact (S.ob n a c e1' e2).mono l rfl fun _ g => g
    · have hn2 : n = W.iot.length := by
        have := (List.getElem?_eq_some_iff.mp e1').1
        simp at this; omega
      subst hn2
      rw [List.getElem?_append_right (Nat.le_refl _)] at e1'
      simp at e1'
      rw [S.len, List.getElem?_append_right (Nat.le_refl _)] at e2
      simp at e2
      subst e1'; subst e2
      exact hb
  · rcases List.mem_append.mp m with m | m
    · exact S.tr a m
    · have : a = p := by simpa using m
      subst this; exact h
/-- a thing laid ahead stays as it is from here on -/
theorem Sim.keep (S : Sim K fa W st H) {p : Addr} {o : HO} (h : H p = some o) (hn : p ∉ W.iot) (hg : W.G p = none) : Sim K fa ⟨upd W.G p o, W.iot⟩ st H := by
  have l : Le W ⟨upd W.G p o, W.iot⟩ := ⟨same_upd hg, [], by simp⟩
  refine ⟨fun b x e => ?_, S.len, S.nd, fun n a b e1 e2 => ?_, S.tr⟩
  · by_cases hb : b = p
    · subst hb; have e' : upd W.G b o b = some x := e; rw [upd_same] at e'; rw [h]; exact e'
    · have e' : upd W.G p o b = some x := e; rw [upd_ne hb] at e'; exact S.sub _ _ e'
  · have np : a ≠ p := fun z => hn (z ▸ List.mem_of_getElem? e1)
    exact (S.ob n a b e1 e2).mono l rfl fun _ g => by show upd W.G p o a = none; rw [upd_ne np]; exact g

/-! ### the store cut back -/
theorem URp.cut {n : Nat} {v : V} : ∀ {u : U}, URp K fa W v u → refsU n u = true → URp K fa ⟨W.G, W.iot.take n⟩ v u
  | .d _, h, _ => h
  | .f _, h, _ => h
  | .t _, h, _ => h
  | .td _, h, _ => h
  | .s _, h, _ => h
  | .o m, ⟨a, h, e⟩, r => ⟨a, by
      have hm : m < n := by simpa [refsU] using r
      show (W.iot.take n)[m]? = some a
      rw [List.getElem?_take_of_lt hm]; exact h, e⟩
theorem UL.cut {n : Nat} : ∀ {vs : List V} {us : List U}, UL K fa W vs us → us.all (refsU n) = true → UL K fa ⟨W.G, W.iot.take n⟩ vs us
  | _, _, .nil, _ => .nil
  | _, _, .cons r t, h => by
    rw [List.all_cons, Bool.and_eq_true] at h
    exact .cons (r.cut h.1) (UL.cut t h.2)
theorem UK.cut {n : Nat} : ∀ {vs : List (Key × V)} {us : List (Key × U)}, UK K fa W vs us → (us.all fun p => refsU n p.2) = true → UK K fa ⟨W.G, W.iot.take n⟩ vs us
  | _, _, .nil, _ => .nil
  | _, _, .cons r t, h => by
    rw [List.all_cons, Bool.and_eq_true] at h
    exact .cons (r.cut h.1) (UK.cut t h.2)
theorem Sim.cut (S : Sim K fa W st H) {n : Nat} (h : (st.take n).all (refsB n) = true) (hn : n ≤ st.length) : Sim K fa ⟨W.G, W.iot.take n⟩ (st.take n) H := by
  refine ⟨S.sub, by simp [S.len], S.nd.sublist (List.take_sublist _ _), fun m a b e1 e2 => ?_, fun a m => S.tr a (List.mem_of_mem_take m)⟩
  have e1' : (W.iot.take n)[m]? = some a := e1
  have hm : m < n := by
    have := (List.getElem?_eq_some_iff.mp e1').1
    simp at this; omega
  rw [List.getElem?_take_of_lt hm] at e1' 
  have hb : refsB n b = true := List.all_eq_true.mp h b (List.mem_of_getElem? e2)
  rw [List.getElem?_take_of_lt hm] at e2
  have z := S.ob m a b e1' e2
  cases b with
  | dead => exact True.intro
  | lst us => obtain ⟨vs, h1, h2, h3⟩ := z; exact ⟨vs, h1, h2, h3.cut hb⟩
  | dic us => obtain ⟨vs, h1, h2, h3⟩ := z; exact ⟨vs, h1, h2, h3.cut hb⟩
end
end PI
set_option Elab.async false
set_option linter.all false
set_option maxRecDepth 100000
set_option maxHeartbeats 2000000
namespace PI
open PySem PySem.Spec PyProof.Rows L2

theorem lim_le : lim ≤ sizeLine := by rw [sizeLine_eq]; decide
theorem lim_lt : lim < sizeLine := by rw [sizeLine_eq]; decide

section
variable (K : PySem.W.Frag) (fa : Fa)
/-- what follows an expression -/
def Kt (W : Wd) (H : Hp) (st : Sto) (u : U) (Q : VK) : Prop := ∀ W' H' v, Lx W H W' H' → Sim K fa W' st H' → URp K fa W' v u → Q v H'
def Kb (W : Wd) (H : Hp) (st : Sto) (b : Bool) (Q : Bool → Hp → Prop) : Prop := ∀ W' H', Lx W H W' H' → Sim K fa W' st H' → Q b H'
/-- a value that is read -/
def View (W : Wd) (H : Hp) (v : V) : PyData → Prop
  | .none => v = .non
  | .bool b => v = .bl b
  | .int i => v = .int i
  | .str x => v = .str x
  | .list ds => ∃ a vs, v = .ref a ∧ SqL K H a vs ∧ RpL K W.G vs ds
  | .tuple ds => ∃ a vs, v = .ref a ∧ SqT K H a vs ∧ RpL K W.G vs ds
  | .dict ds => ∃ a vs, v = .ref a ∧ H a = some (.dK vs) ∧ RpK K W.G vs ds
def ViewT (W : Wd) (H : Hp) (v : V) : PyData → Prop
  | .list ds => ∃ a vs, v = .ref a ∧ H a = some (.lst vs) ∧ RpL K W.G vs ds
  | x => View K W H v x
end
section
variable {K : PySem.W.Frag} {fa : Fa} {W W' : Wd} {st st' : Sto} {H : Hp} {v : V} {u : U} {Q : VK}
theorem Kt.mono {H' : Hp} (k : Kt K fa W H st u Q) (l : Lx W H W' H') : Kt K fa W' H' st u Q := fun W2 H2 v l2 => k W2 H2 v (l.trans l2)
theorem Kt.now (k : Kt K fa W H st u Q) (S : Sim K fa W st H) (r : URp K fa W v u) : Q v H := k W H v (Lx.refl _ _) S r
theorem Kt.tup {ds : List PyData} {vs : List V} (k : Kt K fa W H st (.d (.tuple ds)) Q) (S : Sim K fa W st H) (r : RpL K W.G vs ds) : ∀ p, H p = none → Q (.ref p) (upd H p (.tup vs)) := fun p hp =>
  let ⟨S', l⟩ := S.new (o := .tup vs) hp
  k _ _ _ l S' (.tup (.inl (.inl upd_same)) (r.mono l.le.g))
theorem Kt.lst {ds : List PyData} {vs : List V} (k : Kt K fa W H st (.d (.list ds)) Q) (S : Sim K fa W st H) (r : RpL K W.G vs ds) : ∀ p, H p = none → Q (.ref p) (upd H p (.lst vs)) := fun p hp =>
  let ⟨S', l⟩ := S.new (o := .lst vs) hp
  k _ _ _ l S' (.lst upd_same (r.mono l.le.g))
theorem mkL_ok {m : Bool} {us : List U} (h : mkL m us st = .ok u st') : us.length ≤ lim ∧ ((m = true ∧ u = .o st.length ∧ st' = st ++ [.lst us]) ∨ (m = false ∧ ∃ ds, usD us = some ds ∧ u = .d (.list ds) ∧ st' = st)) := by
  unfold PI.mkL at h
  split at h
  · rename_i hz
    refine ⟨hz, ?_⟩
    cases m with
    | true =>
      simp only [if_true, O.ok.injEq] at h
      exact .inl ⟨rfl, h.1.symm, h.2.symm⟩
    | false =>
      simp only [Bool.false_eq_true, if_false] at h
      split at h
      · rename_i ds hd
        simp only [O.ok.injEq] at h
        exact .inr ⟨rfl, ds, hd, h.1.symm, h.2.symm⟩
      · cases h
  · cases h
/-- a list is laid, frozen or not -/
theorem Kt.mkL {m : Bool} {us : List U} {vs : List V} (h : mkL m us st = .ok u st') (k : Kt K fa W H st' u Q) (S : Sim K fa W st H) (r : UL K fa W vs us) : vs.length ≤ sizeLine ∧ ∀ p, H p = none → Q (.ref p) (upd H p (.lst vs)) := by
  obtain ⟨hz, ⟨rfl, rfl, rfl⟩ | ⟨rfl, ds, hd, rfl, rfl⟩⟩ := mkL_ok h
  · refine ⟨by rw [r.length]; exact Nat.le_trans hz lim_le, fun p hp => ?_⟩
    obtain ⟨S', l⟩ := S.alloc (o := .lst vs) (b := .lst us) hp ⟨vs, upd_same, S.free hp, r.mono ⟨fun _ _ e => e, [p], rfl⟩⟩
    refine k _ _ _ l S' ⟨p, ?_, rfl⟩
    show (W.iot ++ [p])[st.length]? = some p
    rw [← S.len, List.getElem?_append_right (Nat.le_refl _)]; simp
  · exact ⟨by rw [r.length]; exact Nat.le_trans hz lim_le, fun p hp => k.lst S (r.data hd) p hp⟩
/-- a comprehension's list: its address is taken ahead of the items -/
theorem RpL.inv {K : PySem.W.Frag} {G : Hp} {d : PyData} {ds : List PyData} {vs : List V} (h : RpL K G vs (d :: ds)) : ∃ v r, vs = v :: r ∧ Rp K G v d ∧ RpL K G r ds := by
  cases h with
  | cons a b => exact ⟨_, _, rfl, a, b⟩
theorem viewT_of (S : Sim K fa W st H) {x : PyData} (r : URp K fa W v u) (h : vt st u = some x) : ViewT K W H v x := by
  cases u with
  | d y =>
    simp only [vt, vw, Option.some.injEq] at h
    subst h
    have r' : Rp K W.G v y := r
    cases r' with
    | non => rfl
    | bl b => rfl
    | int i => rfl
    | str x => rfl
    | lst a b => exact ⟨_, _, rfl, S.sub _ _ a, b⟩
    | tup a b => exact ⟨_, _, rfl, Same.sqT S.sub a, b⟩
    | dic a b => exact ⟨_, _, rfl, S.sub _ _ a, b⟩
  | f n => simp [vt, vw] at h
  | t n => simp [vt, vw] at h
  | td n => simp [vt, vw] at h
  | s n => simp [vt] at h
  | o n =>
    obtain ⟨a, ha, rfl⟩ := r
    simp only [vt, vw] at h
    split at h
    · rename_i us hu
      simp only [Option.map_eq_some_iff] at h
      obtain ⟨ds, hd, rfl⟩ := h
      obtain ⟨vs, h1, h2, h3⟩ := S.ob n a _ ha hu
      exact ⟨a, vs, rfl, h1, h3.data hd⟩
    · rename_i us hu
      simp only [Option.map_eq_some_iff] at h
      obtain ⟨ds, hd, rfl⟩ := h
      obtain ⟨vs, h1, h2, h3⟩ := S.ob n a _ ha hu
      exact ⟨a, vs, rfl, h1, h3.data hd⟩
    · cases h
theorem ViewT.view {x : PyData} (h : ViewT K W H v x) : View K W H v x := by
  cases x with
  | list ds => obtain ⟨a, vs, e, h1, h2⟩ := h; exact ⟨a, vs, e, .inl (.inl h1), h2⟩
  | _ => exact h
theorem view_of (S : Sim K fa W st H) {x : PyData} (r : URp K fa W v u) (h : vw st u = some x) : View K W H v x := by
  cases u with
  | s ns =>
    obtain ⟨a, ha, rfl⟩ := r
    simp only [vw, Option.some.injEq] at h
    subst h
    exact ⟨a, _, rfl, S.sub.seq ha, RpL.ofInts ns⟩
  | d y => exact (viewT_of S r h).view
  | f n => exact (viewT_of S r h).view
  | t n => exact (viewT_of S r h).view
  | td n => exact (viewT_of S r h).view
  | o n => exact (viewT_of S r h).view
theorem Rp.view (S : Same W.G H) {x : PyData} (r : Rp K W.G v x) : ViewT K W H v x := by
  cases r with
  | non => rfl
  | bl b => rfl
  | int i => rfl
  | str x => rfl
  | lst a b => exact ⟨_, _, rfl, S _ _ a, b⟩
  | tup a b => exact ⟨_, _, rfl, Same.sqT S a, b⟩
  | dic a b => exact ⟨_, _, rfl, S _ _ a, b⟩
/-- data without dicts, as the library's rules read it -/
theorem shaped_lay {d : PyData} (h : SeqAt.shaped d = true) : d.canLay0 = true := SeqAt.canLay_of_shaped h
mutual
theorem Rp.dp {K : PySem.W.Frag} {G : Hp} : ∀ {v : V} {d : PyData}, Rp K G v d → d.canLay0 = true → Dp K G v d
  | _, _, .non, _ => .non
  | _, _, .bl b, _ => .bl b
  | _, _, .int b, _ => .int b
  | _, _, .str b, _ => .str b
  | _, _, .lst a b, h => .lst (.inl (.inl a)) (RpL.dp b (by simpa [PyData.canLay0] using h))
  | _, _, .tup a b, h => .tup a (RpL.dp b (by simpa [PyData.canLay0] using h))
  | _, _, .dic _ _, h => by simp [PyData.canLay0] at h
theorem RpL.dp {K : PySem.W.Frag} {G : Hp} : ∀ {vs : List V} {ds : List PyData}, RpL K G vs ds → PyData.canLayAll0 ds = true → DpAll K G vs ds
  | _, _, .nil, _ => .nil
  | _, _, .cons a b, h => by
    simp only [PyData.canLayAll0, Bool.and_eq_true] at h
    exact .cons (a.dp h.1) (RpL.dp b h.2)
end
theorem View.dp (S : Same W.G H) {x : PyData} (h : View K W H v x) (c : x.canLay0 = true) : Dp K H v x := by
  cases x with
  | none => cases h; exact .non
  | bool b => cases h; exact .bl b
  | int b => cases h; exact .int b
  | str b => cases h; exact .str b
  | list ds => obtain ⟨a, vs, rfl, h1, h2⟩ := h; exact .lst h1 ((h2.mono S).dp (by simpa [PyData.canLay0] using c))
  | tuple ds => obtain ⟨a, vs, rfl, h1, h2⟩ := h; exact .tup h1 ((h2.mono S).dp (by simpa [PyData.canLay0] using c))
  | dict ds => simp [PyData.canLay0] at c
end

/-! ### binary operators -/
def opB : Bop → Operator
  | .add => .Add | .sub => .Sub | .mul => .Mult | .div => .FloorDiv | .mod => .Mod | .pow => .Pow
def rB (K : PySem.W.Frag) (fa : Fa) (o : Bop) : R2 := fun x y H Q => ∃ W st ua ub u st', Sim K fa W st H ∧ URp K fa W x ua ∧ URp K fa W y ub ∧ bop o ua ub st = .ok u st' ∧ Kt K fa W H st' u Q
theorem bop_ok {o : Bop} {a b u : U} {st st' : Sto} (h : bop o a b st = .ok u st') : st' = st ∧ ∃ x y z, vt st a = some x ∧ vt st b = some y ∧ bopD o x y = some z ∧ u = .d z := by
  unfold bop at h
  split at h
  · rename_i x y hx hy
    split at h
    · rename_i z hz
      cases h
      exact ⟨rfl, x, y, z, hx, hy, hz, rfl⟩
    · cases h
  · cases h
theorem tuple_mul_one (l : Addr) (items : Array Value) (n : Nat) (dd : Option Addr) (sl : Array (Option Value)) (u : Tok) :
    Meets (Builtin.«tuple.__mul__» ⟨[.ref l, .int 1 u], []⟩) (fun _ R s => s.heap.get? l = some { cls := .type "tuple", dict := dd, data := .seq items n, slots := sl } ∧
      R (.ok (.ret (Value.ref l))) s) :=
  .of_wp fun prog w A R s h => by
    obtain ⟨hp, g, d, tk, os⟩ := s
    obtain ⟨hl, h⟩ := h
    have f1 := AutoSeq1.idx_int
    have c1 : (items.isEmpty || ((1 : Int) == 1)) = true := by simp
    wp_walk using wpAny_loadPart' hl
    exact ⟨_, rfl, h⟩
theorem tuple_mul_zero (l : Addr) (items : Array Value) (n : Nat) (dd : Option Addr) (sl : Array (Option Value)) (u : Tok) (c1 : items.isEmpty = false) :
    Meets (Builtin.«tuple.__mul__» ⟨[.ref l, .int 0 u], []⟩) (fun _ R s => s.heap.get? l = some { cls := .type "tuple", dict := dd, data := .seq items n, slots := sl } ∧
      R (.ok (.ret (Value.ref s.heap.objs.size))) { s with heap := s.heap.push { cls := Value.type "tuple", data := Data.seq #[] }, toks := s.toks }) :=
  .of_wp fun prog w A R s h => by
    obtain ⟨hp, g, d, tk, os⟩ := s
    obtain ⟨hl, h⟩ := h
    have f1 := AutoSeq1.idx_int
    have c1' : (items.isEmpty || ((0 : Int) == 1)) = false := by rw [c1]; rfl
    wp_walk using wpAny_loadPart' hl
    exact ⟨_, rfl, h⟩
def rRepT1 (K : PySem.W.Frag) : R2 := fun x y H Q => ∃ l xs, x = .ref l ∧ y = .int 1 ∧ SqT K H l xs ∧ Q (.ref l) H
def rRepT0 (K : PySem.W.Frag) : R2 := fun x y H Q => ∃ l xs, x = .ref l ∧ y = .int 0 ∧ SqT K H l xs ∧ xs ≠ [] ∧ ∀ p, H p = none → Q (.ref p) (upd H p (.tup []))
theorem op_repT1 {X : Cx} : OpR X (binaryOp .Mult) (rRepT1 X.K) := by
  intro pins s σ H x y v u Q I rx ry h
  obtain ⟨l, xs, rfl, rfl, hT, q⟩ := h
  cases rx
  obtain ⟨t, rfl⟩ := ry
  obtain ⟨its, r, ⟨⟨cls, dd, data, sl⟩, ho, hc, n, hd⟩, hs⟩ := I.tuple hT
  simp only at hc hd
  subst hc hd
  exact wpAny_binaryOp_repeat_ref (T := "tuple") (U := "int") (by decide) ⟨_, ho, rfl⟩ (fun s' => typeIs_int s' 1 t) noFill_tuple_mul F.fills_int_mul F.slot_int_rmul repeat_tuple F.slot_int_index.lookup
    (call_meets F.slot_int_rmul (typeIs_int s 1 t) F.entry_int_rmul (F.args_int_rmul_2 _ _) (int_rmul_tuple 1 t l its.toArray n dd sl)
      ⟨ho, rfl, ⟨_, ho, rfl⟩, call_meets F.slot_tuple_mul ⟨_, ho, rfl⟩ F.entry_tuple_mul (F.args_tuple_mul_2 _ _) (tuple_mul_one l its.toArray n dd sl t) ⟨ho, .ref l, H, I, (show RelV (.ref l) (Value.ref l) from (rfl : Value.ref l = Value.ref l)), q⟩⟩)
theorem op_repT0 {X : Cx} : OpR X (binaryOp .Mult) (rRepT0 X.K) := by
  intro pins s σ H x y v u Q I rx ry h
  obtain ⟨l, xs, rfl, rfl, hT, hne, q⟩ := h
  cases rx
  obtain ⟨t, rfl⟩ := ry
  obtain ⟨its, r, ⟨⟨cls, dd, data, sl⟩, ho, hc, n, hd⟩, hs⟩ := I.tuple hT
  simp only at hc hd
  subst hc hd
  have hle : its.length = xs.length := r.length.symm
  have hi : its.toArray.isEmpty = false := by
    cases its with
    | nil => exact absurd (List.eq_nil_of_length_eq_zero hle.symm) hne
    | cons a b => rfl
  refine wpAny_binaryOp_repeat_ref (T := "tuple") (U := "int") (by decide) ⟨_, ho, rfl⟩ (fun s' => typeIs_int s' 0 t) noFill_tuple_mul F.fills_int_mul F.slot_int_rmul repeat_tuple F.slot_int_index.lookup
    (call_meets F.slot_int_rmul (typeIs_int s 0 t) F.entry_int_rmul (F.args_int_rmul_2 _ _) (int_rmul_tuple 0 t l its.toArray n dd sl)
      ⟨ho, rfl, ⟨_, ho, rfl⟩, call_meets F.slot_tuple_mul ⟨_, ho, rfl⟩ F.entry_tuple_mul (F.args_tuple_mul_2 _ _) (tuple_mul_zero l its.toArray n dd sl t hi) ⟨ho, ?_⟩⟩)
  refine ⟨.ref s.heap.objs.size, _, I.laid (t' := s.toks) (o := .tup []) (fun b ob q => Heap.get?_push_of_some _ q) (Nat.le_refl _) ?_, rfl, q _ (I.hok.fresh (Nat.le_refl _))⟩
  exact ⟨by decide, [], .nil, IsTup.new _ _⟩
section
variable {X : Cx} {fa : Fa}
theorem op_powW : OpR X (binaryOp .Pow) (rI (fun i j => 0 ≤ j ∧ (Builtin.Int.intBits i : Int) * j ≤ 134217728) fun i j => .int (i ^ j.toNat)) := opI fun _ _ _ _ _ _ _ hc q => PyProof.Rows.pow_int hc.1 hc.2 q
theorem op_B (o : Bop) : OpR X (binaryOp (opB o)) (rB X.K fa o) := by
  intro pins s σ H x y v u Q I rx ry h
  obtain ⟨W, st, ua, ub, u', st', S, ra, rb, hb, k⟩ := h
  obtain ⟨rfl, dx, dy, dz, hx, hy, hz, rfl⟩ := bop_ok hb
  have vx := viewT_of S ra hx
  have vy := viewT_of S rb hy
  unfold bopD at hz
  split at hz
  · rename_i i j
    cases vx; cases vy; cases hz
    exact op_add pins s σ H _ _ v u Q I rx ry ⟨i, j, rfl, rfl, k.now S (.int _)⟩
  · rename_i i j
    cases vx; cases vy; cases hz
    exact op_sub pins s σ H _ _ v u Q I rx ry ⟨i, j, rfl, rfl, k.now S (.int _)⟩
  · rename_i i j
    cases vx; cases vy
    split at hz
    · rename_i hc
      cases hz
      exact op_mulW pins s σ H _ _ v u Q I rx ry ⟨i, j, rfl, rfl, hc, k.now S (.int _)⟩
    · cases hz
  · rename_i i j
    cases vx; cases vy
    split at hz
    · rename_i hc
      cases hz
      exact op_fdivW pins s σ H _ _ v u Q I rx ry ⟨i, j, rfl, rfl, hc, k.now S (.int _)⟩
    · cases hz
  · rename_i i j
    cases vx; cases vy
    split at hz
    · rename_i hc
      cases hz
      exact op_mod pins s σ H _ _ v u Q I rx ry ⟨i, j, rfl, rfl, hc, k.now S (.int _)⟩
    · cases hz
  · rename_i i j
    cases vx; cases vy
    split at hz
    · rename_i hc
      cases hz
      exact op_powW pins s σ H _ _ v u Q I rx ry ⟨i, j, rfl, rfl, hc, k.now S (.int _)⟩
    · cases hz
  · rename_i i j
    cases vx; cases vy
    split at hz
    · rename_i hc
      cases hz
      exact op_add_str pins s σ H _ _ v u Q I rx ry ⟨i, j, rfl, rfl, Nat.le_trans hc lim_le, k.now S (.str _)⟩
    · cases hz
  · rename_i xs ys
    obtain ⟨a, vs, rfl, h1, h2⟩ := vx
    obtain ⟨b, ws, rfl, h3, h4⟩ := vy
    split at hz
    · rename_i hc
      cases hz
      refine op_catA pins s σ H _ _ v u Q I rx ry ⟨a, b, vs, ws, rfl, rfl, h1, h3, by rw [h2.length, h4.length]; exact Nat.le_trans hc lim_le, fun e => ?_, fun _ e => ?_, fun _ _ => k.tup S (h2.append h4)⟩
      · subst e
        cases h2
        refine k.now S ?_
        cases ub with
        | d z => simp only [vt, vw, Option.some.injEq] at hy; subst hy; exact rb
        | o n =>
          simp only [vt, vw] at hy
          split at hy <;> simp at hy
        | f n => simp [vt, vw] at hy
        | t n => simp [vt, vw] at hy
        | td n => simp [vt, vw] at hy
        | s n => simp [vt] at hy
      · subst e
        cases h4
        refine k.now S ?_
        cases ua with
        | d z => simp only [vt, vw, Option.some.injEq] at hx; subst hx; rw [List.append_nil]; exact ra
        | o n =>
          simp only [vt, vw] at hx
          split at hx <;> simp at hx
        | f n => simp [vt, vw] at hx
        | t n => simp [vt, vw] at hx
        | td n => simp [vt, vw] at hx
        | s n => simp [vt] at hx
    · cases hz
  · rename_i xs ys
    obtain ⟨a, vs, rfl, h1, h2⟩ := vx
    obtain ⟨b, ws, rfl, h3, h4⟩ := vy
    split at hz
    · rename_i hc
      cases hz
      exact op_cat pins s σ H _ _ v u Q I rx ry ⟨a, b, vs, ws, rfl, rfl, h1, h3, by rw [h2.length, h4.length]; exact Nat.le_trans hc lim_le, k.lst S (h2.append h4)⟩
    · cases hz
  · rename_i xs n
    obtain ⟨a, vs, rfl, h1, h2⟩ := vx
    cases vy
    split at hz
    · rename_i hc
      cases hz
      refine op_rep pins s σ H _ _ v u Q I rx ry ⟨a, n, vs, rfl, rfl, h1, by omega, by omega, ?_, k.lst S (h2.rep _)⟩
      have e1 : vs.length ≤ 1000 := by rw [h2.length]; exact hc.2.2
      have e2 : n.toNat ≤ 1000 := by omega
      have e3 := Nat.mul_le_mul e1 e2
      rw [sizeLine_eq]; omega
    · cases hz
  · rename_i xs n
    obtain ⟨a, vs, rfl, h1, h2⟩ := vx
    cases vy
    split at hz
    · rename_i hc
      cases hz
      have hne : vs ≠ [] := by intro e; subst e; cases h2; exact hc.2.2.2 rfl
      by_cases n0 : n = 0
      · subst n0
        exact op_repT0 pins s σ H _ _ v u Q I rx ry ⟨a, vs, rfl, rfl, h1, hne, k.tup S .nil⟩
      by_cases n1 : n = 1
      · subst n1
        refine op_repT1 pins s σ H _ _ v u Q I rx ry ⟨a, vs, rfl, rfl, h1, ?_⟩
        have e1 : rep xs (1 : Int).toNat = xs := by simp [rep]
        rw [e1] at k
        refine k.now S ?_
        cases ua with
        | d z => simp only [vt, vw, Option.some.injEq] at hx; subst hx; exact ra
        | o n =>
          simp only [vt, vw] at hx
          split at hx <;> simp at hx
        | f n => simp [vt, vw] at hx
        | t n => simp [vt, vw] at hx
        | td n => simp [vt, vw] at hx
        | s n => simp [vt] at hx
      exact op_repT pins s σ H _ _ v u Q I rx ry ⟨a, n, vs, rfl, rfl, h1, hne, by omega, hc.2.1, by rw [h2.length]; exact hc.2.2.1, k.tup S (h2.rep _)⟩
    · cases hz
  · cases hz
def rBM (K : PySem.W.Frag) (fa : Fa) : R2 := fun x y H Q => ∃ W st ua ub u st', Sim K fa W st H ∧ URp K fa W x ua ∧ URp K fa W y ub ∧ addMU ua ub st = .ok u st' ∧ Kt K fa W H st' u Q
theorem op_BM : OpR X (binaryOp .Add) (rBM X.K fa) := by
  intro pins s σ H x y v u Q I rx ry ⟨W, st, ua, ub, z, st', S, ra, rb, h, k⟩
  unfold addMU at h
  split at h
  · rename_i xs ys hx hy
    obtain ⟨a, vs, rfl, h1, h2⟩ := viewT_of S ra hx
    obtain ⟨b, ws, rfl, h3, h4⟩ := viewT_of S rb hy
    have q := Kt.mkL h k S (UL.ofData (h2.append h4))
    exact op_cat pins s σ H _ _ v u Q I rx ry ⟨a, b, vs, ws, rfl, rfl, h1, h3, by rw [← List.length_append]; exact q.1, q.2⟩
  · cases h
end
end PI
set_option Elab.async false
set_option linter.all false
set_option maxRecDepth 100000
set_option maxHeartbeats 2000000
namespace PI
namespace Kd
open PySem PySem.Spec PyProof.Rows PyProof.V L2
/-! a dict is no text -/
theorem str_declines_dict (b : Str) (t : Tok) (l : Addr) (dd : Option Addr) (es : Array DictEntry) (n : Nat) (sl : Array (Option Value)) :
    Meets (Builtin.«str.__eq__» ⟨[.str b t, .ref l], []⟩) (fun _ R s => s.heap.get? l = some { cls := .type "dict", dict := dd, data := .dict es n, slots := sl } ∧ R (.ok (.ret .notImplemented)) s) :=
  .of_wp fun prog w A R s h => by
    obtain ⟨hp, g, d, tk, os⟩ := s
    obtain ⟨hl, h⟩ := h
    wp_walk using wpAny_loadPart' hl, wpAny_load hl
    exact ⟨_, rfl, h⟩
theorem op_eqDS {X : Cx} (hu : X.A.units < cLine) : OpR X (compareOp .Eq) (fun x y H Q => ∃ a kvs z, x = .ref a ∧ y = .str z ∧ Rd H a (.dK kvs) ∧ Q (.bl false) H) := by
  intro pins s σ H x y v u Q I rx ry h
  obtain ⟨a, kvs, z, rfl, rfl, hd, q⟩ := h
  cases rx
  obtain ⟨t, rfl⟩ := ry
  obtain ⟨_, lo, vs, rel, dd⟩ := dk_rd I.hok hd
  have ty := dd.typeIs
  obtain ⟨o, es, ep, ho, he, hdat, hk⟩ := id dd
  obtain ⟨cls, od, data, sl⟩ := o
  have hc : cls = .type "dict" := he.1
  simp only at hc hdat
  subst hc hdat
  refine SeqAt.rc_eq_decline_or (k := false) ty (typeIs_str s z t) (by decide) PySem.F.sub_str_dict PySem.F.slot_dict_eq PySem.F.slot_str_eq_refl ?_ ?_ (fun _ hq => wpAny_of_eq (rfl : isSame (.ref a) (.str z t) = pure false) hq) (.inr hu) ⟨.bl false, H, I, rfl, q⟩
  · intro Q1 q1
    refine wpAny_call_entry PySem.F.slot_dict_eq ty PySem.F.entry_dict_eq ?_ (PySem.F.args_dict_eq_2 _ _)
    show wpAny _ _ (Builtin.Dict.dictSlotArgs "__eq__" ⟨[.ref a, .str z t], []⟩ >>= _) _ _ s
    refine wpAny_bind ?_
    unfold Builtin.Dict.dictSlotArgs
    refine wpAny_bind (wpAny_notOrdered_dict ty ?_)
    show wpAny _ _ (pure (Value.ref a, Value.str z t)) _ _ s
    refine wpAny_pure ?_
    refine wpAny_bind (wpAny_isInstance (T := "str") (typeIs_str s z t) PySem.F.sub_str_dict ?_)
    simp only [Bool.not_false, if_true]
    refine wpAny_bind (wpAny_rule ?_)
    exact wpAny_pure ⟨_, rfl, q1⟩
  · intro Q1 q1
    exact call_meets PySem.F.slot_str_eq_refl (typeIs_str s z t) PySem.F.entry_str_eq (PySem.F.args_str_eq_2 _ _) (str_declines_dict z t a od es ep sl) ⟨ho, q1⟩
theorem op_eqLS {X : Cx} (hu : X.A.units < cLine) : OpR X (compareOp .Eq) (fun x y H Q => ∃ a xs z, x = .ref a ∧ y = .str z ∧ SqL X.K H a xs ∧ Q (.bl false) H) := by
  intro pins s σ H x y v u Q I rx ry h
  obtain ⟨a, xs, z, rfl, rfl, hs, q⟩ := h
  cases rx
  obtain ⟨t, rfl⟩ := ry
  obtain ⟨its, rv, ⟨o, n, ho, hc, _, hd⟩, _⟩ := I.list hs
  exact SeqAt.RcAt.list_str z t ⟨o, ho, hc, n, hd⟩ hu X.prog X.w X.xe _ ⟨.bl false, H, I, rfl, q⟩
theorem op_eqTS {X : Cx} (hu : X.A.units < cLine) : OpR X (compareOp .Eq) (fun x y H Q => ∃ a xs z, x = .ref a ∧ y = .str z ∧ SqT X.K H a xs ∧ Q (.bl false) H) := by
  intro pins s σ H x y v u Q I rx ry h
  obtain ⟨a, xs, z, rfl, rfl, hs, q⟩ := h
  cases rx
  obtain ⟨t, rfl⟩ := ry
  obtain ⟨its, rv, ⟨o, ho, hc, n, hd⟩, _⟩ := I.tuple hs
  exact SeqAt.RcAt.tuple_str z t ⟨o, ho, hc, n, hd⟩ hu X.prog X.w X.xe _ ⟨.bl false, H, I, rfl, q⟩
end Kd
end PI
namespace PI
open PySem PySem.Spec PyProof.Rows L2

/-! ### comparisons -/
def opC : Cop → CmpOp
  | .eq => .Eq | .ne => .NotEq | .lt => .Lt | .le => .LtE | .gt => .Gt | .ge => .GtE | .isin => .In | .notin => .NotIn | .is => .Is | .isnot => .IsNot
def rC (K : PySem.W.Frag) (fa : Fa) (o : Cop) : R2 := fun x y H Q => ∃ W st ua ub b st', Sim K fa W st H ∧ URp K fa W x ua ∧ URp K fa W y ub ∧ cop o ua ub st = .ok b st' ∧ Kb K fa W H st' b fun b H' => Q (.bl b) H'
theorem cop_ok {o : Cop} {a b : U} {z : Bool} {st st' : Sto} (h : cop o a b st = .ok z st') : st' = st ∧ (dcop o a b st = some z ∨ ∃ x y, vw st a = some x ∧ vw st b = some y ∧ cmpD o x y = some z) := by
  unfold cop at h
  split at h
  · rename_i z hz
    cases h
    exact ⟨rfl, .inl hz⟩
  · split at h
    · rename_i x y hx hy
      split at h
      · rename_i z hz
        cases h
        exact ⟨rfl, .inr ⟨x, y, hx, hy, hz⟩⟩
      · cases h
    · cases h
/-! ### what a dict has -/
theorem keyD_eq {x : PyData} {k : Key} (h : keyD x = some k) : x = kD k := by
  cases x <;> simp [keyD] at h <;> subst h <;> rfl
theorem kD_inj {k l : Key} (h : kD k = kD l) : k = l := by
  cases k <;> cases l <;> simp [kD] at h <;> subst h <;> rfl
def OV (K : PySem.W.Frag) (fa : Fa) (W : Wd) : Option U → Option V → Prop
  | none, o => o = none
  | some u, o => ∃ v, o = some v ∧ URp K fa W v u
def OW (K : PySem.W.Frag) (fa : Fa) (W : Wd) : Option U → Option Value → Prop
  | none, o => o = none
  | some u, o => ∃ v w, o = some w ∧ RelV v w ∧ URp K fa W v u
inductive DG (K : PySem.W.Frag) (fa : Fa) (W : Wd) (H : Hp) (v y : V) (r : Option U) : Prop
  | k (a : Addr) (z : Str) (r0 : Option Value) (D : ∃ es n, KDict K fa.w a es n) (ev : v = .ref a) (ey : y = .str z) (e : PySem.W.nsIn K a z = some r0) (h : OW K fa W r r0) : DG K fa W H v y r
  | d (a : Addr) (o : Option V) (ev : v = .ref a) (g : DGet H a y o) (hd : ∃ kvs, Rd H a (.dK kvs)) (h : OV K fa W r o) : DG K fa W H v y r
section
variable {K : PySem.W.Frag} {fa : Fa} {W : Wd} {H : Hp} {v y : V} {st : Sto}
theorem RpK.find {G : Hp} {k : Key} : ∀ {xs : List (Key × V)} {kvs : List (PyData × PyData)}, RpK K G xs kvs →
    (∃ v x, valV xs k = some v ∧ (kvs.find? fun p => decide (p.1 = kD k)) = some (kD k, x) ∧ Rp K G v x) ∨ (valV xs k = none ∧ (kvs.find? fun p => decide (p.1 = kD k)) = none)
  | _, _, .nil => .inr ⟨rfl, rfl⟩
  | _, _, .cons (k := l) (v := v) (d := x) r t => by
    by_cases e : l = k
    · subst e
      exact .inl ⟨v, x, valV_pos rfl, by rw [List.find?_cons]; simp, r⟩
    · have ne : ¬ kD l = kD k := fun z => e (kD_inj z)
      rcases RpK.find (k := k) t with ⟨v', x', h1, h2, h3⟩ | ⟨h1, h2⟩
      · exact .inl ⟨v', x', by rw [valV_neg e]; exact h1, by rw [List.find?_cons]; simp [ne, h2], h3⟩
      · exact .inr ⟨by rw [valV_neg e]; exact h1, by rw [List.find?_cons]; simp [ne, h2]⟩
theorem UK.find {k : Key} : ∀ {xs : List (Key × V)} {kvs : List (Key × U)}, UK K fa W xs kvs → OV K fa W (valK kvs k) (valV xs k)
  | _, _, .nil => rfl
  | _, _, .cons (k := l) (v := v) (u := u) r t => by
    by_cases e : l = k
    · subst e
      have e1 : ∀ q, valK ((l, u) :: q) l = some u := fun q => by unfold valK; rw [List.find?_cons]; simp
      rw [e1]
      exact ⟨v, valV_pos rfl, r⟩
    · have := UK.find (k := k) t
      unfold valK at this ⊢
      rw [valV_neg e, List.find?_cons]
      simpa [e] using this
theorem dg_of (S : Sim K fa W st H) {b : U} {x : PyData} {r : Option U} (rv : URp K fa W v b) (ry : View K W H y x) (h : dictGet st b x = some r) : DG K fa W H v y r := by
  have key : ∀ k, keyD x = some k → y = kV k := fun k e => by
    have := keyD_eq e
    subst this
    cases k <;> exact ry
  cases b with
  | s ns => simp [dictGet] at h
  | f n => simp [dictGet] at h
  | t kvs =>
    obtain ⟨a, T, rfl⟩ := rv
    cases x with
    | str z =>
      simp only [dictGet, Option.some.injEq] at h
      obtain ⟨r0, e, φ⟩ := T.get z
      refine .k a z r0 T.kd rfl ry e ?_
      unfold tabF at φ
      subst h
      cases q : kvs.lookup z with
      | none => rw [q] at φ; exact φ
      | some n => rw [q] at φ; obtain ⟨b, h1, rfl⟩ := φ; exact ⟨.ref b, .ref b, rfl, rfl, b, h1, rfl⟩
    | _ => simp [dictGet] at h
  | td kvs =>
    obtain ⟨a, T, rfl⟩ := rv
    cases x with
    | str z =>
      simp only [dictGet, Option.some.injEq] at h
      obtain ⟨r0, e, φ⟩ := T.get z
      refine .k a z r0 T.kd rfl ry e ?_
      unfold tabD at φ
      subst h
      cases q : kvs.lookup z with
      | none => rw [q] at φ; exact φ
      | some n => rw [q] at φ; obtain ⟨v0, u0, rfl, h2, h3⟩ := φ; exact ⟨v0, u0, rfl, h2, h3.mono (fun _ _ z => by cases z)⟩
    | _ => simp [dictGet] at h
  | o n =>
    obtain ⟨a, ha, rfl⟩ := rv
    simp only [dictGet] at h
    split at h
    · rename_i kvs hk
      split at h
      · rename_i k hx
        simp only [Option.some.injEq] at h
        obtain ⟨xs, h1, h2, h3⟩ := S.ob n a _ ha hk
        subst h
        exact .d a _ rfl (.inl ⟨xs, k, .inl h1, key k hx, rfl⟩) ⟨xs, .inl h1⟩ (UK.find h3)
      · cases h
    · cases h
  | d z =>
    cases z with
    | dict kvs =>
      simp only [dictGet] at h
      split at h
      · rename_i k hx
        simp only [Option.some.injEq] at h
        have rv' : Rp K W.G v (.dict kvs) := rv
        cases rv' with
        | @dic a xs _ h1 h2 =>
          have e := keyD_eq hx
          subst e
          have h1' : Rd H a (.dK xs) := .inl (S.sub _ _ h1)
          refine .d a (valV xs k) rfl (.inl ⟨xs, k, h1', key k hx, rfl⟩) ⟨xs, h1'⟩ ?_
          subst h
          rcases RpK.find (k := k) h2 with ⟨v', x', q1, q2, q3⟩ | ⟨q1, q2⟩
          · rw [q2]; exact ⟨v', q1, q3⟩
          · rw [q2]; exact q1
      · cases h
    | _ => simp [dictGet] at h
theorem OV.some {r : Option U} {o : Option V} (h : OV K fa W r o) : o.isSome = r.isSome := by
  cases r with
  | none => cases (show o = none from h); rfl
  | some u => obtain ⟨v, rfl, _⟩ := h; rfl
theorem OW.some {r : Option U} {o : Option Value} (h : OW K fa W r o) : o.isSome = r.isSome := by
  cases r with
  | none => cases (show o = none from h); rfl
  | some u => obtain ⟨v, w, rfl, _⟩ := h; rfl
end
section
variable {K : PySem.W.Frag} {fa : Fa} {W : Wd} {H : Hp} {v w' : V} {st : Sto}
theorem View.flat {x : PyData} (h : View K W H v x) (f : flatD x = true) : flatV v = true := by
  cases x <;> first | (cases h; rfl) | exact absurd (show false = true from f) Bool.false_ne_true
theorem eqv_flat {x y : PyData} (hx : View K W H v x) (hy : View K W H w' y) (fx : flatD x = true) (fy : flatD y = true) : eqV v w' = PyData.eqv x y := by
  cases x <;> cases y <;> first
    | (cases hx; cases hy; rfl)
    | exact absurd (show false = true from fx) Bool.false_ne_true
    | exact absurd (show false = true from fy) Bool.false_ne_true
theorem RpL.flat {G : Hp} : ∀ {ds : List PyData} {vs : List V}, RpL K G vs ds → ds.all flatD = true → vs.all flatV = true
  | _, _, .nil, _ => rfl
  | x :: _, _, .cons a b, h => by
    rw [List.all_cons, Bool.and_eq_true] at h ⊢
    exact ⟨(Rp.view (W := ⟨G, []⟩) (H := G) (fun _ _ e => e) a).view.flat h.1, RpL.flat b h.2⟩
theorem any_flat {G : Hp} {x : PyData} (hx : View K W H v x) (fx : flatD x = true) : ∀ {ds : List PyData} {vs : List V}, RpL K G vs ds → ds.all flatD = true → inV v vs = ds.any fun z => PyData.eqv z x
  | _, _, .nil, _ => rfl
  | y :: ds, w1 :: vs, .cons a b, h => by
    rw [List.all_cons, Bool.and_eq_true] at h
    have e := any_flat hx fx b h.2
    unfold inV at e ⊢
    rw [List.any_cons, List.any_cons, e]
    have va := (Rp.view (W := ⟨G, []⟩) (H := G) (fun _ _ e => e) a).view
    have : eqV w1 v = PyData.eqv y x := by
      cases x <;> cases y <;> first
        | (cases hx; cases va; rfl)
        | exact absurd (show false = true from fx) Bool.false_ne_true
        | exact absurd (show false = true from h.1) Bool.false_ne_true
    rw [this]
end
section
variable {X : Cx} {fa : Fa}
theorem Kb.now {K : PySem.W.Frag} {fa : Fa} {W : Wd} {st : Sto} {H : Hp} {b : Bool} {Q : Bool → Hp → Prop} (k : Kb K fa W H st b Q) (S : Sim K fa W st H) : Q b H := k W H (Lx.refl _ _) S
theorem shaped_noStr {x : PyData} (f : flatD x = true) (n : ∀ s, x ≠ .str s) : SeqAt.shaped x = true := by
  cases x with
  | str s => exact absurd rfl (n s)
  | none => rfl
  | bool b => rfl
  | int i => rfl
  | _ => exact absurd (show false = true from f) Bool.false_ne_true
theorem op_eqTup0 (hu : X.A.units < cLine) : OpR X (compareOp .Eq) (fun x y H Q => ∃ a b xs, x = .ref a ∧ y = .ref b ∧ SqT X.K H a xs ∧ SqT X.K H b [] ∧ Q (.bl xs.isEmpty) H) := by
  intro pins s σ H x y v u Q I rx ry h
  obtain ⟨a, b, xs, rfl, rfl, ha, hb, q⟩ := h
  cases rx; cases ry
  obtain ⟨its, r, p, _⟩ := I.tuple ha
  obtain ⟨its2, r2, p2, _⟩ := I.tuple hb
  cases r2
  refine SeqAt.eq_tupleAt (e := fun _ => true) p p2 hu (fun j h1 h2 => absurd h2 (by simp)) ⟨.bl _, H, I, ?_, q⟩
  have hl := r.length
  show Value.bool _ = Value.bool _
  cases xs with
  | nil => cases r; rfl
  | cons x xs => cases r; simp
theorem op_C (hu : X.A.units + 65 < cLine) (hw : fa.w = X.w) (o : Cop) : OpR X (compareOp (opC o)) (rC X.K fa o) := by
  intro pins s σ H x y v u Q I rx ry h
  obtain ⟨W, st, ua, ub, b, st', S, ra, rb, hb, k⟩ := h
  obtain ⟨rfl, hb | ⟨dx, dy, hx, hy, hz⟩⟩ := cop_ok hb
  · have q : Q (.bl b) H := k.now S
    unfold dcop at hb
    split at hb
    · simp only [Option.map_eq_some_iff] at hb
      obtain ⟨r, hr, rfl⟩ := hb
      cases dg_of S rb (view_of S ra rfl) hr with
      | k a z r0 D ev ey e h =>
        obtain ⟨es, n, D⟩ := D
        rw [hw] at D
        subst ev
        exact op_in_kd D pins s σ H x _ v u Q I rx ry ⟨z, r0, ey, rfl, e, by rw [h.some]; exact q⟩
      | d a o ev g hd h =>
        subst ev
        cases ry
        exact d_in (by omega) I g rx fun s' I' => ⟨.bl o.isSome, H, I', rfl, by rw [h.some]; exact q⟩
    · simp only [Option.map_eq_some_iff] at hb
      obtain ⟨r, hr, rfl⟩ := hb
      cases dg_of S rb (view_of S ra rfl) hr with
      | k a z r0 D ev ey e h =>
        obtain ⟨es, n, D⟩ := D
        rw [hw] at D
        subst ev
        exact op_notIn_kd D pins s σ H x _ v u Q I rx ry ⟨z, r0, ey, rfl, e, by rw [h.some]; exact q⟩
      | d a o ev g hd h =>
        subst ev
        cases ry
        exact d_notIn (by omega) I g rx fun s' I' => ⟨.bl (!o.isSome), H, I', rfl, by rw [h.some]; exact q⟩
    · cases hb
  have vx := view_of S ra hx
  have vy := view_of S rb hy
  have q : Q (.bl b) H := k.now S
  have flatEq : ∀ b', flatD dx = true → flatD dy = true → PyData.eqv dx dy = b' → Q (.bl b') H → wpAny (model X.prog X.w) X.A (compareOp .Eq v u) (EP X pins σ Q) X.xe s := fun b' fx fy e q => by
    by_cases hs : (∃ z, dx = .str z) ∨ ∃ z, dy = .str z
    · refine op_eq pins s σ H x y v u Q I rx ry ⟨?_, ?_⟩
      · rcases hs with ⟨z, rfl⟩ | ⟨z, rfl⟩
        · cases vx
          cases dy <;> first | (cases vy; rfl) | exact absurd (show false = true from fy) Bool.false_ne_true
        · cases vy
          cases dx <;> first | (cases vx; rfl) | exact absurd (show false = true from fx) Bool.false_ne_true
      · have : decide (x = y) = b' := by
          rw [← e]
          rcases hs with ⟨z, rfl⟩ | ⟨z, rfl⟩
          · cases vx
            cases dy <;> first | (cases vy; simp [PyData.eqv]; done) | (cases vy; show decide (V.str z = V.str _) = (z == _); rw [dec_str]) | exact absurd (show false = true from fy) Bool.false_ne_true
          · cases vy
            cases dx <;> first | (cases vx; simp [PyData.eqv]; done) | (cases vx; show decide (V.str _ = V.str z) = (_ == z); rw [dec_str]) | exact absurd (show false = true from fx) Bool.false_ne_true
        rw [this]; exact q
    · have n1 : ∀ z, dx ≠ .str z := fun z e => hs (.inl ⟨z, e⟩)
      have n2 : ∀ z, dy ≠ .str z := fun z e => hs (.inr ⟨z, e⟩)
      have s1 := shaped_noStr fx n1
      have s2 := shaped_noStr fy n2
      exact op_eqD (by omega) pins s σ H x y v u Q I rx ry ⟨dx, dy, vx.dp S.sub (shaped_lay s1), vy.dp S.sub (shaped_lay s2), s1, s2, by rw [e]; exact q⟩
  have flatNe : flatD dx = true → flatD dy = true → Q (.bl (!PyData.eqv dx dy)) H → wpAny (model X.prog X.w) X.A (compareOp .NotEq v u) (EP X pins σ Q) X.xe s := fun fx fy q => by
    by_cases hs : (∃ z, dx = .str z) ∨ ∃ z, dy = .str z
    · refine op_ne pins s σ H x y v u Q I rx ry ⟨?_, ?_⟩
      · rcases hs with ⟨z, rfl⟩ | ⟨z, rfl⟩
        · cases vx
          cases dy <;> first | (cases vy; rfl) | exact absurd (show false = true from fy) Bool.false_ne_true
        · cases vy
          cases dx <;> first | (cases vx; rfl) | exact absurd (show false = true from fx) Bool.false_ne_true
      · have : decide (x = y) = PyData.eqv dx dy := by
          rcases hs with ⟨z, rfl⟩ | ⟨z, rfl⟩
          · cases vx
            cases dy <;> first | (cases vy; simp [PyData.eqv]; done) | (cases vy; show decide (V.str z = V.str _) = (z == _); rw [dec_str]) | exact absurd (show false = true from fy) Bool.false_ne_true
          · cases vy
            cases dx <;> first | (cases vx; simp [PyData.eqv]; done) | (cases vx; show decide (V.str _ = V.str z) = (_ == z); rw [dec_str]) | exact absurd (show false = true from fx) Bool.false_ne_true
        rw [this]; exact q
    · have n1 : ∀ z, dx ≠ .str z := fun z e => hs (.inl ⟨z, e⟩)
      have n2 : ∀ z, dy ≠ .str z := fun z e => hs (.inr ⟨z, e⟩)
      have s1 := shaped_noStr fx n1
      have s2 := shaped_noStr fy n2
      exact op_neD (by omega) pins s σ H x y v u Q I rx ry ⟨dx, dy, vx.dp S.sub (shaped_lay s1), vy.dp S.sub (shaped_lay s2), s1, s2, q⟩
  have inR : ∀ neg : Bool, inD dx dy = some (if neg then !b else b) → wpAny (model X.prog X.w) X.A (compareOp (if neg then .NotIn else .In) v u) (EP X pins σ Q) X.xe s := fun neg h => by
    unfold inD at h
    split at h
    · rename_i ds
      obtain ⟨a, vs, rfl, h1, h2⟩ := vy
      split at h
      · rename_i hf
        rw [Bool.and_eq_true] at hf
        have e := any_flat vx hf.1 h2 hf.2
        have fs := h2.flat hf.2
        have fv := vx.flat hf.1
        simp only [Option.some.injEq] at h
        cases neg with
        | false =>
          simp only [Bool.false_eq_true, if_false] at h ⊢
          exact op_in_seq pins s σ H x _ v u Q I rx ry ⟨a, vs, rfl, .inl h1, fv, fs, by rw [if_neg Bool.false_ne_true, e, h]; exact q⟩
        | true =>
          simp only [if_true] at h ⊢
          exact op_notIn_seq pins s σ H x _ v u Q I rx ry ⟨a, vs, rfl, .inl h1, fv, fs, by rw [if_pos rfl, e, h, Bool.not_not]; exact q⟩
      · split at h
        · rename_i hf
          rw [Bool.and_eq_true] at hf
          simp only [Option.some.injEq] at h
          have d1 := vx.dp S.sub (shaped_lay hf.1)
          have d2 : Dp X.K H (.ref a) (.list ds) := View.dp (W := W) S.sub (x := .list ds) ⟨a, vs, rfl, h1, h2⟩ (shaped_lay hf.2)
          cases neg with
          | false =>
            simp only [Bool.false_eq_true, if_false] at h ⊢
            exact op_inD hu pins s σ H x _ v u Q I rx ry ⟨dx, ds, d1, d2, hf.1, hf.2, by rw [h]; exact q⟩
          | true =>
            simp only [if_true] at h ⊢
            exact op_notInD hu pins s σ H x _ v u Q I rx ry ⟨dx, ds, d1, d2, hf.1, hf.2, by rw [h, Bool.not_not]; exact q⟩
        · cases h
    · rename_i ds
      obtain ⟨a, vs, rfl, h1, h2⟩ := vy
      split at h
      · rename_i hf
        rw [Bool.and_eq_true] at hf
        have e := any_flat vx hf.1 h2 hf.2
        have fs := h2.flat hf.2
        have fv := vx.flat hf.1
        simp only [Option.some.injEq] at h
        cases neg with
        | false =>
          simp only [Bool.false_eq_true, if_false] at h ⊢
          exact op_in_seq pins s σ H x _ v u Q I rx ry ⟨a, vs, rfl, .inr h1, fv, fs, by rw [if_neg Bool.false_ne_true, e, h]; exact q⟩
        | true =>
          simp only [if_true] at h ⊢
          exact op_notIn_seq pins s σ H x _ v u Q I rx ry ⟨a, vs, rfl, .inr h1, fv, fs, by rw [if_pos rfl, e, h, Bool.not_not]; exact q⟩
      · cases h
    · rename_i z
      cases vy
      split at h
      · rename_i c
        cases vx
        split at h
        · rename_i hc
          obtain ⟨⟨l⟩⟩ := c
          have : ∃ c0, l = [c0] := by
            have hc' : l.length = 1 := hc
            match l, hc' with
            | [c0], _ => exact ⟨c0, rfl⟩
          obtain ⟨c0, rfl⟩ := this
          simp only [Option.some.injEq] at h
          have h' : decide (c0 ∈ z.cps.toList) = if neg = true then !b else b := h
          cases neg with
          | false =>
            simp only [Bool.false_eq_true, if_false] at h' ⊢
            exact op_in_sign pins s σ H _ _ v u Q I rx ry ⟨c0, z, rfl, rfl, by rw [h']; exact q⟩
          | true =>
            simp only [if_true] at h' ⊢
            exact op_notIn_sign pins s σ H _ _ v u Q I rx ry ⟨c0, z, rfl, rfl, by rw [h', Bool.not_not]; exact q⟩
        · cases h
      · cases h
    · cases h
  unfold cmpD at hz
  split at hz
  · -- eq
    unfold eqD at hz
    split at hz
    · rename_i hf
      rw [Bool.and_eq_true] at hf
      simp only [Option.some.injEq] at hz
      exact flatEq b hf.1 hf.2 hz q
    · split at hz
      · rename_i xs hf
        obtain ⟨a, vs, rfl, h1, h2⟩ := vx
        obtain ⟨a2, vs2, rfl, h3, h4⟩ := vy
        cases h4
        simp only [Option.some.injEq] at hz
        refine op_eqTup0 (by omega) pins s σ H _ _ v u Q I rx ry ⟨a, a2, vs, rfl, rfl, h1, h3, ?_⟩
        have : vs.isEmpty = b := by rw [← hz]; cases h2 <;> rfl
        rw [this]; exact q
      · obtain ⟨a, vs, rfl, h1, h2⟩ := vx
        cases vy
        cases hz
        exact Kd.op_eqDS (by omega) pins s σ H _ _ v u Q I rx ry ⟨a, vs, _, rfl, rfl, .inl h1, q⟩
      · obtain ⟨a, vs, rfl, h1, h2⟩ := vx
        cases vy
        cases hz
        exact Kd.op_eqLS (by omega) pins s σ H _ _ v u Q I rx ry ⟨a, vs, _, rfl, rfl, h1, q⟩
      · obtain ⟨a, vs, rfl, h1, h2⟩ := vx
        cases vy
        cases hz
        exact Kd.op_eqTS (by omega) pins s σ H _ _ v u Q I rx ry ⟨a, vs, _, rfl, rfl, h1, q⟩
      · split at hz
        · rename_i hf
          rw [Bool.and_eq_true] at hf
          simp only [Option.some.injEq] at hz
          exact op_eqD (by omega) pins s σ H x y v u Q I rx ry ⟨dx, dy, vx.dp S.sub (shaped_lay hf.1), vy.dp S.sub (shaped_lay hf.2), hf.1, hf.2, by rw [hz]; exact q⟩
        · cases hz
  · -- ne
    split at hz
    · rename_i hf
      rw [Bool.or_eq_true, Bool.and_eq_true, Bool.and_eq_true] at hf
      simp only [Option.some.injEq] at hz
      rcases hf with hf | hf
      · exact flatNe hf.1 hf.2 (by rw [hz]; exact q)
      · exact op_neD (by omega) pins s σ H x y v u Q I rx ry ⟨dx, dy, vx.dp S.sub (shaped_lay hf.1), vy.dp S.sub (shaped_lay hf.2), hf.1, hf.2, by rw [hz]; exact q⟩
    · cases hz
  · cases vx; cases vy; cases hz; exact op_lt pins s σ H _ _ v u Q I rx ry ⟨_, _, rfl, rfl, q⟩
  · cases vx; cases vy; cases hz; exact op_le pins s σ H _ _ v u Q I rx ry ⟨_, _, rfl, rfl, q⟩
  · cases vx; cases vy; cases hz; exact op_gt pins s σ H _ _ v u Q I rx ry ⟨_, _, rfl, rfl, q⟩
  · cases vx; cases vy; cases hz; exact op_ge pins s σ H _ _ v u Q I rx ry ⟨_, _, rfl, rfl, q⟩
  · cases vx; cases vy; cases hz; exact op_lt_str pins s σ H _ _ v u Q I rx ry ⟨_, _, rfl, rfl, q⟩
  · cases vx; cases vy; cases hz; exact op_le_str pins s σ H _ _ v u Q I rx ry ⟨_, _, rfl, rfl, q⟩
  · cases vx; cases vy; cases hz; exact op_gt_str pins s σ H _ _ v u Q I rx ry ⟨_, _, rfl, rfl, q⟩
  · cases vx; cases vy; cases hz; exact op_ge_str pins s σ H _ _ v u Q I rx ry ⟨_, _, rfl, rfl, q⟩
  · exact inR false (by simpa using hz)
  · simp only [Option.map_eq_some_iff] at hz
    obtain ⟨c, hc, e⟩ := hz
    refine inR true ?_
    rw [hc, ← e]; simp
  · cases vy
    simp only [Option.some.injEq] at hz
    refine op_isN pins s σ H _ _ v u Q I rx ry ⟨rfl, ?_⟩
    have : decide (x = V.non) = b := by
      rw [← hz]
      cases dx <;> first | (cases vx; simp; done) | (obtain ⟨_, _, rfl, _⟩ := vx; simp)
    rw [this]; exact q
  · cases vy
    simp only [Option.some.injEq] at hz
    refine op_notN pins s σ H _ _ v u Q I rx ry ⟨rfl, ?_⟩
    have : (!decide (x = V.non)) = b := by
      rw [← hz]
      cases dx <;> first | (cases vx; simp; done) | (obtain ⟨_, _, rfl, _⟩ := vx; simp)
    rw [this]; exact q
  · cases vx; cases vy; cases hz; exact op_isBl pins s σ H _ _ v u Q I rx ry ⟨_, _, rfl, rfl, q⟩
  · cases vx; cases vy; cases hz; exact op_notBl pins s σ H _ _ v u Q I rx ry ⟨_, _, rfl, rfl, q⟩
  · cases hz
end
end PI
set_option Elab.async false
set_option linter.all false
set_option maxRecDepth 100000
set_option maxHeartbeats 4000000
/-! enumerate and zip over lists, tuples, texts in any mix. -/
namespace PySem
set_option maxHeartbeats 4000000 in
theorem meets_enumerate_newB1 {v : Value} {o : Obj} {H : Heap → Prop} (B : Begins v o H) :
    Meets (Builtin.«enumerate.__new__» ⟨[.type "enumerate", v], []⟩) (fun _ R s => H s.heap ∧
      R (.ok (.ret (.ref (s.heap.push o).objs.size))) { s with heap := (s.heap.push o).push { cls := .type "enumerate", data := .fields #[.none, .bool false, .ref s.heap.objs.size, rawInt 0, .none, .none] } }) :=
  .of_wp fun prog w A R s h => by
    obtain ⟨hp, g, d, tk, os⟩ := s; obtain ⟨h1, h⟩ := h
    have hsub := sub_enumerate
    have q1 : ∀ {A' : Around} {E : Value → Shared → Prop} {Q : Value → Shared → Prop}, Q (.ref hp.objs.size) ⟨hp.push o, g, d, tk, os⟩ → wpAny (model prog w) A' (pyIter v) Q E ⟨hp, g, d, tk, os⟩ :=
      fun q => B.iter prog w _ _ ⟨hp, g, d, tk, os⟩ _ h1 q
    wp_walk using q1
    refine wpAny_stack_any fun st => wpAny_pure ?_
    split
    · rename_i c _ _ _ _ _
      cases (c == Value.type "enumerate")
      · wp_walk using q1
        exact ⟨_, rfl, h⟩
      · wp_walk using q1
        exact ⟨_, rfl, h⟩
    · wp_walk using q1
      exact ⟨_, rfl, h⟩
section
variable {prog : Program} {w : World} {A : Around} {E : Value → Shared → Prop} {s : Shared}
theorem enum_begins1 {v : Value} {o : Obj} {H : Heap → Prop} {Q : Value → Shared → Prop} (B : Begins v o H) (h1 : H s.heap)
    (h : ∀ h', IsEnum h' (s.heap.objs.size + 1) s.heap.objs.size 0 .none → h'.get? s.heap.objs.size = some o → h'.objs.size = s.heap.objs.size + 2 →
      (∀ b o, s.heap.get? b = some o → h'.get? b = some o) → Q (.ref (s.heap.objs.size + 1)) { s with heap := h' }) :
    wpAny (model prog w) A (call (.type "enumerate") [v]) Q E s := by
  refine callType_new F.called_enumerate (by decide) (F.typeCall_enumerate_1 _) (F.newCall_enumerate_1 _) (fun obj => F.args_object_init_2 obj _) F.entry_enumerate_new
    (meets_enumerate_newB1 B) ⟨h1, ?_⟩
  have hz : (s.heap.push o).objs.size = s.heap.objs.size + 1 := Heap.size_push ..
  show _ ∧ _
  rw [hz]
  have he : IsEnum ((s.heap.push o).push { cls := .type "enumerate", data := .fields #[.none, .bool false, .ref s.heap.objs.size, rawInt 0, .none, .none] }) (s.heap.objs.size + 1) s.heap.objs.size 0 .none := by
    have := Heap.get?_push_size (s.heap.push o) (o := { cls := .type "enumerate", data := .fields #[.none, .bool false, .ref s.heap.objs.size, rawInt 0, .none, .none] }) rfl
    rw [hz] at this; exact this
  refine ⟨⟨_, he, rfl⟩, h _ he (Heap.get?_push_of_some _ (Heap.get?_push_size _ B.free)) (by rw [Heap.size_push, hz]) fun b o x => Heap.get?_push_of_some _ (Heap.get?_push_of_some _ x)⟩
end
end PySem
namespace PI
open PySem PySem.Spec PyProof.Rows L2

/-- what may be drawn from: a list, a tuple, a text -/
inductive Sr where | l (a : Addr) | t (a : Addr) | s (x : Str)
def Sr.v : Sr → V
  | .l a => .ref a | .t a => .ref a | .s x => .str x
def signs (x : Str) : List V := x.cps.toList.map fun c => .str ⟨#[c]⟩
def SrAt (K : PySem.W.Frag) (H : Hp) : Sr → List V → Prop
  | .l a, xs => SqL K H a xs
  | .t a, xs => SqT K H a xs
  | .s x, xs => xs = signs x
def SrIt (h : Heap) (it : Addr) (i : Nat) : Sr → Prop
  | .l a => h.IsListIter it a i
  | .t a => h.IsTupleIter it a i
  | .s x => ∃ t, h.IsStrIter it (strIterType x) x t i
theorem SrIt.at {h h' : Heap} {it : Addr} {i : Nat} : ∀ {sr : Sr}, SrIt h it i sr → (∀ o, h.get? it = some o → h'.get? it = some o) → SrIt h' it i sr
  | .l _, ⟨o, e, c⟩, k => ⟨o, k o e, c⟩
  | .t _, ⟨o, e, c⟩, k => ⟨o, k o e, c⟩
  | .s _, ⟨t, o, e, c⟩, k => ⟨t, o, k o e, c⟩
theorem SrIt.obj {h : Heap} {it : Addr} {i : Nat} : ∀ {sr : Sr}, SrIt h it i sr → ∃ o, h.get? it = some o ∧ (∀ v, o.data ≠ .cell v) ∧ o.cls ≠ .type "list" ∧ o.cls ≠ .type "tuple"
  | .l _, ⟨o, e, c, d⟩ => ⟨o, e, (fun v z => by rw [d] at z; cases z), by rw [c]; decide +kernel, by rw [c]; decide +kernel⟩
  | .t _, ⟨o, e, c, d⟩ => ⟨o, e, (fun v z => by rw [d] at z; cases z), by rw [c]; decide +kernel, by rw [c]; decide +kernel⟩
  | .s x, ⟨t, o, e, c, d⟩ => ⟨o, e, (fun v z => by rw [d] at z; cases z), by rw [c]; unfold strIterType; split <;> decide +kernel, by rw [c]; unfold strIterType; split <;> decide +kernel⟩
theorem SrAt.inj {X : Cx} {pins : List (Addr × Obj)} {σ : L2.St} {H : Hp} {s : Shared} (I : Inv X pins σ H s) : ∀ {sr : Sr} {xs ys : List V}, SrAt X.K H sr xs → SrAt X.K H sr ys → xs = ys
  | .l _, _, _, h, h' => I.list_inj h h'
  | .t _, _, _, h, h' => I.tuple_inj h h'
  | .s _, _, _, h, h' => h.trans h'.symm
theorem static_ne {X : Cx} {pins : List (Addr × Obj)} {σ : L2.St} {H : Hp} {s : Shared} (I : Inv X pins σ H s) {a c : Addr} {o : Obj} (k : X.K.lookup a = some o) (f : FpOk X pins H c) : c ≠ a := by
  rintro rfl
  have e := I.ok.mod.kin c o k
  rcases f.2.2.2.1 with z | z
  · exact I.ok.noex c o e z
  · exact absurd (Nat.lt_of_lt_of_le (Heap.lt_size (I.ok.bs c o e).1) z) (Nat.lt_irrefl _)
theorem rd_ne {X : Cx} {pins : List (Addr × Obj)} {H : Hp} {a c : Addr} {u : HO} (k : Rd H a u) (f : FpOk X pins H c) : c ≠ a := by
  rintro rfl
  rcases k with k | ⟨o, k⟩ <;> (rw [f.1] at k; cases k)
theorem Vals.get' : ∀ {xs : List V} {us : List Value} {j : Nat} {v : Value}, Vals xs us → us[j]? = some v → ∃ x, xs[j]? = some x ∧ RelV x v
  | _, _, _, _, .nil, h => by simp at h
  | _, _, 0, _, .cons r _, h => by simp at h; subst h; exact ⟨_, rfl, r⟩
  | _, _, j + 1, _, .cons _ t, h => by
    obtain ⟨u, h1, h2⟩ := Vals.get' (j := j) t (by simpa using h)
    exact ⟨u, by simpa using h1, h2⟩
theorem sr_draws {X : Cx} {pins : List (Addr × Obj)} {σ : L2.St} {H : Hp} {s : Shared} (hc : X.calm = true) (I : Inv X pins σ H s) {sr : Sr} {xs : List V} {it : Addr} {i : Nat} (h : SrAt X.K H sr xs) (hi : SrIt s.heap it i sr) :
    ∃ (fp : List Addr) (P : Nat → Value → Prop) (St : Nat → Heap → Prop), Draws X.prog X.w X.A.in1 it fp xs.length P St ∧ it ∈ fp ∧ St i s.heap ∧ (∀ j v, P j v → ∃ x, xs[j]? = some x ∧ RelV x v) ∧ (∀ j h', St j h' → SrIt h' it j sr) ∧
      ∀ b ∈ fp, b = it ∨ ∀ c, FpOk X pins H c → c ≠ b := by
  have hh : X.A.in1.handled = none := I.ok.hd hc
  cases sr with
  | l a =>
    obtain ⟨its, rv, p, hz⟩ := I.list h
    have ne : a ≠ it := by
      rintro rfl
      obtain ⟨o, e, _, c1, _⟩ := hi.obj
      obtain ⟨o', e', c', _⟩ := p.isList
      rw [e] at e'; cases e'; exact c1 c'
    refine ⟨[it, a], fun i v => its.toArray[i]? = some v, fun i h => h.IsListIter it a i ∧ h.IsList a its.toArray, (by have := Draws.list (prog := X.prog) (w := X.w) hh it a ne its.toArray; rw [List.size_toArray, ← rv.length] at this; exact this), by simp, ⟨hi, p.isList⟩, fun j v hv => ?_, fun j h' z => z.1, fun b hb => ?_⟩
    · have hv' : its[j]? = some v := by simpa using hv
      exact Vals.get' rv hv'
    · have : b = it ∨ b = a := by simpa using hb
      rcases this with z | rfl
      · exact .inl z
      · refine .inr fun c f => ?_
        rcases h with h | ⟨o, _, _, k, _⟩
        · exact rd_ne h f
        · exact static_ne I k f
  | t a =>
    obtain ⟨its, rv, p, hz⟩ := I.tuple h
    have ne : a ≠ it := by
      rintro rfl
      obtain ⟨o, e, _, _, c1⟩ := hi.obj
      obtain ⟨o', e', c', _⟩ := p
      rw [e] at e'; cases e'; exact c1 c'
    refine ⟨[it, a], fun i v => its.toArray[i]? = some v, fun i h => h.IsTupleIter it a i ∧ h.IsTuple a its.toArray, (by have := Draws.tuple (prog := X.prog) (w := X.w) hh it a ne its.toArray; rw [List.size_toArray, ← rv.length] at this; exact this), by simp, ⟨hi, p⟩, fun j v hv => ?_, fun j h' z => z.1, fun b hb => ?_⟩
    · have hv' : its[j]? = some v := by simpa using hv
      exact Vals.get' rv hv'
    · have : b = it ∨ b = a := by simpa using hb
      rcases this with z | rfl
      · exact .inl z
      · refine .inr fun c f => ?_
        rcases h with h | ⟨o, _, _, k, _⟩
        · exact rd_ne h f
        · exact static_ne I k f
  | s x =>
    obtain ⟨t, hi⟩ := hi
    have e : xs = signs x := h
    subst e
    refine ⟨_, _, _, (by have := Draws.text (prog := X.prog) (w := X.w) hh it x t; rw [show x.cps.size = (signs x).length by simp [signs]] at this; exact this), by simp, hi, fun j v hv => ?_, fun j h' z => ⟨t, z⟩, fun b hb => .inl (by simpa using hb)⟩
    obtain ⟨c, u, h1, rfl⟩ := hv
    refine ⟨.str ⟨#[c]⟩, ?_, u, rfl⟩
    unfold signs
    rw [List.getElem?_map, Array.getElem?_toList, h1]; rfl

/-- a fresh pair is laid behind a turn -/
theorem pair_laid {X : Cx} {pins : List (Addr × Obj)} {σ : L2.St} {H : Hp} {s : Shared} {T : Addr} {h'' : Heap} {x y : V} {u v : Value} {ch : List Addr} {tk : Nat} (I : Inv X pins σ H s) (rx : RelV x u) (ry : RelV y v) (hT : s.heap.objs.size ≤ T)
    (hk : ∀ b o, b ∉ ch → s.heap.get? b = some o → h''.get? b = some o) (hf : ∀ b ∈ ch, FpOk X pins H b) (ht : h''.IsTuple T #[u, v]) : Inv X pins σ (upd H T (.tup [x, y])) { s with heap := h'', toks := tk } :=
  I.turnedNew (ch := ch) hk hf hT ⟨by show 2 ≤ sizeLine; decide, [u, v], .cons rx (.cons ry .nil), ht⟩
/-! ### enumerate -/
def IteS (K : PySem.W.Frag) (sr : Sr) : It :=
  ⟨fun i H => ∃ (xs : List V) (x : V), SrAt K H sr xs ∧ xs[i]? = some x, fun i H v H' => ∃ T x, v = .ref T ∧ H T = none ∧ H' = upd H T (.tup [.int (i : Nat), x]) ∧ ∀ xs, SrAt K H sr xs → xs[i]? = some x, fun i H => ∃ xs : List V, SrAt K H sr xs ∧ xs.length = i⟩
theorem turn_enumS {P : Program} {w : World} {K : PySem.W.Frag} {elts : List Expr} {kk : Nat} {tpos : Pos} (sr : Sr) (e it : Addr) :
    Turn P w K (.Tuple elts kk tpos) (IteS K sr) [e, it] e (fun i h => (∃ old, IsEnum h e it ((i : Nat) : Int) old) ∧ SrIt h it i sr ∧ e ≠ it) where
  mem := by simp
  obj := fun i h st b hb => by
    obtain ⟨⟨old, he⟩, hi, _⟩ := st
    have e' : b = e ∨ b = it := by simpa using hb
    rcases e' with z | z
    · rw [z]; exact ⟨_, he, fun v q => nomatch q⟩
    · rw [z]; obtain ⟨o, ho, hd, _⟩ := hi.obj; exact ⟨o, ho, hd⟩
  keep := fun i h h' st k => let ⟨⟨old, he⟩, hi, hne⟩ := st; ⟨⟨old, k e (by simp) _ he⟩, hi.at fun o q => k it (by simp) o q, hne⟩
  item := by
    intro X hP hw hK hc i pins s σ H E I hf st hg
    subst hP hw hK
    obtain ⟨⟨old, he⟩, hit, hne⟩ := st
    obtain ⟨xs, x, hq, hx⟩ := hg
    obtain ⟨fp, Pp, St, D, hm, hst, hPv, hSt, hfp⟩ := sr_draws hc I hq hit
    have hlt : i < xs.length := (List.getElem?_eq_some_iff.mp hx).1
    have hel : e < s.heap.objs.size := Heap.lt_size he
    have hil : it < s.heap.objs.size := by obtain ⟨_, q, _⟩ := hit.obj; exact Heap.lt_size q
    have hef : e ∉ fp := fun z => by
      rcases hfp e z with q | q
      · exact hne q
      · exact q e (hf e (by simp)) rfl
    refine wpAny_pyNext_enum_itemC D he hst hlt hne hef fun u h' tk hu ho hst' hT hsz hk => ?_
    obtain ⟨x', hx', ru⟩ := hPv _ _ hu
    rw [hx] at hx'; cases hx'
    refine ⟨_, rfl, wpAny_letOwnedTupleGo_enum (s := { s with heap := h', toks := tk + 1 }) ho fun h'' he' sb => ?_⟩
    have hT2 : h''.get? s.heap.objs.size = some { cls := .type "tuple", data := .seq #[.int i tk, u] } := (sb.2 _ (Nat.ne_of_gt hel)).trans hT
    have I1 : Inv X pins σ (upd H s.heap.objs.size (.tup [.int (i : Nat), x])) { s with heap := h'', toks := tk + 1 } :=
      pair_laid I ⟨_, rfl⟩ ru (Nat.le_refl _) (fun b ob hb q => (sb.2 b (fun z => hb (by simp [z]))).trans (hk b ob (fun z => hb (by simp [z])) (fun z => hb (by simp [z])) q)) hf ⟨_, hT2, rfl, _, rfl⟩
    refine ⟨.ref s.heap.objs.size, _, I1, rfl, ⟨_, x, rfl, I.hok.fresh (Nat.le_refl _), rfl, fun ys hy => by rw [SrAt.inj I hy hq]; exact hx⟩, ⟨⟨u, ?_⟩, (hSt _ _ hst').at fun o q => (sb.2 it (Ne.symm hne)).trans q, hne⟩, fun b hb => ?_⟩
    · have e1 : ((i + 1 : Nat) : Int) = (i : Int) + 1 := by omega
      rw [e1]; exact he'
    · have hb' : b < s.heap.objs.size := by
        have e' : b = e ∨ b = it := by simpa using hb
        rcases e' with z | z
        · rw [z]; exact hel
        · rw [z]; exact hil
      rw [upd_ne (Nat.ne_of_lt hb')]
      exact (hf b hb).1
  done := by
    intro X hP hw hK hc i pins s σ H E I hf st hg
    subst hP hw hK
    obtain ⟨⟨old, he⟩, hit, hne⟩ := st
    obtain ⟨xs, hq, hx⟩ := hg
    subst hx
    obtain ⟨fp, Pp, St, D, hm, hst, hPv, hSt, hfp⟩ := sr_draws hc I hq hit
    obtain ⟨f0, f1, f2, f3, f4, f5⟩ := hf it (by simp)
    exact wpAny_pyNext_enum_endD D he hst fun h' eb => ⟨rfl, I.turned (t' := s.toks) (fun b o hb q => eb b o hb q) f0 f1 f3 f4 f5⟩
  self := fun A i s Q E st h => let ⟨⟨_, he⟩, _⟩ := st; wpAny_pyIter_enum he h
def iEnumS (K : PySem.W.Frag) (ta : TA) : TI := fun σ H R => ta σ H fun vs H1 => ∃ sr xs, vs = [Sr.v sr] ∧ SrAt K H1 sr xs ∧ R (IteS K sr) H1
/-- how the iterator begins -/
theorem sr_begins {X : Cx} {pins : List (Addr × Obj)} {σ : L2.St} {H : Hp} {s : Shared} (I : Inv X pins σ H s) {sr : Sr} {xs : List V} {u : Value} (h : SrAt X.K H sr xs) (r : RelV sr.v u) :
    ∃ o Hh, Begins u o Hh ∧ Hh s.heap ∧ ∀ h' it, Heap.get? h' it = some o → SrIt h' it 0 sr := by
  cases sr with
  | l a =>
    cases r
    obtain ⟨its, rv, p, hz⟩ := I.list h
    exact ⟨_, _, begins_list a its.toArray, p.isList, fun h' it e => ⟨_, e, rfl, rfl⟩⟩
  | t a =>
    cases r
    obtain ⟨its, rv, p, hz⟩ := I.tuple h
    exact ⟨_, _, begins_tuple a its.toArray, p, fun h' it e => ⟨_, e, rfl, rfl⟩⟩
  | s x =>
    obtain ⟨t, rfl⟩ := r
    exact ⟨_, _, begins_text x t, trivial, fun h' it e => ⟨t, _, e, rfl, rfl⟩⟩
theorem pi_enumS {X : Cx} {e : Expr} {ta : TA} {p pos tpos : Pos} {elts : List Expr} {kk : Nat} (hg : Gl X "enumerate") (hm : X.mg "enumerate" = none) (ha : PA X [e] ta) (hs : starEach [e] X.env = [(false, eval e X.env)]) :
    PI X (.Tuple elts kk tpos) (.Call (.Name "enumerate" p) [e] [] pos) (iEnumS X.K ta) := by
  refine ⟨fun pins s σ H R I h => ?_⟩
  refine Call_ (ld_blt I hg hm boot_enumerate (PyProof.Rows.callWith_type1 (thn (ha.run pos pins s σ H _ I h) fun us s1 ⟨vs, H1, I1, r1, q1⟩ => ?_) hs rfl))
  obtain ⟨sr, xs, ex, hq, q⟩ := q1
  subst ex
  cases r1 with
  | cons r rr =>
    cases rr
    obtain ⟨o, Hh, B, h1, hit0⟩ := sr_begins I1 hq r
    refine enum_begins1 B h1 fun h' he hit hsz hk => wpAny_pyIter_enum he ?_
    have I2 : Inv X pins σ H1 { s1 with heap := h' } := I1.kept (t' := s1.toks) hk
    refine ⟨s1.heap.objs.size + 1, [s1.heap.objs.size + 1, s1.heap.objs.size], _, _, H1, rfl, I2, turn_enumS sr (s1.heap.objs.size + 1) s1.heap.objs.size, ⟨⟨.none, he⟩, hit0 _ _ hit, Nat.succ_ne_self _⟩, fun b hb => ?_, q⟩
    have e' : b = s1.heap.objs.size + 1 ∨ b = s1.heap.objs.size := by simpa using hb
    have hle : s1.heap.objs.size ≤ b := by
      rcases e' with z | z
      · rw [z]; exact Nat.le_add_right _ _
      · rw [z]; exact Nat.le_refl _
    exact I1.fpOk hle (I1.hok.fresh hle)
/-! ### zip -/
def ItzS (K : PySem.W.Frag) (sa sb : Sr) : It :=
  ⟨fun i H => ∃ (xs ys : List V) (x y : V), SrAt K H sa xs ∧ SrAt K H sb ys ∧ xs[i]? = some x ∧ ys[i]? = some y,
    fun i H v H' => ∃ T x y, v = .ref T ∧ H T = none ∧ H' = upd H T (.tup [x, y]) ∧ (∀ xs, SrAt K H sa xs → xs[i]? = some x) ∧ ∀ ys, SrAt K H sb ys → ys[i]? = some y,
    fun i H => ∃ xs ys : List V, SrAt K H sa xs ∧ SrAt K H sb ys ∧ i ≤ xs.length ∧ i ≤ ys.length ∧ (i = xs.length ∨ i = ys.length)⟩
structure ZipFar (z TI TO i1 i2 : Addr) : Prop where
  TIz : TI ≠ z
  TOz : TO ≠ z
  TITO : TI ≠ TO
  TIi1 : TI ≠ i1
  zi1 : z ≠ i1
  Ti1 : TO ≠ i1
  TIi2 : TI ≠ i2
  zi2 : z ≠ i2
  Ti2 : TO ≠ i2
  ii : i1 ≠ i2
theorem turn_zipS {P : Program} {w : World} {K : PySem.W.Frag} {elts : List Expr} {kk : Nat} {tpos : Pos} (sa sb : Sr) {z TI TO i1 i2 : Addr} (F : ZipFar z TI TO i1 i2) :
    Turn P w K (.Tuple elts kk tpos) (ItzS K sa sb) [z, TI, TO, i1, i2] z (fun i h => IsZip h z TI TO .none ∧ IsTupOf2 h TI (.ref i1) (.ref i2) ∧ (∃ a1 a2, IsTupOf2 h TO a1 a2) ∧ SrIt h i1 i sa ∧ SrIt h i2 i sb) where
  mem := by simp
  obj := fun i h st b hb => by
    obtain ⟨hz, hTI, ⟨a1, a2, hTO⟩, h1, h2⟩ := st
    have e' : b = z ∨ b = TI ∨ b = TO ∨ b = i1 ∨ b = i2 := by simpa using hb
    rcases e' with q | q | q | q | q
    · rw [q]; exact ⟨_, hz, fun v q => nomatch q⟩
    · rw [q]; exact ⟨_, hTI, fun v q => nomatch q⟩
    · rw [q]; exact ⟨_, hTO, fun v q => nomatch q⟩
    · rw [q]; obtain ⟨o, ho, hd, _⟩ := h1.obj; exact ⟨o, ho, hd⟩
    · rw [q]; obtain ⟨o, ho, hd, _⟩ := h2.obj; exact ⟨o, ho, hd⟩
  keep := fun i h h' st k => by
    obtain ⟨hz, hTI, ⟨a1, a2, hTO⟩, h1, h2⟩ := st
    exact ⟨k z (by simp) _ hz, k TI (by simp) _ hTI, ⟨a1, a2, k TO (by simp) _ hTO⟩, h1.at fun o q => k i1 (by simp) o q, h2.at fun o q => k i2 (by simp) o q⟩
  item := by
    intro X hP hw hK hc i pins s σ H E I hf st hg
    subst hP hw hK
    obtain ⟨hz, hTI, ⟨a1, a2, hTO⟩, hi1, hi2⟩ := st
    obtain ⟨xs, ys, x, y, hq1, hq2, hx, hy⟩ := hg
    obtain ⟨fp1, P1, S1, D1, m1, st1, hP1, hS1, f1⟩ := sr_draws hc I hq1 hi1
    obtain ⟨fp2, P2, S2, D2, m2, st2, hP2, hS2, f2⟩ := sr_draws hc I hq2 hi2
    have out1 : ∀ c, FpOk X pins H c → c ≠ i1 → c ∉ fp1 := fun c f n q => (f1 c q).elim n fun k => k c f rfl
    have out2 : ∀ c, FpOk X pins H c → c ≠ i2 → c ∉ fp2 := fun c f n q => (f2 c q).elim n fun k => k c f rfl
    have S : ZipSep2 z TI TO i1 i2 fp1 fp2 := ⟨F.TIz, F.TOz, F.TITO, F.TIi1, m1, out1 z (hf z (by simp)) F.zi1, out1 TO (hf TO (by simp)) F.Ti1, F.TIi2, m2, out2 z (hf z (by simp)) F.zi2, out2 TO (hf TO (by simp)) F.Ti2, out2 i1 (hf i1 (by simp)) F.ii, out1 i2 (hf i2 (by simp)) (Ne.symm F.ii)⟩
    have W := WalksT.zipD2 S D1 D2
    have hl1 : i < xs.length := (List.getElem?_eq_some_iff.mp hx).1
    have hl2 : i < ys.length := (List.getElem?_eq_some_iff.mp hy).1
    refine W.item i s _ _ (by omega) ⟨hz, hTI, ⟨a1, a2, hTO⟩, st1, st2⟩ fun T vals h' tk hp hT hTt hM hk => ?_
    refine ⟨_, rfl, W.go elts kk tpos i T { s with heap := h', toks := tk } _ _ hM fun h'' hst'' hk'' => ?_⟩
    obtain ⟨u, v, hu, hv, rfl⟩ := hp
    obtain ⟨x', hx', ru⟩ := hP1 _ _ hu
    rw [hx] at hx'; cases hx'
    obtain ⟨y', hy', rv⟩ := hP2 _ _ hv
    rw [hy] at hy'; cases hy'
    have hTw := W.apart i T h' hM
    have hTt2 : h''.IsTuple T #[u, v] := hTt.at fun o q => hk'' T o hTw q
    have sub5 : ∀ b, b ∈ [z, TO, i1, i2] → b ∈ [z, TI, TO, i1, i2] := fun b hb => by
      have e' : b = z ∨ b = TO ∨ b = i1 ∨ b = i2 := by simpa using hb
      rcases e' with q | q | q | q <;> simp [q]
    have I1 : Inv X pins σ (upd H T (.tup [x, y])) { s with heap := h'', toks := tk } :=
      pair_laid I ru rv hT (ch := [z, TO, i1, i2]) (fun b o hb q => hk'' b o hb (hk b o hb q)) (fun b hb => hf b (sub5 b hb)) hTt2
    have hn : H T = none := I.hok.fresh hT
    refine ⟨.ref T, _, I1, rfl, ⟨T, x, y, rfl, hn, rfl, fun zs h => by rw [SrAt.inj I h hq1]; exact hx, fun zs h => by rw [SrAt.inj I h hq2]; exact hy⟩, ⟨hst''.1, hst''.2.1, hst''.2.2.1, hS1 _ _ hst''.2.2.2.1, hS2 _ _ hst''.2.2.2.2⟩, fun b hb => ?_⟩
    have hb' : b < s.heap.objs.size := by
      have e' : b = z ∨ b = TI ∨ b = TO ∨ b = i1 ∨ b = i2 := by simpa using hb
      rcases e' with q | q | q | q | q
      · rw [q]; exact Heap.lt_size hz
      · rw [q]; exact Heap.lt_size hTI
      · rw [q]; exact Heap.lt_size hTO
      · rw [q]; obtain ⟨_, q, _⟩ := hi1.obj; exact Heap.lt_size q
      · rw [q]; obtain ⟨_, q, _⟩ := hi2.obj; exact Heap.lt_size q
    rw [upd_ne (Nat.ne_of_lt (Nat.lt_of_lt_of_le hb' hT))]
    exact (hf b hb).1
  done := by
    intro X hP hw hK hc i pins s σ H E I hf st hg
    subst hP hw hK
    obtain ⟨hz, hTI, ⟨a1, a2, hTO⟩, hi1, hi2⟩ := st
    obtain ⟨xs, ys, hq1, hq2, hl1, hl2, hend⟩ := hg
    obtain ⟨fp1, P1, S1, D1, m1, st1, hP1, hS1, f1⟩ := sr_draws hc I hq1 hi1
    obtain ⟨fp2, P2, S2, D2, m2, st2, hP2, hS2, f2⟩ := sr_draws hc I hq2 hi2
    have out1 : ∀ c, FpOk X pins H c → c ≠ i1 → c ∉ fp1 := fun c f n q => (f1 c q).elim n fun k => k c f rfl
    have out2 : ∀ c, FpOk X pins H c → c ≠ i2 → c ∉ fp2 := fun c f n q => (f2 c q).elim n fun k => k c f rfl
    have S : ZipSep2 z TI TO i1 i2 fp1 fp2 := ⟨F.TIz, F.TOz, F.TITO, F.TIi1, m1, out1 z (hf z (by simp)) F.zi1, out1 TO (hf TO (by simp)) F.Ti1, F.TIi2, m2, out2 z (hf z (by simp)) F.zi2, out2 TO (hf TO (by simp)) F.Ti2, out2 i1 (hf i1 (by simp)) F.ii, out1 i2 (hf i2 (by simp)) (Ne.symm F.ii)⟩
    refine wpAny_pyNext_zipD2_end S D1 D2 hz hTI hTO st1 st2 hl1 hl2 hend fun h' tk hk => ⟨rfl, ?_⟩
    exact I.turnedL (ch := [z, TO, i1, i2]) (fun b o hb q => hk b o (fun e => hb (by simp [e])) (fun e => hb (by simp [e])) (fun e => hb (by simp [e])) (fun e => hb (by simp [e])) q) fun b hb => hf b (by
      have e' : b = z ∨ b = TO ∨ b = i1 ∨ b = i2 := by simpa using hb
      rcases e' with q | q | q | q <;> simp [q])
  self := fun A i s Q E st h => wpAny_pyIter_zip st.1 h
def iZipS (K : PySem.W.Frag) (ta : TA) : TI := fun σ H R => ta σ H fun vs H1 => ∃ sa sb xs ys, vs = [Sr.v sa, Sr.v sb] ∧ SrAt K H1 sa xs ∧ SrAt K H1 sb ys ∧ R (ItzS K sa sb) H1
theorem zipFar_new {N : Nat} : ZipFar (N + 4) (N + 2) (N + 3) N (N + 1) :=
  ⟨show (N + 2 : Nat) ≠ N + 4 by omega, show (N + 3 : Nat) ≠ N + 4 by omega, show (N + 2 : Nat) ≠ N + 3 by omega, show (N + 2 : Nat) ≠ N by omega, show (N + 4 : Nat) ≠ N by omega, show (N + 3 : Nat) ≠ N by omega,
    show (N + 2 : Nat) ≠ N + 1 by omega, show (N + 4 : Nat) ≠ N + 1 by omega, show (N + 3 : Nat) ≠ N + 1 by omega, show (N : Nat) ≠ N + 1 by omega⟩
theorem pi_zipS {X : Cx} {e e2 : Expr} {ta : TA} {p pos tpos : Pos} {elts : List Expr} {kk : Nat} (hg : Gl X "zip") (hm : X.mg "zip" = none) (ha : PA X [e, e2] ta) (hs : starEach [e, e2] X.env = [(false, eval e X.env), (false, eval e2 X.env)]) (hs2 : starEach [e2] X.env = [(false, eval e2 X.env)]) :
    PI X (.Tuple elts kk tpos) (.Call (.Name "zip" p) [e, e2] [] pos) (iZipS X.K ta) := by
  refine ⟨fun pins s σ H R I h => ?_⟩
  refine Call_ (ld_blt I hg hm boot_zip (PyProof.Rows.callWith_type1 (thn (ha.run pos pins s σ H _ I h) fun us s1 ⟨vs, H1, I1, r1, q1⟩ => ?_) (by rw [hs, hs2]) (by rw [hs2]; rfl)))
  obtain ⟨sa, sb, xs, ys, ex, hq1, hq2, q⟩ := q1
  subst ex
  cases r1 with
  | cons r rr =>
    cases rr with
    | cons r' rr =>
      cases rr
      obtain ⟨o1, Hh1, B1, h1, t1⟩ := sr_begins I1 hq1 r
      obtain ⟨o2, Hh2, B2, h2, t2⟩ := sr_begins I1 hq2 r'
      refine zip_begins2 B1 B2 h1 h2 fun h' hz hTI hTO e1 e2 hsz hk => wpAny_pyIter_zip hz ?_
      have I2 : Inv X pins σ H1 { s1 with heap := h' } := I1.kept (t' := s1.toks) hk
      refine ⟨s1.heap.objs.size + 4, [s1.heap.objs.size + 4, s1.heap.objs.size + 2, s1.heap.objs.size + 3, s1.heap.objs.size, s1.heap.objs.size + 1], _, _, H1, rfl, I2, turn_zipS sa sb zipFar_new, ⟨hz, hTI, ⟨_, _, hTO⟩, t1 _ _ e1, t2 _ _ e2⟩, fun b hb => ?_, q⟩
      have hle : s1.heap.objs.size ≤ b := by
        have e' : b = s1.heap.objs.size + 4 ∨ b = s1.heap.objs.size + 2 ∨ b = s1.heap.objs.size + 3 ∨ b = s1.heap.objs.size ∨ b = s1.heap.objs.size + 1 := by simpa using hb
        have key : ∀ N : Nat, ∀ c : Nat, (c = N + 4 ∨ c = N + 2 ∨ c = N + 3 ∨ c = N ∨ c = N + 1) → N ≤ c := fun N c h => by omega
        exact key _ _ e'
      exact I1.fpOk hle (I1.hok.fresh hle)
end PI
set_option Elab.async false
set_option linter.all false
set_option maxRecDepth 100000
set_option maxHeartbeats 4000000
/-! Calls where it is known that no repr is under way. -/
namespace PI
open PySem PySem.Spec PyProof.Rows L2

def Clr (A : Around) : Prop := A.guards = some []
section
variable (P : Program) (w : World) (K : PySem.W.Frag) (mg : Str → Option Value) (base : Heap) (CX : CXT)
/-- a def keeps its promise (as FnOk), no repr being under way -/
structure FnG (k : Nat) (f : Addr) (fd : FuncData) (ps : List Str) (sp : Sp) : Prop where
  len : ∀ vs H Q E, sp vs H Q E → vs.length = ps.length
  run : ∀ (A : Around) (outer : List Env) (s : Shared) (H : Hp) (args : Args) (us : List Value) (vs : List V) (Q : VK) (E : XK),
    Room k A → Clr A → Env0 P w K mg base A outer s H → BindsTo s fd args (ps.zip us) → Vals vs us → sp vs H Q E →
    codeAny (model P w) A (.call (.ref f) args) (CR CX outer P w H s Q E) s
end
section
variable {P : Program} {w : World} {K : PySem.W.Frag} {mg : Str → Option Value} {base : Heap} {CX : CXT} {j k : Nat} {f : Addr} {fd : FuncData} {ps : List Str} {sp : Sp}
theorem FnG.mono (F : FnG P w K mg base CX j f fd ps sp) (h : j ≤ k) : FnG P w K mg base CX k f fd ps sp :=
  ⟨F.len, fun A outer s H args us vs Q E hr hg => F.run A outer s H args us vs Q E (hr.mono h) hg⟩
theorem FnG.imp {sp' : Sp} (F : FnG P w K mg base CX k f fd ps sp) (h : ∀ vs H Q E, sp' vs H Q E → sp vs H Q E) : FnG P w K mg base CX k f fd ps sp' :=
  ⟨fun vs H Q E q => F.len vs H Q E (h _ _ _ _ q), fun A outer s H args us vs Q E hr hg e b r q => F.run A outer s H args us vs Q E hr hg e b r (h _ _ _ _ q)⟩
end
section
variable {X : Cx} {CX : CXT} {k : Nat} {f : Addr} {fd : FuncData} {ps : List Str} {sp : Sp} {E : XK} {x : Str} {p pos : Pos} {e : Expr} {es : List Expr} {t : TA}
theorem run_fnG {pins : List (Addr × Obj)} {σ : L2.St} {H : Hp} {s : Shared} {Q : VK} {us : List Value} {vs : List V}
    (F : FnG X.prog X.w X.K X.mg X.base CX k f fd ps sp) (hr : Room k X.A) (hg : Clr X.A) (hb : Binds X.K fd ps []) (hx : Passes CX X E)
    (I : Inv X pins σ H s) (r : Vals vs us) (h : sp vs H Q E) : wpAny (model X.prog X.w) X.A (call (.ref f) us) (EP X pins σ Q) X.xe s := by
  have hl : (us ++ []).length = ps.length := by
    rw [List.append_nil, ← r.length]
    exact F.len _ _ _ _ h
  have hb' := hb s us I.kIn hl
  rw [List.append_nil] at hb'
  refine wpAny_call (codeAny_mono (F.run X.A X.stack s H ⟨us, []⟩ us vs Q E hr hg I.env0 hb' r h) fun r s' hq => ?_)
  match r, hq with
  | .error e, hq => exact hx pins σ H s e s' I hq
  | .ok (.ret u), hq => exact I.after hq
  | .ok .next, hq => exact hq.elim
  | .ok .brk, hq => exact hq.elim
  | .ok .cont, hq => exact hq.elim
theorem pe_callG (F : FnG X.prog X.w X.K X.mg X.base CX k f fd ps sp) (hr : Room k X.A) (hc : Clr X.A) (hg : Gl X x) (hm : X.mg x = some (.ref f))
    (hk : PySem.W.keepIn X.K (.ref f) = true) (hb : Binds X.K fd ps []) (hx : Passes CX X E) (ha : PA X (e :: es) t) (hdb : (x == ("__debug__" : Str)) = false)
    (he : starEach (e :: es) X.env = (false, eval e X.env) :: starEach es X.env) (hpl : (backTo pos (starEach es X.env)).any (·.1) = false) :
    PE X (.Call (.Name x p) (e :: es) [] pos) (tCall sp [] E t) := by
  refine ⟨fun pins s σ H Q I h => wpAny_Call_Name_kw (ld_glob I hg hm ?_ hdb)⟩
  refine PySem.W.callWith_K (h₀ := X.base) I.ok.mod.kin hk ?_ he hpl
  exact thn (ha.run pos pins s σ H _ I h) fun us s1 ⟨vs, H1, I1, r, q⟩ => ⟨I1.kIn, run_fnG F hr hc hb hx I1 r (by simpa using q)⟩
theorem pe_callG0 (F : FnG X.prog X.w X.K X.mg X.base CX k f fd ps sp) (hr : Room k X.A) (hc : Clr X.A) (hg : Gl X x) (hm : X.mg x = some (.ref f))
    (hk : PySem.W.keepIn X.K (.ref f) = true) (hb : Binds X.K fd ps []) (hx : Passes CX X E) (hdb : (x == ("__debug__" : Str)) = false) :
    PE X (.Call (.Name x p) [] [] pos) (tCall sp [] E tNil) :=
  ⟨fun pins s σ H Q I h => wpAny_Call_Name_kw (ld_glob I hg hm (PySem.W.callWith_K0 I.kIn hk (run_fnG (us := []) F hr hc hb hx I .nil h)) hdb)⟩
end
/-- a def's body keeps its promise -/
theorem fnG_of {CX : CXT} {P : Program} {w : World} {K : PySem.W.Frag} {mg : Str → Option Value} {base : Heap} {k : Nat} {f : Addr} {name qual : Str} {params : Arguments} {body : List Stmt}
    {scope : Scope} {dV kV doc pm cdv ct oc : Value} {an od : Option Addr} {osl : Array (Option Value)} {N ps : List Str} {sp : Sp}
    (lk : K.lookup f = some ⟨oc, od, .func (PySem.W.fnOf name qual params body scope dV kV doc pm an cdv ct), osl⟩)
    (hcd : PySem.W.codeIn K cdv qual = true) (S : FnScope N ps scope) (len : ∀ vs H Q E, sp vs H Q E → vs.length = ps.length)
    (hbody : ∀ (A : Around) (outer : List Env) (s : Shared) (H : Hp) (vs : List V) (Q : VK) (E : XK), Room k (A.deeper (envOfC qual scope s.heap.objs.size f cdv)) → Clr A → sp vs H Q E →
      ∃ t, PSs (cxOf CX P w K mg base N qual scope f cdv A outer s H E) body t ∧ t { nx := fun _ H' => Q .non H', rt := Q } (start N vs) H) :
    FnG P w K mg base CX (k + 1) f (PySem.W.fnOf name qual params body scope dV kV doc pm an cdv ct) ps sp := by
  refine ⟨len, fun A outer s H args us vs Q E hr hg e0 hb r hsp => ?_⟩
  have KX : K.In s.heap := e0.mod.kin.keeps fun b o e => (e0.bs b o e).1
  have lim : s.heap.NoLimit := e0.mod.nolimit.keeps fun b o e => (e0.bs b o e).1
  refine codeAny_call_function hr.depth (KX _ _ lk) rfl S.co S.gen rfl (PySem.W.codeRec_of KX hcd) (hb _ _ _ _ ?_)
  refine wpAny_newFunctionEnv_cells S.kind (fun ⟨n, v⟩ hy => ?_) fun env he s1 x => ?_
  · rcases S.par n (List.of_mem_zip hy).1 with q | q
    · exact .inl q
    · exact .inr ⟨q, PySem.W.cellsFrom_some _ _ _ (.inl q)⟩
  subst he
  refine ⟨lim.keeps x.toInCall.keep, codeAny_func ?_⟩
  obtain ⟨t, ht, hq⟩ := hbody A outer s H vs Q E (hr.deeper _) hg hsp
  have I := inv_start (CX := CX) (E := E) S hr.hd e0 (len _ _ _ _ hsp) r x
  refine wpAny_mono (ht.run [] s1 (start N vs) H _ I hq) (fun fl s' hs => ?_) fun e s' hs => hs
  match fl, hs with
  | .ret u, ⟨v, σ', H', J, rv, q⟩ => exact ⟨v, H', J.os, J.bare, J.base, J.hok, rv, q⟩
  | .next, ⟨σ', H', J, q⟩ => exact ⟨V.non, H', J.os, J.bare, J.base, J.hok, rfl, q⟩
  | .brk, ⟨_, _, _, q⟩ => exact q.elim
  | .cont, ⟨_, _, _, q⟩ => exact q.elim
/-- the law is called -/
theorem law_callG {P : Program} {w : World} {K : PySem.W.Frag} {mg mb : Str → Option Value} {k : Nat} {fa a : Addr} {fd : FuncData} {x : Str} {sp : Sp} {s₁ : Shared} {vs : List Value} {ns : List Int}
    (KX : K.In s₁.heap) (hns : s₁.heap.Ns mainGlobals mg) (hb : s₁.heap.Ns builtinsNs mb) (hbb : ∀ x : Str, x ≠ "__name__" → mb x = bootBuiltins x)
    (hlim : s₁.heap.NoLimit) (hg : s₁.gens = #[]) (ha : s₁.heap.get? a = some { cls := .type "list", data := .seq vs.toArray }) (hi : IntsAre vs ns)
    (hl : ns.length ≤ sizeLine) (hr : Room k callerA) (F : ∀ base : Heap, K.In base → base.Ns mainGlobals mg → FnG P w K mg base CX0 k fa fd [x] sp)
    (hbind : ∀ u : Value, BindsTo s₁ fd ⟨[u], []⟩ [(x, u)])
    (hsp : ∀ H : Hp, Only H → SqL K H a (ns.map V.int) → sp [.ref a] H (fun v _ => v = .bl true) E0) :
    codeAny (model P w) callerA (.call (.ref fa) ⟨[.ref a], []⟩) (fun r s' => r = .ok (.ret (.bool true)) ∧ OldK s₁.heap s'.heap ∧ s'.os = s₁.os ∧ AllBare s'.gens) s₁ := by
  have rv := vals_ints hi
  have key : ∀ H : Hp, Only H → SqL K H a (ns.map V.int) → HOk P w H s₁.heap → (∀ b, H b ≠ none → b = a ∧ K.lookup a = none) →
      codeAny (model P w) callerA (.call (.ref fa) ⟨[.ref a], []⟩) (fun r s' => r = .ok (.ret (.bool true)) ∧ OldK s₁.heap s'.heap ∧ s'.os = s₁.os ∧ AllBare s'.gens) s₁ := by
    intro H hO hS hok hA
    have nsK : ∀ {b : Addr} {m : Str → Option Value}, s₁.heap.Ns b m → (hidT s₁.heap H).Ns b m := by
      rintro b m ⟨o, es, ep, e, d, r⟩
      refine ⟨o, es, ep, hidT_get e (Classical.byContradiction fun q => ?_), d, r⟩
      have e' := (hA b q).1
      rw [e', ha] at e
      cases e
      cases d
    have hKb : K.In (hidT s₁.heap H) := fun b o e => hidT_get (KX b o e) (Classical.byContradiction fun q => by
      obtain ⟨q1, q2⟩ := hA b q
      rw [q1, q2] at e
      cases e)
    have hM : Mod K mg (hidT s₁.heap H) := ⟨hKb, nsK hns, ⟨mb, nsK hb, hbb⟩, let ⟨mc, h1, h2⟩ := hlim; ⟨mc, nsK h1, h2⟩⟩
    have e0 : Env0 P w K mg (hidT s₁.heap H) callerA [] s₁ H :=
      ⟨rfl, hM, fun b o e => of_hidT e, Nat.le_of_eq (hidT_size _ _), trivial, fun b hb => (List.not_mem_nil hb).elim, hok, .of_eq hg⟩
    refine codeAny_mono ((F _ hKb (nsK hns)).run callerA [] s₁ H _ [.ref a] [.ref a] _ _ hr rfl e0 (hbind (.ref a)) (.cons rfl .nil) (hsp H hO hS)) fun r s' h => ?_
    match r, h with
    | .error _, h => exact h.elim
    | .ok .next, h => exact h.elim
    | .ok .brk, h => exact h.elim
    | .ok .cont, h => exact h.elim
    | .ok (.ret u), ⟨v, H', os, bare, un, hok', r', q⟩ =>
      subst q
      obtain rfl : u = Value.bool true := r'
      refine ⟨rfl, OldK.of_keep fun b o e => ?_, os, bare⟩
      rcases hO b with z | ⟨ob, xs, z⟩
      · exact un.keep b o e z (fun m => (List.not_mem_nil m).elim) List.not_mem_nil
      · obtain ⟨e1, _⟩ := hok b _ z
        obtain ⟨e2, _⟩ := hok' b _ (un.frzs b ob _ z)
        rw [e] at e1
        cases e1
        exact e2
  cases hk : K.lookup a with
  | some o =>
    have e := KX a o hk
    rw [ha] at e
    cases e
    exact key (fun _ => none) (fun _ => .inl rfl) (.inr ⟨_, vs.toArray, _, hk, rfl, rfl, rfl, by rw [List.size_toArray, hi.length]; exact hl, by simpa using rv⟩)
      (fun b u z => by cases z) fun b z => (z rfl).elim
  | none =>
    refine key (upd (fun _ => none) a (.frz { cls := .type "list", data := .seq vs.toArray } (.lst (ns.map V.int)))) (fun b => ?_) (.inl (.inr ⟨_, upd_same⟩)) (fun b u z => ?_) fun b z => ?_
    · by_cases hb : b = a
      · subst hb; exact .inr ⟨_, _, upd_same⟩
      · exact .inl (upd_ne hb)
    · by_cases hb : b = a
      · subst hb
        rw [upd_same] at z
        cases z
        exact ⟨ha, by rw [List.length_map]; exact hl, vs, _, rv, ha⟩
      · rw [upd_ne hb] at z
        cases z
    · by_cases hb : b = a
      · exact ⟨hb, hk⟩
      · rw [upd_ne hb] at z
        exact (z rfl).elim
end PI
set_option Elab.async false
set_option linter.all false
set_option maxRecDepth 100000
set_option maxHeartbeats 4000000
/-! Readings of the evaluator; expressions. -/
namespace PI
open PySem PySem.Spec PyProof.Rows L2

theorem bind_ok {α β : Type} {x : O α} {f : α → Sto → O β} {b : β} {st' : Sto} (h : x.bind f = .ok b st') : ∃ a st1, x = .ok a st1 ∧ f a st1 = .ok b st' := by
  cases x with
  | ok a st1 => exact ⟨a, st1, rfl, h⟩
  | bad => cases h
section
variable (K : PySem.W.Frag) (fa : Fa)
structure EnvR (W : Wd) (env : Ev) (σ : L2.St) : Prop where
  len : env.length = σ.length
  at_ : ∀ (i : Nat) (u : U), env[i]? = some (some u) → ∃ v : V, σ[i]? = some (some v) ∧ URp K fa W v u
def KtL (W : Wd) (H : Hp) (st : Sto) (us : List U) (Q : List V → Hp → Prop) : Prop := ∀ W' H' vs, Lx W H W' H' → Sim K fa W' st H' → UL K fa W' vs us → Q vs H'
variable (G : List U) (cf : Cf)
def rE (t : E) : TE := fun σ H Q => ∃ W st env u st', Sim K fa W st H ∧ EnvR K fa W env σ ∧ evE G cf t env st = .ok u st' ∧ Kt K fa W H st' u Q
def rT (t : E) : TT := fun σ H Q => ∃ W st env b st', Sim K fa W st H ∧ EnvR K fa W env σ ∧ evT G cf t env st = .ok b st' ∧ Kb K fa W H st' b Q
def rEs (ts : List E) : TA := fun σ H Q => ∃ W st env us st', Sim K fa W st H ∧ EnvR K fa W env σ ∧ evEs G cf ts env st = .ok us st' ∧ KtL K fa W H st' us Q
def rTs (ts : List E) : TT := fun σ H Q => ∃ W st env b st', Sim K fa W st H ∧ EnvR K fa W env σ ∧ evTs G cf ts env st = .ok b st' ∧ Kb K fa W H st' b Q
end
section
variable {K : PySem.W.Frag} {fa : Fa} {W W' : Wd} {st : Sto} {H H' : Hp} {σ : L2.St} {env : Ev}
theorem EnvR.mono (R : EnvR K fa W env σ) (l : Le W W') : EnvR K fa W' env σ := ⟨R.len, fun i u e => let ⟨v, h1, h2⟩ := R.at_ i u e; ⟨v, h1, h2.mono l⟩⟩
theorem EnvR.set (R : EnvR K fa W env σ) {i : Nat} {u : U} {v : V} (r : URp K fa W v u) : EnvR K fa W (env.set i (some u)) (σ.set i (some v)) := by
  refine ⟨by simp [R.len], fun j w e => ?_⟩
  by_cases h : i = j
  · subst h
    have hl : i < env.length := by
      have := (List.getElem?_eq_some_iff.mp e).1
      simpa using this
    rw [List.getElem?_set_self hl] at e
    cases e
    exact ⟨v, by rw [List.getElem?_set_self (by rw [← R.len]; exact hl)], r⟩
  · rw [List.getElem?_set_ne h] at e ⊢
    exact R.at_ j w e
theorem KtL.now {us : List U} {vs : List V} {Q : List V → Hp → Prop} (k : KtL K fa W H st us Q) (S : Sim K fa W st H) (r : UL K fa W vs us) : Q vs H := k W H vs (Lx.refl _ _) S r
theorem Kb.mono {b : Bool} {Q : Bool → Hp → Prop} (k : Kb K fa W H st b Q) (l : Lx W H W' H') : Kb K fa W' H' st b Q := fun W2 H2 l2 => k W2 H2 (l.trans l2)
theorem KtL.mono {us : List U} {Q : List V → Hp → Prop} (k : KtL K fa W H st us Q) (l : Lx W H W' H') : KtL K fa W' H' st us Q := fun W2 H2 v l2 => k W2 H2 v (l.trans l2)
/-- a thing that the world does not know is laid, is changed -/
theorem Sim.loose (S : Sim K fa W st H) {p : Addr} {o : HO} (hn : p ∉ W.iot) (hg : W.G p = none) : Sim K fa W st (upd H p o) := by
  refine ⟨fun b x e => ?_, S.len, S.nd, fun n a b e1 e2 => ?_, fun a m => ?_⟩
  · rw [upd_ne (ne_of_none e hg)]; exact S.sub _ _ e
  · have np : a ≠ p := fun z => hn (z ▸ List.mem_of_getElem? e1)
    exact (S.ob n a b e1 e2).mono (Le.refl _) (upd_ne np) fun _ g => g
  · have np : a ≠ p := fun z => hn (z ▸ m)
    rw [upd_ne np]; exact S.tr a m
theorem Lx.loose {W1 : Wd} {H1 : Hp} (l : Lx W H W1 H1) {p : Addr} {o : HO} (hp : H p = none) : Lx W H W1 (upd H1 p o) :=
  ⟨l.le, fun a u e n g => let ⟨e1, n1, g1⟩ := l.keep a u e n g; ⟨by rw [upd_ne (ne_of_none e hp)]; exact e1, n1, g1⟩⟩
end
section
variable {X : Cx} {e : Expr} {es : List Expr}
theorem _root_.L2.PE.wk {t t' : TE} (h : PE X e t) (i : ∀ σ H Q, t' σ H Q → t σ H Q) : PE X e t' := ⟨fun pins s σ H Q I q => h.run pins s σ H Q I (i σ H Q q)⟩
theorem _root_.L2.PT.wk {t t' : TT} (h : PT X e t) (i : ∀ σ H Q, t' σ H Q → t σ H Q) : PT X e t' := ⟨fun pins s σ H Q I q => h.run pins s σ H Q I (i σ H Q q)⟩
theorem _root_.L2.PW.wk {t t' : TT} (h : PW X e t) (i : ∀ σ H Q, t' σ H Q → t σ H Q) : PW X e t' := ⟨fun wh pins s σ H Q I q => h.run wh pins s σ H Q I (i σ H Q q)⟩
theorem _root_.L2.PTs.wk {t t' : TT} (h : PTs X es t) (i : ∀ σ H Q, t' σ H Q → t σ H Q) : PTs X es t' := ⟨fun pins s σ H Q I q => h.run pins s σ H Q I (i σ H Q q)⟩
theorem _root_.L2.PA.wk {t t' : TA} (h : PA X es t) (i : ∀ σ H Q, t' σ H Q → t σ H Q) : PA X es t' := ⟨fun pos pins s σ H Q I q => h.run pos pins s σ H Q I (i σ H Q q)⟩
end
section
variable {X : Cx} {fa : Fa} {G : List U} {cf : Cf} {e a b c : Expr} {ta tb tc : E} {pos : Pos} {es : List Expr} {ts : List E}
abbrev RE (X : Cx) (fa : Fa) (G : List U) (cf : Cf) (t : E) : TE := rE X.K fa G cf t
abbrev RT (X : Cx) (fa : Fa) (G : List U) (cf : Cf) (t : E) : TT := rT X.K fa G cf t
abbrev REs (X : Cx) (fa : Fa) (G : List U) (cf : Cf) (t : List E) : TA := rEs X.K fa G cf t
theorem e_var {i : Nat} {x : Str} (hN : X.N[i]? = some x) (hv : Vis X.env.scope x) (hd : (x == ("__debug__" : Str)) = false) (hcd : (x == ("__classdict__" : Str)) = false) : PE X (.Name x pos) (RE X fa G cf (.var i)) := by
  refine (pe_var hN hv hd hcd).wk fun σ H Q ⟨W, st, env, u, st', S, R, h, k⟩ => ?_
  simp only [evE] at h
  split at h
  · rename_i u' hu
    cases h
    obtain ⟨v, h1, h2⟩ := R.at_ i _ hu
    exact ⟨v, h1, k.now S h2⟩
  · cases h
theorem e_con {v : V} {d : PyData} (h : PE X e (tC v)) (r : ∀ W : Wd, Rp X.K W.G v d) : PE X e (RE X fa G cf (.con d)) := by
  refine h.wk fun σ H Q ⟨W, st, env, u, st', S, R, h, k⟩ => ?_
  cases h
  exact k.now S (r W)
theorem e_glob {x : Str} {g : Nat} {u0 : U} {uv : Value} {v : V} (hg : Gl X x) (hm : X.mg x = some uv) (r : RelV v uv) (hG : G[g]? = some u0) (hu : ∀ W, URp X.K fa W v u0) (hd : (x == ("__debug__" : Str)) = false) : PE X (.Name x pos) (RE X fa G cf (.glob g)) := by
  refine (pe_glob hg hm r hd).wk fun σ H Q ⟨W, st, env, u, st', S, R, h, k⟩ => ?_
  simp only [evE, hG] at h
  cases h
  exact k.now S (hu W)
/-- two operands, one behind the other -/
theorem two {σ : L2.St} {H : Hp} {r : R2} {Q : VK} {u : U} {W : Wd} {st st' : Sto} {env : Ev} {f : U → U → Sto → O U} (S : Sim X.K fa W st H) (R : EnvR X.K fa W env σ)
    (h : ((evE G cf ta env st).bind fun x st1 => (evE G cf tb env st1).bind fun y st2 => f x y st2) = .ok u st') (k : Kt X.K fa W H st' u Q)
    (hr : ∀ W2 H2 x y ux uy st2, Sim X.K fa W2 st2 H2 → URp X.K fa W2 x ux → URp X.K fa W2 y uy → f ux uy st2 = .ok u st' → Kt X.K fa W2 H2 st' u Q → r x y H2 Q) :
    tOp r (RE X fa G cf ta) (RE X fa G cf tb) σ H Q := by
  obtain ⟨x, st1, h1, h⟩ := bind_ok h
  obtain ⟨y, st2, h2, h⟩ := bind_ok h
  exact ⟨W, st, env, x, st1, S, R, h1, fun W1 H1 vx l1 S1 rx => ⟨W1, st1, env, y, st2, S1, R.mono l1.le, h2, fun W2 H2 vy l2 S2 ry => hr W2 H2 vx vy x y st2 S2 (rx.mono l2.le) ry h (k.mono (l1.trans l2))⟩⟩
theorem e_bin {o : Bop} (ha : PE X a (RE X fa G cf ta)) (hb : PE X b (RE X fa G cf tb)) : PE X (.BinOp a (opB o) b pos) (RE X fa G cf (.bin o ta tb)) := by
  refine (pe_op (op_B (fa := fa) o) ha hb).wk fun σ H Q ⟨W, st, env, u, st', S, R, h, k⟩ => ?_
  exact two S R h k fun W2 H2 x y ux uy st2 S2 rx ry h2 k2 => ⟨W2, st2, ux, uy, u, st', S2, rx, ry, h2, k2⟩
theorem e_addM (ha : PE X a (RE X fa G cf ta)) (hb : PE X b (RE X fa G cf tb)) : PE X (.BinOp a .Add b pos) (RE X fa G cf (.addM ta tb)) := by
  refine (pe_op (op_BM (fa := fa)) ha hb).wk fun σ H Q ⟨W, st, env, u, st', S, R, h, k⟩ => ?_
  exact two S R h k fun W2 H2 x y ux uy st2 S2 rx ry h2 k2 => ⟨W2, st2, ux, uy, u, st', S2, rx, ry, h2, k2⟩
theorem e_neg (ha : PE X a (RE X fa G cf ta)) : PE X (.UnaryOp .USub a pos) (RE X fa G cf (.neg ta)) := by
  refine (pe_un un_neg ha).wk fun σ H Q ⟨W, st, env, u, st', S, R, h, k⟩ => ?_
  simp only [evE] at h
  obtain ⟨x, st1, h1, h⟩ := bind_ok h
  split at h
  · rename_i i
    cases h
    refine ⟨W, st, env, _, _, S, R, h1, fun W1 H1 v l S1 r => ?_⟩
    have r' : Rp X.K W1.G v (.int i) := r
    cases r'
    exact ⟨i, rfl, k W1 H1 _ l S1 (.int _)⟩
  · cases h
/-- by truth -/
theorem tru_of {H : Hp} {W : Wd} {st st' : Sto} {v : V} {u : U} {b : Bool} (S : Sim X.K fa W st H) (r : URp X.K fa W v u) (h : tru u st = .ok b st') : st' = st ∧ TruV X.K v H b := by
  unfold tru at h
  split at h
  · rename_i x hx
    split at h
    · rename_i b' hb
      cases h
      refine ⟨rfl, ?_⟩
      have vx := view_of S r hx
      cases x with
      | none => cases vx; cases hb; rfl
      | bool c => cases vx; cases hb; rfl
      | int i => cases vx; cases hb; rfl
      | str z =>
        cases vx
        simp only [truD] at hb
        split at hb
        · rename_i hz
          cases hb
          exact ⟨Nat.le_trans hz lim_le, rfl⟩
        · cases hb
      | list ds =>
        obtain ⟨p, vs, rfl, h1, h2⟩ := vx
        cases hb
        exact .inl ⟨vs, h1, by cases h2 <;> rfl⟩
      | tuple ds =>
        obtain ⟨p, vs, rfl, h1, h2⟩ := vx
        cases hb
        exact .inr (.inl ⟨vs, h1, by cases h2 <;> rfl⟩)
      | dict ds =>
        obtain ⟨p, vs, rfl, h1, h2⟩ := vx
        cases hb
        exact .inr (.inr ⟨vs, h1, by cases h2 <;> rfl⟩)
    · cases h
  · cases h
theorem e_not (ha : PE X a (RE X fa G cf ta)) : PE X (.UnaryOp .Not a pos) (RE X fa G cf (.not ta)) := by
  refine (pe_notT ha).wk fun σ H Q ⟨W, st, env, u, st', S, R, h, k⟩ => ?_
  simp only [evE] at h
  obtain ⟨x, st1, h1, h⟩ := bind_ok h
  obtain ⟨c, st2, h2, h⟩ := bind_ok h
  cases h
  refine ⟨W, st, env, x, st1, S, R, h1, fun W1 H1 v l S1 r => ?_⟩
  obtain ⟨rfl, t⟩ := tru_of S1 r h2
  exact ⟨c, t, k W1 H1 _ l S1 (.bl _)⟩
theorem t_not (ha : PT X a (RT X fa G cf ta)) : PT X (.UnaryOp .Not a pos) (RT X fa G cf (.not ta)) := by
  refine (pt_not ha).wk fun σ H Q ⟨W, st, env, b, st', S, R, h, k⟩ => ?_
  simp only [evT, evE] at h
  obtain ⟨x, st1, h1, h⟩ := bind_ok h
  obtain ⟨y, st2, h2, h3⟩ := bind_ok h1
  obtain ⟨c, st3, h4, h5⟩ := bind_ok h3
  cases h5
  cases h
  refine ⟨W, st, env, c, st', S, R, ?_, fun W1 H1 l S1 => k W1 H1 l S1⟩
  simp only [evT, h2, O.bind, h4]
theorem e_truth (ha : PE X a (RE X fa G cf ta)) (he : ∀ whole, isTrue a X.env whole = (do let v ← whole; standAt a.pos; holding [v] (truthy v))) : PT X a (RT X fa G cf ta) := by
  refine (pt_truth ha he).wk fun σ H Q ⟨W, st, env, b, st', S, R, h, k⟩ => ?_
  simp only [evT] at h
  obtain ⟨x, st1, h1, h⟩ := bind_ok h
  refine ⟨W, st, env, x, st1, S, R, h1, fun W1 H1 v l S1 r => ?_⟩
  obtain ⟨rfl, t⟩ := tru_of S1 r h
  exact ⟨b, t, k W1 H1 l S1⟩
theorem cmp_two {σ : L2.St} {H : Hp} {o : Cop} {Q : VK} {W : Wd} {st st' : Sto} {env : Ev} {z : Bool} (S : Sim X.K fa W st H) (R : EnvR X.K fa W env σ)
    (h : ((evE G cf ta env st).bind fun x st1 => (evE G cf tb env st1).bind fun y st2 => cop o x y st2) = .ok z st') (k : Kb X.K fa W H st' z fun b H' => Q (.bl b) H') :
    tOp (rC X.K fa o) (RE X fa G cf ta) (RE X fa G cf tb) σ H Q := by
  obtain ⟨x, st1, h1, h⟩ := bind_ok h
  obtain ⟨y, st2, h2, h⟩ := bind_ok h
  exact ⟨W, st, env, x, st1, S, R, h1, fun W1 H1 vx l1 S1 rx => ⟨W1, st1, env, y, st2, S1, R.mono l1.le, h2, fun W2 H2 vy l2 S2 ry => ⟨W2, st2, x, y, z, st', S2, rx.mono l2.le, ry, h, k.mono (l1.trans l2)⟩⟩⟩
theorem e_cmp {o : Cop} (hu : X.A.units + 65 < cLine) (hw : fa.w = X.w) (ha : PE X a (RE X fa G cf ta)) (hb : PE X b (RE X fa G cf tb)) (hm : behindInMarks (opC o) b = false) : PE X (.Compare a [opC o] [b] pos) (RE X fa G cf (.cmp o ta tb)) := by
  refine (pe_cmpR (op_C hu hw o) ha hb hm).wk fun σ H Q ⟨W, st, env, u, st', S, R, h, k⟩ => ?_
  simp only [evE] at h
  obtain ⟨x, st1, h1, h⟩ := bind_ok h
  obtain ⟨y, st2, h2, h⟩ := bind_ok h
  obtain ⟨z, st3, h3, h⟩ := bind_ok h
  cases h
  refine cmp_two (z := z) (st' := st') S R (by rw [h1]; simp only [O.bind, h2]; exact h3) fun W' H' l S' => k W' H' _ l S' (.bl _)
theorem t_cmp {o : Cop} (hu : X.A.units + 65 < cLine) (hw : fa.w = X.w) (ha : PE X a (RE X fa G cf ta)) (hb : PE X b (RE X fa G cf tb)) (hm : behindInMarks (opC o) b = false) : PT X (.Compare a [opC o] [b] pos) (RT X fa G cf (.cmp o ta tb)) := by
  refine (pt_cmpR (op_C hu hw o) ha hb hm).wk fun σ H Q ⟨W, st, env, b, st', S, R, h, k⟩ => ?_
  simp only [evT, evE] at h
  obtain ⟨v, st1, h1, h⟩ := bind_ok h
  obtain ⟨x, st2, h2, h1⟩ := bind_ok h1
  obtain ⟨y, st3, h3, h1⟩ := bind_ok h1
  obtain ⟨z, st4, h4, h1⟩ := bind_ok h1
  cases h1
  refine cmp_two (z := b) (st' := st') S R (by rw [h2]; simp only [O.bind, h3]; rw [h4]; simp only [tru, vw, truD] at h; cases h; rfl) fun W' H' l S' => ⟨b, rfl, k W' H' l S'⟩
theorem chain_of {o o2 : Cop} {σ : L2.St} {H : Hp} {Q : VK} {W : Wd} {st st' : Sto} {env : Ev} {u : U} (S : Sim X.K fa W st H) (R : EnvR X.K fa W env σ) (h : evE G cf (.chain o o2 ta tb tc) env st = .ok u st') (k : ∀ b, u = .d (.bool b) → Kb X.K fa W H st' b fun b H' => Q (.bl b) H') :
    tChain (rC X.K fa o) (rC X.K fa o2) (RE X fa G cf ta) (RE X fa G cf tb) (RE X fa G cf tc) σ H Q := by
  simp only [evE] at h
  obtain ⟨x, st1, h1, h⟩ := bind_ok h
  obtain ⟨y, st2, h2, h⟩ := bind_ok h
  obtain ⟨z, st3, h3, h⟩ := bind_ok h
  refine ⟨W, st, env, x, st1, S, R, h1, fun W1 H1 vx l1 S1 rx => ⟨W1, st1, env, y, st2, S1, R.mono l1.le, h2, fun W2 H2 vy l2 S2 ry => ⟨W2, st2, x, y, z, st3, S2, rx.mono l2.le, ry, h3, fun W3 H3 l3 S3 => ⟨z, rfl, ?_⟩⟩⟩⟩
  cases z with
  | true =>
    obtain ⟨w', st4, h4, h⟩ := bind_ok h
    obtain ⟨b, st5, h5, h⟩ := bind_ok h
    cases h
    refine ⟨W3, st3, env, w', st4, S3, R.mono ((l1.trans l2).trans l3).le, h4, fun W4 H4 vz l4 S4 rz => ⟨W4, st4, y, w', b, st', S4, ry.mono (l3.trans l4).le, rz, h5, ?_⟩⟩
    exact (k b rfl).mono (((l1.trans l2).trans l3).trans l4)
  | false =>
    cases h
    exact k false rfl W3 H3 ((l1.trans l2).trans l3) S3
end
/-- a op1 b op2 c op3 d -/
def tChain3 (r r' r'' : R2) (ta tb tc td : TE) : TE := fun σ H Q => ta σ H fun x H1 => tb σ H1 fun y H2 => r x y H2 fun z H3 => ∃ k, z = .bl k ∧
  (if k = true then tc σ H3 fun w' H4 => r' y w' H4 fun z2 H5 => ∃ k2, z2 = .bl k2 ∧ (if k2 = true then td σ H5 fun w2 H6 => r'' w' w2 H6 Q else Q (.bl false) H5) else Q (.bl false) H3)
theorem pe_chain3 {X : Cx} {a b c d : Expr} {ta tb tc td : TE} {pos : Pos} {op op' op'' : CmpOp} {r r' r'' : R2} (ho : OpR X (compareOp op) r) (ho' : OpR X (compareOp op') r') (ho'' : OpR X (compareOp op'') r'') (ha : PE X a ta) (hb : PE X b tb) (hc : PE X c tc) (hd : PE X d td)
    (hm : lastMarks [op, op', op''] [b, c, d] = false) : PE X (.Compare a [op, op', op''] [b, c, d] pos) (tChain3 r r' r'' ta tb tc td) := by
  refine ⟨fun pins s σ H Q I h => ?_⟩
  refine Compare_chain (thn (ha.run pins s σ H _ I h) fun v s1 ⟨x, H1, I1, r1, q1⟩ => chain_link (thn (hb.run pins s1 σ H1 _ I1 q1) fun u s2 ⟨y, H2, I2, r2, q2⟩ =>
    thn (ho pins s2 σ H2 x y v u _ I2 r1 r2 q2) fun d s3 ⟨z, H3, I3, r3, k, e, q3⟩ => ?_)) hm
  subst e
  cases r3
  refine wpAny_truthy_bool ?_
  cases k with
  | false => exact ite_ff ⟨.bl false, H3, I3, rfl, q3⟩
  | true =>
    refine ite_tt (chain_link (thn (hc.run pins s3 σ H3 _ I3 q3) fun w' s4 ⟨z', H4, I4, r4, q4⟩ => thn (ho' pins s4 σ H4 y z' u w' _ I4 r2 r4 q4) fun d2 s5 ⟨z2, H5, I5, r5, k2, e2, q5⟩ => ?_))
    subst e2
    cases r5
    refine wpAny_truthy_bool ?_
    cases k2 with
    | false => exact ite_ff ⟨.bl false, H5, I5, rfl, q5⟩
    | true => exact ite_tt (chain_last (thn (hd.run pins s5 σ H5 _ I5 q5) fun w2 s6 ⟨z3, H6, I6, r6, q6⟩ => ho'' pins s6 σ H6 z' z3 w' w2 Q I6 r4 r6 q6))
theorem pt_chain3 {X : Cx} {a b c d : Expr} {ta tb tc td : TE} {pos : Pos} {op op' op'' : CmpOp} {r r' r'' : R2} (ho : OpR X (compareOp op) r) (ho' : OpR X (compareOp op') r') (ho'' : OpR X (compareOp op'') r'') (ha : PE X a ta) (hb : PE X b tb) (hc : PE X c tc) (hd : PE X d td)
    (hm : lastMarks [op, op', op''] [b, c, d] = false) : PT X (.Compare a [op, op', op''] [b, c, d] pos) (tTest (tChain3 r r' r'' ta tb tc td)) := by
  refine ⟨fun pins s σ H Q I h => ?_⟩
  refine isTrue_chain (thn (ha.run pins s σ H _ I h) fun v s1 ⟨x, H1, I1, r1, q1⟩ => test_link (thn (hb.run pins s1 σ H1 _ I1 q1) fun u s2 ⟨y, H2, I2, r2, q2⟩ =>
    thn (ho pins s2 σ H2 x y v u _ I2 r1 r2 q2) fun d s3 ⟨z, H3, I3, r3, k, e, q3⟩ => ?_)) hm
  subst e
  cases r3
  refine wpAny_truthy_bool ?_
  cases k with
  | false =>
    obtain ⟨k', e', q'⟩ := q3
    cases e'
    exact ite_ff ⟨H3, I3, q'⟩
  | true =>
    refine ite_tt (test_link (thn (hc.run pins s3 σ H3 _ I3 q3) fun w' s4 ⟨z', H4, I4, r4, q4⟩ => thn (ho' pins s4 σ H4 y z' u w' _ I4 r2 r4 q4) fun d2 s5 ⟨z2, H5, I5, r5, k2, e2, q5⟩ => ?_))
    subst e2
    cases r5
    refine wpAny_truthy_bool ?_
    cases k2 with
    | false =>
      obtain ⟨k', e', q'⟩ := q5
      cases e'
      exact ite_ff ⟨H5, I5, q'⟩
    | true =>
      refine ite_tt (test_last (thn (hd.run pins s5 σ H5 _ I5 q5) fun w2 s6 ⟨z3, H6, I6, r6, q6⟩ => thn (ho'' pins s6 σ H6 z' z3 w' w2 _ I6 r4 r6 q6) fun d3 s7 ⟨z4, H7, I7, r7, k', e', q'⟩ => ?_))
      subst e'
      cases r7
      exact wpAny_truthy_bool ⟨H7, I7, q'⟩
section
variable {X : Cx} {fa : Fa} {G : List U} {cf : Cf} {ta tb tc td : E}
theorem chain3_of {o o2 o3 : Cop} {σ : L2.St} {H : Hp} {Q : VK} {W : Wd} {st st' : Sto} {env : Ev} {u : U} (S : Sim X.K fa W st H) (R : EnvR X.K fa W env σ) (h : evE G cf (.chain3 o o2 o3 ta tb tc td) env st = .ok u st') (k : ∀ b, u = .d (.bool b) → Kb X.K fa W H st' b fun b H' => Q (.bl b) H') :
    tChain3 (rC X.K fa o) (rC X.K fa o2) (rC X.K fa o3) (RE X fa G cf ta) (RE X fa G cf tb) (RE X fa G cf tc) (RE X fa G cf td) σ H Q := by
  simp only [evE] at h
  obtain ⟨x, st1, h1, h⟩ := bind_ok h
  obtain ⟨y, st2, h2, h⟩ := bind_ok h
  obtain ⟨z, st3, h3, h⟩ := bind_ok h
  refine ⟨W, st, env, x, st1, S, R, h1, fun W1 H1 vx l1 S1 rx => ⟨W1, st1, env, y, st2, S1, R.mono l1.le, h2, fun W2 H2 vy l2 S2 ry => ⟨W2, st2, x, y, z, st3, S2, rx.mono l2.le, ry, h3, fun W3 H3 l3 S3 => ⟨z, rfl, ?_⟩⟩⟩⟩
  cases z with
  | true =>
    obtain ⟨w', st4, h4, h⟩ := bind_ok h
    obtain ⟨z2, st5, h5, h⟩ := bind_ok h
    refine ⟨W3, st3, env, w', st4, S3, R.mono ((l1.trans l2).trans l3).le, h4, fun W4 H4 vz l4 S4 rz => ⟨W4, st4, y, w', z2, st5, S4, ry.mono (l3.trans l4).le, rz, h5, fun W5 H5 l5 S5 => ⟨z2, rfl, ?_⟩⟩⟩
    have l15 := (((l1.trans l2).trans l3).trans l4).trans l5
    cases z2 with
    | true =>
      obtain ⟨w2, st6, h6, h⟩ := bind_ok h
      obtain ⟨b, st7, h7, h⟩ := bind_ok h
      cases h
      refine ⟨W5, st5, env, w2, st6, S5, R.mono l15.le, h6, fun W6 H6 vz6 l6 S6 rz6 => ⟨W6, st6, w', w2, b, st', S6, rz.mono (l5.trans l6).le, rz6, h7, ?_⟩⟩
      exact (k b rfl).mono (l15.trans l6)
    | false =>
      cases h
      exact k false rfl W5 H5 l15 S5
  | false =>
    cases h
    exact k false rfl W3 H3 ((l1.trans l2).trans l3) S3
end
end PI
set_option Elab.async false
set_option linter.all false
set_option maxRecDepth 100000
set_option maxHeartbeats 4000000
/-! Expressions: and, or, if, displays, subscripts, calls. -/
namespace PI
open PySem PySem.Spec PyProof.Rows L2
section
variable {X : Cx} {fa : Fa} {G : List U} {cf : Cf} {e a b c : Expr} {ta tb tc : E} {pos : Pos} {es : List Expr} {ts : List E}
/-! ### and, or -/
theorem and_of {σ : L2.St} {H : Hp} {Q : VK} {W : Wd} {st st' : Sto} {env : Ev} {u : U} (S : Sim X.K fa W st H) (R : EnvR X.K fa W env σ) (h : evE G cf (.and ta tb) env st = .ok u st') (k : Kt X.K fa W H st' u Q) :
    tAndT X.K (RE X fa G cf ta) (RE X fa G cf tb) σ H Q := by
  simp only [evE] at h
  obtain ⟨x, st1, h1, h⟩ := bind_ok h
  obtain ⟨z, st2, h2, h⟩ := bind_ok h
  refine ⟨W, st, env, x, st1, S, R, h1, fun W1 H1 v l S1 r => ?_⟩
  obtain ⟨rfl, t⟩ := tru_of S1 r h2
  refine ⟨z, t, ?_⟩
  cases z with
  | true => exact ⟨W1, st2, env, u, st', S1, R.mono l.le, h, k.mono l⟩
  | false => cases h; exact k W1 H1 v l S1 r
theorem or_of {σ : L2.St} {H : Hp} {Q : VK} {W : Wd} {st st' : Sto} {env : Ev} {u : U} (S : Sim X.K fa W st H) (R : EnvR X.K fa W env σ) (h : evE G cf (.or ta tb) env st = .ok u st') (k : Kt X.K fa W H st' u Q) :
    tOrT X.K (RE X fa G cf ta) (RE X fa G cf tb) σ H Q := by
  simp only [evE] at h
  obtain ⟨x, st1, h1, h⟩ := bind_ok h
  obtain ⟨z, st2, h2, h⟩ := bind_ok h
  refine ⟨W, st, env, x, st1, S, R, h1, fun W1 H1 v l S1 r => ?_⟩
  obtain ⟨rfl, t⟩ := tru_of S1 r h2
  refine ⟨z, t, ?_⟩
  cases z with
  | true => cases h; exact k W1 H1 v l S1 r
  | false => exact ⟨W1, st2, env, u, st', S1, R.mono l.le, h, k.mono l⟩
theorem e_and {rest : List Expr} (ha : PE X a (RE X fa G cf ta)) (hb : PE X (.BoolOp .And (b :: rest) pos) (RE X fa G cf tb)) : PE X (.BoolOp .And (a :: b :: rest) pos) (RE X fa G cf (.and ta tb)) :=
  (pe_andT ha hb).wk fun σ H Q ⟨W, st, env, u, st', S, R, h, k⟩ => and_of S R h k
theorem e_or {rest : List Expr} (ha : PE X a (RE X fa G cf ta)) (hb : PE X (.BoolOp .Or (b :: rest) pos) (RE X fa G cf tb)) : PE X (.BoolOp .Or (a :: b :: rest) pos) (RE X fa G cf (.or ta tb)) :=
  (pe_orT ha hb).wk fun σ H Q ⟨W, st, env, u, st', S, R, h, k⟩ => or_of S R h k
theorem w_and {rest : List Expr} (ha : PT X a (RT X fa G cf ta)) (hb : PW X (.BoolOp .And (b :: rest) pos) (RT X fa G cf tb)) : PW X (.BoolOp .And (a :: b :: rest) pos) (RT X fa G cf (.and ta tb)) := by
  refine (pw_and ha hb).wk fun σ H Q ⟨W, st, env, z, st', S, R, h, k⟩ => ?_
  simp only [evT, evE] at h
  obtain ⟨v, st1, h1, h⟩ := bind_ok h
  obtain ⟨x, st2, h2, h1⟩ := bind_ok h1
  obtain ⟨y, st3, h3, h1⟩ := bind_ok h1
  refine ⟨W, st, env, y, st3, S, R, by simp only [evT, h2, O.bind]; exact h3, fun W1 H1 l S1 => ?_⟩
  cases y with
  | true => exact ⟨W1, st3, env, z, st', S1, R.mono l.le, by simp only [evT]; rw [show evE G cf tb env st3 = .ok v st1 from h1]; exact h, k.mono l⟩
  | false =>
    cases h1
    have e2 : st1 = st2 ∧ z = false := by
      unfold tru at h h3
      split at h3
      · rename_i q hq
        split at h3
        · rename_i b0 hb0
          cases h3
          rw [hq] at h
          simp only [hb0] at h
          cases h
          exact ⟨rfl, rfl⟩
        · cases h3
      · cases h3
    have e3 : st1 = st' := by
      unfold tru at h
      split at h
      · split at h
        · cases h; rfl
        · cases h
      · cases h
    obtain ⟨e1, rfl⟩ := e2
    exact k W1 H1 l (e3 ▸ S1)
theorem w_or {rest : List Expr} (ha : PT X a (RT X fa G cf ta)) (hb : PW X (.BoolOp .Or (b :: rest) pos) (RT X fa G cf tb)) : PW X (.BoolOp .Or (a :: b :: rest) pos) (RT X fa G cf (.or ta tb)) := by
  refine (pw_or ha hb).wk fun σ H Q ⟨W, st, env, z, st', S, R, h, k⟩ => ?_
  simp only [evT, evE] at h
  obtain ⟨v, st1, h1, h⟩ := bind_ok h
  obtain ⟨x, st2, h2, h1⟩ := bind_ok h1
  obtain ⟨y, st3, h3, h1⟩ := bind_ok h1
  refine ⟨W, st, env, y, st3, S, R, by simp only [evT, h2, O.bind]; exact h3, fun W1 H1 l S1 => ?_⟩
  cases y with
  | false => exact ⟨W1, st3, env, z, st', S1, R.mono l.le, by simp only [evT]; rw [show evE G cf tb env st3 = .ok v st1 from h1]; exact h, k.mono l⟩
  | true =>
    cases h1
    have e2 : st1 = st2 ∧ z = true := by
      unfold tru at h h3
      split at h3
      · rename_i q hq
        split at h3
        · rename_i b0 hb0
          cases h3
          rw [hq] at h
          simp only [hb0] at h
          cases h
          exact ⟨rfl, rfl⟩
        · cases h3
      · cases h3
    have e3 : st1 = st' := by
      unfold tru at h
      split at h
      · split at h
        · cases h; rfl
        · cases h
      · cases h
    obtain ⟨e1, rfl⟩ := e2
    exact k W1 H1 l (e3 ▸ S1)
theorem e_ife (hc : PT X c (RT X fa G cf tc)) (ha : PE X a (RE X fa G cf ta)) (hb : PE X b (RE X fa G cf tb)) : PE X (.IfExp c a b pos) (RE X fa G cf (.ife tc ta tb)) := by
  refine (pe_ifExp hc ha hb).wk fun σ H Q ⟨W, st, env, u, st', S, R, h, k⟩ => ?_
  simp only [evE] at h
  obtain ⟨x, st1, h1, h⟩ := bind_ok h
  obtain ⟨y, st2, h2, h⟩ := bind_ok h
  refine ⟨W, st, env, y, st2, S, R, by simp only [evT, h1, O.bind]; exact h2, fun W1 H1 l S1 => ?_⟩
  cases y with
  | true => exact ⟨W1, st2, env, u, st', S1, R.mono l.le, h, k.mono l⟩
  | false => exact ⟨W1, st2, env, u, st', S1, R.mono l.le, h, k.mono l⟩
/-! ### lists of arguments -/
def notStar : Expr → Bool
  | .Starred _ _ => false
  | _ => true
theorem star_of {env : Env} (h : notStar e = true) : starEach (e :: es) env = (false, eval e env) :: starEach es env := by
  cases e <;> first | rfl | cases h
theorem stars_none {env : Env} : ∀ {es : List Expr}, es.all notStar = true → (starEach es env).any (·.1) = false ∧ (starEach es env).all (fun x => !x.1) = true
  | [], _ => ⟨rfl, rfl⟩
  | e :: es, h => by
    rw [List.all_cons, Bool.and_eq_true] at h
    obtain ⟨h1, h2⟩ := stars_none (env := env) h.2
    rw [star_of h.1]
    exact ⟨by rw [List.any_cons, h1]; rfl, by rw [List.all_cons, h2]; rfl⟩
theorem back_any {p : Pos} : ∀ {l : List (Bool × Sem Value)}, (backTo p l).any (·.1) = l.any (·.1) ∧ (backTo p l).all (fun x => !x.1) = l.all (fun x => !x.1)
  | [] => ⟨rfl, rfl⟩
  | x :: l => by
    obtain ⟨h1, h2⟩ := back_any (p := p) (l := l)
    refine ⟨?_, ?_⟩
    · show (x.1 || (backTo p l).any (·.1)) = (x.1 || l.any (·.1))
      rw [h1]
    · show (!x.1 && (backTo p l).all fun x => !x.1) = (!x.1 && l.all fun x => !x.1)
      rw [h2]
theorem a_nil : PA X [] (REs X fa G cf []) := by
  refine pa_nil.wk fun σ H Q ⟨W, st, env, us, st', S, R, h, k⟩ => ?_
  cases h
  exact k.now S .nil
theorem a_cons (hn : notStar e = true) (h1 : PE X e (RE X fa G cf ta)) (h2 : PA X es (REs X fa G cf ts)) : PA X (e :: es) (REs X fa G cf (ta :: ts)) := by
  refine (pa_cons h1 h2 (star_of hn)).wk fun σ H Q ⟨W, st, env, us, st', S, R, h, k⟩ => ?_
  simp only [evEs] at h
  obtain ⟨x, st1, h1, h⟩ := bind_ok h
  obtain ⟨xs, st2, h2, h⟩ := bind_ok h
  cases h
  exact ⟨W, st, env, x, st1, S, R, h1, fun W1 H1 v l1 S1 r1 => ⟨W1, st1, env, xs, _, S1, R.mono l1.le, h2, fun W2 H2 vs l2 S2 r2 => k W2 H2 _ (l1.trans l2) S2 (.cons (r1.mono l2.le) r2)⟩⟩
theorem e_tup {k0 : Nat} (h : PA X es (REs X fa G cf ts)) : PE X (.Tuple es k0 pos) (RE X fa G cf (.tup ts)) := by
  refine (pe_tup h).wk fun σ H Q ⟨W, st, env, u, st', S, R, h, k⟩ => ?_
  simp only [evE] at h
  obtain ⟨us, st1, h1, h⟩ := bind_ok h
  split at h
  · rename_i ds hd
    split at h
    · rename_i hz
      cases h
      refine ⟨W, st, env, us, _, S, R, h1, fun W1 H1 vs l S1 r => ⟨?_, (k.mono l).tup S1 (r.data hd)⟩⟩
      rw [(r.data hd).length]
      exact Nat.le_trans hz lim_le
    · cases h
  · cases h
theorem e_lst {m : Bool} (h : PA X es (REs X fa G cf ts)) : PE X (.List es pos) (RE X fa G cf (.lst m ts)) := by
  refine (pe_lst h).wk fun σ H Q ⟨W, st, env, u, st', S, R, h, k⟩ => ?_
  simp only [evE] at h
  obtain ⟨us, st1, h1, h⟩ := bind_ok h
  exact ⟨W, st, env, us, st1, S, R, h1, fun W1 H1 vs l S1 r => Kt.mkL h (k.mono l) S1 r⟩
/-! ### subscripts -/
def rIxU (K : PySem.W.Frag) (fa : Fa) : R2 := fun x y H Q => ∃ W st ua ui u st', Sim K fa W st H ∧ URp K fa W x ua ∧ URp K fa W y ui ∧ ixU ua ui st = .ok u st' ∧ Kt K fa W H st' u Q
theorem ixN_same {α β : Type} {xs : List α} {ys : List β} (h : xs.length = ys.length) {i : Int} : ixN xs.length i = ixN ys.length i := by rw [h]
theorem atI_ix {α : Type} {xs : List α} {i : Int} {x : α} (h : atI xs i = some x) : ∃ j, ixN xs.length i = some j ∧ xs[j]? = some x := by
  unfold atI at h
  cases hi : ixN xs.length i with
  | none => rw [hi] at h; cases h
  | some j => rw [hi] at h; exact ⟨j, rfl, h⟩
theorem atI_mk {α : Type} {xs : List α} {i : Int} {j : Nat} {x : α} (h : ixN xs.length i = some j) (h2 : xs[j]? = some x) : atI xs i = some x := by
  unfold atI
  rw [h]
  exact h2
theorem ix_U (hu : X.A.units + 65 < cLine) (hw : fa.w = X.w) : IxR X (rIxU X.K fa) := by
  intro value slice pins s σ H x y v u Q I rx ry ⟨W, st, ua, ui, z, st', S, ra, ri, h, k⟩ hs
  unfold ixU at h
  split at h
  · rename_i d
    split at h
    · rename_i u0 hd
      cases h
      cases dg_of S ra (view_of S ri rfl) hd with
      | k p q r0 D ev ey e hr =>
        obtain ⟨es, n, D⟩ := D
        rw [hw] at D
        obtain ⟨v0, w0, rfl, h1, h2⟩ := hr
        subst ev
        cases rx
        have T := kd_type D I
        exact tail_any T slot_dict_getitem.lookup (op_item_kd D pins s σ H (.ref p) y (.ref p) u Q I rfl ry ⟨q, w0, v0, rfl, ey, e, h1, k.now S h2⟩) hs
      | d p o ev g hd hr =>
        obtain ⟨v0, rfl, h2⟩ := hr
        subst ev
        cases rx
        exact tail_any (dict_typeIs I g) slot_dict_getitem.lookup (d_getItem (by omega) I g ry fun w' s' I' rw' => ⟨v0, H, I', rw', k.now S h2⟩) hs
    · cases h
    · rename_i hd
      split at h
      · rename_i z0
        split at h
        · rename_i q hq
          cases h
          have vx := (viewT_of S ra rfl).view
          have vy := view_of S ri rfl
          unfold ixD at hq
          split at hq
          · rename_i xs i
            obtain ⟨p, vs, rfl, h1, h2⟩ := vx
            cases vy
            obtain ⟨j, g1, g2⟩ := atI_ix hq
            obtain ⟨v0, g3, g4⟩ := h2.get g2
            exact ix_list value slice pins s σ H _ _ v u Q I rx ry ⟨p, vs, i, v0, rfl, rfl, h1, atI_mk (by rw [ixN_same h2.length]; exact g1) g3, k.now S g4⟩ hs
          · rename_i xs i
            obtain ⟨p, vs, rfl, h1, h2⟩ := vx
            cases vy
            obtain ⟨j, g1, g2⟩ := atI_ix hq
            obtain ⟨v0, g3, g4⟩ := h2.get g2
            exact ix_tup value slice pins s σ H _ _ v u Q I rx ry ⟨p, vs, i, v0, rfl, rfl, h1, atI_mk (by rw [ixN_same h2.length]; exact g1) g3, k.now S g4⟩ hs
          · rename_i x0 i
            cases vx
            cases vy
            split at hq
            · rename_i hz
              simp only [Option.map_eq_some_iff] at hq
              obtain ⟨c, g1, rfl⟩ := hq
              exact ix_str value slice pins s σ H _ _ v u Q I rx ry ⟨x0, i, c, rfl, rfl, Nat.le_trans hz lim_le, g1, k.now S (.str _)⟩ hs
            · cases hq
          · cases hq
        · cases h
      · rename_i n
        split at h
        · rename_i us hn
          split at h
          · rename_i i
            split at h
            · rename_i q hq
              cases h
              obtain ⟨p, hp, rfl⟩ := ra
              have vy := view_of S ri rfl
              cases vy
              obtain ⟨vs, g1, g2, g3⟩ := S.ob n p _ hp hn
              obtain ⟨j, q1, q2⟩ := atI_ix hq
              obtain ⟨v0, q3, q4⟩ := g3.get q2
              exact ix_list value slice pins s σ H _ _ v u Q I rx ry ⟨p, vs, i, v0, rfl, rfl, .inl (.inl g1), atI_mk (by rw [ixN_same g3.length]; exact q1) q3, k.now S q4⟩ hs
            · cases h
          · cases h
        · cases h
      · rename_i ns
        split at h
        · rename_i i
          split at h
          · rename_i q hq
            cases h
            obtain ⟨p, hp, rfl⟩ := ra
            have vy := view_of S ri rfl
            cases vy
            obtain ⟨j, q1, q2⟩ := atI_ix hq
            exact ix_list value slice pins s σ H _ _ v u Q I rx ry ⟨p, _, i, .int q, rfl, rfl, S.sub.seq hp, atI_mk (by rw [List.length_map]; exact q1) (by rw [List.getElem?_map, q2]; rfl), k.now S (.int _)⟩ hs
          · cases h
        · cases h
      · cases h
  · cases h
def notSl : Expr → Bool
  | .Slice _ _ _ _ => false
  | _ => true
theorem plain_of (h : notSl b = true) : PlainIx b := fun o i => by
  cases b <;> first | rfl | cases h
theorem e_idx (hu : X.A.units + 65 < cLine) (hw : fa.w = X.w) (ha : PE X a (RE X fa G cf ta)) (hb : PE X b (RE X fa G cf tb)) (hs : notSl b = true) : PE X (.Subscript a b pos) (RE X fa G cf (.idx ta tb)) := by
  refine (pe_ix (ix_U hu hw) ha hb (plain_of hs)).wk fun σ H Q ⟨W, st, env, u, st', S, R, h, k⟩ => ?_
  exact two S R h k fun W2 H2 x y ux uy st2 S2 rx ry h2 k2 => ⟨W2, st2, ux, uy, u, st', S2, rx, ry, h2, k2⟩
end
end PI
set_option Elab.async false
set_option linter.all false
set_option maxRecDepth 100000
set_option maxHeartbeats 4000000
/-! Expressions: slices, calls, built-ins, methods. -/
namespace PI
open PySem PySem.Spec PyProof.Rows L2
section
variable {X : Cx} {fa : Fa} {G : List U} {cf : Cf} {e a b c : Expr} {ta tb tc : E} {pos : Pos} {es : List Expr} {ts : List E}
/-! ### slices -/
def rOpt (X : Cx) (fa : Fa) (G : List U) (cf : Cf) : List E → TO
  | [] => tNoPart
  | t :: _ => tPart (RE X fa G cf t)
def rSlU (K : PySem.W.Frag) (fa : Fa) : V → Option Int → Option Int → Hp → VK → Prop := fun x lo hi H Q => ∃ W st ua z y, Sim K fa W st H ∧ URp K fa W x ua ∧ vw st ua = some z ∧ sliceD z lo hi = some y ∧ Kt K fa W H st (.d y) Q
theorem cutL_rp {K : PySem.W.Frag} {G : Hp} {vs : List V} {ds : List PyData} (h : RpL K G vs ds) (lo hi : Option Int) : RpL K G (cutV vs lo hi) (cutL ds lo hi) := by
  unfold cutV cutL
  rw [h.length]
  exact (h.drop _).take _
theorem sl_U : SlR X (rSlU X.K fa) := by
  intro pins s σ H x v vl vu lo hi sl Q I rx hs pl pu ⟨W, st, ua, z, y, S, ra, hz, hy, k⟩
  have vx := view_of S ra hz
  unfold sliceD at hy
  split at hy
  · rename_i xs
    cases hy
    obtain ⟨p, vs, rfl, h1, h2⟩ := vx
    exact sl_list pins s σ H _ v vl vu lo hi sl Q I rx hs pl pu ⟨p, vs, rfl, h1, k.lst S (cutL_rp h2 lo hi)⟩
  · rename_i xs
    cases hy
    obtain ⟨p, vs, rfl, h1, h2⟩ := vx
    refine sl_tupA pins s σ H _ v vl vu lo hi sl Q I rx hs pl pu ⟨p, vs, rfl, h1, fun hw => ?_, fun _ => k.tup S (cutL_rp h2 lo hi)⟩
    have : cutL xs lo hi = xs := by
      unfold cutL
      rw [← h2.length, hw.1, hw.2, h2.length]
      simp
    rw [this] at k
    refine k.now S ?_
    cases ua with
    | d q => simp only [vw, Option.some.injEq] at hz; subst hz; exact ra
    | o n =>
      simp only [vw] at hz
      split at hz <;> simp at hz
    | s n => simp [vw] at hz
    | f n => simp [vw] at hz
    | t n => simp [vw] at hz
    | td n => simp [vw] at hz
  · cases hy
theorem e_slice {lo hi : Option Expr} {tl th : List E} {p2 : Pos} (ha : PE X a (RE X fa G cf ta)) (hl : PO X lo (rOpt X fa G cf tl)) (hh : PO X hi (rOpt X fa G cf th)) (h1 : tl.length ≤ 1) (h2 : th.length ≤ 1) :
    PE X (.Subscript a (.Slice lo hi none p2) pos) (RE X fa G cf (.slice ta tl th)) := by
  refine (pe_slice (sl_U (fa := fa)) ha hl hh).wk fun σ H Q ⟨W, st, env, u, st', S, R, h, k⟩ => ?_
  simp only [evE] at h
  obtain ⟨x, st1, g1, h⟩ := bind_ok h
  obtain ⟨l, st2, g2, h⟩ := bind_ok h
  obtain ⟨r, st3, g3, h⟩ := bind_ok h
  split at h
  · rename_i z ld hd hz hl' hh'
    split at h
    · rename_i lo' hi' hlo hhi
      split at h
      · rename_i y hy
        cases h
        refine ⟨W, st, env, x, st1, S, R, g1, fun W1 H1 vx l1 S1 rx => ?_⟩
        have last : ∀ W2 H2, Lx W1 H1 W2 H2 → Sim X.K fa W2 st2 H2 → rOpt X fa G cf th σ H2 fun q H3 => rSlU X.K fa vx lo' q H3 Q := fun W2 H2 l2 S2 => by
          match th, h2, g3 with
          | [], _, g3 =>
            simp only [evEs, O.ok.injEq] at g3
            obtain ⟨rfl, rfl⟩ := g3
            cases hh'
            simp only [optI, Option.some.injEq] at hhi
            subst hhi
            exact ⟨W2, _, x, z, y, S2, rx.mono l2.le, hz, hy, k.mono (l1.trans l2)⟩
          | [t], _, g3 =>
            simp only [evEs] at g3
            obtain ⟨q, st4, q1, g3⟩ := bind_ok g3
            cases g3
            refine ⟨W2, st2, env, q, _, S2, R.mono (l1.trans l2).le, q1, fun W3 H3 vq l3 S3 rq => ?_⟩
            cases q with
            | d d =>
              simp only [usD, Option.map_some, Option.some.injEq] at hh'
              subst hh'
              cases d with
              | int i =>
                simp only [optI, Option.some.injEq] at hhi
                subst hhi
                have rq' : Rp X.K W3.G vq (.int i) := rq
                cases rq'
                exact ⟨i, rfl, W3, _, x, z, y, S3, rx.mono (l2.trans l3).le, hz, hy, k.mono ((l1.trans l2).trans l3)⟩
              | _ => simp [optI] at hhi
            | _ => simp [usD] at hh'
          | _ :: _ :: _, h2, _ => exact absurd h2 (by simp)
        match tl, h1, g2 with
        | [], _, g2 =>
          simp only [evEs, O.ok.injEq] at g2
          obtain ⟨rfl, rfl⟩ := g2
          cases hl'
          simp only [optI, Option.some.injEq] at hlo
          subst hlo
          exact last W1 H1 (Lx.refl _ _) S1
        | [t], _, g2 =>
          simp only [evEs] at g2
          obtain ⟨q, st4, q1, g2⟩ := bind_ok g2
          cases g2
          refine ⟨W1, st1, env, q, _, S1, R.mono l1.le, q1, fun W3 H3 vq l3 S3 rq => ?_⟩
          cases q with
          | d d =>
            simp only [usD, Option.map_some, Option.some.injEq] at hl'
            subst hl'
            cases d with
            | int i =>
              simp only [optI, Option.some.injEq] at hlo
              subst hlo
              have rq' : Rp X.K W3.G vq (.int i) := rq
              cases rq'
              exact ⟨i, rfl, last W3 H3 l3 S3⟩
            | _ => simp [optI] at hlo
          | _ => simp [usD] at hl'
        | _ :: _ :: _, h1, _ => exact absurd h1 (by simp)
      · cases h
    · cases h
  · cases h
/-! ### calls of defs -/
end
def spF (K : PySem.W.Frag) (fa : Fa) (G : List U) (T : List Fn) (k f : Nat) : Sp := fun vs H Q _ => ∃ W st us u st', Sim K fa W st H ∧ UL K fa W vs us ∧ callN G T k f us st = .ok u st' ∧ Kt K fa W H st' u Q
section
variable {X : Cx} {fa : Fa} {G : List U} {T : List Fn} {k : Nat} {e a b c : Expr} {ta tb tc : E} {pos : Pos} {es : List Expr} {ts : List E}
theorem call_of {f : Nat} {σ : L2.St} {H : Hp} {Q : VK} (h : RE X fa G (callN G T k) (.call f ts) σ H Q) : tCall (spF X.K fa G T k f) [] E0 (REs X fa G (callN G T k) ts) σ H Q := by
  obtain ⟨W, st, env, u, st', S, R, h, q⟩ := h
  simp only [evE] at h
  obtain ⟨us, st1, h1, h⟩ := bind_ok h
  refine ⟨W, st, env, us, st1, S, R, h1, fun W1 H1 vs l S1 r => ?_⟩
  show spF X.K fa G T k f (vs ++ []) H1 Q E0
  rw [List.append_nil]
  exact ⟨W1, st1, us, u, st', S1, r, h, q.mono l⟩
theorem e_call {f : Nat} {fd : FuncData} {ps : List Str} {ad : Addr} {x : Str} {p : Pos} (F : FnG X.prog X.w X.K X.mg X.base CX0 k ad fd ps (spF X.K fa G T k f)) (hr : Room k X.A) (hc : Clr X.A) (hg : Gl X x) (hm : X.mg x = some (.ref ad))
    (hk : PySem.W.keepIn X.K (.ref ad) = true) (hb : Binds X.K fd ps []) (ha : PA X es (REs X fa G (callN G T k) ts)) (hdb : (x == ("__debug__" : Str)) = false) (hn : es.all notStar = true) (hl : es.length = ts.length) :
    PE X (.Call (.Name x p) es [] pos) (RE X fa G (callN G T k) (.call f ts)) := by
  cases es with
  | nil =>
    have e0 : ts = [] := by cases ts with
      | nil => rfl
      | cons _ _ => simp at hl
    subst e0
    refine (pe_callG0 F hr hc hg hm hk hb pass0 hdb).wk fun σ H Q h => ?_
    obtain ⟨W, st, env, us, st', S, R, h1, kk⟩ := call_of h
    cases h1
    exact kk.now S .nil
  | cons e es =>
    rw [List.all_cons, Bool.and_eq_true] at hn
    exact (pe_callG F hr hc hg hm hk hb pass0 ha hdb (star_of hn.1) (by rw [back_any.1, (stars_none hn.2).1])).wk fun σ H Q h => call_of h
/-! ### built-ins -/
def rP (K : PySem.W.Frag) (fa : Fa) (m : Bool) (p : Pr) : List V → Hp → VK → Prop := fun vs H Q => ∃ W st us u st', Sim K fa W st H ∧ UL K fa W vs us ∧ prim m p us st = .ok u st' ∧ Kt K fa W H st' u Q
theorem prim_ok {m : Bool} {p : Pr} {us : List U} {st st' : Sto} {u : U} (hs : srtT p us = none) (h : prim m p us st = .ok u st') :
    ∃ xs, vws st us = some xs ∧ ((∃ ds, primL p xs = some ds ∧ mkL m (ds.map .d) st = .ok u st') ∨ ∃ x, primL p xs = none ∧ primD p xs = some x ∧ u = .d x ∧ st' = st) := by
  unfold prim at h
  rw [hs] at h
  dsimp only at h
  split at h
  · rename_i xs hx
    refine ⟨xs, hx, ?_⟩
    split at h
    · rename_i ds hd
      exact .inl ⟨ds, hd, h⟩
    · rename_i hn
      split at h
      · rename_i x hd
        cases h
        exact .inr ⟨x, hn, hd, rfl, rfl⟩
      · cases h
  · cases h
theorem prim_d {m : Bool} {p : Pr} {us : List U} {st st' : Sto} {u : U} (hp : ∀ xs, primL p xs = none) (h : prim m p us st = .ok u st') (hs : srtT p us = none := by rfl) :
    st' = st ∧ ∃ xs x, vws st us = some xs ∧ primD p xs = some x ∧ u = .d x := by
  obtain ⟨xs, hx, ⟨ds, hd, _⟩ | ⟨x, _, hd, e1, e2⟩⟩ := prim_ok hs h
  · rw [hp] at hd; cases hd
  · exact ⟨e2, xs, x, hx, hd, e1⟩
theorem prim_l {m : Bool} {p : Pr} {us : List U} {st st' : Sto} {u : U} (hp : ∀ xs, primD p xs = none) (h : prim m p us st = .ok u st') (hs : srtT p us = none := by rfl) :
    ∃ xs ds, vws st us = some xs ∧ primL p xs = some ds ∧ mkL m (ds.map .d) st = .ok u st' := by
  obtain ⟨xs, hx, ⟨ds, hd, e⟩ | ⟨x, _, hd, e1, e2⟩⟩ := prim_ok hs h
  · exact ⟨xs, ds, hx, hd, e⟩
  · rw [hp] at hd; cases hd
theorem vws1 {st : Sto} {us : List U} {x : PyData} (h : vws st us = some [x]) : ∃ u, us = [u] ∧ vw st u = some x := by
  cases us with
  | nil => simp [vws] at h
  | cons u r =>
    simp only [vws] at h
    split at h
    · rename_i y ys hy hys
      cases r with
      | nil => simp [vws] at hys; subst hys; simp at h; subst h; exact ⟨u, rfl, hy⟩
      | cons w r =>
        simp only [vws] at hys
        split at hys
        · simp at hys; subst hys; simp at h
        · cases hys
    · cases h
theorem vws2 {st : Sto} {us : List U} {x y : PyData} (h : vws st us = some [x, y]) : ∃ u w, us = [u, w] ∧ vw st u = some x ∧ vw st w = some y := by
  cases us with
  | nil => simp [vws] at h
  | cons u r =>
    simp only [vws] at h
    split at h
    · rename_i y0 ys hy hys
      simp only [Option.some.injEq, List.cons.injEq] at h
      obtain ⟨rfl, rfl⟩ := h
      obtain ⟨w, rfl, hw⟩ := vws1 hys
      exact ⟨u, w, rfl, hy, hw⟩
    · cases h
theorem UL.one {W : Wd} {K : PySem.W.Frag} {vs : List V} {u : U} (h : UL K fa W vs [u]) : ∃ v, vs = [v] ∧ URp K fa W v u := by
  cases h with
  | cons r t => cases t; exact ⟨_, rfl, r⟩
theorem UL.two {W : Wd} {K : PySem.W.Frag} {vs : List V} {u w : U} (h : UL K fa W vs [u, w]) : ∃ v v2, vs = [v, v2] ∧ URp K fa W v u ∧ URp K fa W v2 w := by
  cases h with
  | cons r t =>
    obtain ⟨v2, rfl, r2⟩ := UL.one t
    exact ⟨_, _, rfl, r, r2⟩
theorem call_P_len {m : Bool} : CallR X (.builtin "len") (rP X.K fa m .len) := by
  intro pins s σ H vs us' Q I rv ⟨W, st, us, u, st', S, r, h, k⟩
  obtain ⟨rfl, xs, x, hx, hd, rfl⟩ := prim_d (fun _ => rfl) h
  have hd' : lenD xs = some x := hd
  unfold lenD at hd'
  split at hd'
  · obtain ⟨u1, rfl, h1⟩ := vws1 hx
    obtain ⟨v, rfl, r1⟩ := r.one
    have vx := view_of S r1 h1
    cases vx
    split at hd'
    · rename_i hz
      cases hd'
      exact call_len pins s σ H _ us' Q I rv ⟨_, _, rfl, ⟨Nat.le_trans hz lim_le, rfl⟩, k.now S (.int _)⟩
    · cases hd'
  · obtain ⟨u1, rfl, h1⟩ := vws1 hx
    obtain ⟨v, rfl, r1⟩ := r.one
    obtain ⟨p, ws, rfl, g1, g2⟩ := view_of S r1 h1
    cases hd'
    exact call_len pins s σ H _ us' Q I rv ⟨_, _, rfl, .inl ⟨ws, g1, g2.length.symm⟩, k.now S (.int _)⟩
  · obtain ⟨u1, rfl, h1⟩ := vws1 hx
    obtain ⟨v, rfl, r1⟩ := r.one
    obtain ⟨p, ws, rfl, g1, g2⟩ := view_of S r1 h1
    cases hd'
    exact call_len pins s σ H _ us' Q I rv ⟨_, _, rfl, .inr ⟨ws, g1, g2.length.symm⟩, k.now S (.int _)⟩
  · cases hd'
theorem call_P_abs {m : Bool} : CallR X (.builtin "abs") (rP X.K fa m .abs) := by
  intro pins s σ H vs us' Q I rv ⟨W, st, us, u, st', S, r, h, k⟩
  obtain ⟨rfl, xs, x, hx, hd, rfl⟩ := prim_d (fun _ => rfl) h
  have hd' : absD xs = some x := hd
  unfold absD at hd'
  split at hd'
  · obtain ⟨u1, rfl, h1⟩ := vws1 hx
    obtain ⟨v, rfl, r1⟩ := r.one
    have vx := view_of S r1 h1
    cases vx
    cases hd'
    exact call_abs pins s σ H _ us' Q I rv ⟨_, rfl, k.now S (.int _)⟩
  · cases hd'
theorem call_P_max {m : Bool} (hc : X.calm = true) : CallR X (.builtin "max") (rP X.K fa m .max2) := by
  intro pins s σ H vs us' Q I rv ⟨W, st, us, u, st', S, r, h, k⟩
  obtain ⟨rfl, xs, x, hx, hd, rfl⟩ := prim_d (fun _ => rfl) h
  have hd' : maxD xs = some x := hd
  unfold maxD at hd'
  split at hd'
  · obtain ⟨u1, u2, rfl, h1, h2⟩ := vws2 hx
    obtain ⟨v, v2, rfl, r1, r2⟩ := r.two
    have vx := view_of S r1 h1
    have vy := view_of S r2 h2
    cases vx; cases vy
    cases hd'
    exact call_max2 hc pins s σ H _ us' Q I rv ⟨_, _, rfl, k.now S (.int _)⟩
  · cases hd'
theorem call_P_min {m : Bool} (hc : X.calm = true) : CallR X (.builtin "min") (rP X.K fa m .min2) := by
  intro pins s σ H vs us' Q I rv ⟨W, st, us, u, st', S, r, h, k⟩
  obtain ⟨rfl, xs, x, hx, hd, rfl⟩ := prim_d (fun _ => rfl) h
  have hd' : minD xs = some x := hd
  unfold minD at hd'
  split at hd'
  · obtain ⟨u1, u2, rfl, h1, h2⟩ := vws2 hx
    obtain ⟨v, v2, rfl, r1, r2⟩ := r.two
    have vx := view_of S r1 h1
    have vy := view_of S r2 h2
    cases vx; cases vy
    cases hd'
    exact call_min2 hc pins s σ H _ us' Q I rv ⟨_, _, rfl, k.now S (.int _)⟩
  · cases hd'
theorem call_P_int {m : Bool} : CallR X (.type "int") (rP X.K fa m .int) := by
  intro pins s σ H vs us' Q I rv ⟨W, st, us, u, st', S, r, h, k⟩
  obtain ⟨rfl, xs, x, hx, hd, rfl⟩ := prim_d (fun _ => rfl) h
  have hd' : intD xs = some x := hd
  unfold intD at hd'
  split at hd'
  · obtain ⟨u1, rfl, h1⟩ := vws1 hx
    obtain ⟨v, rfl, r1⟩ := r.one
    have vx := view_of S r1 h1
    cases vx
    cases hd'
    exact call_int1 pins s σ H _ us' Q I rv (.inl ⟨_, rfl, k.now S (.int _)⟩)
  · obtain ⟨u1, rfl, h1⟩ := vws1 hx
    obtain ⟨v, rfl, r1⟩ := r.one
    have vx := view_of S r1 h1
    cases vx
    cases hd'
    exact call_int1 pins s σ H _ us' Q I rv (.inr ⟨_, rfl, k.now S (.int _)⟩)
  · cases hd'
theorem vw_tup {W : Wd} {H : Hp} {K : PySem.W.Frag} {st : Sto} {v : V} {u : U} {xs : List PyData} (r : URp K fa W v u) (h : vw st u = some (.tuple xs)) : URp K fa W v (.d (.tuple xs)) := by
  cases u with
  | d q => simp only [vw, Option.some.injEq] at h; subst h; exact r
  | o n =>
    simp only [vw] at h
    split at h <;> simp at h
  | s n => simp [vw] at h
  | f n => simp [vw] at h
  | t n => simp [vw] at h
  | td n => simp [vw] at h
theorem call_P_tuple {m : Bool} : CallR X (.type "tuple") (rP X.K fa m .tuple) := by
  intro pins s σ H vs us' Q I rv ⟨W, st, us, u, st', S, r, h, k⟩
  obtain ⟨rfl, xs, x, hx, hd, rfl⟩ := prim_d (fun _ => rfl) h
  have hd' : tupD xs = some x := hd
  unfold tupD at hd'
  split at hd'
  · obtain ⟨u1, rfl, h1⟩ := vws1 hx
    obtain ⟨v, rfl, r1⟩ := r.one
    obtain ⟨p, ws, rfl, g1, g2⟩ := view_of S r1 h1
    cases hd'
    exact call_tuple_of pins s σ H _ us' Q I rv ⟨p, ws, rfl, .inl ⟨g1, k.tup S g2⟩⟩
  · obtain ⟨u1, rfl, h1⟩ := vws1 hx
    obtain ⟨v, rfl, r1⟩ := r.one
    have r2 := vw_tup (H := H) r1 h1
    obtain ⟨p, ws, rfl, g1, g2⟩ := view_of S r1 h1
    cases hd'
    exact call_tuple_of pins s σ H _ us' Q I rv ⟨p, ws, rfl, .inr ⟨g1, k.now S r2⟩⟩
  · cases hd'
theorem call_P_list {m : Bool} : CallR X (.type "list") (rP X.K fa m .list) := by
  intro pins s σ H vs us' Q I rv ⟨W, st, us, u, st', S, r, h, k⟩
  obtain ⟨xs, ds, hx, hd, hm⟩ := prim_l (fun _ => rfl) h
  have hd' : lstD xs = some ds := hd
  unfold lstD at hd'
  split at hd'
  · obtain ⟨u1, rfl, h1⟩ := vws1 hx
    obtain ⟨v, rfl, r1⟩ := r.one
    obtain ⟨p, ws, rfl, g1, g2⟩ := view_of S r1 h1
    cases hd'
    exact call_list_of pins s σ H _ us' Q I rv ⟨p, ws, rfl, .inl g1, (Kt.mkL hm k S (UL.ofData g2)).2⟩
  · obtain ⟨u1, rfl, h1⟩ := vws1 hx
    obtain ⟨v, rfl, r1⟩ := r.one
    obtain ⟨p, ws, rfl, g1, g2⟩ := view_of S r1 h1
    cases hd'
    exact call_list_of pins s σ H _ us' Q I rv ⟨p, ws, rfl, .inr g1, (Kt.mkL hm k S (UL.ofData g2)).2⟩
  · cases hd'
theorem call_P_sum {m : Bool} (hc : X.calm = true) : CallR X (.builtin "sum") (rP X.K fa m .sum) := by
  intro pins s σ H vs us' Q I rv ⟨W, st, us, u, st', S, r, h, k⟩
  obtain ⟨rfl, xs, x, hx, hd, rfl⟩ := prim_d (fun _ => rfl) h
  have hd' : sumD xs = some x := hd
  unfold sumD at hd'
  split at hd'
  · obtain ⟨u1, rfl, h1⟩ := vws1 hx
    obtain ⟨v, rfl, r1⟩ := r.one
    obtain ⟨p, ws, rfl, g1, g2⟩ := view_of S r1 h1
    simp only [Option.map_eq_some_iff] at hd'
    obtain ⟨ns, hn, rfl⟩ := hd'
    have := g2.ints hn
    subst this
    exact cr_sum hc pins s σ H _ us' Q I rv ⟨p, ns, rfl, g1, k.now S (.int _)⟩
  · cases hd'
theorem call_P_all {m : Bool} (hc : X.calm = true) : CallR X (.builtin "all") (rP X.K fa m .all) := by
  intro pins s σ H vs us' Q I rv ⟨W, st, us, u, st', S, r, h, k⟩
  obtain ⟨rfl, xs, x, hx, hd, rfl⟩ := prim_d (fun _ => rfl) h
  have hd' : allD xs = some x := hd
  unfold allD at hd'
  split at hd'
  · obtain ⟨u1, rfl, h1⟩ := vws1 hx
    obtain ⟨v, rfl, r1⟩ := r.one
    obtain ⟨p, ws, rfl, g1, g2⟩ := view_of S r1 h1
    simp only [Option.map_eq_some_iff] at hd'
    obtain ⟨ns, hn, rfl⟩ := hd'
    have := g2.bools hn
    subst this
    exact cr_all hc pins s σ H _ us' Q I rv ⟨p, ns, rfl, g1, k.now S (.bl _)⟩
  · cases hd'
theorem call_P_any {m : Bool} (hc : X.calm = true) : CallR X (.builtin "any") (rP X.K fa m .any) := by
  intro pins s σ H vs us' Q I rv ⟨W, st, us, u, st', S, r, h, k⟩
  obtain ⟨rfl, xs, x, hx, hd, rfl⟩ := prim_d (fun _ => rfl) h
  have hd' : anyD xs = some x := hd
  unfold anyD at hd'
  split at hd'
  · obtain ⟨u1, rfl, h1⟩ := vws1 hx
    obtain ⟨v, rfl, r1⟩ := r.one
    obtain ⟨p, ws, rfl, g1, g2⟩ := view_of S r1 h1
    simp only [Option.map_eq_some_iff] at hd'
    obtain ⟨ns, hn, rfl⟩ := hd'
    have := g2.bools hn
    subst this
    exact cr_any hc pins s σ H _ us' Q I rv ⟨p, ns, rfl, g1, k.now S (.bl _)⟩
  · cases hd'
end
end PI
set_option Elab.async false
set_option linter.all false
set_option maxRecDepth 100000
set_option maxHeartbeats 4000000
/-! sorted, repr, kinds, methods, dict displays; the rules for calls of built-ins by name. -/
namespace PI
open PySem PySem.Spec PyProof.Rows L2
/-! ### sorted -/
theorem insI_perm (x : Int) : ∀ l : List Int, (insI x l).Perm (x :: l)
  | [] => .refl _
  | y :: r => by
    unfold insI
    split
    · exact .refl _
    · exact ((insI_perm x r).cons y).trans (.swap x y r)
theorem sortI_perm : ∀ l : List Int, (sortI l).Perm l
  | [] => .refl _
  | x :: r => (insI_perm x (sortI r)).trans ((sortI_perm r).cons x)
theorem insI_pw (x : Int) : ∀ l : List Int, l.Pairwise (· ≤ ·) → (insI x l).Pairwise (· ≤ ·)
  | [], _ => by simp [insI]
  | y :: r, h => by
    unfold insI
    have h' := List.pairwise_cons.mp h
    split
    · rename_i hxy
      refine List.pairwise_cons.mpr ⟨fun z hz => ?_, h⟩
      rcases List.mem_cons.mp hz with rfl | hz
      · exact hxy
      · exact Int.le_trans hxy (h'.1 z hz)
    · rename_i hxy
      refine List.pairwise_cons.mpr ⟨fun z hz => ?_, insI_pw x r h'.2⟩
      rcases List.mem_cons.mp ((insI_perm x r).mem_iff.mp hz) with rfl | hz
      · omega
      · exact h'.1 z hz
theorem sortI_pw : ∀ l : List Int, (sortI l).Pairwise (· ≤ ·)
  | [] => by simp [sortI]
  | x :: r => insI_pw x _ (sortI_pw r)
theorem sorted_uniq {l m : List Int} (hp : l.Perm m) (h1 : l.Pairwise (· ≤ ·)) (h2 : m.Pairwise (· ≤ ·)) : l = m :=
  hp.eq_of_pairwise (fun a b _ _ h h' => Int.le_antisymm h h') h1 h2
/-! texts -/
theorem str_le_trans {a b c : Str} (h1 : strLt b a = false) (h2 : strLt c b = false) : strLt c a = false := by
  simp only [strLt, decide_eq_false_iff_not, List.not_lt] at h1 h2 ⊢
  exact List.le_trans h1 h2
theorem str_le_antisymm {a b : Str} (h1 : strLt b a = false) (h2 : strLt a b = false) : a = b := by
  simp only [strLt, decide_eq_false_iff_not, List.not_lt] at h1 h2
  have e : a.cps.toList = b.cps.toList := List.le_antisymm h1 h2
  obtain ⟨⟨x⟩⟩ := a
  obtain ⟨⟨y⟩⟩ := b
  have e' : x = y := e
  rw [e']
theorem str_le_total {a b : Str} (h : strLt b a = true) : strLt a b = false := by
  simp only [strLt, decide_eq_true_eq, decide_eq_false_iff_not] at h ⊢
  exact fun q => List.lt_irrefl _ (List.lt_trans h q)
theorem insS_perm (x : Str) : ∀ l : List Str, (insS x l).Perm (x :: l)
  | [] => .refl _
  | y :: r => by
    unfold insS
    split
    · exact ((insS_perm x r).cons y).trans (.swap x y r)
    · exact .refl _
theorem sortS_perm : ∀ l : List Str, (sortS l).Perm l
  | [] => .refl _
  | x :: r => (insS_perm x (sortS r)).trans ((sortS_perm r).cons x)
theorem insS_pw (x : Str) : ∀ l : List Str, l.Pairwise (fun a b => strLt b a = false) → (insS x l).Pairwise (fun a b => strLt b a = false)
  | [], _ => by simp [insS]
  | y :: r, h => by
    unfold insS
    have h' := List.pairwise_cons.mp h
    split
    · rename_i hxy
      refine List.pairwise_cons.mpr ⟨fun z hz => ?_, insS_pw x r h'.2⟩
      rcases List.mem_cons.mp ((insS_perm x r).mem_iff.mp hz) with rfl | hz
      · exact str_le_total hxy
      · exact h'.1 z hz
    · rename_i hxy
      have hxy : strLt y x = false := by simpa using hxy
      refine List.pairwise_cons.mpr ⟨fun z hz => ?_, h⟩
      rcases List.mem_cons.mp hz with rfl | hz
      · exact hxy
      · exact str_le_trans hxy (h'.1 z hz)
theorem sortS_pw : ∀ l : List Str, (sortS l).Pairwise (fun a b => strLt b a = false)
  | [] => by simp [sortS]
  | x :: r => insS_pw x _ (sortS_pw r)
theorem risingS_pw : ∀ (r : List Str) (p : Str), risingS p r = true → (p :: r).Pairwise (fun a b => strLt b a = false)
  | [], p, _ => by simp
  | x :: r, p, h => by
    unfold risingS at h
    rw [Bool.and_eq_true, Bool.not_eq_true'] at h
    have ih := risingS_pw r x h.2
    have hx : strLt x p = false := by unfold strLt; rw [lt_meets]; exact h.1
    refine List.pairwise_cons.mpr ⟨fun z hz => ?_, ih⟩
    rcases List.mem_cons.mp hz with rfl | hz
    · exact hx
    · exact str_le_trans hx ((List.pairwise_cons.mp ih).1 z hz)
theorem sortedS_pw : ∀ l : List Str, PyProof.Rows.sortedS l = true → l.Pairwise (fun a b => strLt b a = false)
  | [], _ => by simp
  | x :: r, h => risingS_pw r x h
theorem sortedS_uniq {l m : List Str} (hp : l.Perm m) (h1 : l.Pairwise fun a b => strLt b a = false) (h2 : m.Pairwise fun a b => strLt b a = false) : l = m :=
  hp.eq_of_pairwise (fun a b _ _ h h' => str_le_antisymm h h') h1 h2
/-! pairs -/
theorem lexP_iff {p q : Int × Int} : lexP p q = true ↔ p.1 < q.1 ∨ (p.1 = q.1 ∧ p.2 < q.2) := by simp [lexP]
theorem lexP_eq (p q : Int × Int) : SrtO.lexB p q = lexP p q := by
  cases h : lexP p q with
  | true => exact SrtO.lexB_iff.mpr (lexP_iff.mp h)
  | false => exact SrtO.lexB_no.mpr fun z => by rw [lexP_iff.mpr z] at h; cases h
theorem lexP_no {p q : Int × Int} (h : lexP p q = false) : ¬ (p.1 < q.1 ∨ (p.1 = q.1 ∧ p.2 < q.2)) := fun z => by rw [lexP_iff.mpr z] at h; cases h
theorem lexP_trans {a b c : Int × Int} (h1 : lexP b a = false) (h2 : lexP c b = false) : lexP c a = false := by
  have a1 := lexP_no h1
  have a2 := lexP_no h2
  cases h : lexP c a with
  | false => rfl
  | true => have := lexP_iff.mp h; omega
theorem lexP_anti {a b : Int × Int} (h1 : lexP b a = false) (h2 : lexP a b = false) : a = b := by
  have a1 := lexP_no h1
  have a2 := lexP_no h2
  obtain ⟨x, y⟩ := a
  obtain ⟨z, w⟩ := b
  simp only at a1 a2
  have : x = z := by omega
  have : y = w := by omega
  subst_vars; rfl
theorem lexP_tot {a b : Int × Int} (h : lexP b a = true) : lexP a b = false := by
  have a1 := lexP_iff.mp h
  cases h2 : lexP a b with
  | false => rfl
  | true => have := lexP_iff.mp h2; omega
theorem insP_perm (x : Int × Int) : ∀ l : List (Int × Int), (insP x l).Perm (x :: l)
  | [] => .refl _
  | y :: r => by
    unfold insP
    split
    · exact ((insP_perm x r).cons y).trans (.swap x y r)
    · exact .refl _
theorem sortP_perm : ∀ l : List (Int × Int), (sortP l).Perm l
  | [] => .refl _
  | x :: r => (insP_perm x (sortP r)).trans ((sortP_perm r).cons x)
theorem insP_pw (x : Int × Int) : ∀ l : List (Int × Int), l.Pairwise (fun a b => lexP b a = false) → (insP x l).Pairwise (fun a b => lexP b a = false)
  | [], _ => by simp [insP]
  | y :: r, h => by
    unfold insP
    have h' := List.pairwise_cons.mp h
    split
    · rename_i hxy
      refine List.pairwise_cons.mpr ⟨fun z hz => ?_, insP_pw x r h'.2⟩
      rcases List.mem_cons.mp ((insP_perm x r).mem_iff.mp hz) with rfl | hz
      · exact lexP_tot hxy
      · exact h'.1 z hz
    · rename_i hxy
      have hxy : lexP y x = false := by simpa using hxy
      refine List.pairwise_cons.mpr ⟨fun z hz => ?_, h⟩
      rcases List.mem_cons.mp hz with rfl | hz
      · exact hxy
      · exact lexP_trans hxy (h'.1 z hz)
theorem sortP_pw : ∀ l : List (Int × Int), (sortP l).Pairwise (fun a b => lexP b a = false)
  | [] => by simp [sortP]
  | x :: r => insP_pw x _ (sortP_pw r)
theorem sortP_uniq {l m : List (Int × Int)} (hp : l.Perm m) (h1 : l.Pairwise fun a b => lexP b a = false) (h2 : m.Pairwise fun a b => lexP b a = false) : l = m :=
  hp.eq_of_pairwise (fun a b _ _ h h' => lexP_anti h h') h1 h2
theorem call_sortedPr {X : Cx} : CallR X (.builtin "sorted") (fun vs H Q => ∃ (a : Addr) (xs : List V) (k : V → Int × Int), vs = [V.ref a] ∧ SqL X.K H a xs ∧ (∀ x ∈ xs, ∃ t, x = V.ref t ∧ SqT X.K H t [.int (k x).1, .int (k x).2]) ∧
    ∀ ys p, SrtO.Srtd (ltP k) ys → ys.Perm xs → H p = none → Q (.ref p) (upd H p (.lst ys))) := by
  rintro pins s σ H vs us Q I r ⟨a, xs, k, rfl, hs, hx, q⟩
  obtain ⟨its, rv, hl, hz⟩ := I.list hs
  obtain ⟨u, rfl, rfl⟩ := vals1 r
  obtain ⟨e1, e2⟩ := refs_back rv fun x m => let ⟨t, e, _⟩ := hx x m; ⟨t, e⟩
  refine SrtO.sorted_pairsO (k := fun u => k (backV u)) hl.isList (by rw [← rv.length]; exact hz) (fun v hv => ?_) fun h' d out h1 h2 kp hd ⟨n, hn⟩ => ?_
  · obtain ⟨t, rfl⟩ := e2 v hv
    obtain ⟨t', e, ht⟩ := hx (V.ref t) (by rw [e1]; exact List.mem_map.mpr ⟨_, hv, rfl⟩)
    cases e
    obtain ⟨its2, r2, ⟨o, ho, hc, n, hd⟩, _⟩ := I.tuple ht
    obtain ⟨u1, u2, rfl, ⟨t1, rfl⟩, ⟨t2, rfl⟩⟩ := vals2 r2
    exact ⟨t, o, t1, t2, n, rfl, ho, hc, hd⟩
  · have h3 : ∀ u ∈ out, ∃ a, u = Value.ref a := fun u hu => e2 u (h2.perm.mem_iff.mp hu)
    have hp : (out.map backV).Perm xs := by rw [e1]; exact h2.perm.map backV
    exact ⟨.ref d, upd H d (.lst (out.map backV)), I.laid (t' := s.toks) kp hd ⟨by rw [hp.length_eq]; exact hz, out, n, vals_back h3, hn⟩, rfl, q _ d (SrtO.srtd_map h1) hp (I.hok.fresh hd)⟩
theorem RpL.mem {K : PySem.W.Frag} {G : Hp} : ∀ {vs : List V} {ds : List PyData}, RpL K G vs ds → ∀ {φ : V → PyData}, (∀ v d, v ∈ vs → Rp K G v d → φ v = d) → ds = vs.map φ
  | _, _, .nil, _, _ => rfl
  | _, _, .cons r t, φ, h => by rw [List.map_cons, h _ _ List.mem_cons_self r, ← RpL.mem t fun v d m q => h v d (List.mem_cons_of_mem _ m) q]
theorem RpL.each {K : PySem.W.Frag} {G : Hp} : ∀ {vs : List V} {φ : V → PyData}, (∀ v ∈ vs, Rp K G v (φ v)) → RpL K G vs (vs.map φ)
  | [], _, _ => .nil
  | v :: vs, φ, h => .cons (h v List.mem_cons_self) (RpL.each fun w m => h w (List.mem_cons_of_mem _ m))
theorem RpL.all {K : PySem.W.Frag} {G : Hp} {P : V → Prop} : ∀ {vs : List V} {ds : List PyData} {ps : List (Int × Int)}, RpL K G vs ds → prsD ds = some ps → (∀ v p, Rp K G v (prD2 p) → P v) → ∀ v ∈ vs, P v
  | _, _, _, .nil, _, _, v, m => by cases m
  | _, _, ps, .cons (v := w) (d := d) r t, h, f, v, m => by
    unfold prsD at h
    split at h
    · rename_i heq; cases heq
    · rename_i i j r' heq
      cases heq
      simp only [Option.map_eq_some_iff] at h
      obtain ⟨qs, hq, rfl⟩ := h
      rcases List.mem_cons.mp m with rfl | m
      · exact f _ (i, j) r
      · exact RpL.all t hq f v m
    · cases h
theorem RpL.keys {K : PySem.W.Frag} {G : Hp} {f : V → Int × Int} : ∀ {vs : List V} {ds : List PyData} {ps : List (Int × Int)}, RpL K G vs ds → prsD ds = some ps → (∀ v p, Rp K G v (prD2 p) → f v = p) → ps = vs.map f
  | _, _, _, .nil, h, _ => by simp only [prsD, Option.some.injEq] at h; subst h; rfl
  | _, _, ps, .cons (v := w) (d := d) r t, h, hf => by
    unfold prsD at h
    split at h
    · rename_i heq; cases heq
    · rename_i i j r' heq
      cases heq
      simp only [Option.map_eq_some_iff] at h
      obtain ⟨qs, hq, rfl⟩ := h
      rw [List.map_cons, ← RpL.keys t hq hf, hf _ (i, j) r]
    · cases h
theorem prsD_map : ∀ {ds : List PyData} {ps : List (Int × Int)}, prsD ds = some ps → ds = ps.map prD2
  | [], ps, h => by simp only [prsD, Option.some.injEq] at h; subst h; rfl
  | d :: ds, ps, h => by
    unfold prsD at h
    split at h
    · rename_i heq; cases heq
    · rename_i i j r' heq
      cases heq
      simp only [Option.map_eq_some_iff] at h
      obtain ⟨qs, hq, rfl⟩ := h
      rw [prsD_map hq]
      rfl
    · cases h
namespace Kd
open PyProof.V
/-! sorted of a written dict: its keys, in order -/
def zipE (ks : List Str) (l : List DictEntry) : List (Str × Value) := List.zipWith (fun k e => (k, e.val)) ks l
theorem zipE_keys : ∀ {ks : List Str} {l : List DictEntry}, l.length = ks.length → (zipE ks l).map (·.1) = ks
  | [], [], _ => rfl
  | k :: ks, e :: l, h => by
    show k :: (zipE ks l).map (·.1) = _
    rw [zipE_keys (by simpa using h)]
  | [], _ :: _, h => by simp at h
  | _ :: _, [], h => by simp at h
theorem zipE_pairs {prog : Program} {w : World} : ∀ {ks : List Str} {l : List DictEntry}, l.map He.keyOf = He.keysIn w.params ks → Pairs (strKind prog w) l (zipE ks l)
  | [], [], _ => .nil
  | [], _ :: _, h => by cases h
  | _ :: _, [], h => by cases h
  | k :: ks, e :: l, h => by
    have h1 : He.keyOf e :: l.map He.keyOf = some (k, PyData.keyHash w.params k) :: He.keysIn w.params ks := h
    injection h1 with h2 h3
    refine .cons ?_ rfl (zipE_pairs h3)
    unfold He.keyOf at h2
    split at h2
    · rename_i x t q
      have h4 : x = k := congrArg Prod.fst (Option.some.inj h2)
      subst h4
      show (strKind prog w).is x e.key = true
      rw [q]
      exact strKind_is prog w x t
    · cases h2
theorem kd_at {prog : Program} {w : World} {K : PySem.W.Frag} {d : Addr} {es : Array DictEntry} {n : Nat} {ks : List Str} {h : Heap} (I : K.In h) (D : KDict K w d es n) (hk : es.toList.map He.keyOf = He.keysIn w.params ks) (hn : ks.Nodup) :
    h.DictAt (strKind prog w) d (zipE ks es.toList) n := by
  have hl : es.toList.length = ks.length := by
    have := congrArg List.length hk
    simpa [He.keysIn] using this
  refine ⟨_, es, I _ _ D.at_, ⟨rfl, rfl, rfl⟩, rfl, fun e he => ?_, zipE_pairs hk, by rw [zipE_keys hl]; exact hn⟩
  obtain ⟨x, t, q1, q2⟩ := D.lit.all e (Array.mem_toList_iff.mpr he)
  refine ⟨x, ?_, q2⟩
  rw [q1]
  exact strKind_is prog w x t
theorem call_sortedKD {X : Cx} {d : Addr} {es : Array DictEntry} {n : Nat} {ks : List Str} (hc : X.calm = true) (D : KDict X.K X.w d es n) (hk : es.toList.map He.keyOf = He.keysIn X.w.params ks) (hn : ks.Nodup) (h64 : ks.length < 64) :
    CallR X (.builtin "sorted") (fun xs H Q => xs = [.ref d] ∧ ∀ p, H p = none → Q (.ref p) (upd H p (.lst ((sortS ks).map V.str)))) := by
  intro pins s σ H xs us Q I r q
  obtain ⟨rfl, q⟩ := q
  obtain ⟨u, rfl, rx⟩ := vals1 r
  cases rx
  have hat := kd_at (prog := X.prog) I.kIn D hk hn
  have hl : (zipE ks es.toList).length = ks.length := by
    have e := congrArg List.length (zipE_keys (ks := ks) (l := es.toList) (by have := congrArg List.length hk; simpa [He.keysIn] using this))
    simpa using e
  have h16 : (zipE ks es.toList).length ≤ sizeLine := by rw [hl, sizeLine_eq]; omega
  have hkeys : (zipE ks es.toList).map (·.1) = ks := zipE_keys (by have := congrArg List.length hk; simpa [He.keysIn] using this)
  generalize zipE ks es.toList = vs at hat hl h16 hkeys
  refine Calls.call_function_entry kind_sorted plain_sorted entry_sorted (args_sorted1 _) ?_
  unfold Builtin.«sorted»
  refine wpAny_bind (m := checkCount "sorted" 1 1 _) (wpAny_pure ?_)
  refine wpAny_bind (PySem.W.kdu_collect (A := X.A.in1) (PySem.W.kdl_dict (knd := strKind X.prog X.w) (kvs := vs) (ep := n) D.low) (I.ok.hd hc) hat h16 fun h1 tk acc kp ac => ?_)
  have hal : acc.toList.length = ks.length := by rw [Array.length_toList, ac.1, hl]
  have hS : StrsAre acc.toList ks := strs_at hal fun j v e => by
    obtain ⟨k, x, e1, e2⟩ := ac.2 j v (by rw [← Array.getElem?_toList]; exact e)
    obtain ⟨t, ev⟩ := Value.isStrOf_shape (x := k) (v := v) e2
    refine ⟨k, t, ?_, ev⟩
    rw [← hkeys, List.getElem?_map, e1]
    rfl
  have I1 : Inv X pins σ H { s with heap := h1, toks := tk } := I.kept kp
  refine wpAny_bind (wpAny_newList ?_ (by rw [hal, sizeLine_eq]; omega))
  have hoL : (h1.push (seqObj "list" acc.toList.toArray 0)).get? h1.objs.size = some (seqObj "list" acc.toList.toArray 0) :=
    Heap.get?_push_size _ rfl
  show wpAny _ _ _ _ _ { s with heap := h1.push (seqObj "list" acc.toList.toArray 0), toks := tk }
  refine wpAny_bind (wpAny_holding (wpAny_call_entry slot_list_sort ⟨_, hoL, rfl⟩ entry_list_sort ?_ (args_list_sort _)))
  refine list_sort_treeK strKind_oneLt hoL hS.keysOf (fun v1 v2 r e => keyKind_strs (by rw [← e]; exact hS)) (by rw [hal]; exact h64) fun sf hp hs => ⟨_, rfl, ?_⟩
  obtain ⟨ys, g1, g2, g3⟩ := sorted_out_str hS hp hs
  have ey : ys = sortS ks := sortedS_uniq (g2.trans (sortS_perm ks).symm) (sortedS_pw _ g3) (sortS_pw ks)
  subst ey
  obtain ⟨e1, he1⟩ := sortedHeap_at (vs := acc.toList) (out := (arrOf sf).map (·.2)) hoL
  have hlen : ((sortS ks).map V.str).length ≤ sizeLine := by
    rw [List.length_map, g2.length_eq, sizeLine_eq]
    omega
  refine wpAny_pure ⟨_, rfl, .ref h1.objs.size, upd H h1.objs.size (.lst ((sortS ks).map V.str)), ?_, rfl, q _ (I1.hok.fresh (Nat.le_refl _))⟩
  refine I1.laid (t' := tk) (fun b u e => ?_) (Nat.le_refl _) ⟨hlen, ((arrOf sf).map (·.2)).toList, e1, vals_of_strs g1, by rw [Array.toArray_toList]; exact he1⟩
  have hb : b < h1.objs.size := Heap.lt_size e
  rw [sortedHeap_old (Nat.ne_of_lt hb) (by rw [size_push']; exact Nat.lt_succ_of_lt hb)]
  exact Heap.get?_push_of_some _ e
end Kd
section
variable {X : Cx} {fa : Fa} {G : List U} {T : List Fn} {k : Nat} {e a b c : Expr} {ta tb tc : E} {pos : Pos} {es : List Expr} {ts : List E}
theorem call_P_sorted {m : Bool} (hc : X.calm = true) (hw : fa.w = X.w) : CallR X (.builtin "sorted") (rP X.K fa m .sorted) := by
  intro pins s σ H vs us' Q I rv ⟨W, st, us, u, st', S, r, h, k⟩
  cases hq : srtU us with
  | some zs =>
    have hm : mkL m ((zs.map PyData.str).map .d) st = .ok u st' := by
      unfold prim at h
      rw [show srtT .sorted us = some zs from hq] at h
      exact h
    unfold srtU at hq
    split at hq
    · rename_i kvs
      obtain ⟨v, rfl, r1⟩ := r.one
      obtain ⟨a, T, rfl⟩ := r1
      split at hq
      · rename_i c
        cases hq
        rw [hw] at T
        obtain ⟨es, n, D, hk⟩ := T.ex
        refine Kd.call_sortedKD hc D hk c.2 c.1 pins s σ H _ us' Q I rv ⟨rfl, fun q hq => ?_⟩
        exact (Kt.mkL hm k S (UL.ofData (RpL.ofStrs _))).2 q hq
      · cases hq
    · rename_i kvs
      obtain ⟨v, rfl, r1⟩ := r.one
      obtain ⟨a, T, rfl⟩ := r1
      split at hq
      · rename_i c
        cases hq
        rw [hw] at T
        obtain ⟨es, n, D, hk⟩ := T.ex
        refine Kd.call_sortedKD hc D hk c.2 c.1 pins s σ H _ us' Q I rv ⟨rfl, fun q hq => ?_⟩
        exact (Kt.mkL hm k S (UL.ofData (RpL.ofStrs _))).2 q hq
      · cases hq
    · cases hq
  | none =>
  obtain ⟨xs, ds, hx, hd, hm⟩ := prim_l (fun _ => rfl) h hq
  have hd' : srtD xs = some ds := hd
  unfold srtD at hd'
  split at hd'
  · obtain ⟨u1, rfl, h1⟩ := vws1 hx
    obtain ⟨v, rfl, r1⟩ := r.one
    obtain ⟨p, ws, rfl, g1, g2⟩ := view_of S r1 h1
    unfold sortD at hd'
    split at hd'
    · rename_i ns hn
      simp only [Option.some.injEq] at hd'
      have := g2.ints hn
      subst this
      refine cr_sortedI pins s σ H _ us' Q I rv ⟨p, ns, rfl, g1, fun ns' q hp hw hq => ?_⟩
      have e : ns' = sortI ns := sorted_uniq (hp.trans (sortI_perm ns).symm) hw (sortI_pw ns)
      rw [e]
      refine (Kt.mkL hm k S (UL.ofData ?_)).2 q hq
      rw [← hd']
      exact RpL.ofInts _
    · split at hd'
      · rename_i zs hz
        split at hd'
        · rename_i hl
          simp only [Option.some.injEq] at hd'
          have := g2.strs hz
          subst this
          refine cr_sortedS pins s σ H _ us' Q I rv ⟨p, zs, rfl, g1, hl, fun ns' q hp hw hq => ?_⟩
          have e : ns' = sortS zs := sortedS_uniq (hp.trans (sortS_perm zs).symm) (sortedS_pw _ hw) (sortS_pw zs)
          rw [e]
          refine (Kt.mkL hm k S (UL.ofData ?_)).2 q hq
          rw [← hd']
          exact RpL.ofStrs _
        · cases hd'
      · simp only [Option.map_eq_some_iff] at hd'
        obtain ⟨ps, hps, rfl⟩ := hd'
        classical
        let pr : V → (Int × Int) → Prop := fun x q => ∃ t, x = .ref t ∧ SqT X.K H t [.int q.1, .int q.2]
        let kf : V → Int × Int := fun x => if h : ∃ q, pr x q then Classical.choose h else (0, 0)
        have hk : ∀ x q, pr x q → kf x = q := fun x q h => by
          have hx : ∃ q, pr x q := ⟨q, h⟩
          have e : kf x = Classical.choose hx := dif_pos hx
          obtain ⟨t, e1, h1⟩ := Classical.choose_spec hx
          obtain ⟨t2, e2, h2⟩ := h
          rw [e1] at e2
          cases e2
          have := I.tuple_inj h1 h2
          simp only [List.cons.injEq, V.int.injEq, and_true] at this
          rw [e]
          exact Prod.ext this.1 this.2
        have rp : ∀ v q, Rp X.K W.G v (prD2 q) → pr v q := fun v q r => by
          cases r with
          | @tup t xs _ g1 g2 =>
            cases g2 with
            | cons r1 t1 =>
              cases t1 with
              | cons r2 t2 =>
                cases t2
                cases r1
                cases r2
                exact ⟨t, rfl, Same.sqT S.sub g1⟩
        have each := g2.all (P := fun v => pr v (kf v) ∧ Rp X.K W.G v (prD2 (kf v))) hps fun v q r => by
          have e := hk v q (rp v q r)
          rw [e]
          exact ⟨rp v q r, r⟩
        have em : ps = ws.map kf := RpL.keys g2 hps fun v q r => hk v q (rp v q r)
        refine call_sortedPr pins s σ H _ us' Q I rv ⟨p, ws, kf, rfl, g1, fun x m => (each x m).1, fun ys q hw hp hq => ?_⟩
        have e : ys.map kf = sortP ps := by
          refine sortP_uniq ?_ ?_ (sortP_pw ps)
          · rw [em]
            exact (hp.map kf).trans (sortP_perm _).symm
          · refine List.pairwise_map.mpr (List.Pairwise.imp (fun {a b} h => ?_) hw)
            rw [← lexP_eq]
            exact h
        refine (Kt.mkL hm k S (UL.ofData ?_)).2 q hq
        rw [← e, List.map_map]
        exact RpL.each fun v m => (each v (hp.mem_iff.mp m)).2
  · cases hd'
/-! ### repr -/
mutual
/-- a value read, no dict of which is that of the modules -/
inductive Rd2 (h : Heap) : Value → PyData → Prop
  | non : Rd2 h .none .none
  | bl (b : Bool) : Rd2 h (.bool b) (.bool b)
  | int (i : Int) (t : Tok) : Rd2 h (.int i t) (.int i)
  | str (x : Str) (t : Tok) : Rd2 h (.str x t) (.str x)
  | lst {a : Addr} {o : Obj} {us : Array Value} {n : Nat} {ds : List PyData} : h.get? a = some o → o.cls = .type "list" → o.data = .seq us n → Rd2L h us.toList ds → Rd2 h (.ref a) (.list ds)
  | tup {a : Addr} {o : Obj} {us : Array Value} {n : Nat} {ds : List PyData} : h.get? a = some o → o.cls = .type "tuple" → o.data = .seq us n → Rd2L h us.toList ds → Rd2 h (.ref a) (.tuple ds)
  | dic {a : Addr} {o : Obj} {es : Array DictEntry} {n : Nat} {ds : List (PyData × PyData)} : h.get? a = some o → o.cls = .type "dict" → o.data = .dict es n → (a == sysModules) = false →
      Rd2L h (es.toList.map (·.key)) (ds.map (·.1)) → Rd2L h (es.toList.map (·.val)) (ds.map (·.2)) → Rd2 h (.ref a) (.dict ds)
inductive Rd2L (h : Heap) : List Value → List PyData → Prop
  | nil : Rd2L h [] []
  | cons {u : Value} {us : List Value} {d : PyData} {ds : List PyData} : Rd2 h u d → Rd2L h us ds → Rd2L h (u :: us) (d :: ds)
end
mutual
theorem Rd2.reads {h : Heap} : ∀ {u : Value} {d : PyData}, Rd2 h u d → ∃ as, Reads h u d as
  | _, _, .non => ⟨_, .none⟩
  | _, _, .bl b => ⟨_, .bool b⟩
  | _, _, .int i t => ⟨_, .int i t⟩
  | _, _, .str x t => ⟨_, .str x t⟩
  | _, _, .lst q1 q2 q3 q4 => let ⟨_, z⟩ := Rd2L.reads q4; ⟨_, .list q1 q2 q3 z⟩
  | _, _, .tup q1 q2 q3 q4 => let ⟨_, z⟩ := Rd2L.reads q4; ⟨_, .tuple q1 q2 q3 z⟩
  | _, _, .dic q1 q2 q3 _ q4 q5 => let ⟨_, z⟩ := Rd2L.reads q4; let ⟨_, y⟩ := Rd2L.reads q5; ⟨_, .dict q1 q2 q3 z y⟩
theorem Rd2L.reads {h : Heap} : ∀ {us : List Value} {ds : List PyData}, Rd2L h us ds → ∃ as, ReadsAll h us ds as
  | _, _, .nil => ⟨_, .nil⟩
  | _, _, .cons q r => let ⟨_, z⟩ := Rd2.reads q; let ⟨_, y⟩ := Rd2L.reads r; ⟨_, .cons z y⟩
end
theorem dl_le (kvs : List (PyData × PyData)) {ts : List Str} {m : Nat} (h : (dictText (PyData.shownKv kvs)).length ≤ m) (hts : ∀ t ∈ ts, ∃ p ∈ PyData.shownKv kvs, t.length ≤ p.length) : ∀ t ∈ ts, t.length ≤ m := fun t ht => by
  obtain ⟨p, hp, hl⟩ := hts t ht
  exact Nat.le_trans (Nat.le_trans hl (dictText_mem_le hp)) h
mutual
theorem Rd2.rk {prog : Program} {w : World} {h : Heap} : ∀ {u : Value} {d : PyData}, Rd2 h u d → d.showable = true → d.shown.length ≤ sizeLine → ∃ bs, ReadAtMost h d.depth bs ∧ ReprK prog w bs h d.depth u d.shown
  | _, _, .non, _, _ => ⟨[], (by intro b m; cases m), by rw [PyData.shown]; exact ReprK.of_is ReprIs.none _ _ _⟩
  | _, _, .bl b, _, _ => ⟨[], (by intro b m; cases m), by rw [PyData.shown]; exact ReprK.of_is (ReprIs.bool b) _ _ _⟩
  | _, _, .int i t, g, _ => ⟨[], (by intro b m; cases m), by rw [PyData.shown]; exact ReprK.of_is (ReprIs.int t (by simpa [PyData.showable] using g)) _ _ _⟩
  | _, _, .str x t, _, z => ⟨[], (by intro b m; cases m), by rw [PyData.shown] at z ⊢; exact ReprK.of_is (ReprIs.str x t z) _ _ _⟩
  | _, _, .lst (a := a) (us := us) (ds := ds) q1 q2 q3 q4, g, z => by
    rw [PyData.shown] at z
    obtain ⟨bs, m, k⟩ := Rd2L.rk (prog := prog) (w := w) q4 (by simpa [PyData.showable] using g) (fun t ht => Nat.le_trans (listText_mem_le ht) z)
    obtain ⟨as, r⟩ := (Rd2.lst q1 q2 q3 q4).reads
    have na : a ∉ bs := not_mem_of_deeper r (show PyData.depthAll ds < _ by rw [PyData.depth]; omega) m
    refine ⟨a :: bs, .cons r (by rw [PyData.depth]; omega) m, ?_⟩
    rw [PyData.depth, PyData.shown]
    obtain ⟨l⟩ := us
    cases l with
    | cons x l => exact ReprK.list q1 q2 q3 na (by simpa using k.length_eq) (fun i y e => k.item i y (by simpa using e))
    | nil =>
      have q4' : Rd2L h [] ds := q4
      cases q4'
      rw [PyData.shownAll, listText_nil]
      exact ReprK.listEmpty q1 q2 q3
  | _, _, .tup (a := a) (ds := ds) q1 q2 q3 q4, g, z => by
    rw [PyData.shown] at z
    obtain ⟨bs, m, k⟩ := Rd2L.rk (prog := prog) (w := w) q4 (by simpa [PyData.showable] using g) (fun t ht => Nat.le_trans (tupleText_mem_le ht) z)
    obtain ⟨as, r⟩ := (Rd2.tup q1 q2 q3 q4).reads
    have na : a ∉ bs := not_mem_of_deeper r (show PyData.depthAll ds < _ by rw [PyData.depth]; omega) m
    refine ⟨a :: bs, .cons r (by rw [PyData.depth]; omega) m, ?_⟩
    rw [PyData.depth, PyData.shown]
    exact ReprK.tuple q1 q2 q3 na k
  | _, _, .dic (a := a) (es := es) (ds := ds) q1 q2 q3 ne q4 q5, g, z => by
    rw [PyData.shown] at z
    obtain ⟨g1, g2⟩ := PyData.showableKv_split ds (by simpa [PyData.showable] using g)
    obtain ⟨b1, m1, k1⟩ := Rd2L.rk (prog := prog) (w := w) q4 g1 (dl_le ds z (PyData.shownKv_key_le ds))
    obtain ⟨b2, m2, k2⟩ := Rd2L.rk (prog := prog) (w := w) q5 g2 (dl_le ds z (PyData.shownKv_val_le ds))
    obtain ⟨as, r⟩ := (Rd2.dic q1 q2 q3 ne q4 q5).reads
    have m : ReadAtMost h (PyData.depthKv ds) (b1 ++ b2) := .append (m1.mono (PyData.depthAll_keys_le ds)) (m2.mono (PyData.depthAll_vals_le ds))
    have na : a ∉ b1 ++ b2 := not_mem_of_deeper r (show PyData.depthKv ds < _ by rw [PyData.depth]; omega) m
    refine ⟨a :: (b1 ++ b2), .cons r (by rw [PyData.depth]; omega) m, ?_⟩
    rw [PyData.depth, PyData.shown, PyData.shownKv_eq]
    have s1 : ∀ b ∈ b1, b ∈ b1 ++ b2 := fun b hb => List.mem_append.mpr (.inl hb)
    have s2 : ∀ b ∈ b2, b ∈ b1 ++ b2 := fun b hb => List.mem_append.mpr (.inr hb)
    exact ReprK.dict q1 q2 q3 ne na (ReprEntriesK.of_two es.toList _ _ (k1.more_le s1 (PyData.depthAll_keys_le ds)) (k2.more_le s2 (PyData.depthAll_vals_le ds)))
theorem Rd2L.rk {prog : Program} {w : World} {h : Heap} : ∀ {us : List Value} {ds : List PyData}, Rd2L h us ds → PyData.showableAll ds = true → (∀ t ∈ PyData.shownAll ds, t.length ≤ sizeLine) →
    ∃ bs, ReadAtMost h (PyData.depthAll ds) bs ∧ ReprAllK prog w bs h (PyData.depthAll ds) us (PyData.shownAll ds)
  | _, _, .nil, _, _ => ⟨[], (by intro b m; cases m), by rw [PyData.shownAll]; exact ReprAllK.nil⟩
  | _, _, .cons (d := d) (ds := ds) q r, g, z => by
    rw [PyData.showableAll, Bool.and_eq_true] at g
    rw [PyData.shownAll] at z
    obtain ⟨b1, m1, k1⟩ := Rd2.rk (prog := prog) (w := w) q g.1 (z _ List.mem_cons_self)
    obtain ⟨b2, m2, k2⟩ := Rd2L.rk (prog := prog) (w := w) r g.2 (fun t ht => z t (List.mem_cons_of_mem _ ht))
    have l1 : d.depth ≤ PyData.depthAll (d :: ds) := by rw [PyData.depthAll]; exact Nat.le_max_left _ _
    have l2 : PyData.depthAll ds ≤ PyData.depthAll (d :: ds) := by rw [PyData.depthAll]; exact Nat.le_max_right _ _
    refine ⟨b1 ++ b2, .append (m1.mono l1) (m2.mono l2), ?_⟩
    rw [PyData.shownAll]
    exact ReprAllK.cons ((k1.more fun b hb => List.mem_append.mpr (.inl hb)).level_le l1) (k2.more_le (fun b hb => List.mem_append.mpr (.inr hb)) l2)
end
/-- repr of what is so read -/
theorem repr_rd2 {prog : Program} {w : World} {A : Around} {E : Value → Shared → Prop} {s : Shared} {Q : Value → Shared → Prop} {a : Addr} {d : PyData} (r : Rd2 s.heap (.ref a) d) (g : d.showable = true) (hg : A.guards = some []) (hu : A.units + (d.depth + 1) < cLine)
    (hQ : ∀ h' u tk, (∀ b o, s.heap.get? b = some o → h'.get? b = some o) → Q (.str d.shown u) { s with heap := h', toks := tk }) (z : d.shown.length ≤ sizeLine) : wpAny (model prog w) A (call (.builtin "repr") [.ref a]) Q E s := by
  obtain ⟨as, rr⟩ := r.reads
  have hS : ∃ T idr, ShowsBy prog w s.heap a d T idr := by
    cases r with
    | lst q1 q2 q3 q4 =>
      rename_i o us n ds
      rw [PyData.shown] at z
      obtain ⟨bs, m, k⟩ := Rd2L.rk (prog := prog) (w := w) q4 (by simpa [PyData.showable] using g) (fun t ht => Nat.le_trans (listText_mem_le ht) z)
      have na : a ∉ bs := not_mem_of_deeper rr (show PyData.depthAll ds < _ by rw [PyData.depth]; omega) m
      refine ⟨_, _, F.slot_list_repr.toG, F.slot_list_str, F.slot_list_format, fun s' k0 => ⟨o, k0 _ _ q1, q2⟩, fun A E s' Q hg hu k0 hQ => ?_⟩
      rw [PyData.depth] at hu
      rw [PyData.shown] at hQ
      obtain ⟨l⟩ := us
      cases l with
      | cons x l => exact call_list_reprK q1 q2 q3 na (by simpa using k.length_eq) (fun i y e => k.item i y (by simpa using e)) hg (fun b _ => Clear.nil b) hu k0 hQ z
      | nil =>
        have q4' : Rd2L s.heap [] ds := q4
        cases q4'
        rw [PyData.shownAll, listText_nil] at hQ
        exact call_list_repr_empty ⟨o, k0 _ _ q1, q2⟩ (k0 _ _ q1) q3 (hQ s'.heap _ _ fun _ _ e => e)
    | tup q1 q2 q3 q4 =>
      rename_i o us n ds
      rw [PyData.shown] at z
      obtain ⟨bs, m, k⟩ := Rd2L.rk (prog := prog) (w := w) q4 (by simpa [PyData.showable] using g) (fun t ht => Nat.le_trans (tupleText_mem_le ht) z)
      have na : a ∉ bs := not_mem_of_deeper rr (show PyData.depthAll ds < _ by rw [PyData.depth]; omega) m
      refine ⟨_, _, F.slot_tuple_repr, F.slot_tuple_str, F.slot_tuple_format, fun s' k0 => ⟨o, k0 _ _ q1, q2⟩, fun A E s' Q hg hu k0 hQ => ?_⟩
      rw [PyData.depth] at hu
      rw [PyData.shown] at hQ
      exact call_tuple_reprK q1 q2 q3 na k hg (fun b _ => Clear.nil b) hu k0 hQ z
    | dic q1 q2 q3 ne q4 q5 =>
      rename_i o es n ds
      rw [PyData.shown] at z
      obtain ⟨g1, g2⟩ := PyData.showableKv_split ds (by simpa [PyData.showable] using g)
      obtain ⟨b1, m1, k1⟩ := Rd2L.rk (prog := prog) (w := w) q4 g1 (dl_le ds z (PyData.shownKv_key_le ds))
      obtain ⟨b2, m2, k2⟩ := Rd2L.rk (prog := prog) (w := w) q5 g2 (dl_le ds z (PyData.shownKv_val_le ds))
      have m : ReadAtMost s.heap (PyData.depthKv ds) (b1 ++ b2) := .append (m1.mono (PyData.depthAll_keys_le ds)) (m2.mono (PyData.depthAll_vals_le ds))
      have na : a ∉ b1 ++ b2 := not_mem_of_deeper rr (show PyData.depthKv ds < _ by rw [PyData.depth]; omega) m
      refine ⟨_, _, F.slot_dict_repr, F.slot_dict_str, F.slot_dict_format, fun s' k0 => ⟨o, k0 _ _ q1, q2⟩, fun A E s' Q hg hu k0 hQ => ?_⟩
      rw [PyData.depth] at hu
      rw [PyData.shown, PyData.shownKv_eq] at hQ
      have s1 : ∀ b ∈ b1, b ∈ b1 ++ b2 := fun b hb => List.mem_append.mpr (.inl hb)
      have s2 : ∀ b ∈ b2, b ∈ b1 ++ b2 := fun b hb => List.mem_append.mpr (.inr hb)
      exact call_dict_reprK q1 q2 q3 ne na (ReprEntriesK.of_two es.toList _ _ (k1.more_le s1 (PyData.depthAll_keys_le ds)) (k2.more_le s2 (PyData.depthAll_vals_le ds))) hg (fun b _ => Clear.nil b) hu k0 hQ (by rw [← PyData.shownKv_eq]; exact z)
  obtain ⟨T, idr, S⟩ := hS
  exact call_repr_slot (by omega) (S.typeIs s fun _ _ e => e) S.slotRepr (S.call A.in1 E s _ hg (by show A.units + 1 + d.depth < cLine; omega) (fun _ _ e => e) fun h' u tk hk => ⟨_, _, rfl, hQ h' u tk hk⟩)
/-- what stands in the heap, as it is read -/
structure HpRd (P : Program) (w : World) (K : PySem.W.Frag) (H : Hp) (s : Shared) : Prop where
  l : ∀ {a : Addr} {xs : List V}, H a = some (.lst xs) → ∃ (o : Obj) (vs : Array Value) (n : Nat), s.heap.get? a = some o ∧ o.cls = .type "list" ∧ o.data = .seq vs n ∧ Vals xs vs.toList
  t : ∀ {a : Addr} {xs : List V}, SqT K H a xs → ∃ (o : Obj) (vs : Array Value) (n : Nat), s.heap.get? a = some o ∧ o.cls = .type "tuple" ∧ o.data = .seq vs n ∧ Vals xs vs.toList
  k : ∀ {a : Addr} {xs : List (Key × V)}, H a = some (.dK xs) → ∃ (o : Obj) (es : Array DictEntry) (n : Nat) (kvs : List (Key × Value)), s.heap.get? a = some o ∧ o.cls = .type "dict" ∧ o.data = .dict es n ∧ (a == sysModules) = false ∧ KV xs kvs ∧ Pairs (mixKind P w) es.toList kvs
mutual
theorem rd2_of {P : Program} {w : World} {W : Wd} {H : Hp} {s : Shared} {K : PySem.W.Frag} (R : HpRd P w K H s) (S : Same W.G H) : ∀ {v : V} {u : Value} {d : PyData}, Rp K W.G v d → RelV v u → Rd2 s.heap u d
  | _, _, _, .non, r => by cases r; exact .non
  | _, _, _, .bl b, r => by cases r; exact .bl b
  | _, _, _, .int i, r => by obtain ⟨t, rfl⟩ := r; exact .int i t
  | _, _, _, .str x, r => by obtain ⟨t, rfl⟩ := r; exact .str x t
  | _, _, _, .lst h1 h2, r => by
    cases r
    obtain ⟨o, vs, n, g1, g2, g3, g4⟩ := R.l (S _ _ h1)
    exact .lst g1 g2 g3 (rd2L_of R S h2 g4)
  | _, _, _, .tup h1 h2, r => by
    cases r
    obtain ⟨o, vs, n, g1, g2, g3, g4⟩ := R.t (Same.sqT S h1)
    exact .tup g1 g2 g3 (rd2L_of R S h2 g4)
  | _, _, _, .dic h1 h2, r => by
    cases r
    obtain ⟨o, es, n, kvs, g1, g2, g3, g4, g5, g6⟩ := R.k (S _ _ h1)
    obtain ⟨z1, z2⟩ := rd2K_of R S h2 g5 g6
    exact .dic g1 g2 g3 g4 z1 z2
theorem rd2L_of {P : Program} {w : World} {W : Wd} {H : Hp} {s : Shared} {K : PySem.W.Frag} (R : HpRd P w K H s) (S : Same W.G H) : ∀ {vs : List V} {us : List Value} {ds : List PyData}, RpL K W.G vs ds → Vals vs us → Rd2L s.heap us ds
  | _, _, _, .nil, r => by cases r; exact .nil
  | _, _, _, .cons h1 h2, r => by
    cases r with
    | cons r rr => exact .cons (rd2_of R S h1 r) (rd2L_of R S h2 rr)
theorem rd2K_of {P : Program} {w : World} {W : Wd} {H : Hp} {s : Shared} {K : PySem.W.Frag} (R : HpRd P w K H s) (S : Same W.G H) : ∀ {xs : List (Key × V)} {kvs : List (Key × Value)} {es : List DictEntry} {ds : List (PyData × PyData)}, RpK K W.G xs ds → KV xs kvs → Pairs (mixKind P w) es kvs →
      Rd2L s.heap (es.map (·.key)) (ds.map (·.1)) ∧ Rd2L s.heap (es.map (·.val)) (ds.map (·.2))
  | _, _, _, _, .nil, r, p => by
    cases r
    cases p
    exact ⟨.nil, .nil⟩
  | _, _, _, _, .cons h1 h2, r, p => by
    cases r with
    | cons r rr =>
      cases p with
      | cons p1 p2 p3 =>
        obtain ⟨r1, r2⟩ := r
        obtain ⟨z1, z2⟩ := rd2K_of R S h2 rr p3
        have z3 := rd2_of R S h1 r2
        rw [← p2] at z3
        refine ⟨.cons ?_ z1, .cons z3 z2⟩
        rcases keyIs_shape p1 with ⟨i, t, e1, e2⟩ | ⟨x, t, e1, e2⟩
        · have e3 := r1.trans e1
          dsimp only at e3 ⊢
          rw [e2, e3]
          exact .int i t
        · have e3 := r1.trans e1
          dsimp only at e3 ⊢
          rw [e2, e3]
          exact .str x t
end
theorem vals_arr {xs : List V} {its : List Value} (h : Vals xs its) : Vals xs its.toArray.toList := by simpa using h
theorem call_P_repr {m : Bool} (hu : X.A.units + 100 < cLine) (hc : Clr X.A) : CallR X (.builtin "repr") (rP X.K fa m .repr) := by
  intro pins s σ H vs us' Q I rv ⟨W, st, us, u, st', S, r, h, k⟩
  obtain ⟨rfl, xs, x, hx, hd, rfl⟩ := prim_d (fun _ => rfl) h
  have hd' : reprD xs = some x := hd
  unfold reprD at hd'
  split at hd'
  · rename_i d
    obtain ⟨u1, rfl, h1⟩ := vws1 hx
    obtain ⟨v, rfl, r1⟩ := r.one
    split at hd'
    · rename_i hq
      simp only [Bool.and_eq_true, decide_eq_true_eq] at hq
      obtain ⟨⟨q1, q3⟩, q4⟩ := hq
      cases hd'
      have vx := view_of S r1 h1
      cases rv with
      | @cons _ w _ _ rw0 rr =>
        cases rr
        have fin : ∀ t s', Inv X pins σ H s' → EP X pins σ Q (.str d.shown t) s' := fun t s' I' => ⟨.str d.shown, H, I', ⟨t, rfl⟩, k.now S (.str _)⟩
        have rd : ∀ {a : Addr} {xs : List V}, SqL X.K H a xs → ∃ (o : Obj) (vs : Array Value) (n : Nat), s.heap.get? a = some o ∧ o.cls = .type "list" ∧ o.data = .seq vs n ∧ Vals xs vs.toList := fun h => by
          obtain ⟨its, g1, ⟨o, n, g2, g3, g4, g5⟩, g6⟩ := I.list h
          exact ⟨o, its.toArray, n, g2, g3, g5, vals_arr g1⟩
        have rt : ∀ {a : Addr} {xs : List V}, SqT X.K H a xs → ∃ (o : Obj) (vs : Array Value) (n : Nat), s.heap.get? a = some o ∧ o.cls = .type "tuple" ∧ o.data = .seq vs n ∧ Vals xs vs.toList := fun h => by
          obtain ⟨its, g1, ⟨o, g2, g3, n, g4⟩, g6⟩ := I.tuple h
          exact ⟨o, its.toArray, n, g2, g3, g4, vals_arr g1⟩
        have R : HpRd X.prog X.w X.K H s := ⟨fun h => rd (.inl (.inl h)), rt, fun {a xs} h => by
          obtain ⟨_, z1, vs, z2, ob, es, n, z3, z4, z5, _, z6, _⟩ := dk_of I.hok h
          exact ⟨ob, es, n, vs, z3, z4.1, z5, z1, z2, z6⟩⟩
        cases d with
        | none => cases vx; cases rw0; exact PySem.P.repr_of_none (fin _ _ (I.tok _))
        | bool b => cases vx; cases rw0; exact PySem.P.repr_of_bool (fin _ _ (I.tok _))
        | int i =>
          cases vx
          obtain ⟨t, rfl⟩ := rw0
          exact PySem.P.repr_of_int (by simpa [PyData.showable] using q1) (fin _ _ (I.tok _))
        | str z =>
          cases vx
          obtain ⟨t, rfl⟩ := rw0
          exact PySem.P.repr_of_str (fin _ _ (I.tok _)) (Nat.le_trans q4 lim_le)
        | list ds =>
          obtain ⟨p, ws, rfl, g1, g2⟩ := vx
          cases rw0
          obtain ⟨o, vs, n, z1, z2, z3, z4⟩ := rd g1
          exact repr_rd2 (.lst z1 z2 z3 (rd2L_of R S.sub g2 z4)) q1 hc (by omega) (fun h' u tk hk => fin _ _ (I.kept hk)) (Nat.le_trans q4 lim_le)
        | tuple ds =>
          obtain ⟨p, ws, rfl, g1, g2⟩ := vx
          cases rw0
          obtain ⟨o, vs, n, z1, z2, z3, z4⟩ := rt g1
          exact repr_rd2 (.tup z1 z2 z3 (rd2L_of R S.sub g2 z4)) q1 hc (by omega) (fun h' u tk hk => fin _ _ (I.kept hk)) (Nat.le_trans q4 lim_le)
        | dict ds =>
          obtain ⟨p, ws, rfl, g1, g2⟩ := vx
          cases rw0
          obtain ⟨o, es, n, kvs, z1, z2, z3, z4, z5, z6⟩ := R.k g1
          obtain ⟨y1, y2⟩ := rd2K_of R S.sub g2 z5 z6
          exact repr_rd2 (.dic z1 z2 z3 z4 y1 y2) q1 hc (by omega) (fun h' u tk hk => fin _ _ (I.kept hk)) (Nat.le_trans q4 lim_le)
    · cases hd'
  · cases hd'
end
end PI
set_option Elab.async false
set_option linter.all false
set_option maxRecDepth 100000
set_option maxHeartbeats 4000000
/-! Kinds, methods, dict displays. -/
namespace PI
open PySem PySem.Spec PyProof.Rows L2
def tyName : Ty → String
  | .int => "int" | .bool => "bool" | .str => "str" | .tup => "tuple" | .lst => "list" | .non => "NoneType" | .dic => "dict"
theorem tyName_inj : ∀ {a b : Ty}, tyName a = tyName b → a = b := by
  intro a b h
  cases a <;> cases b <;> first | rfl | exact absurd h (by decide)
section
variable {X : Cx} {fa : Fa} {G : List U} {cf : Cf} {e a b c : Expr} {ta tb tc : E} {pos : Pos} {es : List Expr} {ts : List E}
theorem View.tyB {W : Wd} {H : Hp} {K : PySem.W.Frag} {v : V} {x : PyData} (h : View K W H v x) : TyB K H v (tyName (tyD x)) := by
  cases x with
  | none => cases h; exact .non
  | bool b => cases h; exact .bl b
  | int b => cases h; exact .int b
  | str b => cases h; exact .str b
  | list ds => obtain ⟨p, vs, rfl, h1, h2⟩ := h; exact .lst h1
  | tuple ds => obtain ⟨p, vs, rfl, h1, h2⟩ := h; exact .tup h1
  | dict ds => obtain ⟨p, vs, rfl, h1, h2⟩ := h; exact .dK h1
theorem e_isTy {t : Ty} {x : Str} {p p2 : Pos} {cpos : Pos} (hg : Gl X "type") (hm : X.mg "type" = none) (hg2 : Gl X x) (hm2 : X.mg x = none) (hb : bootBuiltins x = some (.type (tyName t))) (hn : x ≠ "__name__") (hd : (x == ("__debug__" : Str)) = false)
    (ha : PE X a (RE X fa G cf ta)) (hs : notStar a = true) : PE X (.Compare (.Call (.Name "type" p) [a] [] cpos) [.Is] [.Name x p2] pos) (RE X fa G cf (.isTy ta t)) := by
  refine (pe_cmpR op_isTyB (pe_callTy call_type1 hg hm boot_type (pa_cons ha pa_nil (star_of hs)) (by decide) (by decide) (star_of hs) rfl) (pe_bltn (v := .ty (tyName t)) hg2 hm2 hb rfl hn hd) rfl).wk fun σ H Q ⟨W, st, env, u, st', S, R, h, k⟩ => ?_
  simp only [evE] at h
  obtain ⟨y, st1, h1, h⟩ := bind_ok h
  split at h
  · rename_i z hz
    cases h
    refine ⟨W, st, env, y, _, S, R, h1, fun W1 H1 v l S1 r => ?_⟩
    refine ⟨v, tyName (tyD z), rfl, (view_of S1 r hz).tyB, tyName (tyD z), tyName t, rfl, rfl, ?_⟩
    have e1 : decide (tyName (tyD z) = tyName t) = decide (tyD z = t) := by
      by_cases q : tyD z = t
      · rw [q]; simp
      · rw [decide_eq_false q, decide_eq_false fun e => q (tyName_inj e)]
    rw [e1]
    exact k W1 H1 _ l S1 (.bl _)
  · cases h
theorem t_isTy {t : Ty} {x : Str} {p p2 : Pos} {cpos : Pos} (hg : Gl X "type") (hm : X.mg "type" = none) (hg2 : Gl X x) (hm2 : X.mg x = none) (hb : bootBuiltins x = some (.type (tyName t))) (hn : x ≠ "__name__") (hd : (x == ("__debug__" : Str)) = false)
    (ha : PE X a (RE X fa G cf ta)) (hs : notStar a = true) : PT X (.Compare (.Call (.Name "type" p) [a] [] cpos) [.Is] [.Name x p2] pos) (RT X fa G cf (.isTy ta t)) := by
  refine (pt_cmpR op_isTyB (pe_callTy call_type1 hg hm boot_type (pa_cons ha pa_nil (star_of hs)) (by decide) (by decide) (star_of hs) rfl) (pe_bltn (v := .ty (tyName t)) hg2 hm2 hb rfl hn hd) rfl).wk fun σ H Q ⟨W, st, env, b, st', S, R, h, k⟩ => ?_
  simp only [evT, evE] at h
  obtain ⟨u, st0, h0, h⟩ := bind_ok h
  obtain ⟨y, st1, h1, h0⟩ := bind_ok h0
  split at h0
  · rename_i z hz
    cases h0
    simp only [tru, vw, truD] at h
    cases h
    refine ⟨W, st, env, y, _, S, R, h1, fun W1 H1 v l S1 r => ?_⟩
    refine ⟨v, tyName (tyD z), rfl, (view_of S1 r hz).tyB, tyName (tyD z), tyName t, rfl, rfl, ?_⟩
    have e1 : decide (tyName (tyD z) = tyName t) = decide (tyD z = t) := by
      by_cases q : tyD z = t
      · rw [q]; simp
      · rw [decide_eq_false q, decide_eq_false fun e => q (tyName_inj e)]
    rw [e1]
    exact ⟨_, rfl, k W1 H1 l S1⟩
  · cases h0
theorem e_noTy {t : Ty} {x : Str} {p p2 : Pos} {cpos : Pos} (hg : Gl X "type") (hm : X.mg "type" = none) (hg2 : Gl X x) (hm2 : X.mg x = none) (hb : bootBuiltins x = some (.type (tyName t))) (hn : x ≠ "__name__") (hd : (x == ("__debug__" : Str)) = false)
    (ha : PE X a (RE X fa G cf ta)) (hs : notStar a = true) : PE X (.Compare (.Call (.Name "type" p) [a] [] cpos) [.IsNot] [.Name x p2] pos) (RE X fa G cf (.noTy ta t)) := by
  refine (pe_cmpR op_notTyB (pe_callTy call_type1 hg hm boot_type (pa_cons ha pa_nil (star_of hs)) (by decide) (by decide) (star_of hs) rfl) (pe_bltn (v := .ty (tyName t)) hg2 hm2 hb rfl hn hd) rfl).wk fun σ H Q ⟨W, st, env, u, st', S, R, h, k⟩ => ?_
  simp only [evE] at h
  obtain ⟨y, st1, h1, h⟩ := bind_ok h
  split at h
  · rename_i z hz
    cases h
    refine ⟨W, st, env, y, _, S, R, h1, fun W1 H1 v l S1 r => ?_⟩
    refine ⟨v, tyName (tyD z), rfl, (view_of S1 r hz).tyB, tyName (tyD z), tyName t, rfl, rfl, ?_⟩
    have e1 : (!decide (tyName (tyD z) = tyName t)) = !decide (tyD z = t) := by
      by_cases q : tyD z = t
      · rw [q]; simp
      · rw [decide_eq_false q, decide_eq_false fun e => q (tyName_inj e)]
    rw [e1]
    exact k W1 H1 _ l S1 (.bl _)
  · cases h
theorem t_noTy {t : Ty} {x : Str} {p p2 : Pos} {cpos : Pos} (hg : Gl X "type") (hm : X.mg "type" = none) (hg2 : Gl X x) (hm2 : X.mg x = none) (hb : bootBuiltins x = some (.type (tyName t))) (hn : x ≠ "__name__") (hd : (x == ("__debug__" : Str)) = false)
    (ha : PE X a (RE X fa G cf ta)) (hs : notStar a = true) : PT X (.Compare (.Call (.Name "type" p) [a] [] cpos) [.IsNot] [.Name x p2] pos) (RT X fa G cf (.noTy ta t)) := by
  refine (pt_cmpR op_notTyB (pe_callTy call_type1 hg hm boot_type (pa_cons ha pa_nil (star_of hs)) (by decide) (by decide) (star_of hs) rfl) (pe_bltn (v := .ty (tyName t)) hg2 hm2 hb rfl hn hd) rfl).wk fun σ H Q ⟨W, st, env, b, st', S, R, h, k⟩ => ?_
  simp only [evT, evE] at h
  obtain ⟨u, st0, h0, h⟩ := bind_ok h
  obtain ⟨y, st1, h1, h0⟩ := bind_ok h0
  split at h0
  · rename_i z hz
    cases h0
    simp only [tru, vw, truD] at h
    cases h
    refine ⟨W, st, env, y, _, S, R, h1, fun W1 H1 v l S1 r => ?_⟩
    refine ⟨v, tyName (tyD z), rfl, (view_of S1 r hz).tyB, tyName (tyD z), tyName t, rfl, rfl, ?_⟩
    have e1 : (!decide (tyName (tyD z) = tyName t)) = !decide (tyD z = t) := by
      by_cases q : tyD z = t
      · rw [q]; simp
      · rw [decide_eq_false q, decide_eq_false fun e => q (tyName_inj e)]
    rw [e1]
    exact ⟨_, rfl, k W1 H1 l S1⟩
  · cases h0
theorem View.tyX {W : Wd} {H : Hp} {K : PySem.W.Frag} {v : V} {x : PyData} (h : View K W H v x) : TyX K H v (.type (tyName (tyD x))) := by
  cases x with
  | none => cases h; exact .base .non
  | bool b => cases h; exact .base (.bl b)
  | int b => cases h; exact .base (.int b)
  | str b => cases h; exact .base (.str b)
  | list ds =>
    obtain ⟨p, vs, rfl, h1, h2⟩ := h
    rcases h1 with (h1 | ⟨o, h1⟩) | ⟨o, its, n, h1, h3, _⟩
    · exact .base (.lst h1)
    · exact .base (.frz h1)
    · exact .kList h1 h3
  | tuple ds =>
    obtain ⟨p, vs, rfl, h1, h2⟩ := h
    rcases h1 with (h1 | ⟨o, h1⟩) | ⟨o, its, n, h1, h3, _⟩
    · exact .base (.tup h1)
    · exact .fTuple h1
    · exact .kTuple h1 h3
  | dict ds => obtain ⟨p, vs, rfl, h1, h2⟩ := h; exact .base (.dK h1)
theorem kit_all (s t : Ty) : kitB (tyName s) (tyName t) = some (decide (s = t) || (decide (t = .int) && decide (s = .bool))) := by
  cases s <;> cases t <;> decide +kernel
theorem e_isIn {t : Ty} {x : Str} {p p2 : Pos} (hg : Gl X "isinstance") (hm : X.mg "isinstance" = none) (hg2 : Gl X x) (hm2 : X.mg x = none) (hb : bootBuiltins x = some (.type (tyName t))) (hn : x ≠ "__name__") (hd : (x == ("__debug__" : Str)) = false)
    (ha : PE X a (RE X fa G cf ta)) (hs : notStar a = true) : PE X (.Call (.Name "isinstance" p) [a, .Name x p2] [] pos) (RE X fa G cf (.isIn ta t)) := by
  refine (pe_callB call_isi hg hm boot_isinstance (pa_cons ha (pa_cons (pe_bltn (v := .ty (tyName t)) hg2 hm2 hb rfl hn hd) pa_nil rfl) (star_of hs)) (by decide) (by decide) (star_of hs) rfl).wk fun σ H Q ⟨W, st, env, u, st', S, R, h, k⟩ => ?_
  simp only [evE] at h
  obtain ⟨y, st1, h1, h⟩ := bind_ok h
  split at h
  · rename_i z hz
    cases h
    refine ⟨W, st, env, y, _, S, R, h1, fun W1 H1 v l S1 r => ?_⟩
    exact ⟨v, .ty (tyName t), .type (tyName (tyD z)), .type (tyName t), isInD z t, rfl, .ty _, (view_of S1 r hz).tyX, kit_ty (kit_all _ _), k W1 H1 _ l S1 (.bl _)⟩
  · cases h
/-! ### methods of lists -/
def rMt (K : PySem.W.Frag) (fa : Fa) (m : Mt) : V → List V → Hp → VK → Prop := fun x vs H Q => ∃ W st ua us u st', Sim K fa W st H ∧ URp K fa W x ua ∧ UL K fa W vs us ∧ meth m ua us st = .ok u st' ∧ Kt K fa W H st' u Q
theorem usD_map : ∀ ds : List PyData, usD (ds.map .d) = some ds
  | [] => rfl
  | d :: r => by simp [usD, usD_map r]
theorem mt_app : MtM X "list.append" (rMt X.K fa .append) := by
  intro pins s σ H x xs v us' Q I rx rv ⟨W, st, ua, us, u, st', S, ra, rs, h, k⟩
  have h' : mApp ua us st = .ok u st' := h
  unfold mApp at h'
  split at h'
  · rename_i n d
    split at h'
    · rename_i vs hn
      split at h'
      · rename_i hz
        cases h'
        obtain ⟨p, hp, rfl⟩ := ra
        obtain ⟨v1, rfl, r1⟩ := rs.one
        obtain ⟨ws, g1, g2, g3⟩ := S.ob n p _ hp hn
        obtain ⟨S1, l1⟩ := S.write (o := .lst (ws ++ [v1])) (b := .lst (vs ++ [.d d])) hp g2 ⟨ws ++ [v1], upd_same, g2, g3.append (.cons r1 .nil)⟩
        exact mt_append pins s σ H _ _ v us' Q I rx rv ⟨p, ws, v1, rfl, rfl, g1, by rw [g3.length]; exact Nat.lt_trans hz lim_lt, k W _ _ l1 S1 .non⟩
      · cases h'
    · cases h'
  · cases h'
theorem mt_ext : MtM X "list.extend" (rMt X.K fa .extend) := by
  intro pins s σ H x xs v us' Q I rx rv ⟨W, st, ua, us, u, st', S, ra, rs, h, k⟩
  have h' : mExt ua us st = .ok u st' := h
  unfold mExt at h'
  split at h'
  · rename_i n w
    split at h'
    · rename_i vs ds hn hd
      split at h'
      · rename_i hz
        cases h'
        obtain ⟨p, hp, rfl⟩ := ra
        obtain ⟨v1, rfl, r1⟩ := rs.one
        obtain ⟨ws, g1, g2, g3⟩ := S.ob n p _ hp hn
        obtain ⟨q, zs, rfl, q1, q2⟩ := viewT_of S r1 hd
        obtain ⟨S1, l1⟩ := S.write (o := .lst (ws ++ zs)) (b := .lst (vs ++ ds.map .d)) hp g2 ⟨ws ++ zs, upd_same, g2, g3.append (UL.ofData q2)⟩
        exact mt_extend pins s σ H _ _ v us' Q I rx rv ⟨p, q, ws, zs, rfl, rfl, g1, q1, by rw [g3.length, q2.length]; exact Nat.le_trans hz lim_le, k W _ _ l1 S1 .non⟩
      · cases h'
    · cases h'
  · cases h'
theorem mt_pop0 : MtM X "list.pop" (rMt X.K fa .pop0) := by
  intro pins s σ H x xs v us' Q I rx rv ⟨W, st, ua, us, u, st', S, ra, rs, h, k⟩
  have h' : mPop ua us st = .ok u st' := h
  unfold mPop at h'
  split at h'
  · rename_i n
    split at h'
    · rename_i vs hn
      split at h'
      · rename_i w hw
        cases h'
        obtain ⟨p, hp, rfl⟩ := ra
        cases rs
        obtain ⟨ws, g1, g2, g3⟩ := S.ob n p _ hp hn
        obtain ⟨y, y1, y2⟩ := g3.get hw
        obtain ⟨S1, l1⟩ := S.write (o := .lst ws.dropLast) (b := .lst vs.dropLast) hp g2 ⟨ws.dropLast, upd_same, g2, g3.dropLast⟩
        exact mt_pop pins s σ H _ _ v us' Q I rx rv ⟨p, ws, y, rfl, rfl, g1, by rw [g3.length]; exact y1, k W _ _ l1 S1 y2⟩
      · cases h'
    · cases h'
  · cases h'
theorem mt_pop1 : MtM X "list.pop" (rMt X.K fa .pop1) := by
  intro pins s σ H x xs v us' Q I rx rv ⟨W, st, ua, us, u, st', S, ra, rs, h, k⟩
  have h' : mPopAt ua us st = .ok u st' := h
  unfold mPopAt at h'
  split at h'
  · rename_i n i
    split at h'
    · rename_i vs hn
      split at h'
      · rename_i j hj
        split at h'
        · rename_i w hw
          split at h'
          · rename_i hz
            cases h'
            obtain ⟨p, hp, rfl⟩ := ra
            obtain ⟨v1, rfl, r1⟩ := rs.one
            have r1' : Rp X.K W.G v1 (.int i) := r1
            cases r1'
            obtain ⟨ws, g1, g2, g3⟩ := S.ob n p _ hp hn
            obtain ⟨y, y1, y2⟩ := g3.get hw
            obtain ⟨e1, e2, e3, e4⟩ := ixN_seq hj
            obtain ⟨S1, l1⟩ := S.write (o := .lst (ws.eraseIdx j)) (b := .lst (vs.eraseIdx j)) hp g2 ⟨ws.eraseIdx j, upd_same, g2, g3.eraseIdx j⟩
            have hl : (vs.length : Int) ≤ 1000000 := by
              have : vs.length ≤ 1000000 := hz
              omega
            exact mt_popAt pins s σ H _ _ v us' Q I rx rv ⟨p, ws, i, j, y, rfl, rfl, g1, by omega, by omega, by rw [g3.length]; exact e1, y1, k W _ _ l1 S1 y2⟩
          · cases h'
        · cases h'
      · cases h'
    · cases h'
  · cases h'
theorem lst_ok {m : Mt} {x : U} {st : Sto} (hm : m ≠ .get1) (hm2 : m ≠ .get2 ∧ m ≠ .update) (h : mOk m x st = true) : ∃ n ws, x = .o n ∧ st[n]? = some (.lst ws) := by
  have h' : isLstO x st = true := by
    cases m with
    | get1 => exact absurd rfl hm
    | get2 => exact absurd rfl hm2.1
    | update => exact absurd rfl hm2.2
    | _ => exact h
  unfold isLstO at h'
  split at h'
  · split at h'
    · rename_i hq
      exact ⟨_, _, rfl, hq⟩
    · cases h'
  · cases h'
/-- a.name(..), of a list -/
theorem e_meth {m : Mt} {name : Str} {id : String} {apos : Pos} (m1 : m ≠ .get1) (m2 : m ≠ .get2 ∧ m ≠ .update) (slot : Slot "list" name id) (hty : typeOf (.builtin id) = pure (.type "method_descriptor")) (hm : MtM X id (rMt X.K fa m))
    (ha : PE X a (RE X fa G cf ta)) (hb : PE X b (RE X fa G cf tb)) (hs : notStar b = true) (hbase : attributeBase a name X.env (eval a X.env) = eval a X.env) (hline : (apos.endLine == pos.line) = true) :
    PE X (.Call (.Attribute a name apos) [b] [] pos) (RE X fa G cf (.meth m ta [tb])) := by
  refine (pe_bm PySem.F.plainAttrs_list slot hty hm ha (pa_cons hb pa_nil (star_of hs)) hbase (by rw [star_of hs]; rfl) hline (star_of hs) rfl).wk fun σ H Q ⟨W, st, env, u, st', S, R, h, k⟩ => ?_
  simp only [evE] at h
  obtain ⟨x, st1, h1, h⟩ := bind_ok h
  split at h
  · rename_i ok
    obtain ⟨us, st2, h2, h⟩ := bind_ok h
    simp only [evEs] at h2
    obtain ⟨y, st3, h3, h2⟩ := bind_ok h2
    cases h2
    obtain ⟨n, ws, rfl, hws⟩ := lst_ok m1 m2 ok
    refine ⟨W, st, env, _, st1, S, R, h1, fun W1 H1 v l S1 r => ?_⟩
    obtain ⟨p, hp, rfl⟩ := r
    obtain ⟨zs, g1, g2, g3⟩ := S1.ob n p _ hp hws
    refine ⟨.inl ⟨rfl, zs, .inl (.inl g1)⟩, W1, st1, env, y, _, S1, R.mono l.le, h3, fun W2 H2 v2 l2 S2 r2 => ?_⟩
    exact ⟨W2, _, .o n, [y], u, st', S2, ⟨p, l2.le.ix hp, rfl⟩, .cons r2 .nil, h, k.mono (l.trans l2)⟩
  · cases h
theorem e_meth0 {m : Mt} {name : Str} {id : String} {apos : Pos} (m1 : m ≠ .get1) (m2 : m ≠ .get2 ∧ m ≠ .update) (slot : Slot "list" name id) (hty : typeOf (.builtin id) = pure (.type "method_descriptor")) (hm : MtM X id (rMt X.K fa m))
    (ha : PE X a (RE X fa G cf ta)) (hbase : attributeBase a name X.env (eval a X.env) = eval a X.env) (hline : (apos.endLine == pos.line) = true) :
    PE X (.Call (.Attribute a name apos) [] [] pos) (RE X fa G cf (.meth m ta [])) := by
  refine (pe_bm0 PySem.F.plainAttrs_list slot hty hm ha hbase hline).wk fun σ H Q ⟨W, st, env, u, st', S, R, h, k⟩ => ?_
  simp only [evE] at h
  obtain ⟨x, st1, h1, h⟩ := bind_ok h
  split at h
  · rename_i ok
    obtain ⟨us, st2, h2, h⟩ := bind_ok h
    cases h2
    obtain ⟨n, ws, rfl, hws⟩ := lst_ok m1 m2 ok
    refine ⟨W, st, env, _, _, S, R, h1, fun W1 H1 v l S1 r => ?_⟩
    obtain ⟨p, hp, rfl⟩ := r
    obtain ⟨zs, g1, g2, g3⟩ := S1.ob n p _ hp hws
    exact ⟨.inl ⟨rfl, zs, .inl (.inl g1)⟩, W1, _, .o n, [], u, st', S1, ⟨p, hp, rfl⟩, .nil, h, k.mono l⟩
  · cases h
/-! ### get of a dict -/
theorem dic_at {W : Wd} {st : Sto} {H : Hp} {v : V} {x : U} (S : Sim X.K fa W st H) (r : URp X.K fa W v x) (h : isDicO x st = true) (hw : fa.w = X.w) :
    ∃ p, v = .ref p ∧ ((∃ es n, KDict X.K X.w p es n) ∨ ∃ kvs, H p = some (.dK kvs)) := by
  cases x with
  | o n =>
    unfold isDicO at h
    simp only at h
    split at h
    · rename_i hq
      obtain ⟨p, hp, rfl⟩ := r
      obtain ⟨ws, g1, _⟩ := S.ob n p _ hp hq
      exact ⟨p, rfl, .inr ⟨ws, g1⟩⟩
    · cases h
  | t kvs => obtain ⟨p, T, rfl⟩ := r; rw [← hw]; exact ⟨p, rfl, .inl T.kd⟩
  | td kvs => obtain ⟨p, T, rfl⟩ := r; rw [← hw]; exact ⟨p, rfl, .inl T.kd⟩
  | d q =>
    cases q with
    | dict kvs =>
      have r' : Rp X.K W.G v (.dict kvs) := r
      cases r' with
      | dic g1 g2 => exact ⟨_, rfl, .inr ⟨_, S.sub _ _ g1⟩⟩
    | _ => cases h
  | s ns => cases h
  | f n => cases h
theorem dic_type {pins : List (Addr × Obj)} {σ : L2.St} {H : Hp} {s : Shared} {p : Addr} (I : Inv X pins σ H s) (h : (∃ es n, KDict X.K X.w p es n) ∨ ∃ kvs, H p = some (.dK kvs)) :
    s.TypeIs (.ref p) "dict" ∧ ∀ q, Value.ref p = .ref q → ∃ ob, s.heap.get? q = some ob ∧ ob.dict = none := by
  rcases h with ⟨es, n, D⟩ | ⟨kvs, h⟩
  · refine ⟨kd_type D I, fun q e => ?_⟩
    cases e
    exact ⟨_, I.kIn _ _ D.at_, rfl⟩
  · obtain ⟨t1, t2, _⟩ := isD_at I (.inl ⟨kvs, .inl h⟩)
    exact ⟨t1, t2⟩
theorem e_get1 {apos : Pos} (hu : X.A.units + 65 < cLine) (hw : fa.w = X.w) (ha : PE X a (RE X fa G cf ta)) (hb : PE X b (RE X fa G cf tb)) (hs : notStar b = true) (hbase : attributeBase a "get" X.env (eval a X.env) = eval a X.env) (hline : (apos.endLine == pos.line) = true) :
    PE X (.Call (.Attribute a "get" apos) [b] [] pos) (RE X fa G cf (.meth .get1 ta [tb])) := by
  refine ⟨fun pins s σ H Q I ⟨W, st, env, u, st', S, R, h, k⟩ => ?_⟩
  simp only [evE] at h
  obtain ⟨x, st1, h1, h⟩ := bind_ok h
  split at h
  · rename_i ok
    obtain ⟨us, st2, h2, h⟩ := bind_ok h
    simp only [evEs] at h2
    obtain ⟨y, st3, h3, h2⟩ := bind_ok h2
    cases h2
    have h' : mGet x [y] st2 = .ok u st' := h
    unfold mGet at h'
    split at h'
    · rename_i q heq
      cases heq
      split at h'
      · rename_i o0 ho
        cases h'
        refine wpAny_Call_method_late hbase (by rw [star_of hs]; rfl) hline rfl (thn (ha.run pins s σ H (fun v H1 => ∃ W1, Lx W H W1 H1 ∧ Sim X.K fa W1 st1 H1 ∧ URp X.K fa W1 v x) I ⟨W, st, env, x, st1, S, R, h1, fun W1 H1 v l S1 r => ⟨W1, l, S1, r⟩⟩) fun v s1 ⟨x1, H1, I1, rx, W1, l, S1, r⟩ => ?_)
        obtain ⟨p, rfl, hd⟩ := dic_at S1 r ok hw
        obtain rfl : v = Value.ref p := rx
        obtain ⟨t1, t2⟩ := dic_type I1 hd
        refine ⟨"dict", "dict.get", PySem.F.plainAttrs_dict, PySem.F.slot_dict_get, PySem.F.type_dict_get, t1, t2, ?_⟩
        rw [star_of hs]
        refine Calls.callWith_builtin rfl (Calls.evalArgs_plain (Calls.spliced_cons (thn (hb.run pins s1 σ H1 (fun v H2 => ∃ W2, Lx W1 H1 W2 H2 ∧ Sim X.K fa W2 st' H2 ∧ URp X.K fa W2 v (.d q)) I1 ⟨W1, st1, env, _, _, S1, R.mono l.le, h3, fun W2 H2 v l S2 r => ⟨W2, l, S2, r⟩⟩) fun iv s2 ⟨y1, H2, I2, ry, W2, l2, S2, r2⟩ => Calls.spliced_nil ?_)))
        have kk := k.mono (l.trans l2)
        cases dg_of S2 (r.mono l2.le) (view_of S2 r2 rfl) ho with
        | k p' z r0 D ev ey e hr =>
          cases ev
          obtain ⟨es, n, D⟩ := D
          rw [hw] at D
          subst ey
          obtain ⟨t, rfl⟩ := ry
          refine call_meetsIn PySem.F.slot_dict_get (kd_type D I2) PySem.F.entry_dict_get (PySem.F.args_dict_get_2 _ _) (meets_dict_get (strKind X.prog X.w) p (strKind_is X.prog X.w z t) D.low) ⟨_, PySem.W.mapOf_K (prog := X.prog) I2.kIn D.at_ D.lit, ?_⟩
          rw [PySem.W.find_K D.at_ e]
          cases o0 with
          | none => cases (show r0 = none from hr); exact ⟨.non, H2, I2.tok _, rfl, kk.now S2 .non⟩
          | some u0 => obtain ⟨v0, w0, rfl, q1, q2⟩ := hr; exact ⟨v0, H2, I2.tok _, q1, kk.now S2 q2⟩
        | d p' o ev g hd hr =>
          cases ev
          refine d_get1 (by omega) I2 g ry fun w' s3 I3 rw' => ⟨_, H2, I3, rw', ?_⟩
          cases o0 with
          | none => cases (show o = none from hr); exact kk.now S2 .non
          | some u0 => obtain ⟨v0, rfl, q2⟩ := hr; exact kk.now S2 q2
      · cases h'
    · rename_i heq; cases heq
    · cases h'
  · cases h
/-! ### dict displays -/
end
end PI
set_option Elab.async false
set_option linter.all false
set_option maxRecDepth 100000
set_option maxHeartbeats 4000000
/-! Dicts that are made. -/
namespace PI
open PySem PySem.Spec PyProof.Rows L2
section
variable {K : PySem.W.Frag} {fa : Fa} {W W' : Wd} {st : Sto} {H H' : Hp}
theorem UK.any {k : Key} : ∀ {xs : List (Key × V)} {kvs : List (Key × U)}, UK K fa W xs kvs → (xs.any fun kv => decide (kv.1 = k)) = kvs.any fun kv => decide (kv.1 = k)
  | _, _, .nil => rfl
  | _, _, .cons r t => by rw [List.any_cons, List.any_cons, UK.any t]
theorem UK.map {k : Key} {v : V} {u : U} (r : URp K fa W v u) : ∀ {xs : List (Key × V)} {kvs : List (Key × U)}, UK K fa W xs kvs →
    UK K fa W (xs.map fun kv => if kv.1 = k then (kv.1, v) else kv) (kvs.map fun kv => if kv.1 = k then (kv.1, u) else kv)
  | _, _, .nil => .nil
  | _, _, .cons (k := l) q t => by
    rw [List.map_cons, List.map_cons]
    by_cases e : l = k
    · simp only [e, if_true]; exact .cons r (UK.map r t)
    · simp only [e, if_false]; exact .cons q (UK.map r t)
theorem UK.append : ∀ {xs ys : List (Key × V)} {kvs lws : List (Key × U)}, UK K fa W xs kvs → UK K fa W ys lws → UK K fa W (xs ++ ys) (kvs ++ lws)
  | _, _, _, _, .nil, h => h
  | _, _, _, _, .cons r t, h => .cons r (UK.append t h)
theorem UK.putK (k : Key) {v : V} {u : U} (r : URp K fa W v u) {xs : List (Key × V)} {kvs : List (Key × U)} (h : UK K fa W xs kvs) : UK K fa W (L2.putK xs k v) (PI.putK kvs k u) := by
  unfold L2.putK PI.putK
  rw [h.any (k := k)]
  split
  · exact h.map r
  · exact h.append (.cons r .nil)
theorem UK.merge : ∀ {more : List (Key × V)} {lm : List (Key × U)} {xs : List (Key × V)} {kvs : List (Key × U)}, UK K fa W more lm → UK K fa W xs kvs → UK K fa W (mergeK xs more) (mergeU kvs lm)
  | _, _, _, _, .nil, h => h
  | _, _, xs, kvs, .cons (k := k) (v := v) (vs := m) (u := u) (us := lm) r t, h => by
    show UK K fa W (mergeK (L2.putK xs k v) m) (mergeU (PI.putK kvs k u) lm)
    exact UK.merge t (h.putK k r)
/-- a dict that was laid ahead comes to be known -/
theorem dic_adopt {kvs : List (Key × U)} {vs : List (Key × V)} {Q : VK} {D : Addr} {W1 : Wd} {H1 : Hp} (S : Sim K fa W' st H') (l : Lx W1 H1 W' H') (hD : H1 D = none) (h2 : D ∉ W'.iot) (h3 : W'.G D = none)
    (r : UK K fa W' vs kvs) (k : Kt K fa W1 H1 (st ++ [.dic kvs]) (.o st.length) Q) : Q (.ref D) (upd H' D (.dK vs)) := by
  have S1 : Sim K fa W' st (upd H' D (.dK vs)) := by
    refine ⟨fun b x e => ?_, S.len, S.nd, fun n a b e1 e2 => ?_, fun a m => ?_⟩
    · rw [upd_ne (ne_of_none e h3)]; exact S.sub _ _ e
    · have np : a ≠ D := fun z => h2 (z ▸ List.mem_of_getElem? e1)
      exact (S.ob n a b e1 e2).mono (Le.refl _) (upd_ne np) fun _ g => g
    · have np : a ≠ D := fun z => h2 (z ▸ m)
      rw [upd_ne np]; exact S.tr a m
  have l1 : Lx W1 H1 ⟨W'.G, W'.iot ++ [D]⟩ (upd H' D (.dK vs)) := by
    refine ⟨l.le.trans ⟨fun _ _ e => e, [D], rfl⟩, fun a o e n g => ?_⟩
    obtain ⟨e1, n1, g1⟩ := l.keep a o e n g
    have na : a ≠ D := ne_of_none e hD
    exact ⟨by rw [upd_ne na]; exact e1, fun m => (List.mem_append.mp m).elim n1 fun z => na (by simpa using z), g1⟩
  refine k _ _ _ l1 (S1.adopt (b := .dic kvs) (by rw [upd_same]; simp) h2 ⟨vs, upd_same, h3, r.mono ⟨fun _ _ e => e, [D], rfl⟩⟩) ⟨D, ?_, rfl⟩
  show (W'.iot ++ [D])[st.length]? = some D
  rw [← S.len, List.getElem?_append_right (Nat.le_refl _)]; simp
theorem pairs_data {G : Hp} : ∀ {ds : List PyData} {vs : List V} {kvs : List (Key × U)}, RpL K G vs ds → pairsD ds = some kvs → Same G H → W.G = G → ∃ (ps : List Addr) (xs : List (Key × V)), vs = ps.map V.ref ∧ Paired (fun p kv => SqT K H p [kV kv.1, kv.2]) ps xs ∧ UK K fa W xs kvs
  | _, _, _, .nil, h, _, _ => by
    simp only [pairsD, Option.some.injEq] at h
    subst h
    exact ⟨[], [], rfl, .nil, .nil⟩
  | d :: ds, _, kvs, .cons (v := v) r t, h, sb, eG => by
    unfold pairsD at h
    split at h
    · rename_i heq; cases heq
    · rename_i k x r' heq
      cases heq
      split at h
      · rename_i kk hk
        simp only [Option.map_eq_some_iff] at h
        obtain ⟨rest, hr, rfl⟩ := h
        obtain ⟨ps, xs, rfl, h1, h2⟩ := pairs_data t hr sb eG
        cases r with
        | @tup a ys _ g1 g2 =>
          cases g2 with
          | @cons vk _ _ _ rk t1 =>
            cases t1 with
            | @cons vx _ _ _ rx t2 =>
              cases t2
              have ek := keyD_eq hk
              subst ek
              have ev : vk = kV kk := by cases kk <;> cases rk <;> rfl
              subst ev
              exact ⟨a :: ps, (kk, vx) :: xs, rfl, .cons (Same.sqT sb g1) h1, .cons (by rw [← eG] at rx; exact rx) h2⟩
      · cases h
    · cases h
end
section
variable {X : Cx} {fa : Fa} {G : List U} {cf : Cf} {e a b c : Expr} {ta tb tc : E} {pos p : Pos} {es : List Expr} {ts : List E}
theorem e_mkd (hc : X.calm = true) (hg : Gl X "dict") (hm : X.mg "dict" = none) (ha : PE X a (RE X fa G cf ta)) (hs : notStar a = true) : PE X (.Call (.Name "dict" p) [a] [] pos) (RE X fa G cf (.mkd ta)) := by
  refine (pe_callTy (call_dictP hc) hg hm boot_dict (pa_cons ha pa_nil (star_of hs)) (by decide) (by decide) (star_of hs) rfl).wk fun σ H Q ⟨W, st, env, u, st', S, R, h, k⟩ => ?_
  simp only [evE] at h
  obtain ⟨x, st1, h1, h⟩ := bind_ok h
  unfold mkDic at h
  split at h
  · rename_i ds hd
    split at h
    · rename_i kvs hk
      split at h
      · rename_i hz
        cases h
        refine ⟨W, st, env, x, st1, S, R, h1, fun W1 H1 v l S1 r => ?_⟩
        obtain ⟨q, vs, rfl, g1, g2⟩ := view_of S1 r hd
        obtain ⟨ps, xs, rfl, h2, h3⟩ := pairs_data (fa := fa) (W := W1) g2 hk S1.sub rfl
        refine ⟨q, ps, xs, rfl, g1, h2, fun D hD => ?_⟩
        exact dic_adopt S1 (Lx.refl W1 H1) hD (S1.notin hD) (S1.free hD) (h3.merge .nil) (k.mono l)
      · cases h
    · cases h
  · cases h
/-! ### {k: v, ..} -/
def inter : List (Option Expr) → List Expr → List Expr
  | some k :: ks, v :: vs => k :: v :: inter ks vs
  | _, _ => []
def trsOf (X : Cx) (fa : Fa) (G : List U) (cf : Cf) : List E → List (TE × TE)
  | k :: v :: r => (RE X fa G cf k, RE X fa G cf v) :: trsOf X fa G cf r
  | _ => []
theorem pairs_run {σ : L2.St} {Q : List (V × V) → Hp → Prop} : ∀ {ts : List E} {W : Wd} {H : Hp} {st st' : Sto} {env : Ev} {us : List U} {kvs : List (Key × U)}, Sim X.K fa W st H → EnvR X.K fa W env σ → evEs G cf ts env st = .ok us st' → pairU us = some kvs →
    (∀ W' H' (xs : List (Key × V)), Lx W H W' H' → Sim X.K fa W' st' H' → UK X.K fa W' xs kvs → Q (xs.map fun kv => (kV kv.1, kv.2)) H') → tPairs (trsOf X fa G cf ts) σ H Q
  | [], W, H, st, st', env, us, kvs, S, R, h, hp, q => by
    cases h
    simp only [pairU, Option.some.injEq] at hp
    subst hp
    exact q W H [] (Lx.refl _ _) S .nil
  | [t], W, H, st, st', env, us, kvs, S, R, h, hp, q => by
    simp only [evEs] at h
    obtain ⟨x, st1, h1, h⟩ := bind_ok h
    cases h
    cases x <;> simp [pairU] at hp
  | t :: t2 :: ts, W, H, st, st', env, us, kvs, S, R, h, hp, q => by
    simp only [evEs] at h
    obtain ⟨x, st1, h1, h⟩ := bind_ok h
    obtain ⟨ys, st2, h2, h⟩ := bind_ok h
    cases h
    obtain ⟨y, st3, h3, h2⟩ := bind_ok h2
    obtain ⟨zs, st4, h4, h2⟩ := bind_ok h2
    cases h2
    cases x with
    | d d =>
      simp only [pairU] at hp
      split at hp
      · rename_i kk hk
        simp only [Option.map_eq_some_iff] at hp
        obtain ⟨rest, hr, rfl⟩ := hp
        refine ⟨W, st, env, _, st1, S, R, h1, fun W1 H1 v l1 S1 r1 => ⟨W1, st1, env, y, st3, S1, R.mono l1.le, h3, fun W2 H2 v2 l2 S2 r2 => ?_⟩⟩
        refine pairs_run S2 (R.mono (l1.trans l2).le) h4 hr fun W3 H3 xs l3 S3 r3 => ?_
        have e : v = kV kk := by
          have e1 := keyD_eq hk
          subst e1
          have r1' : Rp X.K W1.G v (kD kk) := r1
          cases kk <;> cases r1' <;> rfl
        subst e
        exact q W3 H3 ((kk, v2) :: xs) ((l1.trans l2).trans l3) S3 (.cons (r2.mono l3.le) r3)
      · cases hp
    | _ => simp [pairU] at hp
theorem e_dic0 : PE X (.Dict [] [] pos) (RE X fa G cf (.dic [])) := by
  refine pe_dnewK.wk fun σ H Q ⟨W, st, env, u, st', S, R, h, k⟩ => ?_
  simp only [evE, evEs, O.bind, pairU, List.length_nil, Nat.zero_le, if_true] at h
  cases h
  intro D hD
  exact dic_adopt S (Lx.refl W H) hD (S.notin hD) (S.free hD) .nil k
theorem pairU_len : ∀ {us : List U} {kvs : List (Key × U)}, pairU us = some kvs → us.length = 2 * kvs.length
  | [], kvs, h => by simp only [pairU, Option.some.injEq] at h; subst h; rfl
  | [u], kvs, h => by cases u <;> simp [pairU] at h
  | u :: w :: r, kvs, h => by
    cases u with
    | d d =>
      simp only [pairU] at h
      split at h
      · simp only [Option.map_eq_some_iff] at h
        obtain ⟨rest, hr, rfl⟩ := h
        simp [pairU_len hr]
        omega
      · cases h
    | _ => simp [pairU] at h
theorem e_dic {keys : List (Option Expr)} {vals : List Expr} (hp : PPs X pos keys vals (trsOf X fa G cf ts)) (hall : keys.all (·.isSome) = true) (hl : keys.length = vals.length) (h0 : keys ≠ []) (h15 : keys.length ≤ 15) : PE X (.Dict keys vals pos) (RE X fa G cf (.dic ts)) := by
  refine (pe_disp hp hall hl h0 h15).wk fun σ H Q ⟨W, st, env, u, st', S, R, h, k⟩ => ?_
  simp only [evE] at h
  obtain ⟨us, st1, h1, h⟩ := bind_ok h
  split at h
  · rename_i kvs hk
    split at h
    · rename_i hz
      cases h
      intro D hD
      refine pairs_run (S.loose (S.notin hD) (S.free hD)) R h1 hk fun W' H' xs l S' r => ?_
      obtain ⟨d1, d2, d3⟩ := l.keep D _ upd_same (S.notin hD) (S.free hD)
      refine ⟨d1, xs, rfl, by rw [r.length]; exact hz, ?_⟩
      have l0 : Lx W H W' H' := ⟨l.le, fun a o e n g => l.keep a o (by rw [upd_ne (ne_of_none e hD)]; exact e) n g⟩
      exact dic_adopt S' l0 hD d2 d3 (r.merge .nil) k
    · cases h
  · cases h
/-! ### d.update(e) -/
theorem mt_upd : MtM X "dict.update" (rMt X.K fa .update) := by
  intro pins s σ H x xs v us' Q I rx rv ⟨W, st, ua, us, u, st', S, ra, rs, h, k⟩
  have h' : mUpd ua us st = .ok u st' := h
  unfold mUpd at h'
  split at h'
  · rename_i n m
    split at h'
    · rename_i kvs more hn hm
      split at h'
      · rename_i hz
        cases h'
        obtain ⟨p, hp, rfl⟩ := ra
        obtain ⟨v1, rfl, r1⟩ := rs.one
        obtain ⟨q, hq, rfl⟩ := r1
        obtain ⟨ws, g1, g2, g3⟩ := S.ob n p _ hp hn
        obtain ⟨zs, q1, q2, q3⟩ := S.ob m q _ hq hm
        have npq : p ≠ q := fun e => hz.1 (nodup_ix' S.nd hp (e ▸ hq))
        obtain ⟨S1, l1⟩ := S.write (o := .dK (mergeK ws zs)) (b := .dic (mergeU kvs more)) hp g2 ⟨mergeK ws zs, upd_same, g2, q3.merge g3⟩
        obtain ⟨w1, rfl, rw1⟩ := rv.one
        cases rx
        cases rw1
        obtain ⟨z1, d1, vs1, rel1, dd1⟩ := dk_of I.hok g1
        obtain ⟨z2, d2, vs2, rel2, dd2⟩ := dk_of I.hok q1
        have hl : vs1.length + vs2.length ≤ sizeLine := by
          rw [← rel1.length, ← rel2.length, g3.length, q3.length]
          exact Nat.le_trans hz.2 lim_le
        have hl2 : (mergeK ws zs).length ≤ sizeLine := by
          refine Nat.le_trans (length_mergeK zs ws) ?_
          rw [g3.length, q3.length]
          exact Nat.le_trans hz.2 lim_le
        refine call_meetsIn PySem.F.slot_dict_update dd1.typeIs PySem.F.entry_dict_update (PySem.F.args_dict_update_2 _ _) (meets_dict_update (mixKind X.prog X.w) p q npq d2) ⟨vs1, vs2, dd1, dd2, hl, fun h' dd _ hs => ?_⟩
        have he : ∃ y, h'.get? p = some y := let ⟨y, _, _, hy, _⟩ := dd; ⟨y, hy⟩
        exact ⟨.non, _, d_write I (by rw [g1]; exact True.intro) hs he (dk_new hl2 d1 (rel2.merge rel1) dd), rfl, k W _ _ l1 S1 .non⟩
      · cases h'
    · cases h'
  · cases h'
theorem trk_ok {x : U} {st : Sto} (h : mOk .update x st = true) : ∃ n kvs, x = .o n ∧ st[n]? = some (.dic kvs) := by
  have h' : isTrkO x st = true := h
  unfold isTrkO at h'
  split at h'
  · split at h'
    · rename_i hq
      exact ⟨_, _, rfl, hq⟩
    · cases h'
  · cases h'
theorem e_upd {apos : Pos} (ha : PE X a (RE X fa G cf ta)) (hb : PE X b (RE X fa G cf tb)) (hs : notStar b = true) (hbase : attributeBase a "update" X.env (eval a X.env) = eval a X.env) (hline : (apos.endLine == pos.line) = true) :
    PE X (.Call (.Attribute a "update" apos) [b] [] pos) (RE X fa G cf (.meth .update ta [tb])) := by
  refine (pe_bm PySem.F.plainAttrs_dict PySem.F.slot_dict_update PySem.F.type_dict_update (mt_upd (fa := fa)) ha (pa_cons hb pa_nil (star_of hs)) hbase (by rw [star_of hs]; rfl) hline (star_of hs) rfl).wk fun σ H Q ⟨W, st, env, u, st', S, R, h, k⟩ => ?_
  simp only [evE] at h
  obtain ⟨x, st1, h1, h⟩ := bind_ok h
  split at h
  · rename_i ok
    obtain ⟨us, st2, h2, h⟩ := bind_ok h
    simp only [evEs] at h2
    obtain ⟨y, st3, h3, h2⟩ := bind_ok h2
    cases h2
    obtain ⟨n, kvs, rfl, hk⟩ := trk_ok ok
    refine ⟨W, st, env, _, st1, S, R, h1, fun W1 H1 v l S1 r => ?_⟩
    obtain ⟨p, hp, rfl⟩ := r
    obtain ⟨zs, g1, g2, g3⟩ := S1.ob n p _ hp hk
    refine ⟨.inr (.inr (.inl ⟨rfl, .inl ⟨zs, g1⟩⟩)), W1, st1, env, y, _, S1, R.mono l.le, h3, fun W2 H2 v2 l2 S2 r2 => ?_⟩
    exact ⟨W2, _, .o n, [y], u, st', S2, ⟨p, l2.le.ix hp, rfl⟩, .cons r2 .nil, h, k.mono (l.trans l2)⟩
  · cases h
end
end PI
set_option Elab.async false
set_option linter.all false
set_option maxRecDepth 100000
set_option maxHeartbeats 4000000
/-! What loops walk; targets; list comprehensions. -/
namespace PI
open PySem PySem.Spec PyProof.Rows L2
theorem wipe_get {σ : L2.St} {i : Nat} : ∀ {vs : List Nat}, (wipe σ vs)[i]? = if i ∈ vs ∧ i < σ.length then some none else σ[i]?
  | [] => by simp [wipe]
  | v :: vs => by
    unfold wipe
    rw [List.getElem?_set, wipe_length, wipe_get (vs := vs)]
    by_cases h : v = i
    · subst h
      by_cases h2 : v < σ.length
      · simp [h2]
      · simp [h2, List.getElem?_eq_none (Nat.le_of_not_lt h2)]
    · have h' : ¬ i = v := fun e => h e.symm
      simp [h, h']
theorem wipe_eq {σ τ : L2.St} {vs : List Nat} (hl : τ.length = σ.length) (h : ∀ i, i ∉ vs → τ[i]? = σ[i]?) : wipe τ vs = wipe σ vs := by
  apply List.ext_getElem?
  intro i
  rw [wipe_get, wipe_get, hl]
  by_cases hi : i ∈ vs
  · by_cases h2 : i < σ.length
    · simp [hi, h2]
    · simp [h2, List.getElem?_eq_none (Nat.le_of_not_lt h2), List.getElem?_eq_none (show τ.length ≤ i by omega)]
  · simp [hi, h i hi]
section
variable (K : PySem.W.Frag) (fa : Fa)
/-- J walks these items while the sources stay as they are -/
structure Wlk (W0 : Wd) (us : List U) (st0 : Sto) (xs : List PyData) (J : It) : Prop where
  goes : ∀ i W H st, i < xs.length → Le W0 W → Sim K fa W st H → stays us st0 st = true → J.go i H
  stops : ∀ W H st, Le W0 W → Sim K fa W st H → stays us st0 st = true → J.stop xs.length H
  yields : ∀ i W H st v H', Le W0 W → Sim K fa W st H → stays us st0 st = true → i < xs.length → J.yld i H v H' → ∃ W' x, xs[i]? = some x ∧ Lx W H W' H' ∧ Sim K fa W' st H' ∧ Rp K W'.G v x
end
section
variable {K : PySem.W.Frag} {fa : Fa} {W W0 : Wd} {st st0 : Sto} {H : Hp} {v : V} {u : U} {us : List U}
theorem vw_stays (h : stays us st0 st = true) (hu : u ∈ us) : vw st u = vw st0 u := by
  unfold stays at h
  have := List.all_eq_true.mp h u hu
  cases u with
  | o n =>
    have e : st[n]? = st0[n]? := by simpa using this
    simp only [vw, e]
  | _ => rfl
theorem enumD_get : ∀ {ds : List PyData} {k i : Nat}, (enumD k ds)[i]? = (ds[i]?).map fun d => .tuple [.int ((k + i : Nat) : Int), d]
  | [], _, _ => by simp [enumD]
  | d :: r, k, 0 => by simp [enumD]
  | d :: r, k, i + 1 => by
    simp only [enumD, List.getElem?_cons_succ]
    rw [enumD_get]
    congr 2
    funext d
    rw [show k + 1 + i = k + (i + 1) by omega]
theorem enumD_length : ∀ {ds : List PyData} {k : Nat}, (enumD k ds).length = ds.length
  | [], _ => rfl
  | _ :: r, k => by simp [enumD, enumD_length (ds := r)]
theorem zipD_get : ∀ {xs ys : List PyData} {i : Nat}, (zipD xs ys)[i]? = (match xs[i]?, ys[i]? with
    | some x, some y => some (.tuple [x, y])
    | _, _ => none)
  | [], ys, i => by simp [zipD]
  | x :: r, [], i => by simp [zipD]
  | x :: r, y :: s, 0 => by simp [zipD]
  | x :: r, y :: s, i + 1 => by
    simp only [zipD, List.getElem?_cons_succ]
    exact zipD_get
theorem zipD_length : ∀ {xs ys : List PyData}, (zipD xs ys).length = min xs.length ys.length
  | [], ys => by simp [zipD]
  | x :: r, [] => by simp [zipD]
  | x :: r, y :: s => by simp [zipD, zipD_length (xs := r)]
theorem wlk_list {a : Addr} {ds : List PyData} (r : URp K fa W0 (.ref a) u) (h : vw st0 u = some (.list ds)) : Wlk K fa W0 [u] st0 ds (Itl K a) := by
  have look : ∀ {W : Wd} {H : Hp} {st : Sto}, Le W0 W → Sim K fa W st H → stays [u] st0 st = true → ∃ vs, SqL K H a vs ∧ RpL K W.G vs ds := fun {W H st} l S s => by
    obtain ⟨p, vs, e, h1, h2⟩ := view_of S (r.mono l) ((vw_stays s (by simp)).trans h)
    cases e
    exact ⟨vs, h1, h2⟩
  refine ⟨fun i W H st hi l S s => ?_, fun W H st l S s => ?_, fun i W H st v H' l S s hi y => ?_⟩
  · obtain ⟨vs, h1, h2⟩ := look l S s
    exact walk_list.goes i H (by rw [h2.length]; exact hi) h1
  · obtain ⟨vs, h1, h2⟩ := look l S s
    have := walk_list.stops H h1
    rw [h2.length] at this
    exact this
  · obtain ⟨vs, h1, h2⟩ := look l S s
    obtain ⟨rfl, y2⟩ := walk_list.yields i H v H' (by rw [h2.length]; exact hi) h1 y
    obtain ⟨v', g1, g2⟩ := h2.get (List.getElem?_eq_getElem hi)
    rw [y2] at g1
    cases g1
    exact ⟨W, ds[i], List.getElem?_eq_getElem hi, Lx.refl _ _, S, g2⟩
theorem wlk_tup {a : Addr} {ds : List PyData} (r : URp K fa W0 (.ref a) u) (h : vw st0 u = some (.tuple ds)) : Wlk K fa W0 [u] st0 ds (Itt K a) := by
  have look : ∀ {W : Wd} {H : Hp} {st : Sto}, Le W0 W → Sim K fa W st H → stays [u] st0 st = true → ∃ vs, SqT K H a vs ∧ RpL K W.G vs ds := fun {W H st} l S s => by
    obtain ⟨p, vs, e, h1, h2⟩ := view_of S (r.mono l) ((vw_stays s (by simp)).trans h)
    cases e
    exact ⟨vs, h1, h2⟩
  refine ⟨fun i W H st hi l S s => ?_, fun W H st l S s => ?_, fun i W H st v H' l S s hi y => ?_⟩
  · obtain ⟨vs, h1, h2⟩ := look l S s
    exact walk_tup.goes i H (by rw [h2.length]; exact hi) h1
  · obtain ⟨vs, h1, h2⟩ := look l S s
    have := walk_tup.stops H h1
    rw [h2.length] at this
    exact this
  · obtain ⟨vs, h1, h2⟩ := look l S s
    obtain ⟨rfl, y2⟩ := walk_tup.yields i H v H' (by rw [h2.length]; exact hi) h1 y
    obtain ⟨v', g1, g2⟩ := h2.get (List.getElem?_eq_getElem hi)
    rw [y2] at g1
    cases g1
    exact ⟨W, ds[i], List.getElem?_eq_getElem hi, Lx.refl _ _, S, g2⟩
theorem wlk_str {z : Str} : Wlk K fa W0 us st0 (z.cps.toList.map fun c => .str ⟨#[c]⟩) (Its z) := by
  refine ⟨fun i W H st hi l S s => walk_str.goes i H (by simpa using hi) trivial, fun W H st l S s => ?_, fun i W H st v H' l S s hi y => ?_⟩
  · have := walk_str (z := z).stops H trivial
    simpa using this
  · obtain ⟨rfl, c, hc, rfl⟩ := walk_str.yields i H v H' (by simpa using hi) trivial y
    exact ⟨W, .str ⟨#[c]⟩, by rw [List.getElem?_map, Array.getElem?_toList, hc]; rfl, Lx.refl _ _, S, .str _⟩
theorem wlk_range {lo : Int} {n : Nat} : Wlk K fa W0 us st0 ((List.range n).map fun i => .int (lo + (i : Nat))) (Itr lo n) := by
  refine ⟨fun i W H st hi l S s => walk_range.goes i H (by simpa using hi) trivial, fun W H st l S s => ?_, fun i W H st v H' l S s hi y => ?_⟩
  · have := walk_range (lo := lo) (n := n).stops H trivial
    simpa using this
  · have hi' : i < n := by simpa using hi
    obtain ⟨rfl, rfl⟩ := walk_range.yields i H v H' hi' trivial y
    exact ⟨W, .int (lo + i), by rw [List.getElem?_map, List.getElem?_range hi']; rfl, Lx.refl _ _, S, .int _⟩
/-- a source that is a list or a tuple -/
theorem src_of {v : V} {x : PyData} {ds : List PyData} (hx : x = .list ds ∨ x = .tuple ds) (r : URp K fa W0 v u) (h : vw st0 u = some x) (S0 : Sim K fa W0 st0 H) :
    ∃ sr, v = Sr.v sr ∧ ∀ {W : Wd} {H : Hp} {st : Sto}, Le W0 W → Sim K fa W st H → vw st u = vw st0 u → ∃ vs, SrAt K H sr vs ∧ RpL K W.G vs ds := by
  rcases hx with rfl | rfl
  · obtain ⟨p, vs, rfl, h1, h2⟩ := view_of S0 r h
    refine ⟨.l p, rfl, fun {W H st} l S s => ?_⟩
    obtain ⟨q, vs, e, h1, h2⟩ := view_of S (r.mono l) (s.trans h)
    cases e
    exact ⟨vs, h1, h2⟩
  · obtain ⟨p, vs, rfl, h1, h2⟩ := view_of S0 r h
    refine ⟨.t p, rfl, fun {W H st} l S s => ?_⟩
    obtain ⟨q, vs, e, h1, h2⟩ := view_of S (r.mono l) (s.trans h)
    cases e
    exact ⟨vs, h1, h2⟩
/-- .. or a text -/
theorem src_any {v : V} {x : PyData} {ds : List PyData} (hx : srcD x = some ds) (r : URp K fa W0 v u) (h : vw st0 u = some x) (S0 : Sim K fa W0 st0 H) :
    ∃ sr, v = Sr.v sr ∧ ∀ {W : Wd} {H : Hp} {st : Sto}, Le W0 W → Sim K fa W st H → vw st u = vw st0 u → ∃ vs, SrAt K H sr vs ∧ RpL K W.G vs ds := by
  cases x with
  | list xs => cases hx; exact src_of (.inl rfl) r h S0
  | tuple xs => cases hx; exact src_of (.inr rfl) r h S0
  | str x =>
    cases hx
    have e := view_of S0 r h
    cases e
    refine ⟨.s x, rfl, fun {W H st} l S s => ⟨signs x, rfl, ?_⟩⟩
    have : signs x = (x.cps.toList.map fun c => (⟨#[c]⟩ : Str)).map V.str := by unfold signs; rw [List.map_map]; rfl
    rw [this, show (x.cps.toList.map fun c => PyData.str ⟨#[c]⟩) = (x.cps.toList.map fun c => (⟨#[c]⟩ : Str)).map PyData.str by rw [List.map_map]; rfl]
    exact RpL.ofStrs _
  | _ => cases hx
theorem wlk_enum {sr : Sr} {ds : List PyData} (look : ∀ {W : Wd} {H : Hp} {st : Sto}, Le W0 W → Sim K fa W st H → vw st u = vw st0 u → ∃ vs, SrAt K H sr vs ∧ RpL K W.G vs ds) : Wlk K fa W0 [u] st0 (enumD 0 ds) (IteS K sr) := by
  refine ⟨fun i W H st hi l S s => ?_, fun W H st l S s => ?_, fun i W H st v H' l S s hi y => ?_⟩
  · obtain ⟨vs, h1, h2⟩ := look l S (vw_stays s (by simp))
    rw [enumD_length, ← h2.length] at hi
    exact ⟨vs, vs[i], h1, List.getElem?_eq_getElem hi⟩
  · obtain ⟨vs, h1, h2⟩ := look l S (vw_stays s (by simp))
    exact ⟨vs, h1, by rw [enumD_length, h2.length]⟩
  · obtain ⟨vs, h1, h2⟩ := look l S (vw_stays s (by simp))
    obtain ⟨Tp, x, rfl, hT, rfl, hx⟩ := y
    rw [enumD_length] at hi
    obtain ⟨v', g1, g2⟩ := h2.get (List.getElem?_eq_getElem hi)
    rw [hx vs h1] at g1
    cases g1
    obtain ⟨S1, l1⟩ := S.new (o := .tup [.int (i : Nat), x]) hT
    refine ⟨_, .tuple [.int (i : Nat), ds[i]], ?_, l1, S1, .tup (.inl (.inl upd_same)) (.cons (.int _) (.cons (g2.mono l1.le.g) .nil))⟩
    rw [enumD_get, List.getElem?_eq_getElem hi]
    simp
theorem wlk_zip {u2 : U} {sa sb : Sr} {ds es : List PyData} (look : ∀ {W : Wd} {H : Hp} {st : Sto}, Le W0 W → Sim K fa W st H → vw st u = vw st0 u → ∃ vs, SrAt K H sa vs ∧ RpL K W.G vs ds)
    (look2 : ∀ {W : Wd} {H : Hp} {st : Sto}, Le W0 W → Sim K fa W st H → vw st u2 = vw st0 u2 → ∃ vs, SrAt K H sb vs ∧ RpL K W.G vs es) : Wlk K fa W0 [u, u2] st0 (zipD ds es) (ItzS K sa sb) := by
  refine ⟨fun i W H st hi l S s => ?_, fun W H st l S s => ?_, fun i W H st v H' l S s hi y => ?_⟩
  · obtain ⟨vs, h1, h2⟩ := look l S (vw_stays s (by simp))
    obtain ⟨ws, h3, h4⟩ := look2 l S (vw_stays s (by simp))
    rw [zipD_length, ← h2.length, ← h4.length] at hi
    have i1 : i < vs.length := by omega
    have i2 : i < ws.length := by omega
    exact ⟨vs, ws, vs[i], ws[i], h1, h3, List.getElem?_eq_getElem i1, List.getElem?_eq_getElem i2⟩
  · obtain ⟨vs, h1, h2⟩ := look l S (vw_stays s (by simp))
    obtain ⟨ws, h3, h4⟩ := look2 l S (vw_stays s (by simp))
    rw [zipD_length, ← h2.length, ← h4.length]
    exact ⟨vs, ws, h1, h3, by omega, by omega, by omega⟩
  · obtain ⟨vs, h1, h2⟩ := look l S (vw_stays s (by simp))
    obtain ⟨ws, h3, h4⟩ := look2 l S (vw_stays s (by simp))
    obtain ⟨Tp, x, y, rfl, hT, rfl, hx, hy⟩ := y
    rw [zipD_length] at hi
    have i1 : i < ds.length := by omega
    have i2 : i < es.length := by omega
    obtain ⟨v', g1, g2⟩ := h2.get (List.getElem?_eq_getElem i1)
    obtain ⟨w', g3, g4⟩ := h4.get (List.getElem?_eq_getElem i2)
    rw [hx vs h1] at g1
    cases g1
    rw [hy ws h3] at g3
    cases g3
    obtain ⟨S1, l1⟩ := S.new (o := .tup [x, y]) hT
    refine ⟨_, .tuple [ds[i], es[i]], ?_, l1, S1, .tup (.inl (.inl upd_same)) (.cons (g2.mono l1.le.g) (.cons (g4.mono l1.le.g) .nil))⟩
    rw [zipD_get, List.getElem?_eq_getElem i1, List.getElem?_eq_getElem i2]
end
end PI
set_option Elab.async false
set_option linter.all false
set_option maxRecDepth 100000
set_option maxHeartbeats 4000000
/-! Iterables by the evaluator; targets; list comprehensions. -/
namespace PI
open PySem PySem.Spec PyProof.Rows L2
/-- what is walked, by the evaluator -/
def WI (X : Cx) (fa : Fa) (G : List U) (cf : Cf) (ik : Ik) (ts : List E) : TI := fun σ H R => ∃ W st env us st' xs, Sim X.K fa W st H ∧ EnvR X.K fa W env σ ∧ evEs G cf ts env st = .ok us st' ∧ items ik us st' = some xs ∧
  ∀ J W1 H1, Lx W H W1 H1 → Sim X.K fa W1 st' H1 → Wlk X.K fa W1 us st' xs J → R J H1
section
variable {X : Cx} {fa : Fa} {G : List U} {cf : Cf} {e a b c tg : Expr} {ta tb tc : E} {pos p : Pos} {es : List Expr} {ts : List E}
theorem evEs_len : ∀ {ts : List E} {env : Ev} {st st' : Sto} {us : List U}, evEs G cf ts env st = .ok us st' → us.length = ts.length
  | [], _, _, _, _, h => by cases h; rfl
  | t :: ts, _, _, _, _, h => by
    simp only [evEs] at h
    obtain ⟨x, st1, h1, h⟩ := bind_ok h
    obtain ⟨y, st2, h2, h⟩ := bind_ok h
    cases h
    simp [evEs_len h2]
theorem evEs1 {t : E} {env : Ev} {st st' : Sto} {us : List U} (h : evEs G cf [t] env st = .ok us st') : ∃ u, us = [u] ∧ evE G cf t env st = .ok u st' := by
  simp only [evEs] at h
  obtain ⟨x, st1, h1, h⟩ := bind_ok h
  cases h
  exact ⟨x, rfl, h1⟩
theorem i_val (ha : PE X a (RE X fa G cf ta)) : L2.PI X tg a (WI X fa G cf .val [ta]) := by
  refine ⟨fun pins s σ H R I ⟨W, st, env, us, st', xs, S, E0, h, hx, q⟩ => ?_⟩
  obtain ⟨u, rfl, h1⟩ := evEs1 h
  unfold items at hx
  split at hx
  · rename_i ds hv
    split at hx <;> first | cases hx | skip
    all_goals try (rename_i hk; cases hk; done)
    · rename_i xs0 _
      obtain ⟨u1, e1, h2⟩ := vws1 hv
      cases e1
      exact (pi_list ha).run pins s σ H R I ⟨W, st, env, u, st', S, E0, h1, fun W1 H1 v l S1 r => by
        obtain ⟨p, vs, rfl, g1, g2⟩ := view_of S1 r h2
        exact ⟨p, rfl, ⟨vs, g1⟩, q _ W1 H1 l S1 (wlk_list r h2)⟩⟩
    · rename_i xs0 _
      obtain ⟨u1, e1, h2⟩ := vws1 hv
      cases e1
      exact (pi_tup ha).run pins s σ H R I ⟨W, st, env, u, st', S, E0, h1, fun W1 H1 v l S1 r => by
        obtain ⟨p, vs, rfl, g1, g2⟩ := view_of S1 r h2
        exact ⟨p, rfl, ⟨vs, g1⟩, q _ W1 H1 l S1 (wlk_tup r h2)⟩⟩
    · rename_i z _
      obtain ⟨u1, e1, h2⟩ := vws1 hv
      cases e1
      exact (pi_str ha).run pins s σ H R I ⟨W, st, env, u, st', S, E0, h1, fun W1 H1 v l S1 r => by
        have vx := view_of S1 r h2
        cases vx
        exact ⟨z, rfl, q _ W1 H1 l S1 wlk_str⟩⟩
  · cases hx
theorem range0 {n : Nat} : ((List.range n).map fun i => PyData.int (0 + (i : Nat))) = (List.range n).map fun i => PyData.int (i : Nat) := by
  congr 1
  funext i
  simp
theorem i_range1 (hg : Gl X "range") (hm : X.mg "range" = none) (hs : notStar a = true) (ha : PE X a (RE X fa G cf ta)) : L2.PI X tg (.Call (.Name "range" p) [a] [] pos) (WI X fa G cf .range [ta]) := by
  refine ⟨fun pins s σ H R I ⟨W, st, env, us, st', xs, S, E0, h, hx, q⟩ => ?_⟩
  have hA : PA X [a] (REs X fa G cf [ta]) := a_cons hs ha a_nil
  have hx' : ∃ n, vws st' us = some [.int n] ∧ (-100000000 ≤ n ∧ n ≤ 100000000) ∧ xs = (List.range n.toNat).map fun i => .int (i : Nat) := by
    obtain ⟨u, rfl, _⟩ := evEs1 h
    unfold items at hx
    split at hx
    · rename_i ds hv
      have hr : rangeD ds = some xs := hx
      unfold rangeD at hr
      split at hr
      · rename_i n
        split at hr
        · rename_i hn
          simp only [Option.some.injEq] at hr
          exact ⟨n, hv, hn, hr.symm⟩
        · cases hr
      · obtain ⟨_, _, e, _⟩ := vws2 hv
        cases e
      · cases hr
    · cases hx
  obtain ⟨n, hv, hn, rfl⟩ := hx'
  refine (pi_range1 hg hm hA (star_of hs)).run pins s σ H R I ⟨W, st, env, us, st', S, E0, h, fun W1 H1 vs l S1 r => ?_⟩
  obtain ⟨u, rfl, hu⟩ := vws1 hv
  obtain ⟨v, rfl, r1⟩ := r.one
  have vx := view_of S1 r1 hu
  cases vx
  refine ⟨n, rfl, by omega, by omega, q _ W1 H1 l S1 ?_⟩
  rw [← range0]
  exact wlk_range
theorem i_range2 (hg : Gl X "range") (hm : X.mg "range" = none) (hs : notStar a = true) (hs2 : notStar b = true) (ha : PE X a (RE X fa G cf ta)) (hb : PE X b (RE X fa G cf tb)) : L2.PI X tg (.Call (.Name "range" p) [a, b] [] pos) (WI X fa G cf .range [ta, tb]) := by
  refine ⟨fun pins s σ H R I ⟨W, st, env, us, st', xs, S, E0, h, hx, q⟩ => ?_⟩
  have hA : PA X [a, b] (REs X fa G cf [ta, tb]) := a_cons hs ha (a_cons hs2 hb a_nil)
  have hx' : ∃ n m, vws st' us = some [.int n, .int m] ∧ ((-100000000 ≤ n ∧ n ≤ 100000000) ∧ -100000000 ≤ m ∧ m ≤ 100000000) ∧ xs = (List.range (m - n).toNat).map fun i => .int (n + (i : Nat)) := by
    unfold items at hx
    split at hx
    · rename_i ds hv
      have hr : rangeD ds = some xs := hx
      unfold rangeD at hr
      split at hr
      · obtain ⟨u, e, _⟩ := vws1 hv
        subst e
        have hl := evEs_len h
        simp at hl
      · rename_i n m
        split at hr
        · rename_i hn
          simp only [Option.some.injEq] at hr
          exact ⟨n, m, hv, hn, hr.symm⟩
        · cases hr
      · cases hr
    · cases hx
  obtain ⟨n, m, hv, hn, rfl⟩ := hx'
  refine (pi_range2 hg hm hA (by rw [star_of hs, star_of hs2]; rfl) (star_of hs2)).run pins s σ H R I ⟨W, st, env, us, st', S, E0, h, fun W1 H1 vs l S1 r => ?_⟩
  obtain ⟨u, w, rfl, hu, hw⟩ := vws2 hv
  obtain ⟨v, v2, rfl, r1, r2⟩ := r.two
  have vx := view_of S1 r1 hu
  have vy := view_of S1 r2 hw
  cases vx; cases vy
  exact ⟨n, m, rfl, ⟨by omega, by omega, by omega, by omega⟩, q _ W1 H1 l S1 wlk_range⟩
theorem i_enum {elts : List Expr} {k0 : Nat} {tpos : Pos} (hg : Gl X "enumerate") (hm : X.mg "enumerate" = none) (hs : notStar a = true) (ha : PE X a (RE X fa G cf ta)) : L2.PI X (.Tuple elts k0 tpos) (.Call (.Name "enumerate" p) [a] [] pos) (WI X fa G cf .enum [ta]) := by
  refine ⟨fun pins s σ H R I ⟨W, st, env, us, st', xs, S, E0, h, hx, q⟩ => ?_⟩
  have hA : PA X [a] (REs X fa G cf [ta]) := a_cons hs ha a_nil
  have hx' : ∃ x ds, vws st' us = some [x] ∧ (x = .list ds ∨ x = .tuple ds) ∧ xs = enumD 0 ds := by
    unfold items at hx
    split at hx
    · rename_i zs hv
      split at hx <;> first | cases hx | skip
      all_goals try (rename_i hk; cases hk; done)
      all_goals first | exact ⟨_, _, hv, .inl rfl, rfl⟩ | exact ⟨_, _, hv, .inr rfl, rfl⟩
    · cases hx
  obtain ⟨x, ds, hv, hxd, rfl⟩ := hx'
  obtain ⟨u, rfl, hu⟩ := vws1 hv
  refine (pi_enumS hg hm hA (star_of hs)).run pins s σ H R I ⟨W, st, env, [u], st', S, E0, h, fun W1 H1 vs l S1 r => ?_⟩
  obtain ⟨v, rfl, r1⟩ := r.one
  obtain ⟨sr, rfl, look⟩ := src_of hxd r1 hu S1
  obtain ⟨ws, g1, g2⟩ := look (Le.refl _) S1 rfl
  exact ⟨sr, ws, rfl, g1, q _ W1 H1 l S1 (wlk_enum look)⟩
theorem i_zip {elts : List Expr} {k0 : Nat} {tpos : Pos} (hg : Gl X "zip") (hm : X.mg "zip" = none) (hs : notStar a = true) (hs2 : notStar b = true) (ha : PE X a (RE X fa G cf ta)) (hb : PE X b (RE X fa G cf tb)) :
    L2.PI X (.Tuple elts k0 tpos) (.Call (.Name "zip" p) [a, b] [] pos) (WI X fa G cf .zip [ta, tb]) := by
  refine ⟨fun pins s σ H R I ⟨W, st, env, us, st', xs, S, E0, h, hx, q⟩ => ?_⟩
  have hA : PA X [a, b] (REs X fa G cf [ta, tb]) := a_cons hs ha (a_cons hs2 hb a_nil)
  have hx' : ∃ x y ds es, vws st' us = some [x, y] ∧ srcD x = some ds ∧ srcD y = some es ∧ xs = zipD ds es := by
    unfold items at hx
    split at hx
    · rename_i zs hv
      split at hx <;> first | cases hx | skip
      all_goals try (rename_i hk; cases hk; done)
      split at hx
      · rename_i q1 q2
        cases hx
        exact ⟨_, _, _, _, hv, q1, q2, rfl⟩
      · cases hx
    · cases hx
  obtain ⟨x, y, ds, es', hv, hxd, hyd, rfl⟩ := hx'
  obtain ⟨u, w, rfl, hu, hw⟩ := vws2 hv
  refine (pi_zipS hg hm hA (by rw [star_of hs, star_of hs2]; rfl) (star_of hs2)).run pins s σ H R I ⟨W, st, env, [u, w], st', S, E0, h, fun W1 H1 vs l S1 r => ?_⟩
  obtain ⟨v, v2, rfl, r1, r2⟩ := r.two
  obtain ⟨sa, rfl, look⟩ := src_any hxd r1 hu S1
  obtain ⟨sb, rfl, look2⟩ := src_any hyd r2 hw S1
  obtain ⟨ws, g1, g2⟩ := look (Le.refl _) S1 rfl
  obtain ⟨zs, g3, g4⟩ := look2 (Le.refl _) S1 rfl
  exact ⟨sa, sb, ws, zs, rfl, g1, g3, q _ W1 H1 l S1 (wlk_zip look look2)⟩
end
/-! ### targets -/
def tgSlots : Tg → List Nat
  | .one i => [i]
  | .tup is => is
  | .two i is => i :: is
def gNames : List Nat → TGs
  | [] => gNil
  | i :: r => gCons (gName i) (gNames r)
def gT (K : PySem.W.Frag) : Tg → TG
  | .one i => gName i
  | .tup is => gTup K is.length (gNames is)
  | .two i is => gTup K 2 (gCons (gName i) (gCons (gTup K is.length (gNames is)) gNil))
theorem setS_len {env1 : Ev} : ∀ {is : List Nat} {xs : List PyData} {env : Ev}, setS env is xs = some env1 → xs.length = is.length
  | [], [], _, _ => rfl
  | [], _ :: _, _, h => by simp [setS] at h
  | _ :: _, [], _, h => by simp [setS] at h
  | i :: is, x :: xs, env, h => by
    simp only [setS] at h
    simp [setS_len h]
section
variable {K : PySem.W.Frag} {fa : Fa} {W : Wd} {st : Sto} {H : Hp} {σ : L2.St} {env env1 : Ev}
/-- slots outside these are as they were -/
def SameOut (is : List Nat) (σ τ : L2.St) : Prop := τ.length = σ.length ∧ ∀ i : Nat, i ∉ is → τ[i]? = σ[i]?
theorem names_of {Q : L2.St → Hp → Prop} : ∀ {is : List Nat} {vs : List V} {xs : List PyData} {σ : L2.St} {env : Ev}, RpL K W.G vs xs → setS env is xs = some env1 → EnvR K fa W env σ →
    (∀ τ, EnvR K fa W env1 τ → SameOut is σ τ → Q τ H) → gNames is vs σ H Q
  | [], _, _, _, _, .nil, h, E0, k => by
    simp only [setS, Option.some.injEq] at h
    subst h
    exact ⟨rfl, k _ E0 ⟨rfl, fun _ _ => rfl⟩⟩
  | [], _, _, _, _, .cons _ _, h, _, _ => by simp [setS] at h
  | i :: is, _, _, _, _, .nil, h, _, _ => by simp [setS] at h
  | i :: is, _, _, σ, env, .cons (v := v) r t, h, E0, k => by
    simp only [setS] at h
    refine ⟨v, _, rfl, names_of t h (E0.set (show URp K fa W v (.d _) from r)) fun τ Eτ so => k τ Eτ ⟨by rw [so.1, List.length_set], fun j hj => ?_⟩⟩
    simp only [List.mem_cons, not_or] at hj
    rw [so.2 j hj.2, List.getElem?_set_ne (fun e => hj.1 e.symm)]
theorem tg_of {tg : Tg} {x : PyData} {v : V} {Q : L2.St → Hp → Prop} (S : Sim K fa W st H) (r : Rp K W.G v x) (h : bindTg tg x env = some env1) (E0 : EnvR K fa W env σ)
    (k : ∀ τ, EnvR K fa W env1 τ → SameOut (tgSlots tg) σ τ → Q τ H) : gT K tg v σ H Q := by
  cases tg with
  | one i =>
    simp only [bindTg, Option.some.injEq] at h
    subst h
    refine k _ (E0.set (show URp K fa W v (.d x) from r)) ⟨List.length_set, fun j hj => ?_⟩
    simp only [tgSlots, List.mem_singleton] at hj
    exact List.getElem?_set_ne (fun e => hj e.symm)
  | tup is =>
    simp only [bindTg] at h
    split at h
    · rename_i xs
      obtain ⟨p, vs, rfl, g1, g2⟩ := (r.view S.sub).view
      exact ⟨p, vs, rfl, g1, by rw [g2.length, setS_len h], names_of g2 h E0 k⟩
    · cases h
  | two i is =>
    simp only [bindTg] at h
    split at h
    · rename_i y xs
      obtain ⟨p, vs, rfl, g1, g2⟩ := (r.view S.sub).view
      cases g2 with
      | cons r1 t1 =>
        cases t1 with
        | cons r2 t2 =>
          cases t2
          obtain ⟨q, ws, rfl, g3, g4⟩ := (r2.view S.sub).view
          refine ⟨p, _, rfl, g1, rfl, _, _, rfl, _, _, rfl, ⟨q, ws, rfl, g3, by rw [g4.length, setS_len h], ?_⟩⟩
          refine names_of g4 h (E0.set (show URp K fa W _ (.d y) from r1)) fun τ Eτ so => ⟨rfl, k τ Eτ ⟨by rw [so.1, List.length_set], fun j hj => ?_⟩⟩
          simp only [tgSlots, List.mem_cons, not_or] at hj
          rw [so.2 j hj.2, List.getElem?_set_ne (fun e => hj.1 e.symm)]
    · cases h
end
end PI
set_option Elab.async false
set_option linter.all false
set_option maxRecDepth 100000
set_option maxHeartbeats 4000000
/-! List comprehensions. -/
namespace PI
open PySem PySem.Spec PyProof.Rows L2
section
variable {K : PySem.W.Frag} {fa : Fa} {W W1 W' : Wd} {st : Sto} {H H1 H' : Hp} {σ τ : L2.St} {env env1 : Ev}
theorem EnvR.wiped {vs : List Nat} (E0 : EnvR K fa W env σ) : EnvR K fa W (vs.foldr (fun i e => e.set i none) env) (wipe σ vs) := by
  refine ⟨?_, fun i u e => ?_⟩
  · rw [wipe_length]
    induction vs with
    | nil => exact E0.len
    | cons v vs ih => simpa using ih
  · have hg : ∀ (vs : List Nat) (env : Ev) (i : Nat) (u : U), (vs.foldr (fun i e => e.set i none) env)[i]? = some (some u) → i ∉ vs ∧ env[i]? = some (some u) := by
      intro vs
      induction vs with
      | nil => intro env i u h; exact ⟨by simp, h⟩
      | cons v vs ih =>
        intro env i u h
        simp only [List.foldr_cons] at h
        by_cases hv : v = i
        · subst hv
          by_cases hl : v < (vs.foldr (fun i e => e.set i none) env).length
          · rw [List.getElem?_set_self hl] at h; cases h
          · rw [List.getElem?_eq_none (by simpa using Nat.le_of_not_lt hl)] at h; cases h
        · rw [List.getElem?_set_ne hv] at h
          obtain ⟨h1, h2⟩ := ih env i u h
          exact ⟨by simp only [List.mem_cons, not_or]; exact ⟨fun e => hv e.symm, h1⟩, h2⟩
    obtain ⟨h1, h2⟩ := hg vs env i u e
    obtain ⟨v, h3, h4⟩ := E0.at_ i u h2
    refine ⟨v, ?_, h4⟩
    rw [wipe_get]
    simp [h1, h3]
theorem Lx.adopt (l : Lx W1 H1 W' H') {D : Addr} (hD : H1 D = none) : Lx W1 H1 ⟨W'.G, W'.iot ++ [D]⟩ H' :=
  ⟨l.le.trans ⟨fun _ _ e => e, [D], rfl⟩, fun a o e n g => let ⟨e1, n1, g1⟩ := l.keep a o e n g; ⟨e1, fun m => (List.mem_append.mp m).elim n1 fun z => ne_of_none e hD (by simpa using z), g1⟩⟩
theorem Lx.kept (l : Lx W1 H1 W' H') {D : Addr} {o : HO} (hD : H1 D = none) (hg : W'.G D = none) : Lx W1 H1 ⟨upd W'.G D o, W'.iot⟩ H' :=
  ⟨l.le.trans ⟨same_upd hg, [], by simp⟩, fun a u e n g => let ⟨e1, n1, g1⟩ := l.keep a u e n g; ⟨e1, n1, by show upd W'.G D o a = none; rw [upd_ne (ne_of_none e hD)]; exact g1⟩⟩
/-- a list that was laid ahead comes to be known -/
theorem mkL_adopt {m : Bool} {us : List U} {vs : List V} {u : U} {st' : Sto} {Q : VK} {D : Addr} (h : mkL m us st = .ok u st') (S : Sim K fa W' st H') (l : Lx W1 H1 W' H') (hD : H1 D = none) (h1 : H' D = some (.lst vs)) (h2 : D ∉ W'.iot) (h3 : W'.G D = none)
    (r : UL K fa W' vs us) (k : Kt K fa W1 H1 st' u Q) : Q (.ref D) H' := by
  obtain ⟨hz, ⟨rfl, rfl, rfl⟩ | ⟨rfl, ds, hd, rfl, rfl⟩⟩ := mkL_ok h
  · refine k _ _ _ (l.adopt hD) (S.adopt (b := .lst us) (by rw [h1]; simp) h2 ⟨vs, h1, h3, r.mono ⟨fun _ _ e => e, [D], rfl⟩⟩) ⟨D, ?_, rfl⟩
    show (W'.iot ++ [D])[st.length]? = some D
    rw [← S.len, List.getElem?_append_right (Nat.le_refl _)]; simp
  · exact k _ _ _ (l.kept (o := .lst vs) hD h3) (S.keep h1 h2 h3) (.lst upd_same ((r.data hd).mono (same_upd h3)))
end
theorem setS_out : ∀ {is : List Nat} {xs : List PyData} {env envB env1 : Ev}, setS env is xs = some env1 → envB.length = env.length → (∀ j : Nat, j ∉ is → envB[j]? = env[j]?) → setS envB is xs = some env1
  | [], [], env, envB, env1, h, hl, ho => by
    simp only [setS, Option.some.injEq] at h ⊢
    rw [← h]
    exact List.ext_getElem? fun j => ho j (by simp)
  | [], _ :: _, _, _, _, h, _, _ => by simp [setS] at h
  | _ :: _, [], _, _, _, h, _, _ => by simp [setS] at h
  | i :: is, x :: xs, env, envB, env1, h, hl, ho => by
    simp only [setS] at h ⊢
    refine setS_out h (by simp [hl]) fun j hj => ?_
    rw [List.getElem?_set, List.getElem?_set, hl]
    by_cases e : i = j
    · simp [e]
    · rw [if_neg e, if_neg e]
      exact ho j (by simp only [List.mem_cons, not_or]; exact ⟨fun z => e z.symm, hj⟩)
theorem wiped_len : ∀ (vs : List Nat) (env : Ev), (vs.foldr (fun i e => e.set i none) env).length = env.length
  | [], _ => rfl
  | v :: vs, env => by simp only [List.foldr_cons, List.length_set]; exact wiped_len vs env
theorem wiped_out : ∀ (vs : List Nat) (env : Ev) (j : Nat), j ∉ vs → (vs.foldr (fun i e => e.set i none) env)[j]? = env[j]?
  | [], _, _, _ => rfl
  | v :: vs, env, j, h => by
    simp only [List.mem_cons, not_or] at h
    simp only [List.foldr_cons]
    rw [List.getElem?_set_ne (fun e => h.1 e.symm)]
    exact wiped_out vs env j h.2
theorem bind_wiped {tg : Tg} {x : PyData} {env env1 : Ev} (h : bindTg tg x env = some env1) : bindTg tg x ((tgSlots tg).foldr (fun i e => e.set i none) env) = some env1 := by
  cases tg with
  | one i =>
    simp only [bindTg, tgSlots, List.foldr_cons, List.foldr_nil, Option.some.injEq] at h ⊢
    rw [← h, List.set_set]
  | tup is =>
    simp only [bindTg] at h ⊢
    split at h
    · exact setS_out h (wiped_len _ _) (wiped_out is env)
    · cases h
  | two i is =>
    simp only [bindTg] at h ⊢
    split at h
    · simp only [tgSlots, List.foldr_cons, List.set_set]
      refine setS_out h (by simp only [List.length_set]; exact wiped_len is env) fun j hj => ?_
      rw [List.getElem?_set, List.getElem?_set, wiped_len is env]
      by_cases e : i = j
      · simp [e]
      · rw [if_neg e, if_neg e]
        exact wiped_out is env j hj
    · cases h
section
variable {X : Cx} {fa : Fa} {G : List U} {cf : Cf}
abbrev RTs (X : Cx) (fa : Fa) (G : List U) (cf : Cf) (t : List E) : TT := rTs X.K fa G cf t
theorem compL_head {g : Sto → Bool} {f : PyData → Sto → O (Option U)} {xs : List PyData} {st st' : Sto} {us : List U} (h : compL g f xs st = .ok us st') : g st = true := by
  cases xs with
  | nil => simp only [compL] at h; split at h <;> first | assumption | cases h
  | cons x r => simp only [compL] at h; split at h <;> first | assumption | cases h
/-- the reading of a comprehension -/
theorem comp_of {m : Bool} {elt : E} {tg : Tg} {ik : Ik} {ts ifs : List E} {σ : L2.St} {H : Hp} {Q : VK} (h : RE X fa G cf (.comp m elt tg ik ts ifs) σ H Q) :
    tLc (WI X fa G cf ik ts) (gT X.K tg) (RTs X fa G cf ifs) (RE X fa G cf elt) (tgSlots tg) σ H Q := by
  obtain ⟨W, st, env, u, st', S, E0, h, k⟩ := h
  simp only [evE] at h
  obtain ⟨us, st1, h1, h⟩ := bind_ok h
  split at h
  · rename_i xs hx
    obtain ⟨vsA, stE, hc, hm⟩ := bind_ok h
    refine ⟨W, st, env, us, st1, xs, S, E0, h1, hx, fun J W1 H1 l S1 wl D hD => ?_⟩
    have hlim : vsA.length ≤ lim := (mkL_ok hm).1
    generalize hf : (fun x s => match bindTg tg x env with
        | some env1 => (evTs G cf ifs env1 s).bind fun b s1 => if b = true then (evE G cf elt env1 s1).bind fun u s2 => O.ok (some u) s2 else O.ok none s1
        | none => O.bad : PyData → Sto → O (Option U)) = f at hc
    let P : Nat → Hp → Prop := fun i H' => ∃ W' st2 acc au rest, Lx W1 H1 W' H' ∧ D ∉ W'.iot ∧ W'.G D = none ∧ H' D = some (.lst acc) ∧ Sim X.K fa W' st2 H' ∧ UL X.K fa W' acc au ∧
      compL (fun s => stays us st1 s) f (xs.drop i) st2 = .ok rest stE ∧ au ++ rest = vsA
    refine ⟨fun i m H' => m = xs.length - i ∧ i ≤ xs.length ∧ P i H', ⟨xs.length, by simp, Nat.zero_le _, ?_⟩, ?_⟩
    · refine ⟨W1, st1, [], [], vsA, (Lx.refl W1 H1).loose hD, S1.notin hD, S1.free hD, upd_same, S1.loose (S1.notin hD) (S1.free hD), .nil, hc, rfl⟩
    · rintro i m H' ⟨rfl, hi, W', st2, acc, au, rest, l1, dn, dg, dh, S2, ua, hr, ha⟩
      have sty := compL_head hr
      by_cases hlt : i < xs.length
      · refine .inr ⟨wl.goes i W' H' st2 hlt l1.le S2 sty, P (i + 1), fun H'' p => ⟨xs.length - (i + 1), by omega, rfl, hlt, p⟩, fun v H2 y => ?_⟩
        obtain ⟨W2, x, hx2, l2, S3, rx⟩ := wl.yields i W' H' st2 v H2 l1.le S2 sty hlt y
        rw [List.drop_eq_getElem_cons hlt] at hr
        have ex : xs[i] = x := by rw [List.getElem?_eq_getElem hlt] at hx2; exact Option.some.inj hx2
        rw [ex] at hr
        simp only [compL, sty, if_true] at hr
        obtain ⟨ou, st3, h3, hr2⟩ := bind_ok hr
        obtain ⟨us2, st4, h4, hr3⟩ := bind_ok hr2
        clear hr hr2
        subst hf
        simp only at h3
        split at h3
        · rename_i env1 hb
          obtain ⟨b, st5, h5, h3⟩ := bind_ok h3
          have E1 := (E0.mono ((l.trans l1).trans l2).le).wiped (vs := tgSlots tg)
          refine tg_of S3 rx (bind_wiped hb) E1 fun τ Eτ so => ⟨?_, ?_⟩
          · rw [wipe_eq so.1 so.2]
            exact wipe_eq (wipe_length _ _) fun j hj => by rw [wipe_get]; simp [hj]
          · refine ⟨W2, st2, env1, b, st5, S3, Eτ, h5, fun W3 H3 l3 S4 => ?_⟩
            cases b with
            | true =>
              simp only [if_true] at h3 ⊢
              obtain ⟨u0, st6, h6, h3⟩ := bind_ok h3
              cases h3
              refine ⟨W3, st5, env1, u0, st3, S4, Eτ.mono l3.le, h6, fun W4 H4 yv l4 S5 ry => ?_⟩
              have lk := (l2.trans l3).trans l4
              obtain ⟨d1, d2, d3⟩ := lk.keep D _ dh dn dg
              cases hr3
              have e1 : au ++ (u0 :: us2) = (au ++ [u0]) ++ us2 := by simp
              rw [e1] at ha
              refine ⟨acc, d1, ?_, W4, st3, acc ++ [yv], au ++ [u0], us2, (l1.trans lk).loose hD, d2, d3, upd_same, S5.loose d2 d3, (ua.mono lk.le).append (.cons ry .nil), h4, ha⟩
              have e2 : (au ++ [u0] ++ us2).length = vsA.length := by rw [ha]
              have e3 := ua.length
              simp only [List.length_append, List.length_cons, List.length_nil] at e2
              exact Nat.lt_of_lt_of_le (by omega) (Nat.le_trans hlim lim_le)
            | false =>
              simp only [Bool.false_eq_true, if_false] at h3 ⊢
              cases h3
              have lk := l2.trans l3
              obtain ⟨d1, d2, d3⟩ := lk.keep D _ dh dn dg
              cases hr3
              exact ⟨W3, st3, acc, au, rest, l1.trans lk, d2, d3, d1, S4, ua.mono lk.le, h4, ha⟩
        · cases h3
      · have e : i = xs.length := by omega
        subst e
        refine .inl ⟨wl.stops W' H' st2 l1.le S2 sty, ?_⟩
        rw [List.drop_length] at hr
        simp only [compL, sty, if_true] at hr
        cases hr
        rw [List.append_nil] at ha
        subst ha
        exact mkL_adopt hm S2 l1 hD dh dn dg ua (k.mono l)
  · cases h
end
end PI
set_option Elab.async false
set_option linter.all false
set_option maxRecDepth 100000
set_option maxHeartbeats 4000000
/-! Statements. -/
namespace PI
open PySem PySem.Spec PyProof.Rows L2
section
variable (K : PySem.W.Frag) (fa : Fa)
def KtS (W : Wd) (H : Hp) (st : Sto) (fl : Fl) (D : Ends) : Prop := match fl with
  | .nx e => ∀ W' H' σ', Lx W H W' H' → Sim K fa W' st H' → EnvR K fa W' e σ' → D.nx σ' H'
  | .rt u => ∀ W' H' v, Lx W H W' H' → Sim K fa W' st H' → URp K fa W' v u → D.rt v H'
  | .bk e => ∀ W' H' σ', Lx W H W' H' → Sim K fa W' st H' → EnvR K fa W' e σ' → D.bk σ' H'
  | .ct e => ∀ W' H' σ', Lx W H W' H' → Sim K fa W' st H' → EnvR K fa W' e σ' → D.ct σ' H'
variable (G : List U) (cf : Cf)
def rS (t : S) : TS := fun D σ H => ∃ W st env fl st', Sim K fa W st H ∧ EnvR K fa W env σ ∧ evS G cf t env st = .ok fl st' ∧ KtS K fa W H st' fl D
def rSs (t : List S) : TS := fun D σ H => ∃ W st env fl st', Sim K fa W st H ∧ EnvR K fa W env σ ∧ evSs G cf t env st = .ok fl st' ∧ KtS K fa W H st' fl D
end
theorem KtS.mono {K : PySem.W.Frag} {fa : Fa} {W W' : Wd} {H H' : Hp} {st : Sto} {D : Ends} : ∀ {fl : Fl}, KtS K fa W H st fl D → Lx W H W' H' → KtS K fa W' H' st fl D
  | .nx _, k, l => fun W2 H2 s l2 => k W2 H2 s (l.trans l2)
  | .rt _, k, l => fun W2 H2 s l2 => k W2 H2 s (l.trans l2)
  | .bk _, k, l => fun W2 H2 s l2 => k W2 H2 s (l.trans l2)
  | .ct _, k, l => fun W2 H2 s l2 => k W2 H2 s (l.trans l2)
theorem _root_.L2.PS.wk {X : Cx} {s : Stmt} {t t' : TS} (h : PS X s t) (i : ∀ D σ H, t' D σ H → t D σ H) : PS X s t' := ⟨fun pins s σ H D I q => h.run pins s σ H D I (i D σ H q)⟩
theorem _root_.L2.PSs.wk {X : Cx} {s : List Stmt} {t t' : TS} (h : PSs X s t) (i : ∀ D σ H, t' D σ H → t D σ H) : PSs X s t' := ⟨fun pins s σ H D I q => h.run pins s σ H D I (i D σ H q)⟩
section
variable {X : Cx} {fa : Fa} {G : List U} {cf : Cf} {e a b c tg : Expr} {ta tb tc : E} {pos p : Pos} {es : List Expr} {ts : List E} {s : Stmt} {ss : List Stmt} {t : S} {q q2 : List S}
abbrev RS (X : Cx) (fa : Fa) (G : List U) (cf : Cf) (t : S) : TS := rS X.K fa G cf t
abbrev RSs (X : Cx) (fa : Fa) (G : List U) (cf : Cf) (t : List S) : TS := rSs X.K fa G cf t
theorem s_set {i : Nat} {x : Str} {p' : Pos} (hN : X.N.Nodup) (hi : X.N[i]? = some x) (hx : Loc X.env.scope x) (he : PE X e (RE X fa G cf ta)) (hs : swapsWith e (some (.Name x p')) pos.line X.env = pure false) (hf : X.fn x = true ∨ X.env.scope.names.lookup x = some .local) :
    PS X (.Assign [.Name x p'] e pos) (RS X fa G cf (.set i ta)) := by
  refine (ps_set hN hi hx he hs hf).wk fun D σ H ⟨W, st, env, fl, st', S0, E0, h, k⟩ => ?_
  simp only [evS] at h
  obtain ⟨u, st1, h1, h⟩ := bind_ok h
  cases h
  exact ⟨W, st, env, u, _, S0, E0, h1, fun W1 H1 v l S1 r => k W1 H1 _ l S1 ((E0.mono l.le).set r)⟩
theorem s_ret (he : PE X e (RE X fa G cf ta)) : PS X (.Return (some e) pos) (RS X fa G cf (.ret ta)) := by
  refine (ps_ret he).wk fun D σ H ⟨W, st, env, fl, st', S0, E0, h, k⟩ => ?_
  simp only [evS] at h
  obtain ⟨u, st1, h1, h⟩ := bind_ok h
  cases h
  exact ⟨W, st, env, u, _, S0, E0, h1, fun W1 H1 v l S1 r => k W1 H1 _ l S1 r⟩
theorem s_retN : PS X (.Return none pos) (RS X fa G cf .retN) := by
  refine ps_retN.wk fun D σ H ⟨W, st, env, fl, st', S0, E0, h, k⟩ => ?_
  cases h
  exact k W H _ (Lx.refl _ _) S0 .non
theorem s_pass : PS X (.Pass pos) (RS X fa G cf .pass) := by
  refine ps_pass.wk fun D σ H ⟨W, st, env, fl, st', S0, E0, h, k⟩ => ?_
  cases h
  exact k W H _ (Lx.refl _ _) S0 E0
theorem s_brk : PS X (.Break pos) (RS X fa G cf .brk) := by
  refine ps_break.wk fun D σ H ⟨W, st, env, fl, st', S0, E0, h, k⟩ => ?_
  cases h
  exact k W H _ (Lx.refl _ _) S0 E0
theorem s_cont : PS X (.Continue pos) (RS X fa G cf .cont) := by
  refine ps_continue.wk fun D σ H ⟨W, st, env, fl, st', S0, E0, h, k⟩ => ?_
  cases h
  exact k W H _ (Lx.refl _ _) S0 E0
theorem s_rais : PS X s (RS X fa G cf .rais) := by
  refine ps_never.wk fun D σ H ⟨W, st, env, fl, st', S0, E0, h, k⟩ => ?_
  cases h
theorem s_exp (he : PE X e (RE X fa G cf ta)) (hs : swapsWith e none pos.line X.env = pure false) : PS X (.Expr e pos) (RS X fa G cf (.exp ta)) := by
  refine (ps_expr he hs).wk fun D σ H ⟨W, st, env, fl, st', S0, E0, h, k⟩ => ?_
  simp only [evS] at h
  obtain ⟨u, st1, h1, h⟩ := bind_ok h
  cases h
  exact ⟨W, st, env, u, _, S0, E0, h1, fun W1 H1 v l S1 r => k W1 H1 _ l S1 (E0.mono l.le)⟩
theorem ss_nil : PSs X [] (RSs X fa G cf []) := by
  refine pss_nil.wk fun D σ H ⟨W, st, env, fl, st', S0, E0, h, k⟩ => ?_
  cases h
  exact k W H _ (Lx.refl _ _) S0 E0
theorem ss_cons (h1 : PS X s (RS X fa G cf t)) (h2 : PSs X ss (RSs X fa G cf q)) : PSs X (s :: ss) (RSs X fa G cf (t :: q)) := by
  refine (pss_cons h1 h2).wk fun D σ H ⟨W, st, env, fl, st', S0, E0, h, k⟩ => ?_
  simp only [evSs] at h
  obtain ⟨f1, st1, h1, h⟩ := bind_ok h
  refine ⟨W, st, env, f1, st1, S0, E0, h1, ?_⟩
  cases f1 with
  | nx e1 => exact fun W1 H1 σ1 l S1 E1 => ⟨W1, st1, e1, fl, st', S1, E1, h, k.mono l⟩
  | rt u => cases h; exact k
  | bk e1 => cases h; exact k
  | ct e1 => cases h; exact k
theorem s_if (hc : PT X c (RT X fa G cf tc)) (ha : PSs X ss (RSs X fa G cf q)) {ss2 : List Stmt} (hb : PSs X ss2 (RSs X fa G cf q2)) : PS X (.If c ss ss2 pos) (RS X fa G cf (.ifs tc q q2)) := by
  refine (ps_if hc ha hb).wk fun D σ H ⟨W, st, env, fl, st', S0, E0, h, k⟩ => ?_
  simp only [evS] at h
  obtain ⟨b, st1, h1, h⟩ := bind_ok h
  refine ⟨W, st, env, b, st1, S0, E0, h1, fun W1 H1 l S1 => ?_⟩
  cases b with
  | true => exact ⟨W1, st1, env, fl, st', S1, E0.mono l.le, h, k.mono l⟩
  | false => exact ⟨W1, st1, env, fl, st', S1, E0.mono l.le, h, k.mono l⟩
theorem s_while (hp : PassesOwn (model X.prog X.w) X.A X.env X.xe) (hc : PT X c (RT X fa G cf tc)) (hb : PSs X ss (RSs X fa G cf q)) : PS X (.While c ss [] pos) (RS X fa G cf (.whl tc q)) := by
  refine (ps_while hp hc hb).wk fun D σ H ⟨W, st, env, fl, st', S0, E0, h, k⟩ => ?_
  simp only [evS] at h
  refine ⟨fun m σ' H' => ∃ W' st2 env', Lx W H W' H' ∧ Sim X.K fa W' st2 H' ∧ EnvR X.K fa W' env' σ' ∧ whlL (fun env st => evT G cf tc env st) (fun env st => evSs G cf q env st) m env' st2 = .ok fl st', ⟨FU, W, st, env, Lx.refl _ _, S0, E0, h⟩, ?_⟩
  rintro m σ' H' ⟨W', st2, env', l1, S1, E1, h1⟩
  cases m with
  | zero => cases h1
  | succ m =>
    simp only [whlL] at h1
    obtain ⟨b, st3, h2, h3⟩ := bind_ok h1
    refine ⟨W', st2, env', b, st3, S1, E1, h2, fun W2 H2 l2 S2 => ?_⟩
    cases b with
    | false =>
      simp only [Bool.false_eq_true, if_false] at h3 ⊢
      cases h3
      exact k W2 H2 _ (l1.trans l2) S2 (E1.mono l2.le)
    | true =>
      simp only [if_true] at h3 ⊢
      obtain ⟨f1, st4, h4, h5⟩ := bind_ok h3
      refine ⟨_, fun σ2 H2 n => ⟨m, Nat.lt_succ_self m, n⟩, W2, st3, env', f1, st4, S2, E1.mono l2.le, h4, ?_⟩
      cases f1 with
      | nx e1 => exact fun W3 H3 σ3 l3 S3 E3 => ⟨W3, st4, e1, (l1.trans l2).trans l3, S3, E3, h5⟩
      | ct e1 => exact fun W3 H3 σ3 l3 S3 E3 => ⟨W3, st4, e1, (l1.trans l2).trans l3, S3, E3, h5⟩
      | rt u => cases h5; exact fun W3 H3 v l3 S3 r => k W3 H3 v ((l1.trans l2).trans l3) S3 r
      | bk e1 => cases h5; exact fun W3 H3 v l3 S3 r => k W3 H3 v ((l1.trans l2).trans l3) S3 r
theorem forL_head {g : Sto → Bool} {f : PyData → Ev → Sto → O Fl} {xs : List PyData} {env : Ev} {st st' : Sto} {fl : Fl} (h : forL g f xs env st = .ok fl st') : g st = true := by
  cases xs with
  | nil => simp only [forL] at h; split at h <;> first | assumption | cases h
  | cons x r => simp only [forL] at h; split at h <;> first | assumption | cases h
theorem s_for {tgt : Tg} {ik : Ik} {iter : Expr} (hp : PassesOwn (model X.prog X.w) X.A X.env X.xe) (hc : X.calm = true) (hi : L2.PI X tg iter (WI X fa G cf ik ts)) (hg : PG X tg (gT X.K tgt)) (hb : PSs X ss (RSs X fa G cf q))
    (hs : ∀ x, foldedSetIterable iter X.env x = pure x) : PS X (.For tg iter ss [] pos) (RS X fa G cf (.forr tgt ik ts q)) := by
  refine (ps_for hp hc hi hg hb hs).wk fun D σ H ⟨W, st, env, fl, st', S0, E0, h, k⟩ => ?_
  simp only [evS] at h
  obtain ⟨us, st1, h1, h⟩ := bind_ok h
  split at h
  · rename_i xs hx
    refine ⟨W, st, env, us, st1, xs, S0, E0, h1, hx, fun J W1 H1 l S1 wl => ?_⟩
    generalize hf : (fun x env s => match bindTg tgt x env with
      | some env1 => evSs G cf q env1 s
      | none => O.bad : PyData → Ev → Sto → O Fl) = f at h
    let P : Nat → L2.St → Hp → Prop := fun i σ' H' => ∃ W' st2 env', Lx W1 H1 W' H' ∧ Sim X.K fa W' st2 H' ∧ EnvR X.K fa W' env' σ' ∧ forL (fun s => stays us st1 s) f (xs.drop i) env' st2 = .ok fl st'
    refine ⟨fun i m σ' H' => m = xs.length - i ∧ i ≤ xs.length ∧ P i σ' H', ⟨xs.length, by simp, Nat.zero_le _, W1, st1, env, Lx.refl _ _, S1, E0.mono l.le, h⟩, ?_⟩
    rintro i m σ' H' ⟨rfl, hi, W', st2, env', l1, S2, E1, hr⟩
    have sty := forL_head hr
    by_cases hlt : i < xs.length
    · refine .inr ⟨wl.goes i W' H' st2 hlt l1.le S2 sty, P (i + 1), fun σ2 H2 p => ⟨xs.length - (i + 1), by omega, rfl, hlt, p⟩, fun v H2 y => ?_⟩
      obtain ⟨W2, x, hx2, l2, S3, rx⟩ := wl.yields i W' H' st2 v H2 l1.le S2 sty hlt y
      rw [List.drop_eq_getElem_cons hlt] at hr
      have ex : xs[i] = x := by rw [List.getElem?_eq_getElem hlt] at hx2; exact Option.some.inj hx2
      rw [ex] at hr
      simp only [forL, sty, if_true] at hr
      obtain ⟨f1, st3, h3, hr2⟩ := bind_ok hr
      subst hf
      simp only at h3
      split at h3
      · rename_i env1 hbd
        refine tg_of S3 rx hbd (E1.mono l2.le) fun τ Eτ so => ⟨W2, st2, env1, f1, st3, S3, Eτ, h3, ?_⟩
        cases f1 with
        | nx e1 => exact fun W3 H3 σ3 l3 S4 E3 => ⟨W3, st3, e1, (l1.trans l2).trans l3, S4, E3, hr2⟩
        | ct e1 => exact fun W3 H3 σ3 l3 S4 E3 => ⟨W3, st3, e1, (l1.trans l2).trans l3, S4, E3, hr2⟩
        | rt u => cases hr2; exact fun W3 H3 v l3 S4 r => k W3 H3 v (((l.trans l1).trans l2).trans l3) S4 r
        | bk e1 => cases hr2; exact fun W3 H3 v l3 S4 r => k W3 H3 v (((l.trans l1).trans l2).trans l3) S4 r
      · cases h3
    · have e : i = xs.length := by omega
      subst e
      refine .inl ⟨wl.stops W' H' st2 l1.le S2 sty, ?_⟩
      rw [List.drop_length] at hr
      simp only [forL, sty, if_true] at hr
      cases hr
      exact k W' H' σ' (l.trans l1) S2 E1
  · cases h
end
end PI
set_option Elab.async false
set_option linter.all false
set_option maxRecDepth 100000
set_option maxHeartbeats 4000000
/-! More statements: stores. Dict displays. -/
namespace PI
open PySem PySem.Spec PyProof.Rows L2
section
variable {X : Cx} {fa : Fa} {G : List U} {cf : Cf} {e a b c tg : Expr} {ta tb tc : E} {pos p : Pos} {es : List Expr} {ts : List E} {s : Stmt} {ss : List Stmt} {t : S} {q q2 : List S}
def notComp : Expr → Bool
  | .ListComp _ _ _ _ => false
  | .SetComp _ _ _ _ => false
  | .DictComp _ _ _ _ _ => false
  | _ => true
def notTup : Expr → Bool
  | .Tuple _ _ _ => false
  | _ => true
theorem sw_of {t : Option Expr} {l : Nat} {env : Env} (h : notComp e = true) : swapsWith e t l env = pure false := by
  cases e <;> first | rfl | cases h
theorem sw_tup {l : Nat} {env : Env} {k0 : Nat} : swapsWithSole [.Tuple es k0 p] e l env = pure false := by
  cases e <;> rfl
theorem ws_tup {env : Env} {k0 : Nat} (h : notTup e = true) : swappedStores [.Tuple es k0 p] e env = pure none := by
  cases e <;> first | rfl | cases h
def foldTup : Expr → Bool
  | .Tuple vs _ _ => vs.all (foldedForSure 8)
  | _ => false
theorem ws_fold {env : Env} {k0 : Nat} (h : foldTup e = true) : swappedStores [.Tuple es k0 p] e env = pure none := by
  cases e <;> first | cases h | skip
  rename_i vs k1 p1
  have h' : vs.all (foldedForSure 8) = true := h
  clear h
  unfold swappedStores
  generalize foldedForSure 8 = ff at h'
  simp only [h']
  split
  · rfl
  · split
    · rfl
    · split
      · rfl
      · rfl
/-- one of the targets is no local name -/
def nonLoc (sc : Scope) : List Expr → Bool
  | [] => false
  | .Name x _ :: r => !(sc.names.lookup x == some .local) || nonLoc sc r
  | _ :: r => nonLoc sc r
theorem fm_lt {α β : Type} {f : α → Option β} : ∀ l : List α, (∃ x ∈ l, f x = none) → (l.filterMap f).length < l.length
  | [], h => by obtain ⟨x, m, _⟩ := h; cases m
  | y :: r, h => by
    have le := List.length_filterMap_le f r
    cases q : f y with
    | none => simp only [List.filterMap_cons, q, List.length_cons]; omega
    | some z =>
      have : ∃ x ∈ r, f x = none := by
        obtain ⟨x, m, e⟩ := h
        rcases List.mem_cons.mp m with rfl | m
        · rw [q] at e; cases e
        · exact ⟨x, m, e⟩
      have := fm_lt r this
      simp only [List.filterMap_cons, q, List.length_cons]; omega
theorem nonLoc_mem {sc : Scope} : ∀ {l : List Expr}, nonLoc sc l = true → ∃ x q, Expr.Name x q ∈ l ∧ (sc.names.lookup x == some .local) = false
  | [], h => by cases h
  | y :: r, h => by
    cases y <;> first
      | (obtain ⟨x, q, m, e⟩ := nonLoc_mem (l := r) h; exact ⟨x, q, List.mem_cons_of_mem _ m, e⟩)
      | skip
    rename_i x q
    have h' : (!(sc.names.lookup x == some .local) || nonLoc sc r) = true := h
    cases e : sc.names.lookup x == some .local with
    | false => exact ⟨x, q, List.mem_cons_self, e⟩
    | true =>
      rw [e] at h'
      obtain ⟨x, q, m, e⟩ := nonLoc_mem (l := r) h'
      exact ⟨x, q, List.mem_cons_of_mem _ m, e⟩
theorem ws_cell {env : Env} {sc : Scope} {k0 : Nat} (hs : env.scope = sc) (h : nonLoc sc es = true) : swappedStores [.Tuple es k0 p] e env = pure none := by
  cases e <;> first | rfl | skip
  rename_i vs k1 p1
  obtain ⟨x, q, m, e⟩ := nonLoc_mem h
  unfold swappedStores
  simp only
  split
  · rfl
  · split
    · rfl
    · split
      · rfl
      · rename_i hn
        exfalso
        apply hn
        rw [Bool.or_eq_true]
        left
        rw [bne_iff_ne]
        refine Nat.ne_of_lt (fm_lt es ⟨_, m, ?_⟩)
        have k : (env.kindOf x == some .local) = false := by
          show (env.scope.names.lookup x == some .local) = false
          rw [hs]
          exact e
        simp [k]
theorem sw_sub {l : Nat} {env : Env} : swapsWithSole [.Subscript a b p] e l env = pure false := by
  cases e <;> rfl
theorem ws_sub {env : Env} : swappedStores [.Subscript a b p] e env = pure none := by
  cases e <;> rfl
theorem s_unp {is : List Nat} {k0 : Nat} (hg : PG X (.Tuple es k0 p) (gT X.K (.tup is))) (he : PE X e (RE X fa G cf ta)) (hn : swappedStores [.Tuple es k0 p] e X.env = pure none) : PS X (.Assign [.Tuple es k0 p] e pos) (RS X fa G cf (.unp is ta)) := by
  refine (ps_asg he hg sw_tup hn rfl).wk fun D σ H ⟨W, st, env, fl, st', S0, E0, h, k⟩ => ?_
  simp only [evS] at h
  obtain ⟨u, st1, h1, h⟩ := bind_ok h
  split at h
  · rename_i xs
    split at h
    · rename_i e1 hx
      cases h
      refine ⟨W, st, env, _, _, S0, E0, h1, fun W1 H1 v l S1 r => ?_⟩
      exact tg_of (tg := .tup is) S1 (show Rp X.K W1.G v (.tuple xs) from r) hx (E0.mono l.le) fun τ Eτ so => k W1 H1 τ l S1 Eτ
    · cases h
  · cases h
theorem setU2 {env : Ev} {i j : Nat} {us : List U} {e1 : Ev} (h : setU env [i, j] us = some e1) : ∃ u w, us = [u, w] ∧ e1 = (env.set i (some u)).set j (some w) := by
  match us, h with
  | [u, w], h => simp only [setU, Option.some.injEq] at h; exact ⟨u, w, rfl, h.symm⟩
  | [], h => simp [setU] at h
  | [_], h => simp [setU] at h
  | _ :: _ :: _ :: _, h => simp [setU] at h
theorem setU3 {env : Ev} {i j k : Nat} {us : List U} {e1 : Ev} (h : setU env [i, j, k] us = some e1) : ∃ u w z, us = [u, w, z] ∧ e1 = ((env.set i (some u)).set j (some w)).set k (some z) := by
  match us, h with
  | [u, w, z], h => simp only [setU, Option.some.injEq] at h; exact ⟨u, w, z, rfl, h.symm⟩
  | [], h => simp [setU] at h
  | [_], h => simp [setU] at h
  | [_, _], h => simp [setU] at h
  | _ :: _ :: _ :: _ :: _, h => simp [setU] at h
theorem UL.three {W : Wd} {K : PySem.W.Frag} {vs : List V} {u w z : U} (h : UL K fa W vs [u, w, z]) : ∃ v v2 v3, vs = [v, v2, v3] ∧ URp K fa W v u ∧ URp K fa W v2 w ∧ URp K fa W v3 z := by
  cases h with
  | cons r t =>
    obtain ⟨v2, v3, rfl, r2, r3⟩ := UL.two t
    exact ⟨_, _, _, rfl, r, r2, r3⟩
theorem s_par {i j : Nat} {x y : Str} {px py pt : Pos} {kt k2 : Nat} {pt2 : Pos} (hc : X.calm = true) (hN : X.N.Nodup) (hi : X.N[i]? = some x) (hj : X.N[j]? = some y) (hij : i ≠ j)
    (hx : X.env.scope.names.lookup x = some .local) (hy : X.env.scope.names.lookup y = some .local) (ha : PA X [a, b] (REs X fa G cf ts))
    (hw : swappedStores [.Tuple [.Name x px, .Name y py] kt pt] (.Tuple [a, b] k2 pt2) X.env = pure (some [x, y])) :
    PS X (.Assign [.Tuple [.Name x px, .Name y py] kt pt] (.Tuple [a, b] k2 pt2) pos) (RS X fa G cf (.par [i, j] ts)) := by
  refine (ps_par hc hN hi hj hij hx hy ha hw sw_tup).wk fun D σ H ⟨W, st, env, fl, st', S0, E0, h, k⟩ => ?_
  simp only [evS] at h
  obtain ⟨us, st1, h1, h⟩ := bind_ok h
  split at h
  · rename_i e1 hx
    cases h
    obtain ⟨u, w, rfl, rfl⟩ := setU2 hx
    refine ⟨W, st, env, _, _, S0, E0, h1, fun W1 H1 vs l S1 r => ?_⟩
    obtain ⟨v, v2, rfl, r1, r2⟩ := r.two
    exact ⟨v, v2, rfl, k W1 H1 _ l S1 (((E0.mono l.le).set r1).set r2)⟩
  · cases h
theorem s_par3 {i j m : Nat} {x y z : Str} {px py pz pt : Pos} {kt k2 : Nat} {pt2 : Pos} (hc : X.calm = true) (hN : X.N.Nodup) (hi : X.N[i]? = some x) (hj : X.N[j]? = some y) (hm : X.N[m]? = some z) (hij : i ≠ j) (him : i ≠ m) (hjm : j ≠ m)
    (hx : X.env.scope.names.lookup x = some .local) (hy : X.env.scope.names.lookup y = some .local) (hz : X.env.scope.names.lookup z = some .local) (ha : PA X [a, b, c] (REs X fa G cf ts))
    (hw : swappedStores [.Tuple [.Name x px, .Name y py, .Name z pz] kt pt] (.Tuple [a, b, c] k2 pt2) X.env = pure (some [x, y, z])) :
    PS X (.Assign [.Tuple [.Name x px, .Name y py, .Name z pz] kt pt] (.Tuple [a, b, c] k2 pt2) pos) (RS X fa G cf (.par [i, j, m] ts)) := by
  refine (ps_par3 hc hN hi hj hm hij him hjm hx hy hz ha hw sw_tup).wk fun D σ H ⟨W, st, env, fl, st', S0, E0, h, k⟩ => ?_
  simp only [evS] at h
  obtain ⟨us, st1, h1, h⟩ := bind_ok h
  split at h
  · rename_i e1 hx
    cases h
    obtain ⟨u, w, z, rfl, rfl⟩ := setU3 hx
    refine ⟨W, st, env, _, _, S0, E0, h1, fun W1 H1 vs l S1 r => ?_⟩
    obtain ⟨v, v2, v3, rfl, r1, r2, r3⟩ := r.three
    exact ⟨v, v2, v3, rfl, k W1 H1 _ l S1 ((((E0.mono l.le).set r1).set r2).set r3)⟩
  · cases h
/-- name = [..] on one line -/
theorem s_setLc {m : Bool} {elt : Expr} {iter : Expr} {ifs : List Expr} {scope : Scope} {own : List (Str × Nat)} {tt : Tg} {ik : Ik} {telt : E} {tifs : List E} {i : Nat} {y : Str} {py spos : Pos} (hc : X.calm = true) (hN : X.N.Nodup) (hy : X.N[i]? = some y) (hyl : X.env.scope.names.lookup y = some .local)
    (hsw : swapsWith (.ListComp elt [⟨tg, iter, ifs, 0⟩] scope pos) (some (.Name y py)) spos.line X.env = pure true) (hi : L2.PI X tg iter (WI X fa G cf ik ts)) (ok : BlkOk X.N X.env.scope scope own) (hown : own.map (·.2) = tgSlots tt)
    (hg : ∀ (s : Shared) (H : Hp) (C : Addr) (cl : List (Str × Addr)) (fp : List Addr), PG (X.blk s H scope (compEnvC scope cl C X.env) fp) tg (gT X.K tt))
    (ht : ∀ (s : Shared) (H : Hp) (C : Addr) (cl : List (Str × Addr)) (fp : List Addr), PTs (X.blk s H scope (compEnvC scope cl C X.env) fp) ifs (RTs X fa G cf tifs))
    (he : ∀ (s : Shared) (H : Hp) (C : Addr) (cl : List (Str × Addr)) (fp : List Addr), PE (X.blk s H scope (compEnvC scope cl C X.env) fp) elt (RE X fa G cf telt)) (hs : ∀ x, foldedSetIterable iter X.env x = pure x) :
    PS X (.Assign [.Name y py] (.ListComp elt [⟨tg, iter, ifs, 0⟩] scope pos) spos) (RS X fa G cf (.set i (.comp m telt tt ik ts tifs))) := by
  refine (ps_setLc hc hN hy hyl hsw hi ok hg ht he hs).wk fun D σ H ⟨W, st, env, fl, st', S0, E0, h, k⟩ => ?_
  rw [hown]
  simp only [evS] at h
  obtain ⟨u, st1, h1, h⟩ := bind_ok h
  cases h
  exact comp_of ⟨W, st, env, u, _, S0, E0, h1, fun W1 H1 v l S1 r => k W1 H1 _ l S1 ((E0.mono l.le).set r)⟩
theorem e_comp {m : Bool} {elt : Expr} {iter : Expr} {ifs : List Expr} {scope : Scope} {own : List (Str × Nat)} {tt : Tg} {ik : Ik} {telt : E} {tifs : List E} (hc : X.calm = true) (hN : X.N.Nodup)
    (hi : L2.PI X tg iter (WI X fa G cf ik ts)) (ok : BlkOk X.N X.env.scope scope own) (hown : own.map (·.2) = tgSlots tt)
    (hg : ∀ (s : Shared) (H : Hp) (C : Addr) (cl : List (Str × Addr)) (fp : List Addr), PG (X.blk s H scope (compEnvC scope cl C X.env) fp) tg (gT X.K tt))
    (ht : ∀ (s : Shared) (H : Hp) (C : Addr) (cl : List (Str × Addr)) (fp : List Addr), PTs (X.blk s H scope (compEnvC scope cl C X.env) fp) ifs (RTs X fa G cf tifs))
    (he : ∀ (s : Shared) (H : Hp) (C : Addr) (cl : List (Str × Addr)) (fp : List Addr), PE (X.blk s H scope (compEnvC scope cl C X.env) fp) elt (RE X fa G cf telt)) (hs : ∀ x, foldedSetIterable iter X.env x = pure x) :
    PE X (.ListComp elt [⟨tg, iter, ifs, 0⟩] scope pos) (RE X fa G cf (.comp m telt tt ik ts tifs)) := by
  refine (pe_lc hc hN hi ok hg ht he hs).wk fun σ H Q h => ?_
  rw [hown]
  exact comp_of h
/-! ### op= -/
theorem s_add {i : Nat} {x : Str} {p' : Pos} (hN : X.N.Nodup) (hi : X.N[i]? = some x) (hx : Loc X.env.scope x) (he : PE X e (RE X fa G cf ta)) (hf : X.fn x = true ∨ X.env.scope.names.lookup x = some .local) :
    PS X (.AugAssign (.Name x p') .Add e pos) (RS X fa G cf (.aug i .add ta)) := by
  refine (ps_aug hN hi hx he ip_add hf).wk fun D σ H ⟨W, st, env, fl, st', S0, E0, h, k⟩ => ?_
  simp only [evS] at h
  split at h
  · rename_i u hu
    obtain ⟨v, h1, h2⟩ := E0.at_ i _ hu
    obtain ⟨y, st1, h3, h⟩ := bind_ok h
    split at h
    · rename_i m n _
      obtain ⟨z, st2, h4, h⟩ := bind_ok h
      cases h
      simp only [bop, vt, vw, bopD] at h4
      cases h4
      have h2' : Rp X.K W.G v (.int m) := h2
      cases h2'
      refine ⟨_, h1, W, st, env, _, _, S0, E0, h3, fun W1 H1 v1 l S1 r => ?_⟩
      have r' : Rp X.K W1.G v1 (.int n) := r
      cases r'
      exact ⟨m, n, rfl, rfl, k W1 H1 _ l S1 ((E0.mono l.le).set (u := .d (.int (m + n))) (.int _))⟩
    · cases h
  · cases h
theorem s_sub {i : Nat} {x : Str} {p' : Pos} (hN : X.N.Nodup) (hi : X.N[i]? = some x) (hx : Loc X.env.scope x) (he : PE X e (RE X fa G cf ta)) (hf : X.fn x = true ∨ X.env.scope.names.lookup x = some .local) :
    PS X (.AugAssign (.Name x p') .Sub e pos) (RS X fa G cf (.aug i .sub ta)) := by
  refine (ps_aug hN hi hx he ip_sub hf).wk fun D σ H ⟨W, st, env, fl, st', S0, E0, h, k⟩ => ?_
  simp only [evS] at h
  split at h
  · rename_i u hu
    obtain ⟨v, h1, h2⟩ := E0.at_ i _ hu
    obtain ⟨y, st1, h3, h⟩ := bind_ok h
    split at h
    · rename_i m n _
      obtain ⟨z, st2, h4, h⟩ := bind_ok h
      cases h
      simp only [bop, vt, vw, bopD] at h4
      cases h4
      have h2' : Rp X.K W.G v (.int m) := h2
      cases h2'
      refine ⟨_, h1, W, st, env, _, _, S0, E0, h3, fun W1 H1 v1 l S1 r => ?_⟩
      have r' : Rp X.K W1.G v1 (.int n) := r
      cases r'
      exact ⟨m, n, rfl, rfl, k W1 H1 _ l S1 ((E0.mono l.le).set (u := .d (.int (m - n))) (.int _))⟩
    · cases h
  · cases h
/-! ### o[i] = v -/
def rPut (K : PySem.W.Frag) (fa : Fa) : TSet := fun o i v H Q => ∃ W st uo ui uv st', Sim K fa W st H ∧ URp K fa W o uo ∧ URp K fa W i ui ∧ URp K fa W v uv ∧ putU uo ui uv st = .ok () st' ∧ ∀ W' H', Lx W H W' H' → Sim K fa W' st' H' → Q H'
theorem set_U (hu : X.A.units + 65 < cLine) : PSet X (rPut X.K fa) := by
  intro pins s σ H o i v ov iv u Q I ro ri rv ⟨W, st, uo, ui, uv, st', S, ra, rb, rc, h, k⟩
  unfold putU at h
  split at h
  · rename_i n x y
    split at h
    · rename_i us hn
      split at h
      · rename_i j
        split at h
        · rename_i m hm
          cases h
          obtain ⟨p, hp, rfl⟩ := ra
          have ri' : Rp X.K W.G i (.int j) := rb
          cases ri'
          obtain ⟨ws, g1, g2, g3⟩ := S.ob n p _ hp hn
          obtain ⟨S1, l1⟩ := S.write (o := .lst (ws.set m v)) (b := .lst (us.set m (.d y))) hp g2 ⟨ws.set m v, upd_same, g2, g3.set rc m⟩
          exact set_list pins s σ H _ _ v ov iv u Q I ro ri rv ⟨p, ws, j, m, rfl, rfl, g1, by rw [g3.length]; exact hm, k W _ l1 S1⟩
        · cases h
      · cases h
    · rename_i kvs hn
      split at h
      · rename_i kk hk
        split at h
        · rename_i hz
          cases h
          obtain ⟨p, hp, rfl⟩ := ra
          have e1 := keyD_eq hk
          have ei : i = kV kk := by
            have := view_of S rb rfl
            subst e1
            cases kk <;> exact this
          obtain ⟨ws, g1, g2, g3⟩ := S.ob n p _ hp hn
          obtain ⟨S1, l1⟩ := S.write (o := .dK (L2.putK ws kk v)) (b := .dic (PI.putK kvs kk (.d y))) hp g2 ⟨L2.putK ws kk v, upd_same, g2, g3.putK kk rc⟩
          cases ro
          exact d_setItem (by omega) I (.inl ⟨ws, kk, g1, ei, by rw [g3.length]; exact Nat.lt_trans hz lim_lt, rfl⟩) ri rv fun s' I' => ⟨_, I', k W _ l1 S1⟩
        · cases h
      · cases h
    · cases h
  · cases h
theorem s_put {o i : Expr} {to ti tv : E} {p' : Pos} (hu : X.A.units + 65 < cLine) (ho : PE X o (RE X fa G cf to)) (hi : PE X i (RE X fa G cf ti)) (he : PE X e (RE X fa G cf tv)) (hs : notSl i = true) :
    PS X (.Assign [.Subscript o i p'] e pos) (RS X fa G cf (.put to ti tv)) := by
  refine (ps_asg he (pg_sub ho hi (set_U (fa := fa) hu) (by intro v; cases i <;> first | rfl | cases hs)) sw_sub ws_sub rfl).wk fun D σ H ⟨W, st, env, fl, st', S0, E0, h, k⟩ => ?_
  simp only [evS] at h
  obtain ⟨u, st1, h1, h⟩ := bind_ok h
  obtain ⟨x, st2, h2, h⟩ := bind_ok h
  obtain ⟨y, st3, h3, h⟩ := bind_ok h
  obtain ⟨w, st4, h4, h⟩ := bind_ok h
  cases h
  refine ⟨W, st, env, u, st1, S0, E0, h1, fun W1 H1 v l S1 r => ⟨W1, st1, env, x, st2, S1, E0.mono l.le, h2, fun W2 H2 vo l2 S2 r2 => ⟨W2, st2, env, y, st3, S2, E0.mono (l.trans l2).le, h3, fun W3 H3 vi l3 S3 r3 => ?_⟩⟩⟩
  have lk := (l.trans l2).trans l3
  exact ⟨W3, st3, x, y, u, _, S3, r2.mono l3.le, r3, r.mono (l2.trans l3).le, h4, fun W4 H4 l4 S4 => k W4 H4 _ (lk.trans l4) S4 (E0.mono (lk.trans l4).le)⟩
end
end PI
set_option Elab.async false
set_option linter.all false
set_option maxRecDepth 100000
set_option maxHeartbeats 4000000
/-! The text is held against the evaluator's text. -/
namespace PI
open PySem PySem.Spec PyProof.Rows L2
structure Ck where
  N : List Str
  fns : List Str
  cons : List Str
def nmB (N : List Str) (i : Nat) (x : Str) : Bool := match N[i]? with
  | some y => decide (y = x)
  | none => false
def visB (sc : Scope) (x : Str) : Bool := match sc.names.lookup x with
  | some .local => true | some .cell => true | some .free => true | _ => false
def glB (sc : Scope) (x : Str) : Bool := match sc.names.lookup x with
  | some .globalImplicit => true | _ => false
def okN (x : Str) : Bool := !(x == ("__debug__" : Str)) && !(x == ("__classdict__" : Str))
def conB : PyData → Expr → Bool
  | .int i, .Constant (.int j) _ _ => decide (i = j)
  | .bool i, .Constant (.bool j) _ _ => i == j
  | .none, .Constant .none _ _ => true
  | .str i, .Constant (.str j) _ _ => decide (i = j)
  | _, _ => false
def bopB : Bop → Operator → Bool
  | .add, .Add => true | .sub, .Sub => true | .mul, .Mult => true | .div, .FloorDiv => true | .mod, .Mod => true | .pow, .Pow => true | _, _ => false
def copB : Cop → CmpOp → Bool
  | .eq, .Eq => true | .ne, .NotEq => true | .lt, .Lt => true | .le, .LtE => true | .gt, .Gt => true | .ge, .GtE => true | .isin, .In => true | .notin, .NotIn => true | .is, .Is => true | .isnot, .IsNot => true | _, _ => false
def isIf : Expr → Bool
  | .IfExp _ _ _ _ => true
  | _ => false
def plainT : Expr → Bool
  | .IfExp _ _ _ _ => false
  | .UnaryOp .Not _ _ => false
  | .BoolOp _ _ _ => false
  | .Compare _ _ _ _ => false
  | _ => true
def tbE : E → Expr → Bool
  | .frz _, e => plainT e
  | _, e => !isIf e
def blE : E → Expr → Bool
  | .and _ _, .BoolOp _ _ _ => true
  | .or _ _, .BoolOp _ _ _ => true
  | _, _ => false
def prName : Pr → Str
  | .len => "len" | .abs => "abs" | .max2 => "max" | .min2 => "min" | .int => "int" | .tuple => "tuple" | .list => "list" | .sorted => "sorted" | .sum => "sum" | .all => "all" | .any => "any" | .repr => "repr" | .lenset => "set"
def tyStr : Ty → Str
  | .int => "int" | .bool => "bool" | .str => "str" | .tup => "tuple" | .lst => "list" | .non => "NoneType" | .dic => "dict"
def bltNames : List Str := ["len", "abs", "max", "min", "int", "tuple", "list", "sorted", "sum", "all", "any", "repr", "set", "range", "enumerate", "zip", "type", "isinstance", "str", "bool", "dict"]
def notCall : Expr → Bool
  | .Call _ _ _ _ => false
  | _ => true
def notSet : Expr → Bool
  | .Set _ _ _ => false
  | _ => true
def ivalA (e : Expr) : Option (List Expr) := if notSet e then some [e] else none
def irngA : Expr → Option (List Expr)
  | .Call (.Name x _) es [] _ => if decide (x = ("range" : Str)) then some es else none
  | _ => none
def ienA : Expr → Expr → Option (List Expr)
  | .Tuple _ _ _, .Call (.Name x _) es [] _ => if decide (x = ("enumerate" : Str)) then some es else none
  | _, _ => none
def izpA : Expr → Expr → Option (List Expr)
  | .Tuple _ _ _, .Call (.Name x _) es [] _ => if decide (x = ("zip" : Str)) then some es else none
  | _, _ => none
def iterArgs : Ik → Expr → Expr → Option (List Expr)
  | .val, _, e => ivalA e
  | .range, _, e => irngA e
  | .enum, tg, e => ienA tg e
  | .zip, tg, e => izpA tg e
def iterLen (ik : Ik) (n : Nat) : Bool := match ik with
  | .val => true
  | .range => decide (n = 1) || decide (n = 2)
  | .enum => decide (n = 1)
  | .zip => decide (n = 2)
def iterNm (sc : Scope) : Ik → Bool
  | .val => true
  | .range => glB sc "range"
  | .enum => glB sc "enumerate"
  | .zip => glB sc "zip"
def storB (sc : Scope) (fb : Str → Bool) (x : Str) : Bool := match sc.names.lookup x with
  | some .local => true
  | some .cell => fb x
  | _ => false
def tgsB (N : List Str) (sc : Scope) (fb : Str → Bool) : List Nat → List Expr → Bool
  | [], [] => true
  | i :: is, .Name x _ :: es => nmB N i x && storB sc fb x && tgsB N sc fb is es
  | _, _ => false
def tgB (N : List Str) (sc : Scope) (fb : Str → Bool) : Tg → Expr → Bool
  | .one i, .Name x _ => nmB N i x && storB sc fb x
  | .tup is, .Tuple es _ _ => tgsB N sc fb is es
  | .two i is, .Tuple [.Name x _, .Tuple es _ _] _ _ => nmB N i x && storB sc fb x && tgsB N sc fb is es
  | _, _ => false
def ownOf (N : List Str) (tg : Tg) : List (Str × Nat) := (tgSlots tg).map fun i => (N[i]?.getD "", i)
mutual
def chkE (c : Ck) : E → Scope → (Str → Bool) → Expr → Bool
  | .var i, sc, _, e => match e with
    | .Name x _ => nmB c.N i x && visB sc x && okN x
    | _ => false
  | .con d, _, _, e => conB d e
  | .glob g, sc, _, e => match e with
    | .Name x _ => nmB c.cons g x && glB sc x && okN x
    | _ => false
  | .bin o a b, sc, fb, e => match e with
    | .BinOp a' o' b' _ => bopB o o' && chkE c a sc fb a' && chkE c b sc fb b'
    | _ => false
  | .addM a b, sc, fb, e => match e with
    | .BinOp a' .Add b' _ => chkE c a sc fb a' && chkE c b sc fb b'
    | _ => false
  | .neg a, sc, fb, e => match e with
    | .UnaryOp .USub a' _ => chkE c a sc fb a'
    | _ => false
  | .not a, sc, fb, e => match e with
    | .UnaryOp .Not a' _ => tbE a a' && chkE c a sc fb a'
    | _ => false
  | .cmp o a b, sc, fb, e => match e with
    | .Compare a' [o'] [b'] _ => copB o o' && !behindInMarks o' b' && chkE c a sc fb a' && chkE c b sc fb b'
    | _ => false
  | .chain o o2 a b d, sc, fb, e => match e with
    | .Compare a' [o', o2'] [b', d'] _ => copB o o' && copB o2 o2' && !behindInMarks o2' d' && chkE c a sc fb a' && chkE c b sc fb b' && chkE c d sc fb d'
    | _ => false
  | .chain3 o o2 o3 a b d f, sc, fb, e => match e with
    | .Compare a' [o', o2', o3'] [b', d', f'] _ => copB o o' && copB o2 o2' && copB o3 o3' && !lastMarks [o', o2', o3'] [b', d', f'] && chkE c a sc fb a' && chkE c b sc fb b' && chkE c d sc fb d' && chkE c f sc fb f'
    | _ => false
  | .and a b, sc, fb, e => match e with
    | .BoolOp .And (a' :: b' :: []) _ => tbE a a' && tbE b b' && chkE c a sc fb a' && chkE c b sc fb b'
    | .BoolOp .And (a' :: b' :: r :: rest) p => tbE a a' && blE b (.BoolOp .And (b' :: r :: rest) p) && chkE c a sc fb a' && chkE c b sc fb (.BoolOp .And (b' :: r :: rest) p)
    | _ => false
  | .or a b, sc, fb, e => match e with
    | .BoolOp .Or (a' :: b' :: []) _ => tbE a a' && tbE b b' && chkE c a sc fb a' && chkE c b sc fb b'
    | .BoolOp .Or (a' :: b' :: r :: rest) p => tbE a a' && blE b (.BoolOp .Or (b' :: r :: rest) p) && chkE c a sc fb a' && chkE c b sc fb (.BoolOp .Or (b' :: r :: rest) p)
    | _ => false
  | .ife t a b, sc, fb, e => match e with
    | .IfExp t' a' b' _ => tbE t t' && chkE c t sc fb t' && chkE c a sc fb a' && chkE c b sc fb b'
    | _ => false
  | .tup ts, sc, fb, e => match e with
    | .Tuple es _ _ => chkEs c ts sc fb es
    | _ => false
  | .lst _ ts, sc, fb, e => match e with
    | .List es _ => chkEs c ts sc fb es
    | _ => false
  | .dic ts, sc, fb, e => match e with
    | .Dict [] [] _ => ts.isEmpty
    | .Dict keys vals _ => keys.all (·.isSome) && decide (keys.length = vals.length) && !keys.isEmpty && decide (keys.length ≤ 15) && chkEs c ts sc fb (inter keys vals)
    | _ => false
  | .mkd a, sc, fb, e => match e with
    | .Call (.Name x _) [a'] [] _ => decide (x = ("dict" : Str)) && glB sc x && notStar a' && chkE c a sc fb a'
    | _ => false
  | .idx a i, sc, fb, e => match e with
    | .Subscript a' i' _ => notSl i' && chkE c a sc fb a' && chkE c i sc fb i'
    | _ => false
  | .slice a lo hi, sc, fb, e => match e with
    | .Subscript a' (.Slice lo' hi' none _) _ => chkE c a sc fb a' && chkEs c lo sc fb lo'.toList && chkEs c hi sc fb hi'.toList
    | _ => false
  | .call f ts, sc, fb, e => match e with
    | .Call (.Name x _) es [] _ => nmB c.fns f x && glB sc x && okN x && chkEs c ts sc fb es
    | _ => false
  | .callv i ts, sc, fb, e => match e with
    | .Call (.Name x _) es [] _ => nmB c.N i x && visB sc x && okN x && !es.isEmpty && chkEs c ts sc fb es
    | _ => false
  | .prim _ p ts, sc, fb, e => match e with
    | .Call (.Name x _) es [] _ => decide (x = prName p) && glB sc x && !es.isEmpty && (match p with | .lenset => false | _ => true) && chkEs c ts sc fb es
    | _ => false
  | .meth m a ts, sc, fb, e => match e with
    | .Call (.Attribute a' nm apos) es [] pos => (apos.endLine == pos.line) && notCall a' && chkE c a sc fb a' && chkEs c ts sc fb es && (match m with
      | .append => decide (nm = ("append" : Str)) && decide (es.length = 1)
      | .extend => decide (nm = ("extend" : Str)) && decide (es.length = 1)
      | .pop0 => decide (nm = ("pop" : Str)) && decide (es.length = 0)
      | .pop1 => decide (nm = ("pop" : Str)) && decide (es.length = 1)
      | .get1 => decide (nm = ("get" : Str)) && decide (es.length = 1)
      | .update => decide (nm = ("update" : Str)) && decide (es.length = 1)
      | _ => false)
    | _ => false
  | .comp _ elt tg ik ts ifs, sc, fb, e => match e with
    | .ListComp elt' [⟨tg', it', ifs', 0⟩] scope _ => match iterArgs ik tg' it' with
      | some es => iterNm sc ik && iterLen ik es.length && chkEs c ts sc fb es && tgB c.N (relS scope sc) (fun x => scope.names.lookup x == some .cell) tg tg' && blkC c.N sc scope (ownOf c.N tg) &&
          decide (ifs'.length ≤ 1) && (ifs.zip ifs').all (fun p => tbE p.1 p.2) && chkEs c ifs (relS scope sc) (fun x => scope.names.lookup x == some .cell) ifs' && chkE c elt (relS scope sc) (fun x => scope.names.lookup x == some .cell) elt'
      | none => false
    | _ => false
  | .isTy a t, sc, fb, e => match e with
    | .Compare (.Call (.Name x _) [a'] [] _) [.Is] [.Name y _] _ => decide (x = ("type" : Str)) && glB sc x && decide (y = tyStr t) && glB sc y && (match t with | .non => false | _ => true) && notStar a' && chkE c a sc fb a'
    | _ => false
  | .noTy a t, sc, fb, e => match e with
    | .Compare (.Call (.Name x _) [a'] [] _) [.IsNot] [.Name y _] _ => decide (x = ("type" : Str)) && glB sc x && decide (y = tyStr t) && glB sc y && (match t with | .non => false | _ => true) && notStar a' && chkE c a sc fb a'
    | _ => false
  | .isIn a t, sc, fb, e => match e with
    | .Call (.Name x _) [a', .Name y _] [] _ => decide (x = ("isinstance" : Str)) && glB sc x && decide (y = tyStr t) && glB sc y && (match t with | .non => false | _ => true) && notStar a' && chkE c a sc fb a'
    | _ => false
  | .frz a, sc, fb, e => chkE c a sc fb e
def chkEs (c : Ck) : List E → Scope → (Str → Bool) → List Expr → Bool
  | [], _, _, es => es.isEmpty
  | t :: ts, sc, fb, es => match es with
    | e :: es => notStar e && chkE c t sc fb e && chkEs c ts sc fb es
    | [] => false
end
structure MdX (X : Cx) (fa : Fa) (c : Ck) (G : List U) (T : List Fn) (k : Nat) : Prop where
  w : fa.w = X.w
  fn : ∀ (f : Nat) (x : Str), c.fns[f]? = some x → ∃ ad fd ps, fa.ad f = some ad ∧ X.mg x = some (.ref ad) ∧ PySem.W.keepIn X.K (.ref ad) = true ∧ Binds X.K fd ps [] ∧ FnG X.prog X.w X.K X.mg X.base CX0 k ad fd ps (spF X.K fa G T k f)
  con : ∀ (g : Nat) (x : Str), c.cons[g]? = some x → ∃ (u : U) (uv : Value) (v : V), G[g]? = some u ∧ X.mg x = some uv ∧ RelV v uv ∧ ∀ W, URp X.K fa W v u
  blt : ∀ x ∈ bltNames, X.mg x = none
  tl : T.length ≤ c.fns.length
structure XOk (X : Cx) (fa : Fa) (c : Ck) (G : List U) (T : List Fn) (k : Nat) (sc : Scope) (fb : Str → Bool) : Prop where
  md : MdX X fa c G T k
  N : X.N = c.N
  nd : c.N.Nodup
  sc : X.env.scope = sc
  fb : ∀ x, fb x = true → X.fn x = true
  calm : X.calm = true
  room : Room k X.A
  clr : Clr X.A
structure Snd (X : Cx) (fa : Fa) (G : List U) (T : List Fn) (k : Nat) (t : E) (e : Expr) : Prop where
  pe : PE X e (RE X fa G (callN G T k) t)
  pt : tbE t e = true → PT X e (RT X fa G (callN G T k) t)
  pw : blE t e = true → PW X e (RT X fa G (callN G T k) t)
end PI
set_option Elab.async false
set_option linter.all false
set_option maxRecDepth 100000
set_option maxHeartbeats 8000000
/-! .. and that is sound. -/
namespace PI
open PySem PySem.Spec PyProof.Rows L2
theorem nmB_ok {N : List Str} {i : Nat} {x : Str} (h : nmB N i x = true) : N[i]? = some x := by
  unfold nmB at h
  split at h
  · rename_i y hy
    rw [hy, of_decide_eq_true h]
  · cases h
theorem visB_ok {sc : Scope} {x : Str} (h : visB sc x = true) : Vis sc x := by
  unfold visB at h
  split at h
  · exact .inl (by assumption)
  · exact .inr (.inl (by assumption))
  · exact .inr (.inr (by assumption))
  · cases h
theorem glB_ok {sc : Scope} {x : Str} (h : glB sc x = true) : sc.names.lookup x = some .globalImplicit := by
  unfold glB at h
  split at h
  · assumption
  · cases h
theorem okN_ok {x : Str} (h : okN x = true) : (x == ("__debug__" : Str)) = false ∧ (x == ("__classdict__" : Str)) = false := by
  unfold okN at h
  simpa using h
theorem bopB_ok {o : Bop} {p : Operator} (h : bopB o p = true) : p = opB o := by
  cases o <;> cases p <;> first | rfl | cases h
theorem copB_ok {o : Cop} {p : CmpOp} (h : copB o p = true) : p = opC o := by
  cases o <;> cases p <;> first | rfl | cases h
theorem plain_isTrue {e : Expr} {env : Env} (h : plainT e = true) : ∀ whole, isTrue e env whole = (do let v ← whole; standAt e.pos; holding [v] (truthy v)) := by
  intro whole
  cases e with
  | UnaryOp o a p => cases o <;> first | rfl | cases h
  | _ => first | rfl | cases h
inductive SndL (X : Cx) (fa : Fa) (G : List U) (T : List Fn) (k : Nat) : List E → List Expr → Prop
  | nil : SndL X fa G T k [] []
  | cons {t : E} {ts : List E} {e : Expr} {es : List Expr} : notStar e = true → Snd X fa G T k t e → SndL X fa G T k ts es → SndL X fa G T k (t :: ts) (e :: es)
section
variable {fa : Fa} {c : Ck} {G : List U} {T : List Fn} {k : Nat}
theorem SndL.pa {X : Cx} : ∀ {ts : List E} {es : List Expr}, SndL X fa G T k ts es → PA X es (REs X fa G (callN G T k) ts) ∧ es.all notStar = true ∧ es.length = ts.length
  | _, _, .nil => ⟨a_nil, rfl, rfl⟩
  | _, _, .cons n s t => by
    obtain ⟨h1, h2, h3⟩ := SndL.pa t
    exact ⟨a_cons n s.pe h1, by rw [List.all_cons, n, h2]; rfl, by simp [h3]⟩
/-- a value whose test is by its truth -/
theorem Snd.val {X : Cx} {t : E} {e : Expr} (h : PE X e (RE X fa G (callN G T k) t)) (hp : plainT e = true) (hb : blE t e = false) : Snd X fa G T k t e :=
  ⟨h, fun _ => e_truth h (plain_isTrue hp), fun h => by rw [hb] at h; cases h⟩
theorem XOk.u65 {X : Cx} {sc : Scope} {fb : Str → Bool} (ok : XOk X fa c G T k sc fb) : X.A.units + 65 < cLine := by
  have := ok.room.un
  omega
theorem XOk.u100 {X : Cx} {sc : Scope} {fb : Str → Bool} (ok : XOk X fa c G T k sc fb) : X.A.units + 100 < cLine := by
  have := ok.room.un
  omega
theorem XOk.gl {X : Cx} {sc : Scope} {fb : Str → Bool} (ok : XOk X fa c G T k sc fb) {x : Str} (h : glB sc x = true) : Gl X x := by
  have := glB_ok h
  show X.env.scope.names.lookup x = _
  rw [ok.sc]
  exact this
theorem XOk.blk {X : Cx} {sc : Scope} {fb : Str → Bool} (ok : XOk X fa c G T k sc fb) (s : Shared) (H : Hp) (scope : Scope) (C : Addr) (cl : List (Str × Addr)) (fp : List Addr) :
    XOk (X.blk s H scope (compEnvC scope cl C X.env) fp) fa c G T k (relS scope sc) (fun x => scope.names.lookup x == some .cell) :=
  ⟨⟨ok.md.w, ok.md.fn, ok.md.con, ok.md.blt, ok.md.tl⟩, ok.N, ok.nd, by show relS scope X.env.scope = _; rw [ok.sc], fun _ h => h, ok.calm, ok.room, ok.clr⟩
theorem prim_of {X : Cx} {m : Bool} {p : Pr} {ts : List E} {σ : L2.St} {H : Hp} {Q : VK} (h : RE X fa G (callN G T k) (.prim m p ts) σ H Q) : tCB (rP X.K fa m p) (REs X fa G (callN G T k) ts) σ H Q := by
  obtain ⟨W, st, env, u, st', S, R, h, q⟩ := h
  simp only [evE] at h
  obtain ⟨us, st1, h1, h⟩ := bind_ok h
  exact ⟨W, st, env, us, st1, S, R, h1, fun W1 H1 vs l S1 r => ⟨W1, st1, us, u, st', S1, r, h, q.mono l⟩⟩
theorem mem_blt {X : Cx} (h : ∀ x ∈ bltNames, X.mg x = none) : (∀ p : Pr, X.mg (prName p) = none) ∧ (∀ t : Ty, t ≠ .non → X.mg (tyStr t) = none) ∧ X.mg "range" = none ∧ X.mg "enumerate" = none ∧ X.mg "zip" = none ∧ X.mg "type" = none ∧ X.mg "isinstance" = none := by
  refine ⟨fun p => h _ ?_, fun t ht => h _ ?_, h _ ?_, h _ ?_, h _ ?_, h _ ?_, h _ ?_⟩
  · cases p <;> simp [prName, bltNames]
  · cases t <;> first | exact absurd rfl ht | simp [tyStr, bltNames]
  all_goals simp [bltNames]
theorem boot_ty {t : Ty} (h : t ≠ .non) : bootBuiltins (tyStr t) = some (.type (tyName t)) := by
  cases t <;> first | exact absurd rfl h | decide +kernel
theorem tyStr_ok (t : Ty) : tyStr t ≠ ("__name__" : Str) ∧ (tyStr t == ("__debug__" : Str)) = false := by
  cases t <;> decide +kernel
theorem e_prim {X : Cx} {sc : Scope} {fb : Str → Bool} (ok : XOk X fa c G T k sc fb) {m : Bool} {p : Pr} {ts : List E} {es : List Expr} {pp pos : Pos} (hg : glB sc (prName p) = true) (hp : p ≠ .lenset) (h0 : es.isEmpty = false) (hl : SndL X fa G T k ts es) :
    PE X (.Call (.Name (prName p) pp) es [] pos) (RE X fa G (callN G T k) (.prim m p ts)) := by
  have gl := ok.gl hg
  have bl := (mem_blt ok.md.blt).1 p
  obtain ⟨h1, h2, h3⟩ := hl.pa
  match es, h0, h1, h2 with
  | e :: es, _, h1, h2 =>
    rw [List.all_cons, Bool.and_eq_true] at h2
    have q1 := star_of (es := es) (env := X.env) h2.1
    have q2 : (backTo pos (starEach es X.env)).any (·.1) = false := by rw [back_any.1, (stars_none h2.2).1]
    cases p with
    | len => exact (pe_callB call_P_len gl bl boot_len h1 (by decide) (by decide) q1 q2).wk fun _ _ _ h => prim_of h
    | abs => exact (pe_callB call_P_abs gl bl boot_abs h1 (by decide) (by decide) q1 q2).wk fun _ _ _ h => prim_of h
    | max2 => exact (pe_callB (call_P_max ok.calm) gl bl boot_max h1 (by decide) (by decide) q1 q2).wk fun _ _ _ h => prim_of h
    | min2 => exact (pe_callB (call_P_min ok.calm) gl bl boot_min h1 (by decide) (by decide) q1 q2).wk fun _ _ _ h => prim_of h
    | int => exact (pe_callTy call_P_int gl bl boot_int h1 (by decide) (by decide) q1 q2).wk fun _ _ _ h => prim_of h
    | tuple => exact (pe_callTy call_P_tuple gl bl boot_tuple h1 (by decide) (by decide) q1 q2).wk fun _ _ _ h => prim_of h
    | list => exact (pe_callTy call_P_list gl bl boot_list h1 (by decide) (by decide) q1 q2).wk fun _ _ _ h => prim_of h
    | sorted => exact (pe_callB (call_P_sorted ok.calm ok.md.w) gl bl boot_sorted h1 (by decide) (by decide) q1 q2).wk fun _ _ _ h => prim_of h
    | sum => exact (pe_callB (call_P_sum ok.calm) gl bl boot_sum h1 (by decide) (by decide) q1 q2).wk fun _ _ _ h => prim_of h
    | all => exact (pe_callB (call_P_all ok.calm) gl bl boot_all h1 (by decide) (by decide) q1 q2).wk fun _ _ _ h => prim_of h
    | any => exact (pe_callB (call_P_any ok.calm) gl bl boot_any h1 (by decide) (by decide) q1 q2).wk fun _ _ _ h => prim_of h
    | repr => exact (pe_callB (call_P_repr ok.u100 ok.clr) gl bl boot_repr h1 (by decide) (by decide) q1 q2).wk fun _ _ _ h => prim_of h
    | lenset => exact absurd rfl hp
theorem e_frz {X : Cx} {a : E} {e : Expr} (h : PE X e (RE X fa G (callN G T k) a)) : PE X e (RE X fa G (callN G T k) (.frz a)) := by
  refine h.wk fun σ H Q ⟨W, st, env, u, st', S, R, h, q⟩ => ?_
  simp only [evE] at h
  obtain ⟨x, st1, h1, h⟩ := bind_ok h
  split at h
  · rename_i n
    split at h
    · rename_i z hz
      cases h
      refine ⟨W, st, env, _, st1, S, R, h1, fun W1 H1 v l S1 r => ?_⟩
      obtain ⟨p, hp, rfl⟩ := r
      simp only [vw] at hz
      split at hz
      · rename_i us hn
        simp only [Option.map_eq_some_iff] at hz
        obtain ⟨ds, hd, rfl⟩ := hz
        obtain ⟨vs, g1, g2, g3⟩ := S1.ob n p _ hp hn
        obtain ⟨S2, l2⟩ := S1.freeze hp g1 g2
        exact q _ _ _ (l.trans l2) S2 (.lst upd_same ((g3.data hd).mono l2.le.g))
      · rename_i us hn
        simp only [Option.map_eq_some_iff] at hz
        obtain ⟨ds, hd, rfl⟩ := hz
        obtain ⟨vs, g1, g2, g3⟩ := S1.ob n p _ hp hn
        obtain ⟨S2, l2⟩ := S1.freeze hp g1 g2
        exact q _ _ _ (l.trans l2) S2 (.dic upd_same ((g3.data hd).mono l2.le.g))
      · cases hz
    · cases h
  · cases h
theorem storB_ok {X : Cx} {sc : Scope} {fb : Str → Bool} (ok : XOk X fa c G T k sc fb) {x : Str} (h : storB sc fb x = true) : Loc X.env.scope x ∧ (X.fn x = true ∨ X.env.scope.names.lookup x = some .local) := by
  unfold storB at h
  rw [ok.sc]
  split at h
  · rename_i hx; exact ⟨.inl hx, .inr hx⟩
  · rename_i hx; exact ⟨.inr hx, .inl (ok.fb x h)⟩
  · cases h
theorem tgs_ok {X : Cx} {sc : Scope} {fb : Str → Bool} (ok : XOk X fa c G T k sc fb) : ∀ {is : List Nat} {es : List Expr}, tgsB c.N sc fb is es = true → PGs X es (gNames is) ∧ (assignEach es X.env).length = is.length ∧ (assignEach es X.env).findIdx? (·.1) = none
  | [], [], _ => ⟨pgs_nil, rfl, rfl⟩
  | i :: is, .Name x p :: es, h => by
    simp only [tgsB, Bool.and_eq_true] at h
    obtain ⟨h1, h2, h3⟩ := tgs_ok ok h.2
    obtain ⟨q1, q2⟩ := storB_ok ok h.1.2
    refine ⟨pgs_cons (pg_name (by rw [ok.N]; exact ok.nd) (by rw [ok.N]; exact nmB_ok h.1.1) q1 q2) h1 rfl, ?_, ?_⟩
    · show (assignEach es X.env).length + 1 = is.length + 1
      rw [h2]
    · show ((false, assign (.Name x p) X.env) :: assignEach es X.env).findIdx? (·.1) = none
      rw [List.findIdx?_cons]
      simp [h3]
  | [], _ :: _, h => by simp [tgsB] at h
  | _ :: _, [], h => by simp [tgsB] at h
  | i :: is, e :: es, h => by
    cases e <;> first | (simp [tgsB] at h; done) | skip
    rename_i x p
    simp only [tgsB, Bool.and_eq_true] at h
    obtain ⟨h1, h2, h3⟩ := tgs_ok ok h.2
    obtain ⟨q1, q2⟩ := storB_ok ok h.1.2
    refine ⟨pgs_cons (pg_name (by rw [ok.N]; exact ok.nd) (by rw [ok.N]; exact nmB_ok h.1.1) q1 q2) h1 rfl, ?_, ?_⟩
    · show (assignEach es X.env).length + 1 = is.length + 1
      rw [h2]
    · show ((false, assign (.Name x p) X.env) :: assignEach es X.env).findIdx? (·.1) = none
      rw [List.findIdx?_cons]
      simp [h3]
theorem tg_ok {X : Cx} {sc : Scope} {fb : Str → Bool} (ok : XOk X fa c G T k sc fb) {tg : Tg} {e : Expr} (h : tgB c.N sc fb tg e = true) : PG X e (gT X.K tg) := by
  cases tg with
  | one i =>
    cases e <;> first | (simp [tgB] at h; done) | skip
    simp only [tgB, Bool.and_eq_true] at h
    obtain ⟨q1, q2⟩ := storB_ok ok h.2
    exact pg_name (by rw [ok.N]; exact ok.nd) (by rw [ok.N]; exact nmB_ok h.1) q1 q2
  | tup is =>
    cases e <;> first | (simp [tgB] at h; done) | skip
    simp only [tgB] at h
    obtain ⟨h1, h2, h3⟩ := tgs_ok ok h
    exact pg_tup ok.calm h1 h2 h3
  | two i is =>
    unfold tgB at h
    split at h
    · rename_i hh; cases hh
    · rename_i hh; cases hh
    · rename_i i' is' x px es k1 p1 k2 p2 heq
      cases heq
      simp only [Bool.and_eq_true] at h
      obtain ⟨h1, h2, h3⟩ := tgs_ok ok h.2
      obtain ⟨q1, q2⟩ := storB_ok ok h.1.2
      exact pg_tup ok.calm (pgs_cons (pg_name (by rw [ok.N]; exact ok.nd) (by rw [ok.N]; exact nmB_ok h.1.1) q1 q2) (pgs_cons (pg_tup ok.calm h1 h2 h3) pgs_nil rfl) rfl) rfl rfl
    · cases h
theorem iter_ok {X : Cx} {sc : Scope} {fb : Str → Bool} (ok : XOk X fa c G T k sc fb) {ik : Ik} {tg e : Expr} {es : List Expr} {ts : List E} (h : iterArgs ik tg e = some es) (hn : iterNm sc ik = true) (hl : SndL X fa G T k ts es)
    (h2 : iterLen ik es.length = true) : L2.PI X tg e (WI X fa G (callN G T k) ik ts) ∧ ∀ x, foldedSetIterable e X.env x = pure x := by
  have bl := mem_blt ok.md.blt
  cases ik with
  | val =>
    replace h : ivalA e = some es := h
    unfold ivalA at h
    split at h
    · rename_i hs
      simp only [Option.some.injEq] at h
      subst h
      cases hl with
      | cons n s t =>
        cases t
        refine ⟨i_val s.pe, fun x => ?_⟩
        cases e <;> first | rfl | cases hs
    · cases h
  | range =>
    replace h : irngA e = some es := h
    unfold irngA at h
    split at h
    · split at h
      · rename_i hx
        have hx := of_decide_eq_true hx
        subst hx
        simp only [Option.some.injEq] at h
        subst h
        cases hl with
        | nil => simp [iterLen] at h2
        | cons n s t =>
          cases t with
          | nil => exact ⟨i_range1 (ok.gl hn) bl.2.2.1 n s.pe, fun _ => rfl⟩
          | cons n2 s2 t =>
            cases t with
            | nil => exact ⟨i_range2 (ok.gl hn) bl.2.2.1 n n2 s.pe s2.pe, fun _ => rfl⟩
            | cons _ _ _ => simp [iterLen] at h2
      · cases h
    · cases h
  | enum =>
    replace h : ienA tg e = some es := h
    unfold ienA at h
    split at h
    · split at h
      · rename_i hx
        have hx := of_decide_eq_true hx
        subst hx
        simp only [Option.some.injEq] at h
        subst h
        cases hl with
        | nil => simp [iterLen] at h2
        | cons n s t =>
          cases t with
          | nil => exact ⟨i_enum (ok.gl hn) bl.2.2.2.1 n s.pe, fun _ => rfl⟩
          | cons _ _ _ => simp [iterLen] at h2
      · cases h
    · cases h
  | zip =>
    replace h : izpA tg e = some es := h
    unfold izpA at h
    split at h
    · split at h
      · rename_i hx
        have hx := of_decide_eq_true hx
        subst hx
        simp only [Option.some.injEq] at h
        subst h
        cases hl with
        | nil => simp [iterLen] at h2
        | cons n s t =>
          cases t with
          | nil => simp [iterLen] at h2
          | cons n2 s2 t =>
            cases t with
            | nil => exact ⟨i_zip (ok.gl hn) bl.2.2.2.2.1 n n2 s.pe s2.pe, fun _ => rfl⟩
            | cons _ _ _ => simp [iterLen] at h2
      · cases h
    · cases h
theorem ifs_ok {X : Cx} {ts : List E} {es : List Expr} (hl : SndL X fa G T k ts es) (h1 : es.length ≤ 1) (h : (ts.zip es).all (fun p => tbE p.1 p.2) = true) : PTs X es (RTs X fa G (callN G T k) ts) := by
  cases hl with
  | nil =>
    refine pts_nil.wk fun σ H Q ⟨W, st, env, b, st', S, R, h, q⟩ => ?_
    cases h
    exact q.now S
  | cons n s t =>
    cases t with
    | cons _ _ _ => simp at h1
    | nil =>
      refine (pts_one (s.pt (by simpa using h))).wk fun σ H Q ⟨W, st, env, b, st', S, R, h, q⟩ => ?_
      simp only [evTs] at h
      obtain ⟨x, st1, g1, h⟩ := bind_ok h
      obtain ⟨z, st2, g2, h⟩ := bind_ok h
      refine ⟨W, st, env, b, st', S, R, ?_, q⟩
      simp only [evT, g1, O.bind]
      cases z with
      | true => simp only [if_true, O.ok.injEq] at h; rw [g2, h.1, h.2]
      | false => simp only [Bool.false_eq_true, if_false, O.ok.injEq] at h; rw [g2, h.1, h.2]
end
end PI
set_option Elab.async false
set_option linter.all false
set_option maxRecDepth 100000
set_option maxHeartbeats 8000000
/-! Expressions that were held against their text are sound. -/
namespace PI
open PySem PySem.Spec PyProof.Rows L2
section
variable {fa : Fa} {c : Ck} {G : List U} {T : List Fn} {k : Nat}
theorem one_and {X : Cx} {t : E} {e : Expr} {p : Pos} (h : Snd X fa G T k t e) (hb : tbE t e = true) : PE X (.BoolOp .And [e] p) (RE X fa G (callN G T k) t) ∧ PW X (.BoolOp .And [e] p) (RT X fa G (callN G T k) t) := ⟨pe_one h.pe, pw_and1 (h.pt hb)⟩
theorem one_or {X : Cx} {t : E} {e : Expr} {p : Pos} (h : Snd X fa G T k t e) (hb : tbE t e = true) : PE X (.BoolOp .Or [e] p) (RE X fa G (callN G T k) t) ∧ PW X (.BoolOp .Or [e] p) (RT X fa G (callN G T k) t) := ⟨pe_one h.pe, pw_or1 (h.pt hb)⟩
theorem con_ok {X : Cx} {d : PyData} {e : Expr} (h : conB d e = true) : Snd X fa G T k (.con d) e := by
  unfold conB at h
  split at h
  · have h := of_decide_eq_true h
    subst h
    exact .val (e_con pe_int fun _ => .int _) rfl rfl
  · have h := eq_of_beq h
    subst h
    exact .val (e_con pe_bl fun _ => .bl _) rfl rfl
  · exact .val (e_con pe_non fun _ => .non) rfl rfl
  · have h := of_decide_eq_true h
    subst h
    exact .val (e_con pe_str fun _ => .str _) rfl rfl
  · cases h
theorem opt_ok {X : Cx} {o : Option Expr} {ts : List E} (h : SndL X fa G T k ts o.toList) : PO X o (rOpt X fa G (callN G T k) ts) ∧ ts.length ≤ 1 := by
  cases o with
  | none => cases h; exact ⟨po_none, by simp⟩
  | some e =>
    cases h with
    | cons n s t => cases t; exact ⟨po_some s.pe, by simp⟩
theorem base_of {a : Expr} {nm : Str} {env : Env} (h : notCall a = true) : attributeBase a nm env (eval a env) = eval a env := by
  cases a <;> first | rfl | cases h
theorem pps_of {X : Cx} {p : Pos} : ∀ {keys : List (Option Expr)} {vals : List Expr} {ts : List E}, keys.all (·.isSome) = true → keys.length = vals.length → SndL X fa G T k ts (inter keys vals) → PPs X p keys vals (trsOf X fa G (callN G T k) ts)
  | [], [], ts, _, _, h => by cases h; exact pps_nil
  | [], _ :: _, _, _, h, _ => by simp at h
  | _ :: _, [], _, _, h, _ => by simp at h
  | none :: _, _ :: _, _, h, _, _ => by simp at h
  | some a :: ks, v :: vs, ts, h1, h2, h => by
    simp only [inter] at h
    cases h with
    | cons n s t =>
      cases t with
      | cons n2 s2 t => exact pps_cons s.pe s2.pe (pps_of (by simpa using h1) (by simpa using h2) t)
theorem isTy_t {X : Cx} {a : Expr} {ta : E} {t : Ty} {p p2 cpos pos : Pos} {x : Str} : blE (.isTy ta t) (.Compare (.Call (.Name "type" p) [a] [] cpos) [.Is] [.Name x p2] pos) = false := rfl
mutual
theorem chkE_ok : ∀ (t : E) {sc : Scope} {fb : Str → Bool} {e : Expr} {X : Cx}, XOk X fa c G T k sc fb → chkE c t sc fb e = true → Snd X fa G T k t e
  | .var i, sc, fb, e, X, ok, h => by
    cases e <;> first | (simp [chkE] at h; done) | skip
    simp only [chkE, Bool.and_eq_true] at h
    obtain ⟨h1, h2⟩ := okN_ok h.2
    exact .val (e_var (by rw [ok.N]; exact nmB_ok h.1.1) (by rw [ok.sc]; exact visB_ok h.1.2) h1 h2) rfl rfl
  | .con d, sc, fb, e, X, ok, h => con_ok (by simpa [chkE] using h)
  | .glob g, sc, fb, e, X, ok, h => by
    cases e <;> first | (simp [chkE] at h; done) | skip
    simp only [chkE, Bool.and_eq_true] at h
    obtain ⟨u, uv, v, h1, h2, h3, h4⟩ := ok.md.con g _ (nmB_ok h.1.1)
    exact .val (e_glob (ok.gl h.1.2) h2 h3 h1 h4 (okN_ok h.2).1) rfl rfl
  | .bin o a b, sc, fb, e, X, ok, h => by
    cases e <;> first | (simp [chkE] at h; done) | skip
    simp only [chkE, Bool.and_eq_true] at h
    obtain ⟨⟨h1, h2⟩, h3⟩ := h
    have := bopB_ok h1
    subst this
    exact .val (e_bin (chkE_ok a ok h2).pe (chkE_ok b ok h3).pe) rfl rfl
  | .addM a b, sc, fb, e, X, ok, h => by
    simp only [chkE] at h
    split at h
    · simp only [Bool.and_eq_true] at h
      exact .val (e_addM (chkE_ok a ok h.1).pe (chkE_ok b ok h.2).pe) rfl rfl
    · cases h
  | .neg a, sc, fb, e, X, ok, h => by
    cases e <;> first | (simp [chkE] at h; done) | skip
    rename_i op _ _
    cases op <;> first | (simp [chkE] at h; done) | skip
    simp only [chkE] at h
    exact .val (e_neg (chkE_ok a ok h).pe) rfl rfl
  | .not a, sc, fb, e, X, ok, h => by
    cases e <;> first | (simp [chkE] at h; done) | skip
    rename_i op _ _
    cases op <;> first | (simp [chkE] at h; done) | skip
    simp only [chkE, Bool.and_eq_true] at h
    have s := chkE_ok a ok h.2
    exact ⟨e_not s.pe, fun _ => t_not (s.pt h.1), fun h => by cases h⟩
  | .cmp o a b, sc, fb, e, X, ok, h => by
    simp only [chkE] at h
    split at h
    · simp only [Bool.and_eq_true, Bool.not_eq_true'] at h
      obtain ⟨⟨⟨h1, h2⟩, h3⟩, h4⟩ := h
      have := copB_ok h1
      subst this
      have sa := chkE_ok a ok h3
      have sb := chkE_ok b ok h4
      exact ⟨e_cmp ok.u65 ok.md.w sa.pe sb.pe h2, fun _ => t_cmp ok.u65 ok.md.w sa.pe sb.pe h2, fun h => by cases h⟩
    · cases h
  | .chain o o2 a b d, sc, fb, e, X, ok, h => by
    simp only [chkE] at h
    split at h
    · simp only [Bool.and_eq_true, Bool.not_eq_true'] at h
      obtain ⟨⟨⟨⟨⟨h1, h2⟩, h3⟩, h4⟩, h5⟩, h6⟩ := h
      have e1 := copB_ok h1
      have e2 := copB_ok h2
      subst e1 e2
      have sa := chkE_ok a ok h4
      have sb := chkE_ok b ok h5
      have sd := chkE_ok d ok h6
      refine ⟨(pe_chain (op_C (fa := fa) ok.u65 ok.md.w o) (op_C (fa := fa) ok.u65 ok.md.w o2) sa.pe sb.pe sd.pe h3).wk fun σ H Q ⟨W, st, env, u, st', S, R, h, q⟩ => chain_of S R h fun b hb => ?_, fun _ => (pt_chain (op_C (fa := fa) ok.u65 ok.md.w o) (op_C (fa := fa) ok.u65 ok.md.w o2) sa.pe sb.pe sd.pe h3).wk fun σ H Q ⟨W, st, env, b, st', S, R, h, q⟩ => ?_, fun h => by cases h⟩
      · subst hb
        exact fun W' H' l S' => q W' H' _ l S' (.bl _)
      · simp only [evT] at h
        obtain ⟨u, st1, h1, h⟩ := bind_ok h
        refine chain_of (st' := st1) S R h1 fun b' hb => ?_
        subst hb
        simp only [tru, vw, truD] at h
        cases h
        exact fun W' H' l S' => ⟨b, rfl, q W' H' l S'⟩
    · cases h
  | .chain3 o o2 o3 a b d f, sc, fb, e, X, ok, h => by
    simp only [chkE] at h
    split at h
    · simp only [Bool.and_eq_true, Bool.not_eq_true'] at h
      obtain ⟨⟨⟨⟨⟨⟨⟨h1, h2⟩, h0⟩, h3⟩, h4⟩, h5⟩, h6⟩, h7⟩ := h
      have e1 := copB_ok h1
      have e2 := copB_ok h2
      have e3 := copB_ok h0
      subst e1 e2 e3
      have sa := chkE_ok a ok h4
      have sb := chkE_ok b ok h5
      have sd := chkE_ok d ok h6
      have sf := chkE_ok f ok h7
      have u := ok.u65
      have w := ok.md.w
      refine ⟨(pe_chain3 (op_C (fa := fa) u w o) (op_C (fa := fa) u w o2) (op_C (fa := fa) u w o3) sa.pe sb.pe sd.pe sf.pe h3).wk fun σ H Q ⟨W, st, env, u, st', S, R, h, q⟩ => chain3_of S R h fun b hb => ?_, fun _ => (pt_chain3 (op_C (fa := fa) u w o) (op_C (fa := fa) u w o2) (op_C (fa := fa) u w o3) sa.pe sb.pe sd.pe sf.pe h3).wk fun σ H Q ⟨W, st, env, b, st', S, R, h, q⟩ => ?_, fun h => by cases h⟩
      · subst hb
        exact fun W' H' l S' => q W' H' _ l S' (.bl _)
      · simp only [evT] at h
        obtain ⟨u, st1, h1, h⟩ := bind_ok h
        refine chain3_of (st' := st1) S R h1 fun b' hb => ?_
        subst hb
        simp only [tru, vw, truD] at h
        cases h
        exact fun W' H' l S' => ⟨b, rfl, q W' H' l S'⟩
    · cases h
  | .and a b, sc, fb, e, X, ok, h => by
    simp only [chkE] at h
    split at h
    · simp only [Bool.and_eq_true] at h
      obtain ⟨⟨⟨h1, h2⟩, h3⟩, h4⟩ := h
      have sa := chkE_ok a ok h3
      have sb := one_and (p := by assumption) (chkE_ok b ok h4) h2
      have w := w_and (sa.pt h1) sb.2
      exact ⟨e_and sa.pe sb.1, fun _ => w.pt, fun _ => w⟩
    · simp only [Bool.and_eq_true] at h
      obtain ⟨⟨⟨h1, h2⟩, h3⟩, h4⟩ := h
      have sa := chkE_ok a ok h3
      have sb := chkE_ok b ok h4
      have w := w_and (sa.pt h1) (sb.pw h2)
      exact ⟨e_and sa.pe sb.pe, fun _ => w.pt, fun _ => w⟩
    · cases h
  | .or a b, sc, fb, e, X, ok, h => by
    simp only [chkE] at h
    split at h
    · simp only [Bool.and_eq_true] at h
      obtain ⟨⟨⟨h1, h2⟩, h3⟩, h4⟩ := h
      have sa := chkE_ok a ok h3
      have sb := one_or (p := by assumption) (chkE_ok b ok h4) h2
      have w := w_or (sa.pt h1) sb.2
      exact ⟨e_or sa.pe sb.1, fun _ => w.pt, fun _ => w⟩
    · simp only [Bool.and_eq_true] at h
      obtain ⟨⟨⟨h1, h2⟩, h3⟩, h4⟩ := h
      have sa := chkE_ok a ok h3
      have sb := chkE_ok b ok h4
      have w := w_or (sa.pt h1) (sb.pw h2)
      exact ⟨e_or sa.pe sb.pe, fun _ => w.pt, fun _ => w⟩
    · cases h
  | .ife t a b, sc, fb, e, X, ok, h => by
    cases e <;> first | (simp [chkE] at h; done) | skip
    simp only [chkE, Bool.and_eq_true] at h
    obtain ⟨⟨⟨h1, h2⟩, h3⟩, h4⟩ := h
    exact ⟨e_ife ((chkE_ok t ok h2).pt h1) (chkE_ok a ok h3).pe (chkE_ok b ok h4).pe, fun h => (by cases h), fun h => (by cases h)⟩
  | .tup ts, sc, fb, e, X, ok, h => by
    cases e <;> first | (simp [chkE] at h; done) | skip
    simp only [chkE] at h
    exact .val (e_tup (chkEs_ok ts ok h).pa.1) rfl rfl
  | .lst m ts, sc, fb, e, X, ok, h => by
    cases e <;> first | (simp [chkE] at h; done) | skip
    simp only [chkE] at h
    exact .val (e_lst (chkEs_ok ts ok h).pa.1) rfl rfl
  | .dic ts, sc, fb, e, X, ok, h => by
    simp only [chkE] at h
    split at h
    · cases ts with
      | nil => exact .val e_dic0 rfl rfl
      | cons _ _ => simp at h
    · simp only [Bool.and_eq_true, Bool.not_eq_true', decide_eq_true_eq] at h
      obtain ⟨⟨⟨⟨h1, h2⟩, h3⟩, h4⟩, h5⟩ := h
      exact .val (e_dic (pps_of h1 h2 (chkEs_ok ts ok h5)) h1 h2 (fun e => by rw [e] at h3; cases h3) h4) rfl rfl
    · cases h
  | .mkd a, sc, fb, e, X, ok, h => by
    simp only [chkE] at h
    split at h
    · simp only [Bool.and_eq_true, decide_eq_true_eq] at h
      obtain ⟨⟨⟨rfl, h2⟩, h3⟩, h4⟩ := h
      exact .val (e_mkd ok.calm (ok.gl h2) (ok.md.blt _ (by simp [bltNames])) (chkE_ok a ok h4).pe h3) rfl rfl
    · cases h
  | .idx a i, sc, fb, e, X, ok, h => by
    cases e <;> first | (simp [chkE] at h; done) | skip
    simp only [chkE, Bool.and_eq_true] at h
    obtain ⟨⟨h1, h2⟩, h3⟩ := h
    exact .val (e_idx ok.u65 ok.md.w (chkE_ok a ok h2).pe (chkE_ok i ok h3).pe h1) rfl rfl
  | .slice a lo hi, sc, fb, e, X, ok, h => by
    simp only [chkE] at h
    split at h
    · simp only [Bool.and_eq_true] at h
      obtain ⟨⟨h1, h2⟩, h3⟩ := h
      obtain ⟨q1, q2⟩ := opt_ok (chkEs_ok lo ok h2)
      obtain ⟨q3, q4⟩ := opt_ok (chkEs_ok hi ok h3)
      exact .val (e_slice (chkE_ok a ok h1).pe q1 q3 q2 q4) rfl rfl
    · cases h
  | .call f ts, sc, fb, e, X, ok, h => by
    simp only [chkE] at h
    split at h
    · simp only [Bool.and_eq_true] at h
      obtain ⟨⟨⟨h1, h2⟩, h3⟩, h4⟩ := h
      obtain ⟨ad, fd, ps, _, q1, q2, q3, q4⟩ := ok.md.fn f _ (nmB_ok h1)
      obtain ⟨p1, p2, p3⟩ := (chkEs_ok ts ok h4).pa
      exact .val (e_call q4 ok.room ok.clr (ok.gl h2) q1 q2 q3 p1 (okN_ok h3).1 p2 p3) rfl rfl
    · cases h
  | .callv i ts, sc, fb, e, X, ok, h => by
    simp only [chkE] at h
    split at h
    · rename_i x p es pos
      simp only [Bool.and_eq_true, Bool.not_eq_true'] at h
      obtain ⟨⟨⟨⟨h1, h2⟩, h3⟩, h4⟩, h5⟩ := h
      obtain ⟨p1, p2, p3⟩ := (chkEs_ok ts ok h5).pa
      obtain ⟨d1, d2⟩ := okN_ok h3
      refine .val ⟨fun pins s σ H Q I ⟨W, st, env, u, st', S, R, h, q⟩ => ?_⟩ rfl rfl
      simp only [evE] at h
      obtain ⟨us, st1, g1, h⟩ := bind_ok h
      split at h
      · rename_i f hf
        obtain ⟨v, e1, ad, e2, rfl⟩ := R.at_ i _ hf
        have hx : ∃ y, c.fns[f]? = some y := by
          cases k with
          | zero => cases h
          | succ k =>
            simp only [callN] at h
            split at h
            · rename_i F hF
              have := (List.getElem?_eq_some_iff.mp hF).1
              exact ⟨_, List.getElem?_eq_getElem (Nat.lt_of_lt_of_le this ok.md.tl)⟩
            · cases h
        obtain ⟨y, hy⟩ := hx
        obtain ⟨ad', fd, ps, e3, q1, q2, q3, q4⟩ := ok.md.fn f y hy
        rw [e2] at e3
        cases e3
        cases es with
        | nil => cases h4
        | cons e es =>
          rw [List.all_cons, Bool.and_eq_true] at p2
          refine wpAny_Call_Name_kw (thn ((pe_var (pos := p) (by rw [ok.N]; exact nmB_ok h1) (by rw [ok.sc]; exact visB_ok h2) d1 d2).run pins s σ H (fun v H1 => v = .ref ad ∧ H1 = H) I ⟨.ref ad, e1, rfl, rfl⟩) fun w1 s1 ⟨v1, H1, I1, r1, ev, eH⟩ => ?_)
          subst ev eH
          cases r1
          refine PySem.W.callWith_K (h₀ := X.base) I.ok.mod.kin q2 ?_ (star_of p2.1) (by rw [back_any.1, (stars_none p2.2).1])
          refine thn (p1.run pos pins s1 σ H1 (fun vs H2 => spF X.K fa G T k f vs H2 Q E0) I1 ⟨W, st, env, us, st1, S, R, g1, fun W1 H2 vs l S1 r => ⟨W1, st1, us, u, st', S1, r, h, q.mono l⟩⟩) fun ws s2 ⟨vs, H2, I2, r, hq⟩ => ⟨I2.kIn, ?_⟩
          exact run_fnG q4 ok.room ok.clr q3 pass0 I2 r hq
      · cases h
    · cases h
  | .prim m p ts, sc, fb, e, X, ok, h => by
    simp only [chkE] at h
    split at h
    · simp only [Bool.and_eq_true, Bool.not_eq_true'] at h
      obtain ⟨⟨⟨⟨h1, h2⟩, h3⟩, h4⟩, h5⟩ := h
      have e1 := of_decide_eq_true h1
      subst e1
      exact .val (e_prim ok h2 (by rintro rfl; cases h4) h3 (chkEs_ok ts ok h5)) rfl rfl
    · cases h
  | .meth m a ts, sc, fb, e, X, ok, h => by
    simp only [chkE] at h
    split at h
    · rename_i a' nm apos es pos
      simp only [Bool.and_eq_true] at h
      obtain ⟨⟨⟨⟨h1, h2⟩, h3⟩, h4⟩, h5⟩ := h
      have sa := chkE_ok a ok h3
      have sl := chkEs_ok ts ok h4
      cases m with
      | append =>
        simp only [Bool.and_eq_true, decide_eq_true_eq] at h5
        obtain ⟨rfl, h6⟩ := h5
        cases sl with
        | nil => simp at h6
        | cons n s t =>
          cases t with
          | nil => exact .val (e_meth (fun h => nomatch h) ⟨(fun h => nomatch h), (fun h => nomatch h)⟩ PySem.F.slot_list_append PySem.F.type_list_append mt_app sa.pe s.pe n (base_of h2) h1) rfl rfl
          | cons _ _ _ => simp at h6
      | extend =>
        simp only [Bool.and_eq_true, decide_eq_true_eq] at h5
        obtain ⟨rfl, h6⟩ := h5
        cases sl with
        | nil => simp at h6
        | cons n s t =>
          cases t with
          | nil => exact .val (e_meth (fun h => nomatch h) ⟨(fun h => nomatch h), (fun h => nomatch h)⟩ PySem.F.slot_list_extend PySem.F.type_list_extend mt_ext sa.pe s.pe n (base_of h2) h1) rfl rfl
          | cons _ _ _ => simp at h6
      | pop0 =>
        simp only [Bool.and_eq_true, decide_eq_true_eq] at h5
        obtain ⟨rfl, h6⟩ := h5
        cases sl with
        | nil => exact .val (e_meth0 (fun h => nomatch h) ⟨(fun h => nomatch h), (fun h => nomatch h)⟩ PySem.F.slot_list_pop PySem.F.type_list_pop mt_pop0 sa.pe (base_of h2) h1) rfl rfl
        | cons n s t => simp at h6
      | pop1 =>
        simp only [Bool.and_eq_true, decide_eq_true_eq] at h5
        obtain ⟨rfl, h6⟩ := h5
        cases sl with
        | nil => simp at h6
        | cons n s t =>
          cases t with
          | nil => exact .val (e_meth (fun h => nomatch h) ⟨(fun h => nomatch h), (fun h => nomatch h)⟩ PySem.F.slot_list_pop PySem.F.type_list_pop mt_pop1 sa.pe s.pe n (base_of h2) h1) rfl rfl
          | cons _ _ _ => simp at h6
      | get1 =>
        simp only [Bool.and_eq_true, decide_eq_true_eq] at h5
        obtain ⟨rfl, h6⟩ := h5
        cases sl with
        | nil => simp at h6
        | cons n s t =>
          cases t with
          | nil => exact .val (e_get1 ok.u65 ok.md.w sa.pe s.pe n (base_of h2) h1) rfl rfl
          | cons _ _ _ => simp at h6
      | get2 => cases h5
      | update =>
        simp only [Bool.and_eq_true, decide_eq_true_eq] at h5
        obtain ⟨rfl, h6⟩ := h5
        cases sl with
        | nil => simp at h6
        | cons n s t =>
          cases t with
          | nil => exact .val (e_upd sa.pe s.pe n (base_of h2) h1) rfl rfl
          | cons _ _ _ => simp at h6
    · cases h
  | .comp m elt tg ik ts ifs, sc, fb, e, X, ok, h => by
    simp only [chkE] at h
    split at h
    · split at h
      · rename_i es he
        simp only [Bool.and_eq_true, decide_eq_true_eq] at h
        obtain ⟨⟨⟨⟨⟨⟨⟨⟨h1, h2⟩, h3⟩, h4⟩, h5⟩, h6⟩, h7⟩, h8⟩, h9⟩ := h
        obtain ⟨q1, q2⟩ := iter_ok ok he h1 (chkEs_ok ts ok h3) h2
        have hb := blkOk_by h5
        rw [← ok.N, ← ok.sc] at hb
        refine .val (e_comp ok.calm (by rw [ok.N]; exact ok.nd) q1 hb ?_ (fun s H C cl fp => tg_ok (ok.blk s H _ C cl fp) h4) (fun s H C cl fp => ifs_ok (chkEs_ok ifs (ok.blk s H _ C cl fp) h8) h6 h7) (fun s H C cl fp => (chkE_ok elt (ok.blk s H _ C cl fp) h9).pe) q2) rfl rfl
        unfold ownOf
        rw [List.map_map]
        exact List.map_id _
      · cases h
    · cases h
  | .isTy a t, sc, fb, e, X, ok, h => by
    simp only [chkE] at h
    split at h
    · simp only [Bool.and_eq_true, decide_eq_true_eq] at h
      obtain ⟨⟨⟨⟨⟨⟨rfl, h2⟩, rfl⟩, h4⟩, h5⟩, h6⟩, h7⟩ := h
      have ht : t ≠ .non := by rintro rfl; cases h5
      have bl := mem_blt ok.md.blt
      exact ⟨e_isTy (ok.gl h2) bl.2.2.2.2.2.1 (ok.gl h4) (bl.2.1 t ht) (boot_ty ht) (tyStr_ok t).1 (tyStr_ok t).2 (chkE_ok a ok h7).pe h6, fun _ => t_isTy (ok.gl h2) bl.2.2.2.2.2.1 (ok.gl h4) (bl.2.1 t ht) (boot_ty ht) (tyStr_ok t).1 (tyStr_ok t).2 (chkE_ok a ok h7).pe h6, fun h => (by cases h)⟩
    · cases h
  | .noTy a t, sc, fb, e, X, ok, h => by
    simp only [chkE] at h
    split at h
    · simp only [Bool.and_eq_true, decide_eq_true_eq] at h
      obtain ⟨⟨⟨⟨⟨⟨rfl, h2⟩, rfl⟩, h4⟩, h5⟩, h6⟩, h7⟩ := h
      have ht : t ≠ .non := by rintro rfl; cases h5
      have bl := mem_blt ok.md.blt
      exact ⟨e_noTy (ok.gl h2) bl.2.2.2.2.2.1 (ok.gl h4) (bl.2.1 t ht) (boot_ty ht) (tyStr_ok t).1 (tyStr_ok t).2 (chkE_ok a ok h7).pe h6, fun _ => t_noTy (ok.gl h2) bl.2.2.2.2.2.1 (ok.gl h4) (bl.2.1 t ht) (boot_ty ht) (tyStr_ok t).1 (tyStr_ok t).2 (chkE_ok a ok h7).pe h6, fun h => (by cases h)⟩
    · cases h
  | .isIn a t, sc, fb, e, X, ok, h => by
    simp only [chkE] at h
    split at h
    · simp only [Bool.and_eq_true, decide_eq_true_eq] at h
      obtain ⟨⟨⟨⟨⟨⟨rfl, h2⟩, rfl⟩, h4⟩, h5⟩, h6⟩, h7⟩ := h
      have ht : t ≠ .non := by rintro rfl; cases h5
      have bl := mem_blt ok.md.blt
      exact .val (e_isIn (ok.gl h2) bl.2.2.2.2.2.2 (ok.gl h4) (bl.2.1 t ht) (boot_ty ht) (tyStr_ok t).1 (tyStr_ok t).2 (chkE_ok a ok h7).pe h6) rfl rfl
    · cases h
  | .frz a, sc, fb, e, X, ok, h => by
    simp only [chkE] at h
    have pe := e_frz (chkE_ok a ok h).pe
    exact ⟨pe, fun hp => e_truth pe (plain_isTrue hp), fun h => by cases h⟩
theorem chkEs_ok : ∀ (ts : List E) {sc : Scope} {fb : Str → Bool} {es : List Expr} {X : Cx}, XOk X fa c G T k sc fb → chkEs c ts sc fb es = true → SndL X fa G T k ts es
  | [], sc, fb, es, X, ok, h => by
    cases es with
    | nil => exact .nil
    | cons _ _ => simp [chkEs] at h
  | t :: ts, sc, fb, es, X, ok, h => by
    cases es with
    | nil => simp [chkEs] at h
    | cons e es =>
      simp only [chkEs, Bool.and_eq_true] at h
      exact .cons h.1.1 (chkE_ok t ok h.1.2) (chkEs_ok ts ok h.2)
end
end
end PI
set_option Elab.async false
set_option linter.all false
set_option maxRecDepth 100000
set_option maxHeartbeats 8000000
/-! Statements held against their text; whole defs; the law. -/
namespace PI
open PySem PySem.Spec PyProof.Rows L2
def locB (sc : Scope) (x : Str) : Bool := match sc.names.lookup x with
  | some .local => true
  | _ => false
/-- name = [..] stores on its way -/
def onLine (sc : Scope) (x : Str) (px : Pos) : Expr → Bool
  | .ListComp _ _ s p => locB sc x && (px.line == p.line) && !(s.names.any fun (n, k) => n == x && (k == .local || k == .cell))
  | _ => false
def offLine (sc : Scope) (x : Str) (px : Pos) : Expr → Bool
  | .ListComp _ _ s p => !(locB sc x) || !(px.line == p.line)
  | _ => false
mutual
def chkS (c : Ck) (sc : Scope) : S → Stmt → Bool
  | .set i t, s => match s with
    | .Assign [.Name x px] e _ => nmB c.N i x && storB sc (fun _ => true) x && chkE c t sc (fun _ => true) e && (notComp e || offLine sc x px e || (onLine sc x px e && (match t with | .comp _ _ _ _ _ _ => true | _ => false)))
    | _ => false
  | .unp is t, s => match s with
    | .Assign [.Tuple es k p] e _ => tgB c.N sc (fun _ => true) (.tup is) (.Tuple es k p) && chkE c t sc (fun _ => true) e && (notTup e || foldTup e || nonLoc sc es)
    | _ => false
  | .par is ts, s => match is, s with
    | [i, j], .Assign [.Tuple [.Name x px, .Name y py] _ _] (.Tuple [a, b] _ _) _ => nmB c.N i x && nmB c.N j y && decide (i ≠ j) && locB sc x && locB sc y && chkEs c ts sc (fun _ => true) [a, b] &&
        !(x == y) && !(([a, b] : List Expr).all (foldedForSure 8)) && !(([a, b] : List Expr).all (constantsAlone 8)) && (py.line == px.line)
    | [i, j, m], .Assign [.Tuple [.Name x px, .Name y py, .Name z pz] _ _] (.Tuple [a, b, d] _ _) _ => nmB c.N i x && nmB c.N j y && nmB c.N m z && decide (i ≠ j) && decide (i ≠ m) && decide (j ≠ m) && locB sc x && locB sc y && locB sc z &&
        chkEs c ts sc (fun _ => true) [a, b, d] && !(x == y) && !(x == z) && !(y == z) && !(([a, b, d] : List Expr).all (foldedForSure 8)) && !(([a, b, d] : List Expr).all (constantsAlone 8)) && (py.line == px.line) && (pz.line == px.line)
    | _, _ => false
  | .aug i o t, s => match o, s with
    | .add, .AugAssign (.Name x _) .Add e _ => nmB c.N i x && storB sc (fun _ => true) x && chkE c t sc (fun _ => true) e
    | .sub, .AugAssign (.Name x _) .Sub e _ => nmB c.N i x && storB sc (fun _ => true) x && chkE c t sc (fun _ => true) e
    | _, _ => false
  | .put a i t, s => match s with
    | .Assign [.Subscript a' i' _] e _ => notSl i' && chkE c a sc (fun _ => true) a' && chkE c i sc (fun _ => true) i' && chkE c t sc (fun _ => true) e
    | _ => false
  | .exp t, s => match s with
    | .Expr e _ => notComp e && chkE c t sc (fun _ => true) e
    | _ => false
  | .ret t, s => match s with
    | .Return (some e) _ => chkE c t sc (fun _ => true) e
    | _ => false
  | .retN, s => match s with
    | .Return none _ => true
    | _ => false
  | .ifs t a b, s => match s with
    | .If t' a' b' _ => tbE t t' && chkE c t sc (fun _ => true) t' && chkSs c sc a a' && chkSs c sc b b'
    | _ => false
  | .whl t b, s => match s with
    | .While t' b' [] _ => tbE t t' && chkE c t sc (fun _ => true) t' && chkSs c sc b b'
    | _ => false
  | .forr tg ik ts b, s => match s with
    | .For tg' it' b' [] _ => match iterArgs ik tg' it' with
      | some es => iterNm sc ik && iterLen ik es.length && chkEs c ts sc (fun _ => true) es && tgB c.N sc (fun _ => true) tg tg' && chkSs c sc b b'
      | none => false
    | _ => false
  | .brk, s => match s with
    | .Break _ => true
    | _ => false
  | .cont, s => match s with
    | .Continue _ => true
    | _ => false
  | .pass, s => match s with
    | .Pass _ => true
    | _ => false
  | .rais, _ => true
def chkSs (c : Ck) (sc : Scope) : List S → List Stmt → Bool
  | [], ss => ss.isEmpty
  | t :: ts, ss => match ss with
    | s :: ss => chkS c sc t s && chkSs c sc ts ss
    | [] => false
end
section
variable {fa : Fa} {c : Ck} {G : List U} {T : List Fn} {k : Nat}
theorem locB_ok {sc : Scope} {x : Str} (h : locB sc x = true) : sc.names.lookup x = some .local := by
  unfold locB at h
  split at h
  · assumption
  · cases h
theorem off_ok {sc : Scope} {x : Str} {px : Pos} {e : Expr} {l : Nat} {env : Env} (hs : env.scope = sc) (h : offLine sc x px e = true) : swapsWith e (some (.Name x px)) l env = pure false := by
  cases e <;> first | cases h | skip
  rename_i elt gs s p
  have h' : (!(locB sc x) || !(px.line == p.line)) = true := h
  have e1 : swapsWith (.ListComp elt gs s p) (some (.Name x px)) l env = pure (env.blockKind == .function && env.kindOf x == some .local && px.line == p.line && !(s.names.any fun (n, k) => n == x && (k == .local || k == .cell))) := rfl
  rw [e1]
  congr 1
  rw [Bool.or_eq_true, Bool.not_eq_true', Bool.not_eq_true'] at h'
  rcases h' with h' | h'
  · have : (env.kindOf x == some .local) = false := by
      show (env.scope.names.lookup x == some .local) = false
      rw [hs]
      unfold locB at h'
      split at h'
      · cases h'
      · rename_i hq
        cases hz : sc.names.lookup x with
        | none => rfl
        | some q => cases q <;> first | rfl | exact absurd hz hq
    rw [this]
    simp
  · rw [h']
    simp
theorem on_ok {X : Cx} {sc : Scope} {x : Str} {px : Pos} {elt : Expr} {gs : List Comprehension} {s : Scope} {p : Pos} {l : Nat} (hk : X.env.scope.kind = .function) (hs : X.env.scope = sc) (h : onLine sc x px (.ListComp elt gs s p) = true) : swapsWith (.ListComp elt gs s p) (some (.Name x px)) l X.env = pure true := by
  simp only [onLine, Bool.and_eq_true, Bool.not_eq_true'] at h
  exact sw_true hk (by rw [hs]; exact locB_ok h.1.1) h.1.2 h.2
/-- the pieces of a comprehension -/
theorem comp_ok {X : Cx} {sc : Scope} {fb : Str → Bool} (ok : XOk X fa c G T k sc fb) {m : Bool} {elt : E} {tg : Tg} {ik : Ik} {ts ifs : List E} {e : Expr} (h : chkE c (.comp m elt tg ik ts ifs) sc fb e = true) :
    ∃ elt' tg' it' ifs' scope p, e = .ListComp elt' [⟨tg', it', ifs', 0⟩] scope p ∧ (L2.PI X tg' it' (WI X fa G (callN G T k) ik ts)) ∧ (∀ x, foldedSetIterable it' X.env x = pure x) ∧ BlkOk X.N X.env.scope scope (ownOf c.N tg) ∧
      (∀ (s : Shared) (H : Hp) (C : Addr) (cl : List (Str × Addr)) (fp : List Addr), PG (X.blk s H scope (compEnvC scope cl C X.env) fp) tg' (gT X.K tg)) ∧
      (∀ (s : Shared) (H : Hp) (C : Addr) (cl : List (Str × Addr)) (fp : List Addr), PTs (X.blk s H scope (compEnvC scope cl C X.env) fp) ifs' (RTs X fa G (callN G T k) ifs)) ∧
      ∀ (s : Shared) (H : Hp) (C : Addr) (cl : List (Str × Addr)) (fp : List Addr), PE (X.blk s H scope (compEnvC scope cl C X.env) fp) elt' (RE X fa G (callN G T k) elt) := by
  simp only [chkE] at h
  split at h
  · split at h
    · rename_i es he
      simp only [Bool.and_eq_true, decide_eq_true_eq] at h
      obtain ⟨⟨⟨⟨⟨⟨⟨⟨h1, h2⟩, h3⟩, h4⟩, h5⟩, h6⟩, h7⟩, h8⟩, h9⟩ := h
      obtain ⟨q1, q2⟩ := iter_ok ok he h1 (chkEs_ok ts ok h3) h2
      have hb := blkOk_by h5
      rw [← ok.N, ← ok.sc] at hb
      exact ⟨_, _, _, _, _, _, rfl, q1, q2, by rw [← ok.N]; exact hb, fun s H C cl fp => tg_ok (ok.blk s H _ C cl fp) h4, fun s H C cl fp => ifs_ok (chkEs_ok ifs (ok.blk s H _ C cl fp) h8) h6 h7, fun s H C cl fp => (chkE_ok elt (ok.blk s H _ C cl fp) h9).pe⟩
    · cases h
  · cases h
theorem own_map (N : List Str) (tg : Tg) : (ownOf N tg).map (·.2) = tgSlots tg := by
  unfold ownOf
  rw [List.map_map]
  exact List.map_id _
theorem par_ws {sc : Scope} {x y : Str} {px py pt pt2 : Pos} {kt k2 : Nat} {a b : Expr} {env : Env} (hs : env.scope = sc) (hk : sc.kind = .function) (hx : sc.names.lookup x = some .local) (hy : sc.names.lookup y = some .local) (hn : (x == y) = false)
    (h1 : ([a, b] : List Expr).all (foldedForSure 8) = false) (h2 : ([a, b] : List Expr).all (constantsAlone 8) = false) (hl : (py.line == px.line) = true) (n1 : notStar a = true) (n2 : notStar b = true) :
    swappedStores [.Tuple [.Name x px, .Name y py] kt pt] (.Tuple [a, b] k2 pt2) env = pure (some [x, y]) := by
  have hb : (env.blockKind != .function) = false := by unfold Env.blockKind; rw [hs, hk]; rfl
  have k1 : env.kindOf x = some .local := by show env.scope.names.lookup x = _; rw [hs]; exact hx
  have k2' : env.kindOf y = some .local := by show env.scope.names.lookup y = _; rw [hs]; exact hy
  have e1 : (px.line == px.line) = true := beq_self_eq_true _
  have ne : ¬ x = y := by simpa using hn
  have ne2 : ¬ y = x := fun e => ne e.symm
  have ns : ∀ z : Expr, notStar z = true → (match z with | .Starred _ _ => true | _ => false) = false := fun z h => by
    cases z <;> first | rfl | exact absurd h Bool.false_ne_true
  have hn2 : (y == x) = false := by simpa using ne2
  unfold swappedStores
  simp only [List.length_cons, List.length_nil, hb, List.any_cons, List.any_nil, ns a n1, ns b n2, List.head?_cons, Option.map_some, Option.getD_some, Expr.pos, List.filterMap_cons, List.filterMap_nil, k1, k2', e1, hl, h1, h2]
  simp [List.eraseDups, List.eraseDupsBy, List.eraseDupsBy.loop, ne, hn2]
  intro h
  exfalso
  rcases h with h | h
  · revert h
    cases a <;> first | exact absurd n1 Bool.false_ne_true | exact Bool.false_ne_true
  · revert h
    cases b <;> first | exact absurd n2 Bool.false_ne_true | exact Bool.false_ne_true
theorem par_ws3 {sc : Scope} {x y z : Str} {px py pz pt pt2 : Pos} {kt k2 : Nat} {a b d : Expr} {env : Env} (hs : env.scope = sc) (hk : sc.kind = .function) (hx : sc.names.lookup x = some .local) (hy : sc.names.lookup y = some .local) (hz : sc.names.lookup z = some .local)
    (hn : (x == y) = false) (hn2 : (x == z) = false) (hn3 : (y == z) = false) (h1 : ([a, b, d] : List Expr).all (foldedForSure 8) = false) (h2 : ([a, b, d] : List Expr).all (constantsAlone 8) = false) (hl : (py.line == px.line) = true) (hl2 : (pz.line == px.line) = true)
    (n1 : notStar a = true) (n2 : notStar b = true) (n3 : notStar d = true) :
    swappedStores [.Tuple [.Name x px, .Name y py, .Name z pz] kt pt] (.Tuple [a, b, d] k2 pt2) env = pure (some [x, y, z]) := by
  have hb : (env.blockKind != .function) = false := by unfold Env.blockKind; rw [hs, hk]; rfl
  have k1 : env.kindOf x = some .local := by show env.scope.names.lookup x = _; rw [hs]; exact hx
  have k2' : env.kindOf y = some .local := by show env.scope.names.lookup y = _; rw [hs]; exact hy
  have k3' : env.kindOf z = some .local := by show env.scope.names.lookup z = _; rw [hs]; exact hz
  have e1 : (px.line == px.line) = true := beq_self_eq_true _
  have m1 : (y == x) = false := by
    have : ¬ x = y := by simpa using hn
    simpa using fun e : y = x => this e.symm
  have m2 : (z == x) = false := by
    have : ¬ x = z := by simpa using hn2
    simpa using fun e : z = x => this e.symm
  have m3 : (z == y) = false := by
    have : ¬ y = z := by simpa using hn3
    simpa using fun e : z = y => this e.symm
  have ns : ∀ z : Expr, notStar z = true → (match z with | .Starred _ _ => true | _ => false) = false := fun z h => by
    cases z <;> first | rfl | exact absurd h Bool.false_ne_true
  unfold swappedStores
  simp only [List.length_cons, List.length_nil, hb, List.any_cons, List.any_nil, ns a n1, ns b n2, ns d n3, List.head?_cons, Option.map_some, Option.getD_some, Expr.pos, List.filterMap_cons, List.filterMap_nil, k1, k2', k3', e1, hl, hl2, h1, h2]
  simp [List.eraseDups, List.eraseDupsBy, List.eraseDupsBy.loop, m1, m2, m3]
  intro h
  exfalso
  rcases h with h | h | h
  · revert h
    cases a <;> first | exact absurd n1 Bool.false_ne_true | exact Bool.false_ne_true
  · revert h
    cases b <;> first | exact absurd n2 Bool.false_ne_true | exact Bool.false_ne_true
  · revert h
    cases d <;> first | exact absurd n3 Bool.false_ne_true | exact Bool.false_ne_true
/-- statements -/
structure SOk (X : Cx) (fa : Fa) (c : Ck) (G : List U) (T : List Fn) (k : Nat) (sc : Scope) : Prop where
  ok : XOk X fa c G T k sc (fun _ => true)
  kind : sc.kind = .function
  pass : PassesOwn (model X.prog X.w) X.A X.env X.xe
mutual
theorem chkS_ok : ∀ (t : S) {sc : Scope} {s : Stmt} {X : Cx}, SOk X fa c G T k sc → chkS c sc t s = true → PS X s (RS X fa G (callN G T k) t)
  | .set i t, sc, s, X, o, h => by
    simp only [chkS] at h
    split at h
    · rename_i x px e pos
      simp only [Bool.and_eq_true, Bool.or_eq_true] at h
      obtain ⟨⟨⟨h1, h2⟩, h3⟩, h4⟩ := h
      have hN : X.N.Nodup := by rw [o.ok.N]; exact o.ok.nd
      have hi : X.N[i]? = some x := by rw [o.ok.N]; exact nmB_ok h1
      obtain ⟨q1, q2⟩ := storB_ok o.ok h2
      have se := chkE_ok t o.ok h3
      rcases h4 with (h4 | h4) | ⟨h4, h5⟩
      · exact s_set hN hi q1 se.pe (sw_of h4) q2
      · exact s_set hN hi q1 se.pe (off_ok o.ok.sc h4) q2
      · cases t <;> first | (cases h5; done) | skip
        obtain ⟨elt', tg', it', ifs', scope, p, rfl, g1, g2, g3, g4, g5, g6⟩ := comp_ok o.ok h3
        have hl : X.env.scope.names.lookup x = some .local := by
          simp only [onLine, Bool.and_eq_true] at h4
          rw [o.ok.sc]
          exact locB_ok h4.1.1
        exact s_setLc o.ok.calm hN hi hl (on_ok (by rw [o.ok.sc]; exact o.kind) o.ok.sc h4) g1 g3 (own_map _ _) g4 g5 g6 g2
    · cases h
  | .unp is t, sc, s, X, o, h => by
    simp only [chkS] at h
    split at h
    · simp only [Bool.and_eq_true] at h
      refine s_unp (tg_ok o.ok h.1.1) (chkE_ok t o.ok h.1.2).pe ?_
      have h2 := h.2
      simp only [Bool.or_eq_true] at h2
      rcases h2 with (h2 | h2) | h2
      · exact ws_tup h2
      · exact ws_fold h2
      · exact ws_cell o.ok.sc h2
    · cases h
  | .par is ts, sc, s, X, o, h => by
    simp only [chkS] at h
    split at h
    · rename_i i j x px y py kt pt a b k2 pt2 pos
      simp only [Bool.and_eq_true, Bool.not_eq_true', decide_eq_true_eq] at h
      obtain ⟨⟨⟨⟨⟨⟨⟨⟨⟨h1, h2⟩, h3⟩, h4⟩, h5⟩, h6⟩, h7⟩, h8⟩, h9⟩, h10⟩ := h
      have sl := (chkEs_ok ts o.ok h6).pa
      have ns := sl.2.1
      simp only [List.all_cons, List.all_nil, Bool.and_eq_true] at ns
      have e1 := locB_ok h4
      have e2 := locB_ok h5
      exact s_par o.ok.calm (by rw [o.ok.N]; exact o.ok.nd) (by rw [o.ok.N]; exact nmB_ok h1) (by rw [o.ok.N]; exact nmB_ok h2) h3 (by rw [o.ok.sc]; exact e1) (by rw [o.ok.sc]; exact e2) sl.1 (par_ws o.ok.sc o.kind e1 e2 h7 h8 h9 h10 ns.1 ns.2.1)
    · rename_i i j m x px y py z pz kt pt a b d k2 pt2 pos
      simp only [Bool.and_eq_true, Bool.not_eq_true', decide_eq_true_eq] at h
      obtain ⟨⟨⟨⟨⟨⟨⟨⟨⟨⟨⟨⟨⟨⟨⟨⟨h1, h2⟩, h3⟩, h4⟩, h5⟩, h6⟩, h7⟩, h8⟩, h9⟩, h10⟩, h11⟩, h12⟩, h13⟩, h14⟩, h15⟩, h16⟩, h17⟩ := h
      have sl := (chkEs_ok ts o.ok h10).pa
      have ns := sl.2.1
      simp only [List.all_cons, List.all_nil, Bool.and_eq_true] at ns
      have e1 := locB_ok h7
      have e2 := locB_ok h8
      have e3 := locB_ok h9
      exact s_par3 o.ok.calm (by rw [o.ok.N]; exact o.ok.nd) (by rw [o.ok.N]; exact nmB_ok h1) (by rw [o.ok.N]; exact nmB_ok h2) (by rw [o.ok.N]; exact nmB_ok h3) h4 h5 h6 (by rw [o.ok.sc]; exact e1) (by rw [o.ok.sc]; exact e2) (by rw [o.ok.sc]; exact e3) sl.1
        (par_ws3 o.ok.sc o.kind e1 e2 e3 h11 h12 h13 h14 h15 h16 h17 ns.1 ns.2.1 ns.2.2.1)
    · cases h
  | .aug i op t, sc, s, X, o, h => by
    simp only [chkS] at h
    split at h
    · simp only [Bool.and_eq_true] at h
      obtain ⟨⟨h1, h2⟩, h3⟩ := h
      obtain ⟨q1, q2⟩ := storB_ok o.ok h2
      exact s_add (by rw [o.ok.N]; exact o.ok.nd) (by rw [o.ok.N]; exact nmB_ok h1) q1 (chkE_ok t o.ok h3).pe q2
    · simp only [Bool.and_eq_true] at h
      obtain ⟨⟨h1, h2⟩, h3⟩ := h
      obtain ⟨q1, q2⟩ := storB_ok o.ok h2
      exact s_sub (by rw [o.ok.N]; exact o.ok.nd) (by rw [o.ok.N]; exact nmB_ok h1) q1 (chkE_ok t o.ok h3).pe q2
    · cases h
  | .put a i t, sc, s, X, o, h => by
    simp only [chkS] at h
    split at h
    · simp only [Bool.and_eq_true] at h
      obtain ⟨⟨⟨h1, h2⟩, h3⟩, h4⟩ := h
      exact s_put o.ok.u65 (chkE_ok a o.ok h2).pe (chkE_ok i o.ok h3).pe (chkE_ok t o.ok h4).pe h1
    · cases h
  | .exp t, sc, s, X, o, h => by
    simp only [chkS] at h
    split at h
    · simp only [Bool.and_eq_true] at h
      exact s_exp (chkE_ok t o.ok h.2).pe (sw_of h.1)
    · cases h
  | .ret t, sc, s, X, o, h => by
    simp only [chkS] at h
    split at h
    · exact s_ret (chkE_ok t o.ok h).pe
    · cases h
  | .retN, sc, s, X, o, h => by
    simp only [chkS] at h
    split at h
    · exact s_retN
    · cases h
  | .ifs t a b, sc, s, X, o, h => by
    simp only [chkS] at h
    split at h
    · simp only [Bool.and_eq_true] at h
      obtain ⟨⟨⟨h1, h2⟩, h3⟩, h4⟩ := h
      exact s_if ((chkE_ok t o.ok h2).pt h1) (chkSs_ok a o h3) (chkSs_ok b o h4)
    · cases h
  | .whl t b, sc, s, X, o, h => by
    simp only [chkS] at h
    split at h
    · simp only [Bool.and_eq_true] at h
      obtain ⟨⟨h1, h2⟩, h3⟩ := h
      exact s_while o.pass ((chkE_ok t o.ok h2).pt h1) (chkSs_ok b o h3)
    · cases h
  | .forr tg ik ts b, sc, s, X, o, h => by
    simp only [chkS] at h
    split at h
    · split at h
      · rename_i es he
        simp only [Bool.and_eq_true] at h
        obtain ⟨⟨⟨⟨h1, h2⟩, h3⟩, h4⟩, h5⟩ := h
        obtain ⟨q1, q2⟩ := iter_ok o.ok he h1 (chkEs_ok ts o.ok h3) h2
        exact s_for o.pass o.ok.calm q1 (tg_ok o.ok h4) (chkSs_ok b o h5) q2
      · cases h
    · cases h
  | .brk, sc, s, X, o, h => by
    simp only [chkS] at h
    split at h
    · exact s_brk
    · cases h
  | .cont, sc, s, X, o, h => by
    simp only [chkS] at h
    split at h
    · exact s_cont
    · cases h
  | .pass, sc, s, X, o, h => by
    simp only [chkS] at h
    split at h
    · exact s_pass
    · cases h
  | .rais, sc, s, X, o, h => s_rais
theorem chkSs_ok : ∀ (ts : List S) {sc : Scope} {ss : List Stmt} {X : Cx}, SOk X fa c G T k sc → chkSs c sc ts ss = true → PSs X ss (RSs X fa G (callN G T k) ts)
  | [], sc, ss, X, o, h => by
    cases ss with
    | nil => exact ss_nil
    | cons _ _ => simp [chkSs] at h
  | t :: ts, sc, ss, X, o, h => by
    cases ss with
    | nil => simp [chkSs] at h
    | cons s ss =>
      simp only [chkSs, Bool.and_eq_true] at h
      exact ss_cons (chkS_ok t o h.1) (chkSs_ok ts o h.2)
end
end
/-! ### whole defs -/
/-- a def of the text: its name, its parameters, its slots, its statement, the evaluator's text -/
structure Df where
  x : Str
  ps : List Str
  N : List Str
  st : Stmt
  fn : Fn
def DfB (fns cons : List Str) (d : Df) : Bool :=
  chkSs ⟨d.N, fns, cons⟩ (defScope d.st) d.fn.body (defBody d.st) && decide (d.N.length = d.fn.ns) && decide (d.ps.length = d.fn.np) && decide (d.ps.length ≤ d.N.length)
/-- where the defs stand -/
structure At (K : PySem.W.Frag) (mg : Str → Option Value) (fa : Fa) (f : Nat) (d : Df) : Prop where
  ex : ∃ (ad : Addr) (fd : FuncData), fa.ad f = some ad ∧ L2.Fun K d.x d.x d.st ad fd ∧ mg d.x = some (.ref ad) ∧ Binds K fd d.ps []
  sc : FnScope d.N d.ps (defScope d.st)
/-- all that stands at the top -/
structure Top (w : World) (K : PySem.W.Frag) (mg : Str → Option Value) (fa : Fa) (ds : List Df) (cons : List Str) (G : List U) : Prop where
  w : fa.w = w
  fn : ∀ (f : Nat) (d : Df), ds[f]? = some d → At K mg fa f d
  con : ∀ (g : Nat) (x : Str), cons[g]? = some x → ∃ (u : U) (uv : Value) (v : V), G[g]? = some u ∧ mg x = some uv ∧ RelV v uv ∧ ∀ W, URp K fa W v u
  blt : ∀ x ∈ bltNames, mg x = none
theorem start_env {K : PySem.W.Frag} {fa : Fa} {W : Wd} {N : List Str} {vs : List V} {us : List U} {n : Nat} (r : UL K fa W vs us) (h : N.length = n) : EnvR K fa W (us.map some ++ List.replicate (n - us.length) none) (L2.start N vs) := by
  refine ⟨?_, fun i u e => ?_⟩
  · unfold L2.start
    simp [r.length, h]
  · have hl := r.length
    by_cases hi : i < us.length
    · rw [List.getElem?_append_left (by simpa using hi), List.getElem?_map, Option.map_eq_some_iff] at e
      obtain ⟨u', e1, e2⟩ := e
      cases e2
      obtain ⟨v, h1, h2⟩ := r.get e1
      refine ⟨v, ?_, h2⟩
      unfold L2.start
      rw [List.getElem?_append_left (by simp; omega), List.getElem?_map, h1]
      rfl
    · rw [List.getElem?_append_right (by simpa using hi), List.getElem?_replicate] at e
      split at e <;> cases e
theorem fin_of {K : PySem.W.Frag} {fa : Fa} {W W' : Wd} {F : Fn} {st st1 st' : Sto} {u0 u : U} {H H' : Hp} {v : V} {Q : VK} (S : Sim K fa W st H) (h : fin F st.length u0 st1 = .ok u st') (l : Lx W H W' H') (S1 : Sim K fa W' st1 H') (r : URp K fa W' v u0)
    (k : Kt K fa W H st' u Q) : Q v H' := by
  unfold fin at h
  split at h
  · split at h
    · split at h
      · rename_i x hc
        rw [Bool.and_eq_true, decide_eq_true_eq] at hc
        cases h
        have S2 := S1.cut hc.1 hc.2
        refine k ⟨W'.G, W'.iot.take st.length⟩ H' v ⟨⟨l.le.g, [], ?_⟩, fun a o e n g => let ⟨e1, n1, g1⟩ := l.keep a o e n g; ⟨e1, fun m => n1 (List.mem_of_mem_take m), g1⟩⟩ S2 r
        obtain ⟨t, ht⟩ := l.le.i
        show W'.iot.take st.length = W.iot ++ []
        rw [ht, ← S.len, List.append_nil, List.take_left']
        rfl
      · cases h
    · cases h
  · cases h
    exact k W' H' v l S1 r
theorem defs_ok {P : Program} {w : World} {K : PySem.W.Frag} {mg : Str → Option Value} {base : Heap} {fa : Fa} {ds : List Df} {cons : List Str} {G : List U} {T : List Fn} (tp : Top w K mg fa ds cons G) (hT : T = ds.map (·.fn))
    (hB : ds.all (DfB (ds.map (·.x)) cons) = true) : ∀ (k f : Nat) (d : Df) (ad : Addr) (fd : FuncData), ds[f]? = some d → fa.ad f = some ad → L2.Fun K d.x d.x d.st ad fd → FnG P w K mg base CX0 k ad fd d.ps (spF K fa G T k f)
  | 0, f, d, ad, fd, hd, ha, F => ⟨fun vs H Q E ⟨W, st, us, u, st', S, r, h, q⟩ => (by cases h), fun A outer s H args us vs Q E hr hg e0 hb hv ⟨W, st, us', u, st', S, r, h, q⟩ => (by cases h)⟩
  | k + 1, f, d, ad, fd, hd, ha, F => by
    have hT' : T[f]? = some d.fn := by rw [hT, List.getElem?_map, hd]; rfl
    have B := List.all_eq_true.mp hB d (List.mem_of_getElem? hd)
    unfold DfB at B
    simp only [Bool.and_eq_true, decide_eq_true_eq] at B
    obtain ⟨⟨⟨b1, b2⟩, b3⟩, b4⟩ := B
    have S0 := (tp.fn f d hd).sc
    obtain ⟨oc, od, kV, doc, pm, an, cdv, ct, osl, rfl, lk, hcd⟩ := F.ex
    have open_ : ∀ {us : List U} {u : U} {st st' : Sto}, callN G T (k + 1) f us st = .ok u st' → us.length = d.fn.np ∧ ∃ fl st1, evSs G (callN G T k) d.fn.body (us.map some ++ List.replicate (d.fn.ns - us.length) none) st = .ok fl st1 ∧
        (match fl with
          | .nx _ => fin d.fn st.length (.d .none) st1
          | .rt u => fin d.fn st.length u st1
          | _ => .bad) = .ok u st' := fun {us u st st'} h => by
      simp only [callN, hT', runF] at h
      split at h
      · rename_i hc
        obtain ⟨fl, st1, h1, h2⟩ := bind_ok h
        exact ⟨hc.1, fl, st1, h1, h2⟩
      · cases h
    refine fnG_of lk hcd S0 (fun vs H Q E ⟨W, st, us, u, st', S, r, h, q⟩ => ?_) fun A outer s H vs Q E hr hg ⟨W, st, us, u, st', S, r, h, q⟩ => ?_
    · rw [r.length, (open_ h).1, b3]
    · obtain ⟨hl, fl, st1, h1, h2⟩ := open_ h
      let X : Cx := (cxOf CX0 P w K mg base d.N d.x (defScope d.st) ad cdv A outer s H E).nox
      have md : MdX X fa ⟨d.N, ds.map (·.x), cons⟩ G T k := by
        refine ⟨tp.w, fun g x hx => ?_, tp.con, tp.blt, by rw [hT]; simp⟩
        rw [List.getElem?_map, Option.map_eq_some_iff] at hx
        obtain ⟨d', hd', rfl⟩ := hx
        obtain ⟨ad', fd', a1, a2, a3, a4⟩ := (tp.fn g d' hd').ex
        exact ⟨ad', fd', d'.ps, a1, a3, a2.kp, a4, defs_ok tp hT hB k g d' ad' fd' hd' a1 a2⟩
      have ok : SOk X fa ⟨d.N, ds.map (·.x), cons⟩ G T k (defScope d.st) := ⟨⟨md, rfl, S0.nd, rfl, fun _ _ => rfl, rfl, hr, hg⟩, S0.kind, PassesOwn.never⟩
      refine ⟨_, (chkSs_ok d.fn.body ok b1).nox, W, st, _, fl, st1, S, start_env r b2, h1, ?_⟩
      cases fl with
      | nx e => exact fun W' H' σ' l S1 E1 => fin_of S h2 l S1 (v := .non) .non q
      | rt u0 => exact fun W' H' v l S1 r1 => fin_of S h2 l S1 r1 q
      | bk e => cases h2
      | ct e => cases h2
end PI
set_option Elab.async false
set_option linter.all false
set_option maxRecDepth 100000
set_option maxHeartbeats 8000000
/-! The law's end. -/
namespace PI
open PySem PySem.Spec PyProof.Rows L2
theorem walkG {l : PySem.W.OpenLaw} {n k : Nat} {q : Program} {loose : List Str} {XP : (Str → Option Value) → Heap → Prop} {YP : World → Heap → Prop} {d : DefRec} {K : Params → PySem.W.Frag} {x : Str}
    (hn : l.most = some n) (hn2 : n ≤ sizeLine) (hdf : d.params.defaults = []) (hr : Room k callerA) (hY : ∀ (w : World) (h : Heap), YP w h → (K w.params).In h)
    (F : ∀ (w : World) (mg : Str → Option Value) (fa : Addr) (h : Heap), (K w.params).In h → h.Ns mainGlobals mg → mg d.name = some (.ref fa) →
      ∃ (fd : FuncData) (sp : Sp), Binds (K w.params) fd [x] [] ∧ (∀ (H : Hp) (a : Addr) (ns : List Int), ns.length ≤ n → Only H → SqL (K w.params) H a (ns.map V.int) → sp [.ref a] H (fun v _ => v = .bl true) E0) ∧
        ∀ base : Heap, (K w.params).In base → base.Ns mainGlobals mg → FnG l.prog w (K w.params) mg base CX0 k fa fd [x] sp) :
    PySem.W.WalkO q loose XP YP l.row.toRowW d [] (fun f vs => PySem.call f vs) := by
  refine Att.attach_call hn hdf fun w s₀ s₁ mg mb fa o pm cd doc a vs ns G Y ho hd hcd hmg hobj hints hlen hg => ?_
  have KX := hY w _ Y
  obtain ⟨fd, sp, hb, hsp, hF⟩ := F w mg fa _ KX G.T.g hmg
  exact law_callG KX G.T.g G.T.b G.T.builtins G.T.nolimit hg hobj hints (Nat.le_trans hlen hn2) hr hF (fun u => hb s₁ [u] KX rfl) fun H hO hS => hsp H a ns hlen hO hS
/-- where the defs stand, one behind another -/
def AllAt (K : PySem.W.Frag) (mg : Str → Option Value) (fa : Fa) : Nat → List Df → Prop
  | _, [] => True
  | i, d :: r => At K mg fa i d ∧ AllAt K mg fa (i + 1) r
theorem AllAt.get {K : PySem.W.Frag} {mg : Str → Option Value} {fa : Fa} : ∀ {ds : List Df} {i f : Nat} {d : Df}, AllAt K mg fa i ds → ds[f]? = some d → At K mg fa (i + f) d
  | [], _, _, _, _, h => by simp at h
  | e :: r, i, 0, d, h, hd => by simp at hd; subst hd; exact h.1
  | e :: r, i, f + 1, d, h, hd => by
    have := AllAt.get (f := f) h.2 (by simpa using hd)
    rw [show i + (f + 1) = i + 1 + f by omega]
    exact this
theorem at_mk {K : PySem.W.Frag} {h : Heap} {mg : Str → Option Value} {fa : Fa} {i : Nat} {d : Df} {f : Addr} (X : K.In h) (G : h.Ns mainGlobals mg) (hf : fa.ad i = some f)
    {od an : Option Addr} {sl : Array (Option Value)} {oc kV dc pm cd ct : Value} (a : PySem.W.nsIn K mainGlobals d.x = some (some (.ref f)))
    (l : K.lookup f = some ⟨oc, od, .func (PySem.W.fnOf d.x d.x (defArgs d.st) (defBody d.st) (defScope d.st) .none kV dc pm an cd ct), sl⟩) (c : PySem.W.codeIn K cd d.x = true) (k : PySem.W.keepIn K (.ref f) = true)
    (hs : FnScope d.N d.ps (defScope d.st))
    (hb : ∀ (kV doc pm : Value) (an : Option Addr) (cdv ct : Value) (us : List Value), us.length = d.ps.length → bindArgs (PySem.W.fnOf d.x d.x (defArgs d.st) (defBody d.st) (defScope d.st) .none kV doc pm an cdv ct) ⟨us, []⟩ = pure (d.ps.zip us)) :
    At K mg fa i d := ⟨⟨f, _, hf, fun_mk l c k, PySem.W.mg_of X G a, (fun_mk l c k).binds hb⟩, hs⟩
theorem room200 : Room 200 callerA := ⟨rfl, by decide, by decide⟩
/-- the law's promise, by what the evaluator tells of it -/
theorem law_end {P : Program} {w : World} {K : PySem.W.Frag} {mg : Str → Option Value} {fa : Fa} {ds : List Df} {cons : List Str} {G : List U} {fL : Nat} {d : Df} {ad : Addr} (tp : Top w K mg fa ds cons G)
    (hB : ds.all (DfB (ds.map (·.x)) cons) = true) (hd : ds[fL]? = some d) (hfa : mg d.x = some (.ref ad)) {x : Str} (hps : d.ps = [x])
    (M : ∀ ns : List Int, ns.length ≤ 63 → ∃ st', callN G (ds.map (·.fn)) 200 fL [.s ns] [] = .ok (.d (.bool true)) st') :
    ∃ (fd : FuncData) (sp : Sp), Binds K fd [x] [] ∧ (∀ (H : Hp) (a : Addr) (ns : List Int), ns.length ≤ 63 → Only H → SqL K H a (ns.map V.int) → sp [.ref a] H (fun v _ => v = .bl true) E0) ∧
      ∀ base : Heap, K.In base → base.Ns mainGlobals mg → FnG P w K mg base CX0 200 ad fd [x] sp := by
  obtain ⟨ad', fd, a1, a2, a3, a4⟩ := (tp.fn fL d hd).ex
  have e := hfa.symm.trans a3
  cases e
  refine ⟨fd, spF K fa G (ds.map (·.fn)) 200 fL, hps ▸ a4, fun H a ns hl hO hS => ?_, fun base _ _ => ?_⟩
  · obtain ⟨st', h⟩ := M ns hl
    refine ⟨⟨H, []⟩, [], [.s ns], _, st', ⟨fun _ _ e => e, rfl, .nil, fun n a b e1 e2 => by simp at e1, fun a m => by simp at m⟩, .cons ⟨a, hS, rfl⟩ .nil, h, fun W' H' v l S r => ?_⟩
    have r' : Rp K W'.G v (.bool true) := r
    cases r'
    rfl
  · have := defs_ok (P := P) (base := base) tp rfl hB 200 fL d _ fd hd a1 a2
    rw [hps] at this
    exact this
end PI
set_option Elab.async false
set_option linter.all false
set_option maxRecDepth 100000
set_option maxHeartbeats 8000000
/-! Constants of the top. -/
namespace PI
open PySem PySem.Spec PyProof.Rows L2
inductive Prs {α : Type} (R : α → Value → Prop) : List (Str × α) → List (Str × Value) → Prop
  | nil : Prs R [] []
  | cons {k : Str} {x : α} {v : Value} {r : List (Str × α)} {s : List (Str × Value)} : R x v → Prs R r s → Prs R ((k, x) :: r) ((k, v) :: s)
theorem Prs.look {α : Type} {R : α → Value → Prop} : ∀ {r : List (Str × α)} {s : List (Str × Value)} (z : Str), Prs R r s → (r.lookup z = none ∧ s.lookup z = none) ∨ ∃ x v, r.lookup z = some x ∧ s.lookup z = some v ∧ R x v
  | _, _, z, .nil => .inl ⟨rfl, rfl⟩
  | _, _, z, .cons (k := k) (x := x) (v := v) h t => by
    by_cases e : z = k
    · subst e
      exact .inr ⟨x, v, by simp, by simp, h⟩
    · have ne : (z == k) = false := by simpa using e
      rw [List.lookup_cons, List.lookup_cons, ne]
      exact Prs.look z t
theorem nsIn_look {K : PySem.W.Frag} {w : World} {a : Addr} {ks : List Str} (hd : He.dicW K a = some (He.keysIn w.params ks)) {z : Str} (hz : z ∉ ks) : PySem.W.nsIn K a z = some none := by
  unfold He.dicW at hd
  unfold PySem.W.nsIn
  split at hd
  · rename_i c es n sl hl
    rw [hl]
    split at hd
    · simp only [Option.some.injEq] at hd
      have key : ∀ (l : List DictEntry) (ks : List Str), l.map He.keyOf = He.keysIn w.params ks → z ∉ ks → l.find? (fun e => e.key.isStr z) = none ∧ l.any (fun e => e.refKey) = false := by
        intro l
        induction l with
        | nil => intro ks _ _; exact ⟨rfl, rfl⟩
        | cons e l ih =>
          intro ks h hz
          cases ks with
          | nil => cases h
          | cons k ks =>
            have h1 : He.keyOf e :: l.map He.keyOf = some (k, PyData.keyHash w.params k) :: He.keysIn w.params ks := h
            injection h1 with h2 h3
            simp only [List.mem_cons, not_or] at hz
            obtain ⟨g1, g2⟩ := ih ks h3 hz.2
            unfold He.keyOf at h2
            split at h2
            · rename_i x t hk
              have e1 := Option.some.inj h2
              obtain ⟨e2, e3⟩ := Prod.mk.inj e1
              have n1 : e.key.isStr z = false := by
                rw [hk, PySem.W.isStr_of]
                show decide (x = z) = false
                rw [e2]
                exact decide_eq_false fun q => hz.1 q.symm
              have n2 : e.refKey = false := by
                unfold DictEntry.refKey
                rw [hk]
              exact ⟨by rw [List.find?_cons, n1]; exact g1, by rw [List.any_cons, n2, g2]; rfl⟩
            · cases h2
      obtain ⟨g1, g2⟩ := key es.toList ks hd hz
      simp only [g1]
      rw [g2]
      rfl
    · cases hd
  · cases hd
theorem dicW_keys {K : PySem.W.Frag} {w : World} {a : Addr} {ks : List Str} (h : He.dicW K a = some (He.keysIn w.params ks)) : ∃ es n, KDict K w a es n ∧ es.toList.map He.keyOf = He.keysIn w.params ks := by
  obtain ⟨es, n, D⟩ := He.dicW_ok h
  refine ⟨es, n, D, ?_⟩
  unfold He.dicW at h
  rw [D.at_] at h
  simp only at h
  split at h
  · exact Option.some.inj h
  · cases h
theorem Prs.keys {α : Type} {R : α → Value → Prop} : ∀ {r : List (Str × α)} {s : List (Str × Value)}, Prs R r s → r.map (·.1) = s.map (·.1)
  | _, _, .nil => rfl
  | _, _, .cons _ t => by rw [List.map_cons, List.map_cons, Prs.keys t]
theorem ktab_mk {α : Type} {K : PySem.W.Frag} {w : World} {a : Addr} {R : α → Value → Prop} {r : List (Str × α)} {s : List (Str × Value)} {φ : Str → Option Value → Prop} (hd : He.dicW K a = some (He.keysIn w.params (s.map (·.1)))) (hp : Prs R r s)
    (hv : ∀ p ∈ s, PySem.W.nsIn K a p.1 = some (some p.2)) (h0 : ∀ z, r.lookup z = none → φ z none) (h1 : ∀ z x v, r.lookup z = some x → R x v → φ z (some v)) : KTab K w a (r.map (·.1)) φ := by
  refine ⟨dicW_keys (by rw [hp.keys]; exact hd), fun z => ?_⟩
  rcases hp.look z with ⟨q1, q2⟩ | ⟨x, v, q1, q2, q3⟩
  · refine ⟨none, nsIn_look hd fun m => ?_, h0 z q1⟩
    obtain ⟨p, hm, rfl⟩ := List.mem_map.mp m
    have : s.lookup p.1 ≠ none := by
      intro e
      have := List.lookup_eq_none_iff.mp e p hm
      simp at this
    exact this q2
  · have hm : (z, v) ∈ s := PySem.mem_of_lookup q2
    exact ⟨some v, hv _ hm, h1 z x v q1 q3⟩
theorem tabF_mk {K : PySem.W.Frag} {fa : Fa} {a : Addr} {r : List (Str × Nat)} {s : List (Str × Value)} (hd : He.dicW K a = some (He.keysIn fa.w.params (s.map (·.1)))) (hp : Prs (fun n v => ∃ b, fa.ad n = some b ∧ v = .ref b) r s)
    (hv : ∀ p ∈ s, PySem.W.nsIn K a p.1 = some (some p.2)) : KTab K fa.w a (r.map (·.1)) (tabF fa r) :=
  ktab_mk hd hp hv (fun z h => by unfold tabF; rw [h]) fun z x v h ⟨b, h1, h2⟩ => by unfold tabF; rw [h]; exact ⟨b, h1, by rw [h2]⟩
theorem tabD_mk {K : PySem.W.Frag} {w : World} {a : Addr} {r : List (Str × PyData)} {s : List (Str × Value)} (hd : He.dicW K a = some (He.keysIn w.params (s.map (·.1)))) (hp : Prs (fun x v => ∃ vv, RelV vv v ∧ Rp K (fun _ => none) vv x) r s)
    (hv : ∀ p ∈ s, PySem.W.nsIn K a p.1 = some (some p.2)) : KTab K w a (r.map (·.1)) (tabD K r) :=
  ktab_mk hd hp hv (fun z h => by unfold tabD; rw [h]) fun z x v h ⟨vv, h1, h2⟩ => by unfold tabD; rw [h]; exact ⟨vv, v, rfl, h1, h2⟩
/-- a constant of the top -/
def ConAt (K : PySem.W.Frag) (mg : Str → Option Value) (fa : Fa) (x : Str) (u : U) : Prop := ∃ (uv : Value) (v : V), mg x = some uv ∧ RelV v uv ∧ ∀ W, URp K fa W v u
theorem con_int {K : PySem.W.Frag} {h : Heap} {mg : Str → Option Value} {fa : Fa} {x : Str} {i : Int} {t : Tok} (X : K.In h) (G : h.Ns mainGlobals mg) (e : PySem.W.nsIn K mainGlobals x = some (some (.int i t))) : ConAt K mg fa x (.d (.int i)) :=
  ⟨_, .int i, PySem.W.mg_of X G e, ⟨t, rfl⟩, fun _ => .int i⟩
theorem con_str {K : PySem.W.Frag} {h : Heap} {mg : Str → Option Value} {fa : Fa} {x : Str} {i : Str} {t : Tok} (X : K.In h) (G : h.Ns mainGlobals mg) (e : PySem.W.nsIn K mainGlobals x = some (some (.str i t))) : ConAt K mg fa x (.d (.str i)) :=
  ⟨_, .str i, PySem.W.mg_of X G e, ⟨t, rfl⟩, fun _ => .str i⟩
theorem con_tabF {K : PySem.W.Frag} {h : Heap} {mg : Str → Option Value} {fa : Fa} {x : Str} {a : Addr} {r : List (Str × Nat)} (X : K.In h) (G : h.Ns mainGlobals mg) (e : PySem.W.nsIn K mainGlobals x = some (some (.ref a))) (T : KTab K fa.w a (r.map (·.1)) (tabF fa r)) : ConAt K mg fa x (.t r) :=
  ⟨_, .ref a, PySem.W.mg_of X G e, rfl, fun _ => ⟨a, T, rfl⟩⟩
theorem con_tabD {K : PySem.W.Frag} {h : Heap} {mg : Str → Option Value} {fa : Fa} {x : Str} {a : Addr} {r : List (Str × PyData)} (X : K.In h) (G : h.Ns mainGlobals mg) (e : PySem.W.nsIn K mainGlobals x = some (some (.ref a))) (T : KTab K fa.w a (r.map (·.1)) (tabD K r)) : ConAt K mg fa x (.td r) :=
  ⟨_, .ref a, PySem.W.mg_of X G e, rfl, fun _ => ⟨a, T, rfl⟩⟩
/-- values of the top that are told as they stand -/
inductive RawL : List PyData → List V → List Value → Prop
  | nil : RawL [] [] []
  | int {i : Int} {t : Tok} {ds : List PyData} {vs : List V} {us : List Value} : RawL ds vs us → RawL (.int i :: ds) (.int i :: vs) (.int i t :: us)
  | str {i : Str} {t : Tok} {ds : List PyData} {vs : List V} {us : List Value} : RawL ds vs us → RawL (.str i :: ds) (.str i :: vs) (.str i t :: us)
theorem RawL.rp {K : PySem.W.Frag} {G : Hp} : ∀ {ds : List PyData} {vs : List V} {us : List Value}, RawL ds vs us → RpL K G vs ds ∧ Vals vs us
  | _, _, _, .nil => ⟨.nil, .nil⟩
  | _, _, _, .int h => ⟨.cons (.int _) h.rp.1, .cons ⟨_, rfl⟩ (h.rp (K := K) (G := G)).2⟩
  | _, _, _, .str h => ⟨.cons (.str _) h.rp.1, .cons ⟨_, rfl⟩ (h.rp (K := K) (G := G)).2⟩
theorem con_tup {K : PySem.W.Frag} {h : Heap} {mg : Str → Option Value} {fa : Fa} {x : Str} {a : Addr} {od : Option Addr} {n : Nat} {sl : Array (Option Value)} {ds : List PyData} {vs : List V} {us : List Value} (X : K.In h) (G : h.Ns mainGlobals mg)
    (e : PySem.W.nsIn K mainGlobals x = some (some (.ref a))) (l : K.lookup a = some ⟨.type "tuple", od, .seq us.toArray n, sl⟩) (hz : us.length ≤ sizeLine) (r : RawL ds vs us) : ConAt K mg fa x (.d (.tuple ds)) :=
  ⟨_, .ref a, PySem.W.mg_of X G e, rfl, fun W => .tup (.inr ⟨_, us.toArray, n, l, rfl, rfl, by rw [List.size_toArray]; exact hz, by simpa using (r.rp (K := K) (G := W.G)).2⟩) r.rp.1⟩
/-- the constants, one beside another -/
def AllCon (K : PySem.W.Frag) (mg : Str → Option Value) (fa : Fa) : List Str → List U → Prop
  | [], [] => True
  | x :: xs, u :: us => ConAt K mg fa x u ∧ AllCon K mg fa xs us
  | _, _ => False
theorem AllCon.get {K : PySem.W.Frag} {mg : Str → Option Value} {fa : Fa} : ∀ {xs : List Str} {us : List U} {g : Nat} {x : Str}, AllCon K mg fa xs us → xs[g]? = some x → ∃ (u : U) (uv : Value) (v : V), us[g]? = some u ∧ mg x = some uv ∧ RelV v uv ∧ ∀ W, URp K fa W v u
  | [], _, g, x, _, h => by simp at h
  | _ :: _, [], g, x, h, _ => h.elim
  | y :: xs, u :: us, 0, x, h, hx => by
    simp at hx
    subst hx
    obtain ⟨uv, v, h1, h2, h3⟩ := h.1
    exact ⟨u, uv, v, rfl, h1, h2, h3⟩
  | y :: xs, u :: us, g + 1, x, h, hx => by
    obtain ⟨u', uv, v, h0, h1, h2, h3⟩ := AllCon.get (g := g) h.2 (by simpa using hx)
    exact ⟨u', uv, v, by simpa using h0, h1, h2, h3⟩
end PI
set_option maxHeartbeats 8000000
namespace PI
open PySem PySem.Spec PyProof.Rows L2
def tp (i : Nat) : Stmt := PySem.Challenge.pw_pacebond_k68_seams_told.main.body.getD i (.Pass ⟨0, 0, 0, 0⟩)
def cons : List Str := [("WORTHS" : Str), ("OPS" : Str), ("JUMPS" : Str), ("_ASKS" : Str), ("_REGISTERS" : Str), ("_ARRAYS" : Str), ("_CELLS" : Str), ("_ROWS" : Str), ("_ROUNDS" : Str), ("_LOOPS_WITHIN" : Str), ("_FORMS" : Str), ("_OP_FORM" : Str)]
def d_is_whole : Df := ⟨"is_whole", [("thing" : Str), ("low" : Str), ("high" : Str)], [("thing" : Str), ("low" : Str), ("high" : Str)], tp 1, b_is_whole⟩
def d_is_row : Df := ⟨"is_row", [("thing" : Str), ("least" : Str), ("most" : Str)], [("thing" : Str), ("least" : Str), ("most" : Str)], tp 2, b_is_row⟩
def d_fits : Df := ⟨"fits", [("thing" : Str), ("spans" : Str)], [("thing" : Str), ("spans" : Str), ("one" : Str), ("low" : Str), ("high" : Str)], tp 3, b_fits⟩
def d_plus : Df := ⟨"plus", [("x" : Str), ("y" : Str)], [("x" : Str), ("y" : Str)], tp 9, b_plus⟩
def d_minus : Df := ⟨"minus", [("x" : Str), ("y" : Str)], [("x" : Str), ("y" : Str)], tp 10, b_minus⟩
def d_times : Df := ⟨"times", [("x" : Str), ("y" : Str)], [("x" : Str), ("y" : Str)], tp 11, b_times⟩
def d_less : Df := ⟨"less", [("x" : Str), ("y" : Str)], [("x" : Str), ("y" : Str)], tp 12, b_less⟩
def d_same : Df := ⟨"same", [("x" : Str), ("y" : Str)], [("x" : Str), ("y" : Str)], tp 13, b_same⟩
def d_is_op : Df := ⟨"is_op", [("thing" : Str)], [("thing" : Str)], tp 15, b_is_op⟩
def d_is_worth : Df := ⟨"is_worth", [("thing" : Str)], [("thing" : Str)], tp 16, b_is_worth⟩
def d_is_code : Df := ⟨"is_code", [("thing" : Str)], [("thing" : Str), ("asks" : Str), ("many" : Str), ("shown" : Str), ("arrays" : Str), ("rows" : Str), ("row" : Str), ("ask" : Str), ("size" : Str)], tp 28, b_is_code⟩
def d_need_code : Df := ⟨"need_code", [("code" : Str)], [("code" : Str)], tp 29, b_need_code⟩
def d_is_span : Df := ⟨"is_span", [("thing" : Str)], [("thing" : Str), ("low" : Str), ("high" : Str)], tp 30, b_is_span⟩
def d_is_row_form : Df := ⟨"is_row_form", [("thing" : Str), ("many" : Str), ("arrays" : Str), ("rows" : Str)], [("thing" : Str), ("many" : Str), ("arrays" : Str), ("rows" : Str), ("word" : Str), ("form" : Str), ("spans" : Str), ("sign" : Str)], tp 31, b_is_row_form⟩
def d_ends_well : Df := ⟨"ends_well", [("rows" : Str)], [("rows" : Str), ("at" : Str), ("row" : Str)], tp 32, b_ends_well⟩
def d_loops_in : Df := ⟨"loops_in", [("rows" : Str)], [("rows" : Str), ("at" : Str), ("row" : Str)], tp 33, b_loops_in⟩
def d_loops_well : Df := ⟨"loops_well", [("rows" : Str)], [("rows" : Str), ("loops" : Str), ("counts" : Str), ("at" : Str), ("row" : Str), ("loop" : Str), ("count" : Str), ("_" : Str), ("again" : Str)], tp 34, b_loops_well⟩
def d_stands_well : Df := ⟨"stands_well", [("loop" : Str), ("loops" : Str)], [("loop" : Str), ("loops" : Str), ("outer" : Str), ("count" : Str), ("again" : Str), ("other" : Str), ("back" : Str)], tp 35, b_stands_well⟩
def d_jumps_well : Df := ⟨"jumps_well", [("rows" : Str)], [("rows" : Str), ("loops" : Str), ("at" : Str), ("row" : Str), ("to" : Str), ("entered" : Str), ("count" : Str)], tp 36, b_jumps_well⟩
def d_counts_around : Df := ⟨"counts_around", [("loops" : Str), ("row" : Str)], [("loops" : Str), ("row" : Str), ("count" : Str), ("again" : Str)], tp 37, b_counts_around⟩
def d_seams_of : Df := ⟨"seams_of", [("code" : Str)], [("code" : Str)], tp 39, b_seams_of⟩
def d_seams_in : Df := ⟨"seams_in", [("rows" : Str)], [("rows" : Str), ("loops" : Str), ("leaps" : Str), ("inner" : Str), ("at" : Str), ("row" : Str)], tp 40, b_seams_in⟩
def d_is_passed : Df := ⟨"is_passed", [("leaps" : Str), ("at" : Str)], [("leaps" : Str), ("at" : Str), ("row" : Str), ("to" : Str)], tp 41, b_is_passed⟩
def d__law_pot : Df := ⟨"_law_pot", [("script" : Str), ("k" : Str)], [("script" : Str), ("k" : Str), ("cell" : Str), ("mixed" : Str)], tp 43, b__law_pot⟩
def d__law_take : Df := ⟨"_law_take", [("pot" : Str), ("many" : Str)], [("pot" : Str), ("many" : Str), ("one" : Str), ("other" : Str), ("found" : Str)], tp 44, b__law_take⟩
def d__law_loops : Df := ⟨"_law_loops", [("pot" : Str), ("size" : Str)], [("pot" : Str), ("size" : Str), ("found" : Str), ("turn" : Str), ("first" : Str), ("last" : Str), ("apart" : Str), ("p" : Str), ("q" : Str)], tp 45, b__law_loops⟩
def d__law_around : Df := ⟨"_law_around", [("loops" : Str), ("row" : Str)], [("loops" : Str), ("row" : Str), ("first" : Str), ("last" : Str)], tp 46, b__law_around⟩
def d__law_plain_row : Df := ⟨"_law_plain_row", [("pot" : Str), ("many" : Str), ("sizes" : Str)], [("pot" : Str), ("many" : Str), ("sizes" : Str), ("way" : Str), ("give" : Str), ("one" : Str), ("other" : Str), ("array" : Str)], tp 47, b__law_plain_row⟩
def d__law_code : Df := ⟨"_law_code", [("pot" : Str), ("top" : Str)], [("pot" : Str), ("top" : Str), ("size" : Str), ("many" : Str), ("asks" : Str), ("turn" : Str), ("sizes" : Str), ("loops" : Str), ("ends" : Str), ("rows" : Str), ("at" : Str), ("low" : Str), ("here" : Str), ("ahead" : Str), ("row" : Str), ("first" : Str), ("last" : Str), ("to" : Str), ("p" : Str)], tp 48, b__law_code⟩
def d__law_loops_of : Df := ⟨"_law_loops_of", [("rows" : Str)], [("rows" : Str), ("at" : Str), ("row" : Str)], tp 49, b__law_loops_of⟩
def d__law_next : Df := ⟨"_law_next", [("code" : Str), ("spot" : Str), ("choice" : Str)], [("code" : Str), ("spot" : Str), ("choice" : Str), ("rows" : Str), ("row" : Str), ("to" : Str), ("at" : Str), ("lefts" : Str), ("mood" : Str)], tp 50, b__law_next⟩
def d__law_seams : Df := ⟨"_law_seams", [("rows" : Str)], [("rows" : Str), ("loops" : Str), ("found" : Str), ("at" : Str), ("over" : Str), ("one" : Str), ("row" : Str)], tp 51, b__law_seams⟩
def d__law_come : Df := ⟨"_law_come", [("pot" : Str), ("code" : Str)], [("pot" : Str), ("code" : Str), ("found" : Str), ("lefts" : Str), ("at" : Str)], tp 52, b__law_come⟩
def d_law : Df := ⟨"law", [("script" : Str)], [("script" : Str), ("k" : Str), ("pot" : Str), ("code" : Str), ("due" : Str), ("turn" : Str), ("rows" : Str), ("at" : Str)], tp 53, b_law⟩
def ds : List Df := [d_is_whole, d_is_row, d_fits, d_plus, d_minus, d_times, d_less, d_same, d_is_op, d_is_worth, d_is_code, d_need_code, d_is_span, d_is_row_form, d_ends_well, d_loops_in, d_loops_well, d_stands_well, d_jumps_well, d_counts_around, d_seams_of, d_seams_in, d_is_passed, d__law_pot, d__law_take, d__law_loops, d__law_around, d__law_plain_row, d__law_code, d__law_loops_of, d__law_next, d__law_seams, d__law_come, d_law]

theorem math : ∀ ns : List Int, ns.length ≤ 63 → ∃ st', callN gl (ds.map (·.fn)) 200 33 [.s ns] [] = .ok (.d (.bool true)) st' := math0
theorem ds_ok : ds.all (DfB (ds.map (·.x)) cons) = true := by decide +kernel
theorem all_mk {w : World} {K : PySem.W.Frag} {h : Heap} {mg : Str → Option Value} (X : K.In h) (G : h.Ns mainGlobals mg)
  {f0 : Addr} {od0 an0 : Option Addr} {sl0 : Array (Option Value)} {oc0 kV0 dc0 pm0 cd0 ct0 : Value}
  (a0 : PySem.W.nsIn K mainGlobals "is_whole" = some (some (.ref f0))) (l0 : K.lookup f0 = some ⟨oc0, od0, .func (PySem.W.fnOf "is_whole" "is_whole" (defArgs (tp 1)) (defBody (tp 1)) (defScope (tp 1)) .none kV0 dc0 pm0 an0 cd0 ct0), sl0⟩) (c0 : PySem.W.codeIn K cd0 "is_whole" = true) (k0 : PySem.W.keepIn K (.ref f0) = true)
  {f1 : Addr} {od1 an1 : Option Addr} {sl1 : Array (Option Value)} {oc1 kV1 dc1 pm1 cd1 ct1 : Value}
  (a1 : PySem.W.nsIn K mainGlobals "is_row" = some (some (.ref f1))) (l1 : K.lookup f1 = some ⟨oc1, od1, .func (PySem.W.fnOf "is_row" "is_row" (defArgs (tp 2)) (defBody (tp 2)) (defScope (tp 2)) .none kV1 dc1 pm1 an1 cd1 ct1), sl1⟩) (c1 : PySem.W.codeIn K cd1 "is_row" = true) (k1 : PySem.W.keepIn K (.ref f1) = true)
  {f2 : Addr} {od2 an2 : Option Addr} {sl2 : Array (Option Value)} {oc2 kV2 dc2 pm2 cd2 ct2 : Value}
  (a2 : PySem.W.nsIn K mainGlobals "fits" = some (some (.ref f2))) (l2 : K.lookup f2 = some ⟨oc2, od2, .func (PySem.W.fnOf "fits" "fits" (defArgs (tp 3)) (defBody (tp 3)) (defScope (tp 3)) .none kV2 dc2 pm2 an2 cd2 ct2), sl2⟩) (c2 : PySem.W.codeIn K cd2 "fits" = true) (k2 : PySem.W.keepIn K (.ref f2) = true)
  {f3 : Addr} {od3 an3 : Option Addr} {sl3 : Array (Option Value)} {oc3 kV3 dc3 pm3 cd3 ct3 : Value}
  (a3 : PySem.W.nsIn K mainGlobals "plus" = some (some (.ref f3))) (l3 : K.lookup f3 = some ⟨oc3, od3, .func (PySem.W.fnOf "plus" "plus" (defArgs (tp 9)) (defBody (tp 9)) (defScope (tp 9)) .none kV3 dc3 pm3 an3 cd3 ct3), sl3⟩) (c3 : PySem.W.codeIn K cd3 "plus" = true) (k3 : PySem.W.keepIn K (.ref f3) = true)
  {f4 : Addr} {od4 an4 : Option Addr} {sl4 : Array (Option Value)} {oc4 kV4 dc4 pm4 cd4 ct4 : Value}
  (a4 : PySem.W.nsIn K mainGlobals "minus" = some (some (.ref f4))) (l4 : K.lookup f4 = some ⟨oc4, od4, .func (PySem.W.fnOf "minus" "minus" (defArgs (tp 10)) (defBody (tp 10)) (defScope (tp 10)) .none kV4 dc4 pm4 an4 cd4 ct4), sl4⟩) (c4 : PySem.W.codeIn K cd4 "minus" = true) (k4 : PySem.W.keepIn K (.ref f4) = true)
  {f5 : Addr} {od5 an5 : Option Addr} {sl5 : Array (Option Value)} {oc5 kV5 dc5 pm5 cd5 ct5 : Value}
  (a5 : PySem.W.nsIn K mainGlobals "times" = some (some (.ref f5))) (l5 : K.lookup f5 = some ⟨oc5, od5, .func (PySem.W.fnOf "times" "times" (defArgs (tp 11)) (defBody (tp 11)) (defScope (tp 11)) .none kV5 dc5 pm5 an5 cd5 ct5), sl5⟩) (c5 : PySem.W.codeIn K cd5 "times" = true) (k5 : PySem.W.keepIn K (.ref f5) = true)
  {f6 : Addr} {od6 an6 : Option Addr} {sl6 : Array (Option Value)} {oc6 kV6 dc6 pm6 cd6 ct6 : Value}
  (a6 : PySem.W.nsIn K mainGlobals "less" = some (some (.ref f6))) (l6 : K.lookup f6 = some ⟨oc6, od6, .func (PySem.W.fnOf "less" "less" (defArgs (tp 12)) (defBody (tp 12)) (defScope (tp 12)) .none kV6 dc6 pm6 an6 cd6 ct6), sl6⟩) (c6 : PySem.W.codeIn K cd6 "less" = true) (k6 : PySem.W.keepIn K (.ref f6) = true)
  {f7 : Addr} {od7 an7 : Option Addr} {sl7 : Array (Option Value)} {oc7 kV7 dc7 pm7 cd7 ct7 : Value}
  (a7 : PySem.W.nsIn K mainGlobals "same" = some (some (.ref f7))) (l7 : K.lookup f7 = some ⟨oc7, od7, .func (PySem.W.fnOf "same" "same" (defArgs (tp 13)) (defBody (tp 13)) (defScope (tp 13)) .none kV7 dc7 pm7 an7 cd7 ct7), sl7⟩) (c7 : PySem.W.codeIn K cd7 "same" = true) (k7 : PySem.W.keepIn K (.ref f7) = true)
  {f8 : Addr} {od8 an8 : Option Addr} {sl8 : Array (Option Value)} {oc8 kV8 dc8 pm8 cd8 ct8 : Value}
  (a8 : PySem.W.nsIn K mainGlobals "is_op" = some (some (.ref f8))) (l8 : K.lookup f8 = some ⟨oc8, od8, .func (PySem.W.fnOf "is_op" "is_op" (defArgs (tp 15)) (defBody (tp 15)) (defScope (tp 15)) .none kV8 dc8 pm8 an8 cd8 ct8), sl8⟩) (c8 : PySem.W.codeIn K cd8 "is_op" = true) (k8 : PySem.W.keepIn K (.ref f8) = true)
  {f9 : Addr} {od9 an9 : Option Addr} {sl9 : Array (Option Value)} {oc9 kV9 dc9 pm9 cd9 ct9 : Value}
  (a9 : PySem.W.nsIn K mainGlobals "is_worth" = some (some (.ref f9))) (l9 : K.lookup f9 = some ⟨oc9, od9, .func (PySem.W.fnOf "is_worth" "is_worth" (defArgs (tp 16)) (defBody (tp 16)) (defScope (tp 16)) .none kV9 dc9 pm9 an9 cd9 ct9), sl9⟩) (c9 : PySem.W.codeIn K cd9 "is_worth" = true) (k9 : PySem.W.keepIn K (.ref f9) = true)
  {f10 : Addr} {od10 an10 : Option Addr} {sl10 : Array (Option Value)} {oc10 kV10 dc10 pm10 cd10 ct10 : Value}
  (a10 : PySem.W.nsIn K mainGlobals "is_code" = some (some (.ref f10))) (l10 : K.lookup f10 = some ⟨oc10, od10, .func (PySem.W.fnOf "is_code" "is_code" (defArgs (tp 28)) (defBody (tp 28)) (defScope (tp 28)) .none kV10 dc10 pm10 an10 cd10 ct10), sl10⟩) (c10 : PySem.W.codeIn K cd10 "is_code" = true) (k10 : PySem.W.keepIn K (.ref f10) = true)
  {f11 : Addr} {od11 an11 : Option Addr} {sl11 : Array (Option Value)} {oc11 kV11 dc11 pm11 cd11 ct11 : Value}
  (a11 : PySem.W.nsIn K mainGlobals "need_code" = some (some (.ref f11))) (l11 : K.lookup f11 = some ⟨oc11, od11, .func (PySem.W.fnOf "need_code" "need_code" (defArgs (tp 29)) (defBody (tp 29)) (defScope (tp 29)) .none kV11 dc11 pm11 an11 cd11 ct11), sl11⟩) (c11 : PySem.W.codeIn K cd11 "need_code" = true) (k11 : PySem.W.keepIn K (.ref f11) = true)
  {f12 : Addr} {od12 an12 : Option Addr} {sl12 : Array (Option Value)} {oc12 kV12 dc12 pm12 cd12 ct12 : Value}
  (a12 : PySem.W.nsIn K mainGlobals "is_span" = some (some (.ref f12))) (l12 : K.lookup f12 = some ⟨oc12, od12, .func (PySem.W.fnOf "is_span" "is_span" (defArgs (tp 30)) (defBody (tp 30)) (defScope (tp 30)) .none kV12 dc12 pm12 an12 cd12 ct12), sl12⟩) (c12 : PySem.W.codeIn K cd12 "is_span" = true) (k12 : PySem.W.keepIn K (.ref f12) = true)
  {f13 : Addr} {od13 an13 : Option Addr} {sl13 : Array (Option Value)} {oc13 kV13 dc13 pm13 cd13 ct13 : Value}
  (a13 : PySem.W.nsIn K mainGlobals "is_row_form" = some (some (.ref f13))) (l13 : K.lookup f13 = some ⟨oc13, od13, .func (PySem.W.fnOf "is_row_form" "is_row_form" (defArgs (tp 31)) (defBody (tp 31)) (defScope (tp 31)) .none kV13 dc13 pm13 an13 cd13 ct13), sl13⟩) (c13 : PySem.W.codeIn K cd13 "is_row_form" = true) (k13 : PySem.W.keepIn K (.ref f13) = true)
  {f14 : Addr} {od14 an14 : Option Addr} {sl14 : Array (Option Value)} {oc14 kV14 dc14 pm14 cd14 ct14 : Value}
  (a14 : PySem.W.nsIn K mainGlobals "ends_well" = some (some (.ref f14))) (l14 : K.lookup f14 = some ⟨oc14, od14, .func (PySem.W.fnOf "ends_well" "ends_well" (defArgs (tp 32)) (defBody (tp 32)) (defScope (tp 32)) .none kV14 dc14 pm14 an14 cd14 ct14), sl14⟩) (c14 : PySem.W.codeIn K cd14 "ends_well" = true) (k14 : PySem.W.keepIn K (.ref f14) = true)
  {f15 : Addr} {od15 an15 : Option Addr} {sl15 : Array (Option Value)} {oc15 kV15 dc15 pm15 cd15 ct15 : Value}
  (a15 : PySem.W.nsIn K mainGlobals "loops_in" = some (some (.ref f15))) (l15 : K.lookup f15 = some ⟨oc15, od15, .func (PySem.W.fnOf "loops_in" "loops_in" (defArgs (tp 33)) (defBody (tp 33)) (defScope (tp 33)) .none kV15 dc15 pm15 an15 cd15 ct15), sl15⟩) (c15 : PySem.W.codeIn K cd15 "loops_in" = true) (k15 : PySem.W.keepIn K (.ref f15) = true)
  {f16 : Addr} {od16 an16 : Option Addr} {sl16 : Array (Option Value)} {oc16 kV16 dc16 pm16 cd16 ct16 : Value}
  (a16 : PySem.W.nsIn K mainGlobals "loops_well" = some (some (.ref f16))) (l16 : K.lookup f16 = some ⟨oc16, od16, .func (PySem.W.fnOf "loops_well" "loops_well" (defArgs (tp 34)) (defBody (tp 34)) (defScope (tp 34)) .none kV16 dc16 pm16 an16 cd16 ct16), sl16⟩) (c16 : PySem.W.codeIn K cd16 "loops_well" = true) (k16 : PySem.W.keepIn K (.ref f16) = true)
  {f17 : Addr} {od17 an17 : Option Addr} {sl17 : Array (Option Value)} {oc17 kV17 dc17 pm17 cd17 ct17 : Value}
  (a17 : PySem.W.nsIn K mainGlobals "stands_well" = some (some (.ref f17))) (l17 : K.lookup f17 = some ⟨oc17, od17, .func (PySem.W.fnOf "stands_well" "stands_well" (defArgs (tp 35)) (defBody (tp 35)) (defScope (tp 35)) .none kV17 dc17 pm17 an17 cd17 ct17), sl17⟩) (c17 : PySem.W.codeIn K cd17 "stands_well" = true) (k17 : PySem.W.keepIn K (.ref f17) = true)
  {f18 : Addr} {od18 an18 : Option Addr} {sl18 : Array (Option Value)} {oc18 kV18 dc18 pm18 cd18 ct18 : Value}
  (a18 : PySem.W.nsIn K mainGlobals "jumps_well" = some (some (.ref f18))) (l18 : K.lookup f18 = some ⟨oc18, od18, .func (PySem.W.fnOf "jumps_well" "jumps_well" (defArgs (tp 36)) (defBody (tp 36)) (defScope (tp 36)) .none kV18 dc18 pm18 an18 cd18 ct18), sl18⟩) (c18 : PySem.W.codeIn K cd18 "jumps_well" = true) (k18 : PySem.W.keepIn K (.ref f18) = true)
  {f19 : Addr} {od19 an19 : Option Addr} {sl19 : Array (Option Value)} {oc19 kV19 dc19 pm19 cd19 ct19 : Value}
  (a19 : PySem.W.nsIn K mainGlobals "counts_around" = some (some (.ref f19))) (l19 : K.lookup f19 = some ⟨oc19, od19, .func (PySem.W.fnOf "counts_around" "counts_around" (defArgs (tp 37)) (defBody (tp 37)) (defScope (tp 37)) .none kV19 dc19 pm19 an19 cd19 ct19), sl19⟩) (c19 : PySem.W.codeIn K cd19 "counts_around" = true) (k19 : PySem.W.keepIn K (.ref f19) = true)
  {f20 : Addr} {od20 an20 : Option Addr} {sl20 : Array (Option Value)} {oc20 kV20 dc20 pm20 cd20 ct20 : Value}
  (a20 : PySem.W.nsIn K mainGlobals "seams_of" = some (some (.ref f20))) (l20 : K.lookup f20 = some ⟨oc20, od20, .func (PySem.W.fnOf "seams_of" "seams_of" (defArgs (tp 39)) (defBody (tp 39)) (defScope (tp 39)) .none kV20 dc20 pm20 an20 cd20 ct20), sl20⟩) (c20 : PySem.W.codeIn K cd20 "seams_of" = true) (k20 : PySem.W.keepIn K (.ref f20) = true)
  {f21 : Addr} {od21 an21 : Option Addr} {sl21 : Array (Option Value)} {oc21 kV21 dc21 pm21 cd21 ct21 : Value}
  (a21 : PySem.W.nsIn K mainGlobals "seams_in" = some (some (.ref f21))) (l21 : K.lookup f21 = some ⟨oc21, od21, .func (PySem.W.fnOf "seams_in" "seams_in" (defArgs (tp 40)) (defBody (tp 40)) (defScope (tp 40)) .none kV21 dc21 pm21 an21 cd21 ct21), sl21⟩) (c21 : PySem.W.codeIn K cd21 "seams_in" = true) (k21 : PySem.W.keepIn K (.ref f21) = true)
  {f22 : Addr} {od22 an22 : Option Addr} {sl22 : Array (Option Value)} {oc22 kV22 dc22 pm22 cd22 ct22 : Value}
  (a22 : PySem.W.nsIn K mainGlobals "is_passed" = some (some (.ref f22))) (l22 : K.lookup f22 = some ⟨oc22, od22, .func (PySem.W.fnOf "is_passed" "is_passed" (defArgs (tp 41)) (defBody (tp 41)) (defScope (tp 41)) .none kV22 dc22 pm22 an22 cd22 ct22), sl22⟩) (c22 : PySem.W.codeIn K cd22 "is_passed" = true) (k22 : PySem.W.keepIn K (.ref f22) = true)
  {f23 : Addr} {od23 an23 : Option Addr} {sl23 : Array (Option Value)} {oc23 kV23 dc23 pm23 cd23 ct23 : Value}
  (a23 : PySem.W.nsIn K mainGlobals "_law_pot" = some (some (.ref f23))) (l23 : K.lookup f23 = some ⟨oc23, od23, .func (PySem.W.fnOf "_law_pot" "_law_pot" (defArgs (tp 43)) (defBody (tp 43)) (defScope (tp 43)) .none kV23 dc23 pm23 an23 cd23 ct23), sl23⟩) (c23 : PySem.W.codeIn K cd23 "_law_pot" = true) (k23 : PySem.W.keepIn K (.ref f23) = true)
  {f24 : Addr} {od24 an24 : Option Addr} {sl24 : Array (Option Value)} {oc24 kV24 dc24 pm24 cd24 ct24 : Value}
  (a24 : PySem.W.nsIn K mainGlobals "_law_take" = some (some (.ref f24))) (l24 : K.lookup f24 = some ⟨oc24, od24, .func (PySem.W.fnOf "_law_take" "_law_take" (defArgs (tp 44)) (defBody (tp 44)) (defScope (tp 44)) .none kV24 dc24 pm24 an24 cd24 ct24), sl24⟩) (c24 : PySem.W.codeIn K cd24 "_law_take" = true) (k24 : PySem.W.keepIn K (.ref f24) = true)
  {f25 : Addr} {od25 an25 : Option Addr} {sl25 : Array (Option Value)} {oc25 kV25 dc25 pm25 cd25 ct25 : Value}
  (a25 : PySem.W.nsIn K mainGlobals "_law_loops" = some (some (.ref f25))) (l25 : K.lookup f25 = some ⟨oc25, od25, .func (PySem.W.fnOf "_law_loops" "_law_loops" (defArgs (tp 45)) (defBody (tp 45)) (defScope (tp 45)) .none kV25 dc25 pm25 an25 cd25 ct25), sl25⟩) (c25 : PySem.W.codeIn K cd25 "_law_loops" = true) (k25 : PySem.W.keepIn K (.ref f25) = true)
  {f26 : Addr} {od26 an26 : Option Addr} {sl26 : Array (Option Value)} {oc26 kV26 dc26 pm26 cd26 ct26 : Value}
  (a26 : PySem.W.nsIn K mainGlobals "_law_around" = some (some (.ref f26))) (l26 : K.lookup f26 = some ⟨oc26, od26, .func (PySem.W.fnOf "_law_around" "_law_around" (defArgs (tp 46)) (defBody (tp 46)) (defScope (tp 46)) .none kV26 dc26 pm26 an26 cd26 ct26), sl26⟩) (c26 : PySem.W.codeIn K cd26 "_law_around" = true) (k26 : PySem.W.keepIn K (.ref f26) = true)
  {f27 : Addr} {od27 an27 : Option Addr} {sl27 : Array (Option Value)} {oc27 kV27 dc27 pm27 cd27 ct27 : Value}
  (a27 : PySem.W.nsIn K mainGlobals "_law_plain_row" = some (some (.ref f27))) (l27 : K.lookup f27 = some ⟨oc27, od27, .func (PySem.W.fnOf "_law_plain_row" "_law_plain_row" (defArgs (tp 47)) (defBody (tp 47)) (defScope (tp 47)) .none kV27 dc27 pm27 an27 cd27 ct27), sl27⟩) (c27 : PySem.W.codeIn K cd27 "_law_plain_row" = true) (k27 : PySem.W.keepIn K (.ref f27) = true)
  {f28 : Addr} {od28 an28 : Option Addr} {sl28 : Array (Option Value)} {oc28 kV28 dc28 pm28 cd28 ct28 : Value}
  (a28 : PySem.W.nsIn K mainGlobals "_law_code" = some (some (.ref f28))) (l28 : K.lookup f28 = some ⟨oc28, od28, .func (PySem.W.fnOf "_law_code" "_law_code" (defArgs (tp 48)) (defBody (tp 48)) (defScope (tp 48)) .none kV28 dc28 pm28 an28 cd28 ct28), sl28⟩) (c28 : PySem.W.codeIn K cd28 "_law_code" = true) (k28 : PySem.W.keepIn K (.ref f28) = true)
  {f29 : Addr} {od29 an29 : Option Addr} {sl29 : Array (Option Value)} {oc29 kV29 dc29 pm29 cd29 ct29 : Value}
  (a29 : PySem.W.nsIn K mainGlobals "_law_loops_of" = some (some (.ref f29))) (l29 : K.lookup f29 = some ⟨oc29, od29, .func (PySem.W.fnOf "_law_loops_of" "_law_loops_of" (defArgs (tp 49)) (defBody (tp 49)) (defScope (tp 49)) .none kV29 dc29 pm29 an29 cd29 ct29), sl29⟩) (c29 : PySem.W.codeIn K cd29 "_law_loops_of" = true) (k29 : PySem.W.keepIn K (.ref f29) = true)
  {f30 : Addr} {od30 an30 : Option Addr} {sl30 : Array (Option Value)} {oc30 kV30 dc30 pm30 cd30 ct30 : Value}
  (a30 : PySem.W.nsIn K mainGlobals "_law_next" = some (some (.ref f30))) (l30 : K.lookup f30 = some ⟨oc30, od30, .func (PySem.W.fnOf "_law_next" "_law_next" (defArgs (tp 50)) (defBody (tp 50)) (defScope (tp 50)) .none kV30 dc30 pm30 an30 cd30 ct30), sl30⟩) (c30 : PySem.W.codeIn K cd30 "_law_next" = true) (k30 : PySem.W.keepIn K (.ref f30) = true)
  {f31 : Addr} {od31 an31 : Option Addr} {sl31 : Array (Option Value)} {oc31 kV31 dc31 pm31 cd31 ct31 : Value}
  (a31 : PySem.W.nsIn K mainGlobals "_law_seams" = some (some (.ref f31))) (l31 : K.lookup f31 = some ⟨oc31, od31, .func (PySem.W.fnOf "_law_seams" "_law_seams" (defArgs (tp 51)) (defBody (tp 51)) (defScope (tp 51)) .none kV31 dc31 pm31 an31 cd31 ct31), sl31⟩) (c31 : PySem.W.codeIn K cd31 "_law_seams" = true) (k31 : PySem.W.keepIn K (.ref f31) = true)
  {f32 : Addr} {od32 an32 : Option Addr} {sl32 : Array (Option Value)} {oc32 kV32 dc32 pm32 cd32 ct32 : Value}
  (a32 : PySem.W.nsIn K mainGlobals "_law_come" = some (some (.ref f32))) (l32 : K.lookup f32 = some ⟨oc32, od32, .func (PySem.W.fnOf "_law_come" "_law_come" (defArgs (tp 52)) (defBody (tp 52)) (defScope (tp 52)) .none kV32 dc32 pm32 an32 cd32 ct32), sl32⟩) (c32 : PySem.W.codeIn K cd32 "_law_come" = true) (k32 : PySem.W.keepIn K (.ref f32) = true)
  {f33 : Addr} {od33 an33 : Option Addr} {sl33 : Array (Option Value)} {oc33 kV33 dc33 pm33 cd33 ct33 : Value}
  (a33 : PySem.W.nsIn K mainGlobals "law" = some (some (.ref f33))) (l33 : K.lookup f33 = some ⟨oc33, od33, .func (PySem.W.fnOf "law" "law" (defArgs (tp 53)) (defBody (tp 53)) (defScope (tp 53)) .none kV33 dc33 pm33 an33 cd33 ct33), sl33⟩) (c33 : PySem.W.codeIn K cd33 "law" = true) (k33 : PySem.W.keepIn K (.ref f33) = true)
  (z0 : PySem.W.nsIn K mainGlobals "len" = some none)
  (z1 : PySem.W.nsIn K mainGlobals "abs" = some none)
  (z2 : PySem.W.nsIn K mainGlobals "max" = some none)
  (z3 : PySem.W.nsIn K mainGlobals "min" = some none)
  (z4 : PySem.W.nsIn K mainGlobals "int" = some none)
  (z5 : PySem.W.nsIn K mainGlobals "tuple" = some none)
  (z6 : PySem.W.nsIn K mainGlobals "list" = some none)
  (z7 : PySem.W.nsIn K mainGlobals "sorted" = some none)
  (z8 : PySem.W.nsIn K mainGlobals "sum" = some none)
  (z9 : PySem.W.nsIn K mainGlobals "all" = some none)
  (z10 : PySem.W.nsIn K mainGlobals "any" = some none)
  (z11 : PySem.W.nsIn K mainGlobals "repr" = some none)
  (z12 : PySem.W.nsIn K mainGlobals "set" = some none)
  (z13 : PySem.W.nsIn K mainGlobals "range" = some none)
  (z14 : PySem.W.nsIn K mainGlobals "enumerate" = some none)
  (z15 : PySem.W.nsIn K mainGlobals "zip" = some none)
  (z16 : PySem.W.nsIn K mainGlobals "type" = some none)
  (z17 : PySem.W.nsIn K mainGlobals "isinstance" = some none)
  (z18 : PySem.W.nsIn K mainGlobals "str" = some none)
  (z19 : PySem.W.nsIn K mainGlobals "bool" = some none)
  (z20 : PySem.W.nsIn K mainGlobals "dict" = some none)
  {t0 : Tok} (cst0 : PySem.W.nsIn K mainGlobals "WORTHS" = some (some (.int 256 t0)))
  {q1 : Addr} (cst1 : PySem.W.nsIn K mainGlobals "OPS" = some (some (.ref q1)))
  (dw1 : He.dicW K q1 = some (He.keysIn w.params [("+" : Str), ("-" : Str), ("*" : Str), ("<" : Str), ("=" : Str)]))
  (cv1_0 : PySem.W.nsIn K q1 "+" = some (some (.ref f3)))
  (cv1_1 : PySem.W.nsIn K q1 "-" = some (some (.ref f4)))
  (cv1_2 : PySem.W.nsIn K q1 "*" = some (some (.ref f5)))
  (cv1_3 : PySem.W.nsIn K q1 "<" = some (some (.ref f6)))
  (cv1_4 : PySem.W.nsIn K q1 "=" = some (some (.ref f7)))
  {q2 : Addr} {qd2 : Option Addr} {qn2 : Nat} {qs2 : Array (Option Value)} {v2_0 v2_1 : Tok} (cst2 : PySem.W.nsIn K mainGlobals "JUMPS" = some (some (.ref q2)))
  (lq2 : K.lookup q2 = some ⟨.type "tuple", qd2, .seq #[.str "test" v2_0, .str "go" v2_1] qn2, qs2⟩)
  {t3 : Tok} (cst3 : PySem.W.nsIn K mainGlobals "_ASKS" = some (some (.int 3 t3)))
  {t4 : Tok} (cst4 : PySem.W.nsIn K mainGlobals "_REGISTERS" = some (some (.int 16 t4)))
  {t5 : Tok} (cst5 : PySem.W.nsIn K mainGlobals "_ARRAYS" = some (some (.int 2 t5)))
  {t6 : Tok} (cst6 : PySem.W.nsIn K mainGlobals "_CELLS" = some (some (.int 6 t6)))
  {t7 : Tok} (cst7 : PySem.W.nsIn K mainGlobals "_ROWS" = some (some (.int 60 t7)))
  {t8 : Tok} (cst8 : PySem.W.nsIn K mainGlobals "_ROUNDS" = some (some (.int 6 t8)))
  {t9 : Tok} (cst9 : PySem.W.nsIn K mainGlobals "_LOOPS_WITHIN" = some (some (.int 2 t9)))
  {q10 : Addr} (cst10 : PySem.W.nsIn K mainGlobals "_FORMS" = some (some (.ref q10)))
  (dw10 : He.dicW K q10 = some (He.keysIn w.params [("set" : Str), ("copy" : Str), ("get" : Str), ("put" : Str), ("test" : Str), ("go" : Str), ("count" : Str), ("again" : Str), ("rest" : Str), ("end" : Str)]))
  {u10_0 : Tok}
  (cv10_0 : PySem.W.nsIn K q10 "set" = some (some (.str "rw" u10_0)))
  {u10_1 : Tok}
  (cv10_1 : PySem.W.nsIn K q10 "copy" = some (some (.str "rr" u10_1)))
  {u10_2 : Tok}
  (cv10_2 : PySem.W.nsIn K q10 "get" = some (some (.str "rar" u10_2)))
  {u10_3 : Tok}
  (cv10_3 : PySem.W.nsIn K q10 "put" = some (some (.str "arr" u10_3)))
  {u10_4 : Tok}
  (cv10_4 : PySem.W.nsIn K q10 "test" = some (some (.str "rn" u10_4)))
  {u10_5 : Tok}
  (cv10_5 : PySem.W.nsIn K q10 "go" = some (some (.str "n" u10_5)))
  {u10_6 : Tok}
  (cv10_6 : PySem.W.nsIn K q10 "count" = some (some (.str "m" u10_6)))
  {u10_7 : Tok}
  (cv10_7 : PySem.W.nsIn K q10 "again" = some (some (.str "n" u10_7)))
  {u10_8 : Tok}
  (cv10_8 : PySem.W.nsIn K q10 "rest" = some (some (.str "" u10_8)))
  {u10_9 : Tok}
  (cv10_9 : PySem.W.nsIn K q10 "end" = some (some (.str "" u10_9)))
  {t11 : Tok} (cst11 : PySem.W.nsIn K mainGlobals "_OP_FORM" = some (some (.str "rrr" t11)))
  {ad : Addr} (hfa : mg "law" = some (.ref ad)) : ∃ (fd : FuncData) (sp : Sp), Binds K fd ["script"] [] ∧ (∀ (H : Hp) (a : Addr) (ns : List Int), ns.length ≤ 63 → Only H → SqL K H a (ns.map V.int) → sp [.ref a] H (fun v _ => v = .bl true) E0) ∧
      ∀ base : Heap, K.In base → base.Ns mainGlobals mg → FnG PySem.Challenge.rw_pacebond_k68_seams_told.prog w K mg base CX0 200 ad fd ["script"] sp := by
  let fa : Fa := ⟨w, fun n => ([f0, f1, f2, f3, f4, f5, f6, f7, f8, f9, f10, f11, f12, f13, f14, f15, f16, f17, f18, f19, f20, f21, f22, f23, f24, f25, f26, f27, f28, f29, f30, f31, f32, f33] : List Addr)[n]?⟩
  have A : AllAt K mg fa 0 ds :=
    ⟨at_mk (d := d_is_whole) X G rfl a0 l0 c0 k0 (C8.fnScope_by (by decide +kernel)) (fun _ _ _ _ _ _ us hl => match us, hl with | [_, _, _], _ => rfl),
    at_mk (d := d_is_row) X G rfl a1 l1 c1 k1 (C8.fnScope_by (by decide +kernel)) (fun _ _ _ _ _ _ us hl => match us, hl with | [_, _, _], _ => rfl),
    at_mk (d := d_fits) X G rfl a2 l2 c2 k2 (C8.fnScope_by (by decide +kernel)) (fun _ _ _ _ _ _ us hl => match us, hl with | [_, _], _ => rfl),
    at_mk (d := d_plus) X G rfl a3 l3 c3 k3 (C8.fnScope_by (by decide +kernel)) (fun _ _ _ _ _ _ us hl => match us, hl with | [_, _], _ => rfl),
    at_mk (d := d_minus) X G rfl a4 l4 c4 k4 (C8.fnScope_by (by decide +kernel)) (fun _ _ _ _ _ _ us hl => match us, hl with | [_, _], _ => rfl),
    at_mk (d := d_times) X G rfl a5 l5 c5 k5 (C8.fnScope_by (by decide +kernel)) (fun _ _ _ _ _ _ us hl => match us, hl with | [_, _], _ => rfl),
    at_mk (d := d_less) X G rfl a6 l6 c6 k6 (C8.fnScope_by (by decide +kernel)) (fun _ _ _ _ _ _ us hl => match us, hl with | [_, _], _ => rfl),
    at_mk (d := d_same) X G rfl a7 l7 c7 k7 (C8.fnScope_by (by decide +kernel)) (fun _ _ _ _ _ _ us hl => match us, hl with | [_, _], _ => rfl),
    at_mk (d := d_is_op) X G rfl a8 l8 c8 k8 (C8.fnScope_by (by decide +kernel)) (fun _ _ _ _ _ _ us hl => match us, hl with | [_], _ => rfl),
    at_mk (d := d_is_worth) X G rfl a9 l9 c9 k9 (C8.fnScope_by (by decide +kernel)) (fun _ _ _ _ _ _ us hl => match us, hl with | [_], _ => rfl),
    at_mk (d := d_is_code) X G rfl a10 l10 c10 k10 (C8.fnScope_by (by decide +kernel)) (fun _ _ _ _ _ _ us hl => match us, hl with | [_], _ => rfl),
    at_mk (d := d_need_code) X G rfl a11 l11 c11 k11 (C8.fnScope_by (by decide +kernel)) (fun _ _ _ _ _ _ us hl => match us, hl with | [_], _ => rfl),
    at_mk (d := d_is_span) X G rfl a12 l12 c12 k12 (C8.fnScope_by (by decide +kernel)) (fun _ _ _ _ _ _ us hl => match us, hl with | [_], _ => rfl),
    at_mk (d := d_is_row_form) X G rfl a13 l13 c13 k13 (C8.fnScope_by (by decide +kernel)) (fun _ _ _ _ _ _ us hl => match us, hl with | [_, _, _, _], _ => rfl),
    at_mk (d := d_ends_well) X G rfl a14 l14 c14 k14 (C8.fnScope_by (by decide +kernel)) (fun _ _ _ _ _ _ us hl => match us, hl with | [_], _ => rfl),
    at_mk (d := d_loops_in) X G rfl a15 l15 c15 k15 (C8.fnScope_by (by decide +kernel)) (fun _ _ _ _ _ _ us hl => match us, hl with | [_], _ => rfl),
    at_mk (d := d_loops_well) X G rfl a16 l16 c16 k16 (C8.fnScope_by (by decide +kernel)) (fun _ _ _ _ _ _ us hl => match us, hl with | [_], _ => rfl),
    at_mk (d := d_stands_well) X G rfl a17 l17 c17 k17 (C8.fnScope_by (by decide +kernel)) (fun _ _ _ _ _ _ us hl => match us, hl with | [_, _], _ => rfl),
    at_mk (d := d_jumps_well) X G rfl a18 l18 c18 k18 (C8.fnScope_by (by decide +kernel)) (fun _ _ _ _ _ _ us hl => match us, hl with | [_], _ => rfl),
    at_mk (d := d_counts_around) X G rfl a19 l19 c19 k19 (C8.fnScope_by (by decide +kernel)) (fun _ _ _ _ _ _ us hl => match us, hl with | [_, _], _ => rfl),
    at_mk (d := d_seams_of) X G rfl a20 l20 c20 k20 (C8.fnScope_by (by decide +kernel)) (fun _ _ _ _ _ _ us hl => match us, hl with | [_], _ => rfl),
    at_mk (d := d_seams_in) X G rfl a21 l21 c21 k21 (C8.fnScope_by (by decide +kernel)) (fun _ _ _ _ _ _ us hl => match us, hl with | [_], _ => rfl),
    at_mk (d := d_is_passed) X G rfl a22 l22 c22 k22 (C8.fnScope_by (by decide +kernel)) (fun _ _ _ _ _ _ us hl => match us, hl with | [_, _], _ => rfl),
    at_mk (d := d__law_pot) X G rfl a23 l23 c23 k23 (C8.fnScope_by (by decide +kernel)) (fun _ _ _ _ _ _ us hl => match us, hl with | [_, _], _ => rfl),
    at_mk (d := d__law_take) X G rfl a24 l24 c24 k24 (C8.fnScope_by (by decide +kernel)) (fun _ _ _ _ _ _ us hl => match us, hl with | [_, _], _ => rfl),
    at_mk (d := d__law_loops) X G rfl a25 l25 c25 k25 (C8.fnScope_by (by decide +kernel)) (fun _ _ _ _ _ _ us hl => match us, hl with | [_, _], _ => rfl),
    at_mk (d := d__law_around) X G rfl a26 l26 c26 k26 (C8.fnScope_by (by decide +kernel)) (fun _ _ _ _ _ _ us hl => match us, hl with | [_, _], _ => rfl),
    at_mk (d := d__law_plain_row) X G rfl a27 l27 c27 k27 (C8.fnScope_by (by decide +kernel)) (fun _ _ _ _ _ _ us hl => match us, hl with | [_, _, _], _ => rfl),
    at_mk (d := d__law_code) X G rfl a28 l28 c28 k28 (C8.fnScope_by (by decide +kernel)) (fun _ _ _ _ _ _ us hl => match us, hl with | [_, _], _ => rfl),
    at_mk (d := d__law_loops_of) X G rfl a29 l29 c29 k29 (C8.fnScope_by (by decide +kernel)) (fun _ _ _ _ _ _ us hl => match us, hl with | [_], _ => rfl),
    at_mk (d := d__law_next) X G rfl a30 l30 c30 k30 (C8.fnScope_by (by decide +kernel)) (fun _ _ _ _ _ _ us hl => match us, hl with | [_, _, _], _ => rfl),
    at_mk (d := d__law_seams) X G rfl a31 l31 c31 k31 (C8.fnScope_by (by decide +kernel)) (fun _ _ _ _ _ _ us hl => match us, hl with | [_], _ => rfl),
    at_mk (d := d__law_come) X G rfl a32 l32 c32 k32 (C8.fnScope_by (by decide +kernel)) (fun _ _ _ _ _ _ us hl => match us, hl with | [_, _], _ => rfl),
    at_mk (d := d_law) X G rfl a33 l33 c33 k33 (C8.fnScope_by (by decide +kernel)) (fun _ _ _ _ _ _ us hl => match us, hl with | [_], _ => rfl), trivial⟩
  have C : AllCon K mg fa cons gl :=
    ⟨con_int X G cst0,
    con_tabF X G cst1 (tabF_mk (s := [("+", .ref f3), ("-", .ref f4), ("*", .ref f5), ("<", .ref f6), ("=", .ref f7)]) dw1 (.cons ⟨_, rfl, rfl⟩ (.cons ⟨_, rfl, rfl⟩ (.cons ⟨_, rfl, rfl⟩ (.cons ⟨_, rfl, rfl⟩ (.cons ⟨_, rfl, rfl⟩ (.nil)))))) (by intro p hp; simp only [List.mem_cons, List.not_mem_nil, or_false] at hp; rcases hp with rfl | rfl | rfl | rfl | rfl <;> assumption)),
    con_tup X G cst2 (us := [.str "test" v2_0, .str "go" v2_1]) lq2 (by show 2 ≤ sizeLine; decide) (.str (.str (.nil))),
    con_int X G cst3,
    con_int X G cst4,
    con_int X G cst5,
    con_int X G cst6,
    con_int X G cst7,
    con_int X G cst8,
    con_int X G cst9,
    con_tabD X G cst10 (tabD_mk (s := [("set", .str "rw" u10_0), ("copy", .str "rr" u10_1), ("get", .str "rar" u10_2), ("put", .str "arr" u10_3), ("test", .str "rn" u10_4), ("go", .str "n" u10_5), ("count", .str "m" u10_6), ("again", .str "n" u10_7), ("rest", .str "" u10_8), ("end", .str "" u10_9)]) dw10 (.cons ⟨.str _, ⟨_, rfl⟩, .str _⟩ (.cons ⟨.str _, ⟨_, rfl⟩, .str _⟩ (.cons ⟨.str _, ⟨_, rfl⟩, .str _⟩ (.cons ⟨.str _, ⟨_, rfl⟩, .str _⟩ (.cons ⟨.str _, ⟨_, rfl⟩, .str _⟩ (.cons ⟨.str _, ⟨_, rfl⟩, .str _⟩ (.cons ⟨.str _, ⟨_, rfl⟩, .str _⟩ (.cons ⟨.str _, ⟨_, rfl⟩, .str _⟩ (.cons ⟨.str _, ⟨_, rfl⟩, .str _⟩ (.cons ⟨.str _, ⟨_, rfl⟩, .str _⟩ (.nil))))))))))) (by intro p hp; simp only [List.mem_cons, List.not_mem_nil, or_false] at hp; rcases hp with rfl | rfl | rfl | rfl | rfl | rfl | rfl | rfl | rfl | rfl <;> assumption)),
    con_str X G cst11, trivial⟩
  have tp : Top w K mg fa ds cons gl := by
    refine ⟨rfl, fun f d h => by have := A.get h; rwa [Nat.zero_add] at this, fun g x h => C.get h, ?_⟩
    have hb : ∀ x ∈ bltNames, PySem.W.nsIn K mainGlobals x = some none := by simpa [bltNames] using ⟨z0, z1, z2, z3, z4, z5, z6, z7, z8, z9, z10, z11, z12, z13, z14, z15, z16, z17, z18, z19, z20⟩
    exact fun x hx => PySem.W.mg_none_of X G (hb x hx)
  exact law_end (fL := 33) (d := d_law) tp ds_ok rfl hfa rfl math
end PI
open PySem PySem.W PyProof.Rows
set_option maxHeartbeats 0 in
theorem PySem.Challenge.cw_pacebond_k68_seams_told_holds : PySem.Challenge.rw_pacebond_k68_seams_told.Holds := by
  w_on; o_law; k_head; (case hw => w_witness2)
  k_fill
  refine PI.walkG (l := PySem.Challenge.rw_pacebond_k68_seams_told) (n := 63) (k := 200) (x := "script") rfl (by decide) rfl PI.room200 (fun w h Y => PySem.W.kIn_of Y) ?F
  case F =>
    intro w mg fa h KX G hmg
    refine' PI.all_mk (w := w) KX G ?a0 ?l0 ?c0 ?k0 ?a1 ?l1 ?c1 ?k1 ?a2 ?l2 ?c2 ?k2 ?a3 ?l3 ?c3 ?k3 ?a4 ?l4 ?c4 ?k4 ?a5 ?l5 ?c5 ?k5 ?a6 ?l6 ?c6 ?k6 ?a7 ?l7 ?c7 ?k7 ?a8 ?l8 ?c8 ?k8 ?a9 ?l9 ?c9 ?k9 ?a10 ?l10 ?c10 ?k10 ?a11 ?l11 ?c11 ?k11 ?a12 ?l12 ?c12 ?k12 ?a13 ?l13 ?c13 ?k13 ?a14 ?l14 ?c14 ?k14 ?a15 ?l15 ?c15 ?k15 ?a16 ?l16 ?c16 ?k16 ?a17 ?l17 ?c17 ?k17 ?a18 ?l18 ?c18 ?k18 ?a19 ?l19 ?c19 ?k19 ?a20 ?l20 ?c20 ?k20 ?a21 ?l21 ?c21 ?k21 ?a22 ?l22 ?c22 ?k22 ?a23 ?l23 ?c23 ?k23 ?a24 ?l24 ?c24 ?k24 ?a25 ?l25 ?c25 ?k25 ?a26 ?l26 ?c26 ?k26 ?a27 ?l27 ?c27 ?k27 ?a28 ?l28 ?c28 ?k28 ?a29 ?l29 ?c29 ?k29 ?a30 ?l30 ?c30 ?k30 ?a31 ?l31 ?c31 ?k31 ?a32 ?l32 ?c32 ?k32 ?a33 ?l33 ?c33 ?k33 ?z0 ?z1 ?z2 ?z3 ?z4 ?z5 ?z6 ?z7 ?z8 ?z9 ?z10 ?z11 ?z12 ?z13 ?z14 ?z15 ?z16 ?z17 ?z18 ?z19 ?z20 ?cst0 ?cst1 ?dw1 ?cv1_0 ?cv1_1 ?cv1_2 ?cv1_3 ?cv1_4 ?cst2 ?lq2 ?cst3 ?cst4 ?cst5 ?cst6 ?cst7 ?cst8 ?cst9 ?cst10 ?dw10 ?cv10_0 ?cv10_1 ?cv10_2 ?cv10_3 ?cv10_4 ?cv10_5 ?cv10_6 ?cv10_7 ?cv10_8 ?cv10_9 ?cst11 hmg
    (case a0 => k_is)
    (case l0 => k_is)
    (case c0 => k_is)
    (case k0 => k_is)
    (case a1 => k_is)
    (case l1 => k_is)
    (case c1 => k_is)
    (case k1 => k_is)
    (case a2 => k_is)
    (case l2 => k_is)
    (case c2 => k_is)
    (case k2 => k_is)
    (case a3 => k_is)
    (case l3 => k_is)
    (case c3 => k_is)
    (case k3 => k_is)
    (case a4 => k_is)
    (case l4 => k_is)
    (case c4 => k_is)
    (case k4 => k_is)
    (case a5 => k_is)
    (case l5 => k_is)
    (case c5 => k_is)
    (case k5 => k_is)
    (case a6 => k_is)
    (case l6 => k_is)
    (case c6 => k_is)
    (case k6 => k_is)
    (case a7 => k_is)
    (case l7 => k_is)
    (case c7 => k_is)
    (case k7 => k_is)
    (case a8 => k_is)
    (case l8 => k_is)
    (case c8 => k_is)
    (case k8 => k_is)
    (case a9 => k_is)
    (case l9 => k_is)
    (case c9 => k_is)
    (case k9 => k_is)
    (case a10 => k_is)
    (case l10 => k_is)
    (case c10 => k_is)
    (case k10 => k_is)
    (case a11 => k_is)
    (case l11 => k_is)
    (case c11 => k_is)
    (case k11 => k_is)
    (case a12 => k_is)
    (case l12 => k_is)
    (case c12 => k_is)
    (case k12 => k_is)
    (case a13 => k_is)
    (case l13 => k_is)
    (case c13 => k_is)
    (case k13 => k_is)
    (case a14 => k_is)
    (case l14 => k_is)
    (case c14 => k_is)
    (case k14 => k_is)
    (case a15 => k_is)
    (case l15 => k_is)
    (case c15 => k_is)
    (case k15 => k_is)
    (case a16 => k_is)
    (case l16 => k_is)
    (case c16 => k_is)
    (case k16 => k_is)
    (case a17 => k_is)
    (case l17 => k_is)
    (case c17 => k_is)
    (case k17 => k_is)
    (case a18 => k_is)
    (case l18 => k_is)
    (case c18 => k_is)
    (case k18 => k_is)
    (case a19 => k_is)
    (case l19 => k_is)
    (case c19 => k_is)
    (case k19 => k_is)
    (case a20 => k_is)
    (case l20 => k_is)
    (case c20 => k_is)
    (case k20 => k_is)
    (case a21 => k_is)
    (case l21 => k_is)
    (case c21 => k_is)
    (case k21 => k_is)
    (case a22 => k_is)
    (case l22 => k_is)
    (case c22 => k_is)
    (case k22 => k_is)
    (case a23 => k_is)
    (case l23 => k_is)
    (case c23 => k_is)
    (case k23 => k_is)
    (case a24 => k_is)
    (case l24 => k_is)
    (case c24 => k_is)
    (case k24 => k_is)
    (case a25 => k_is)
    (case l25 => k_is)
    (case c25 => k_is)
    (case k25 => k_is)
    (case a26 => k_is)
    (case l26 => k_is)
    (case c26 => k_is)
    (case k26 => k_is)
    (case a27 => k_is)
    (case l27 => k_is)
    (case c27 => k_is)
    (case k27 => k_is)
    (case a28 => k_is)
    (case l28 => k_is)
    (case c28 => k_is)
    (case k28 => k_is)
    (case a29 => k_is)
    (case l29 => k_is)
    (case c29 => k_is)
    (case k29 => k_is)
    (case a30 => k_is)
    (case l30 => k_is)
    (case c30 => k_is)
    (case k30 => k_is)
    (case a31 => k_is)
    (case l31 => k_is)
    (case c31 => k_is)
    (case k31 => k_is)
    (case a32 => k_is)
    (case l32 => k_is)
    (case c32 => k_is)
    (case k32 => k_is)
    (case a33 => k_is)
    (case l33 => k_is)
    (case c33 => k_is)
    (case k33 => k_is)
    (case z0 => k_is)
    (case z1 => k_is)
    (case z2 => k_is)
    (case z3 => k_is)
    (case z4 => k_is)
    (case z5 => k_is)
    (case z6 => k_is)
    (case z7 => k_is)
    (case z8 => k_is)
    (case z9 => k_is)
    (case z10 => k_is)
    (case z11 => k_is)
    (case z12 => k_is)
    (case z13 => k_is)
    (case z14 => k_is)
    (case z15 => k_is)
    (case z16 => k_is)
    (case z17 => k_is)
    (case z18 => k_is)
    (case z19 => k_is)
    (case z20 => k_is)
    (case cst0 => k_is)
    (case cst1 => k_is)
    (case dw1 => rfl)
    (case cv1_0 => k_is)
    (case cv1_1 => k_is)
    (case cv1_2 => k_is)
    (case cv1_3 => k_is)
    (case cv1_4 => k_is)
    (case cst2 => k_is)
    (case lq2 => k_is)
    (case cst3 => k_is)
    (case cst4 => k_is)
    (case cst5 => k_is)
    (case cst6 => k_is)
    (case cst7 => k_is)
    (case cst8 => k_is)
    (case cst9 => k_is)
    (case cst10 => k_is)
    (case dw10 => rfl)
    (case cv10_0 => k_is)
    (case cv10_1 => k_is)
    (case cv10_2 => k_is)
    (case cv10_3 => k_is)
    (case cv10_4 => k_is)
    (case cv10_5 => k_is)
    (case cv10_6 => k_is)
    (case cv10_7 => k_is)
    (case cv10_8 => k_is)
    (case cv10_9 => k_is)
    (case cst11 => k_is)

