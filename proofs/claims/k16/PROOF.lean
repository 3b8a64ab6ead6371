import PyProof.Rows.All
import Wide.All
import OpenK.AllK
import Wide.FinOn
import HandS.ForMost
import HandS.SortOrd
import HandS.IsInst
import HandS.Walk
import HandS.Lambda
import HandS.Flow
import HandS.Zip
import HandS.Deep
import HandS.TupAny
import HandS.TupMul
import HandS.Wide
import HandS.Style
import KE.SortKeyHeap
import PyProof.ReprRoads
import HandS.More
import KE.DataMinMax
import KE.SortData
import PyProof.SeqIndex
import HandS.WordsDict
import KE.GoesMore
import HandS.SetBool
import HandS.SetKeys
import HandS.NoneIn
import HandS.DictComp
import HandS.Conv
import HandS.ExcValue
import HandS.SortKw
import HandS.EndTab
import HandS.EndOwn
import KE.KNestM
import HandS.NestedK
import HandS.Iter
import PySem.Challenge.RW_waypins_k16_beats_by_hand_and_by_names
set_option Elab.async false
set_option linter.all false
set_option maxRecDepth 100000
/-! Ev1: a small language for what a package's functions do, and what it works out to.
Data are trees (PyData); a list that is changed stands in a store, by its place. -/
namespace Ev
open PySem
abbrev D := PySem.PyData

/-- what a slot holds: data, or the place of a list that may be changed -/
inductive SV where
  | dat (d : D) | loc (n : Nat) | scr (ns : List Int)
/-- what an expression comes to: data (fr: a list just made, that nothing else holds), or a place -/
inductive ER where
  | dat (d : D) (fr : Bool) | loc (n : Nat) | scr (ns : List Int)
abbrev Env := List (Option SV)
abbrev Sto := List (List D)

/-- built-in functions -/
inductive Bf where
  | len | all | any | tup | lst | max | min | sum | abs | int | rep | str
  deriving DecidableEq
inductive IT where
  | nm (i : Nat) | tp (ts : List IT)
mutual
inductive IE where
  | int (i : Int) | str (x : Str) | bl (b : Bool) | non
  | slot (i : Nat) | con (x : Str)
  | tup (es : List IE) | lst (es : List IE)
  | bin (o : Operator) (a b : IE) | neg (a : IE) | no (a : IE)
  | land (a b : IE) | lor (a b : IE)
  | cmp (o : CmpOp) (a b : IE) | cmp2 (o p : CmpOp) (a b c : IE)
  | ite (c a b : IE)
  | call (f : Str) (es : List IE)
  | blt (f : Bf) (es : List IE)
  | isi (a : IE) (t : String)
  | idx (a b : IE) | cut (a : IE) (lo hi : Option IE) | rev (a : IE)
  | look (g : Str) (a : IE)
  | mth (m : Str) (a : IE) (es : List IE)
  | callk (f : Str) (ks : List Str) (es : List IE) (ix : List Nat)
  | lc (own : List (Str × Nat)) (t : IT) (it : II) (cs : List IE) (e : IE)
  | lc2 (own : List (Str × Nat)) (vs : List Nat) (t : IT) (it : II) (cs : List IE) (t1 : IT) (it1 : II) (cs1 : List IE) (e : IE)
  | sortl (a : IE) (i : Nat) (k : IE) (rev : Bool)
  | sortr (a : IE) (i : Nat) (k : IE) (rev : Bool)
  | indx (a b : IE)
  | card (own : List (Str × Nat)) (vs : List Nat) (t : IT) (it : II) (cs : List IE) (t1 : IT) (it1 : II) (cs1 : List IE) (e : IE)
  | srt (a : IE) (rev : Bool)
  | dc (own : List (Str × Nat)) (t : IT) (it : II) (cs : List IE) (k e : IE)
  | fld (a : IE) (x : Str) | new (c : Str) (es : List IE) | indx3 (a b c : IE)
  | slen (i : Nat) | sidx (i : Nat) (a : IE)
inductive II where
  | of (e : IE) | rng (es : List IE) | enm (e : IE) | zip (a b : IE)
end
inductive IS where
  | asg (t : IT) (e : IE)
  | par (is : List Nat) (es : List IE)
  | seti (i : Nat) (a e : IE)
  | app (i : Nat) (e : IE)
  | ext (i : Nat) (e : IE)
  | ins (i : Nat) (a e : IE)
  | aug (i : Nat) (o : Operator) (e : IE)
  | exp (e : IE)
  | ite (c : IE) (a b : List IS)
  | loop (t : IT) (it : II) (b : List IS)
  | whl (c : IE) (b : List IS)
  | ret (e : Option IE)
  | pas | brk | cnt | nev
inductive Fl where
  | nx (env : Env) (st : Sto) | rt (r : ER) (st : Sto) | bk (env : Env) (st : Sto) | ct (env : Env) (st : Sto)

/-- how a package is told: its functions (how many parameters, how many names, the body), its constants, its dicts, the names whose lists are changed -/
structure FnD where
  ps : Nat
  len : Nat
  mu : List Nat
  lam : Bool
  body : List IS
structure Pk where
  fn : Str → Option FnD
  con : Str → Option D
  dic : Str → Option (List (Str × D))
  kc : List (Str × List Str × List Nat)
  wf : Nat
  /-- classes, what is made of them; their methods; their fields -/
  nw : Str → Option ((Str → List SV → Sto → Option (ER × Sto)) → (Str → List SV → Sto → Option (ER × Sto)) → List SV → Sto → Option (ER × Sto)) := fun _ => none
  nws : List (Str × List Str) := []
  ms : List ((Str × Str) × List Str) := []
  fl : List (Str × Str) := []

/-! ### data -/
mutual
def eqD : D → D → Bool
  | .none, .none => true
  | .bool a, .bool b => a == b
  | .int a, .int b => a == b
  | .str a, .str b => decide (a = b)
  | .list a, .list b => eqDs a b
  | .tuple a, .tuple b => eqDs a b
  | .dict a, .dict b => eqKs a b
  | _, _ => false
def eqDs : List D → List D → Bool
  | [], [] => true
  | a :: as, b :: bs => eqD a b && eqDs as bs
  | _, _ => false
def eqKs : List (D × D) → List (D × D) → Bool
  | [], [] => true
  | (a, c) :: as, (b, d) :: bs => eqD a b && eqD c d && eqKs as bs
  | _, _ => false
end
mutual
theorem eqD_eq : ∀ {a b : D}, eqD a b = true → a = b
  | .none, .none, _ => rfl
  | .bool a, .bool b, h => by simp only [eqD, beq_iff_eq] at h; rw [h]
  | .int a, .int b, h => by simp only [eqD, beq_iff_eq] at h; rw [h]
  | .str a, .str b, h => by simp only [eqD, decide_eq_true_eq] at h; rw [h]
  | .list a, .list b, h => by simp only [eqD] at h; rw [eqDs_eq h]
  | .tuple a, .tuple b, h => by simp only [eqD] at h; rw [eqDs_eq h]
  | .dict a, .dict b, h => by simp only [eqD] at h; rw [eqKs_eq h]
theorem eqDs_eq : ∀ {a b : List D}, eqDs a b = true → a = b
  | [], [], _ => rfl
  | a :: as, b :: bs, h => by
    simp only [eqDs, Bool.and_eq_true] at h
    rw [eqD_eq h.1, eqDs_eq h.2]
theorem eqKs_eq : ∀ {a b : List (D × D)}, eqKs a b = true → a = b
  | [], [], _ => rfl
  | (a, c) :: as, (b, d) :: bs, h => by
    simp only [eqKs, Bool.and_eq_true] at h
    rw [eqD_eq h.1.1, eqD_eq h.1.2, eqKs_eq h.2]
end
mutual
theorem eqD_refl : ∀ a : D, eqD a a = true
  | .none => by simp only [eqD]
  | .bool a => by simp only [eqD, beq_self_eq_true]
  | .int a => by simp only [eqD, beq_self_eq_true]
  | .str a => by simp only [eqD, decide_true]
  | .list a => by simp only [eqD]; exact eqDs_refl a
  | .tuple a => by simp only [eqD]; exact eqDs_refl a
  | .dict a => by simp only [eqD]; exact eqKs_refl a
theorem eqDs_refl : ∀ a : List D, eqDs a a = true
  | [] => by simp only [eqDs]
  | a :: as => by simp only [eqDs, eqD_refl a, eqDs_refl as, Bool.and_true]
theorem eqKs_refl : ∀ a : List (D × D), eqKs a a = true
  | [] => by simp only [eqKs]
  | (a, c) :: as => by simp only [eqKs, eqD_refl a, eqD_refl c, eqKs_refl as, Bool.and_true]
end
/-- an object's data: its class, its fields -/
def objB : List (D × D) → Bool
  | (.none, _) :: _ => true
  | _ => false
def fldD (x : Str) : List (D × D) → Option D
  | [] => none
  | (.str y, d) :: r => if decide (y = x) = true then some d else fldD x r
  | _ :: r => fldD x r
def keyI (i : Int) : List (D × D) → Option D
  | [] => none
  | (.int j, d) :: r => if decide (j = i) = true then some d else keyI i r
  | _ :: r => keyI i r
def truD : D → Option Bool
  | .none => some false
  | .bool b => some b
  | .int i => some (i != 0)
  | .str x => if x.length ≤ sizeLine then some ((x.length : Int) != 0) else none
  | .list xs => some (!xs.isEmpty)
  | .tuple xs => some (!xs.isEmpty)
  | .dict _ => none
def isD (t : String) : D → Option Bool
  | .none => L2.kitB "NoneType" t
  | .bool _ => L2.kitB "bool" t
  | .int _ => L2.kitB "int" t
  | .str _ => L2.kitB "str" t
  | .list _ => L2.kitB "list" t
  | .tuple _ => L2.kitB "tuple" t
  | .dict kvs => if objB kvs = true then none else L2.kitB "dict" t
def intsD : List D → Option (List Int)
  | [] => some []
  | .int i :: r => (intsD r).map (i :: ·)
  | _ => none
def bolsD : List D → Option (List Bool)
  | [] => some []
  | .bool i :: r => (bolsD r).map (i :: ·)
  | _ => none
def cutD (xs : List D) (lo hi : Option Int) : List D := (xs.drop (HT.sIx xs.length 0 lo)).take (HT.sIx xs.length xs.length hi - HT.sIx xs.length 0 lo)
def okSh (d : D) : Bool := SeqAt.shaped d

def binD : Operator → D → D → Option (D × Bool)
  | .Add, .int i, .int j => some (.int (i + j), false)
  | .Add, .list xs, .list ys => if xs.length + ys.length ≤ sizeLine then some (.list (xs ++ ys), true) else none
  | .Add, .tuple xs, .tuple ys => if xs.length + ys.length ≤ sizeLine then some (.tuple (xs ++ ys), false) else none
  | .Add, .str x, .str y => if x.length + y.length ≤ sizeLine then some (.str (x ++ y), false) else none
  | .Sub, .int i, .int j => some (.int (i - j), false)
  | .Mult, .int i, .int j => if (-(2 ^ 64) < i ∧ i < 2 ^ 64) ∨ (-(2 ^ 64) < j ∧ j < 2 ^ 64) then some (.int (i * j), false) else none
  | .Mult, .list xs, .int k => if -(2 ^ 63) ≤ k ∧ k < 2 ^ 63 ∧ xs.length * k.toNat ≤ sizeLine then some (.list (List.replicate k.toNat xs).flatten, true) else none
  | .Mult, .tuple xs, .int k => if xs ≠ [] ∧ 2 ≤ k ∧ k ≤ 1000 ∧ xs.length ≤ 1000 then some (.tuple (List.replicate k.toNat xs).flatten, false) else none
  | .FloorDiv, .int i, .int j => if 0 < j ∧ j < 2 ^ 100 then some (.int (i / j), false) else if j < 0 ∧ -(2 ^ 100) < j then some (.int (i.fdiv j), false) else none
  | .Mod, .int i, .int j => if 0 < j then some (.int (i % j), false) else none
  | .LShift, .int i, .int j => if 0 ≤ j ∧ j ≤ 1000000 ∧ i.natAbs < 2 ^ 64 then some (.int (i * 2 ^ j.toNat), false) else none
  | .Pow, .int i, .int j => if 0 ≤ j ∧ j ≤ 1000000 ∧ i.natAbs < 2 ^ 64 then some (.int (i ^ j.toNat), false) else none
  | _, _, _ => none
def cmpD : CmpOp → D → D → Option Bool
  | .Eq, .str a, .str b => some (decide (a = b))
  | .NotEq, .str a, .str b => some (!decide (a = b))
  | .Eq, a, b => if okSh a && okSh b then some (PyData.eqv a b) else none
  | .NotEq, a, b => if okSh a && okSh b then some (!PyData.eqv a b) else none
  | .Lt, .int i, .int j => some (decide (i < j))
  | .LtE, .int i, .int j => some (decide (i ≤ j))
  | .Gt, .int i, .int j => some (decide (j < i))
  | .GtE, .int i, .int j => some (decide (j ≤ i))
  | .Is, a, .none => some (eqD a .none)
  | .IsNot, a, .none => some (!eqD a .none)
  | .Is, .bool a, .bool b => some (decide (a = b))
  | .Is, .int _, .bool _ => some false
  | .IsNot, .bool a, .bool b => some (!decide (a = b))
  | .In, a, .list xs => if okSh a && okSh (.list xs) then some (xs.any fun z => PyData.eqv z a) else none
  | .In, a, .tuple xs => if okSh a && okSh (.tuple xs) then some (xs.any fun z => PyData.eqv z a) else none
  | .NotIn, a, .list xs => if okSh a && okSh (.list xs) then some (!xs.any fun z => PyData.eqv z a) else none
  | .NotIn, a, .tuple xs => if okSh a && okSh (.tuple xs) then some (!xs.any fun z => PyData.eqv z a) else none
  | _, _, _ => none
def idxD : D → D → Option D
  | .list xs, .int i => L2.atI xs i
  | .tuple xs, .int i => L2.atI xs i
  | .dict kvs, .str k => if objB kvs = true then none else fldD k kvs
  | .dict kvs, .int k => if objB kvs = true then none else keyI k kvs
  | _, _ => none
def maxI (m : Int) : List Int → Int
  | [] => m
  | x :: r => maxI (if x > m then x else m) r
def minI (m : Int) : List Int → Int
  | [] => m
  | x :: r => minI (if x < m then x else m) r
/-- alike rows that can be ordered -/
def rowB : D → Bool
  | .tuple (_ :: _) => true
  | _ => false
def alkB (xs : List D) : Bool := okSh (.list xs) && xs.all rowB && xs.all (fun x => xs.all fun y => W.alike x y) && decide (PyData.depthAll xs ≤ 50)
def leD (rev : Bool) (a b : D) : Bool := cond rev (!W.dataLt a b) (!W.dataLt b a)
def insD (rev : Bool) (x : D) : List D → List D
  | [] => [x]
  | y :: r => if leD rev x y then x :: y :: r else y :: insD rev x r
def srtD (rev : Bool) : List D → List D
  | [] => []
  | x :: r => insD rev x (srtD rev r)
/-- what can be in a set: None, ints, texts -/
def keyD : D → Option (Option L2.Key)
  | .none => some none
  | .int i => some (some (.inl i))
  | .str x => some (some (.inr x))
  | _ => none
def keysD : List D → Option (List (Option L2.Key))
  | [] => some []
  | d :: r => match keyD d, keysD r with
    | some k, some ks => some (k :: ks)
    | _, _ => none
/-- a dict of ints as it is made: what stands under a key -/
def putP (ps : List (Int × D)) (k : Int) (z : D) : List (Int × D) := if (ps.any fun p => decide (p.1 = k)) = true then ps.map (fun p => if p.1 = k then (p.1, z) else p) else ps ++ [(k, z)]
def putsP : List (Int × D) → List (Int × D) → List (Int × D)
  | acc, [] => acc
  | acc, p :: r => putsP (putP acc p.1 p.2) r
/-- pairs whose first parts are ints -/
def prsD : List D → Option (List (Int × D))
  | [] => some []
  | .tuple [.int k, z] :: r => match prsD r with
    | some ps => some ((k, z) :: ps)
    | none => none
  | _ :: _ => none
instance : DecidableEq L2.Key := inferInstanceAs (DecidableEq (Int ⊕ Str))
def hasKey (acc : List (Option L2.Key)) (k : Option L2.Key) : Bool := acc.any fun j => decide (j = k)
def dedK : List (Option L2.Key) → List (Option L2.Key) → List (Option L2.Key)
  | acc, [] => acc
  | acc, k :: r => dedK (if hasKey acc k = true then acc else acc ++ [k]) r
def Bf.nm : Bf → Str
  | .len => "len" | .all => "all" | .any => "any" | .tup => "tuple" | .lst => "list" | .max => "max" | .min => "min" | .sum => "sum" | .abs => "abs" | .int => "int" | .rep => "repr" | .str => "str"
def okRep (d : D) : Bool := d.showable && !d.hasDict && decide (d.depth ≤ 60) && decide (d.shown.length ≤ sizeLine)
def bltD : Bf → List D → Option (D × Bool)
  | .len, [.list xs] => some (.int xs.length, false)
  | .len, [.tuple xs] => some (.int xs.length, false)
  | .len, [.dict kvs] => if objB kvs = true then none else some (.int kvs.length, false)
  | .all, [.list xs] => (bolsD xs).map fun bs => (.bool (bs.all id), false)
  | .any, [.list xs] => (bolsD xs).map fun bs => (.bool (bs.any id), false)
  | .tup, [.list xs] => some (.tuple xs, false)
  | .tup, [.tuple xs] => some (.tuple xs, false)
  | .lst, [.list xs] => some (.list xs, true)
  | .lst, [.tuple xs] => some (.list xs, true)
  | .max, [.int i, .int j] => some (.int (if j > i then j else i), false)
  | .max, [.list xs] => match intsD xs with
    | some (x :: r) => some (.int (maxI x r), false)
    | _ => match xs with
      | d :: ds => if alkB (d :: ds) then some (W.maxD d ds, false) else none
      | [] => none
  | .min, [.int i, .int j] => some (.int (if j < i then j else i), false)
  | .min, [.list xs] => match intsD xs with
    | some (x :: r) => some (.int (minI x r), false)
    | _ => match xs with
      | d :: ds => if alkB (d :: ds) then some (W.minD d ds, false) else none
      | [] => none
  | .sum, [.list xs] => (intsD xs).map fun is => (.int is.sum, false)
  | .abs, [.int i] => some (.int (if i < 0 then -i else i), false)
  | .int, [.int i] => some (.int i, false)
  | .int, [.bool b] => some (.int (if b then 1 else 0), false)
  | .rep, [d] => if okRep d then some (.str d.shown, false) else none
  | .str, [.int i] => if i.natAbs.log2 < 1920 then some (.str (toString i), false) else none
  | _, _ => none

/-! ### reading -/
def rdE (st : Sto) : ER → Option D
  | .dat d _ => some d
  | .loc n => st[n]?.map .list
  | .scr _ => none
def rdEs (st : Sto) : List ER → Option (List D)
  | [] => some []
  | r :: rs => match rdE st r, rdEs st rs with
    | some d, some ds => some (d :: ds)
    | _, _ => none
def svE : ER → SV
  | .dat d _ => .dat d
  | .loc n => .loc n
  | .scr ns => .scr ns
def erS : SV → ER
  | .dat d => .dat d false
  | .loc n => .loc n
  | .scr ns => .scr ns
def wipeE (env : Env) : List Nat → Env
  | [] => env
  | v :: vs => (wipeE env vs).set v none
mutual
def bindT : IT → D → Env → Option Env
  | .nm i, d, env => if i < env.length then some (env.set i (some (.dat d))) else none
  | .tp ts, .tuple ds, env => bindTs ts ds env
  | .tp _, _, _ => none
def bindTs : List IT → List D → Env → Option Env
  | [], [], env => some env
  | t :: ts, d :: ds, env => match bindT t d env with
    | some env' => bindTs ts ds env'
    | none => none
  | _, _, _ => none
end
mutual
def slT : IT → List Nat
  | .nm i => [i]
  | .tp ts => slTs ts
def slTs : List IT → List Nat
  | [] => []
  | t :: ts => slT t ++ slTs ts
end
/-- the lists that are walked stand as they stood -/
def keptL (st : Sto) : List (Nat × List D) → Bool
  | [] => true
  | (n, xs) :: r => (match st[n]? with | some ys => eqDs xs ys | none => false) && keptL st r
def compL (f : D → Sto → Option (List D × Sto)) : List D → Sto → Option (List D × Sto)
  | [], st => some ([], st)
  | d :: ds, st => match f d st with
    | some (xs, st1) => match compL f ds st1 with
      | some (ys, st2) => some (xs ++ ys, st2)
      | none => none
    | none => none
def forL (f : D → Env → Sto → Option Fl) : List D → Env → Sto → Option Fl
  | [], env, st => some (.nx env st)
  | d :: ds, env, st => match f d env st with
    | some (.nx e s) => forL f ds e s
    | some (.ct e s) => forL f ds e s
    | some (.bk e s) => some (.nx e s)
    | some (.rt r s) => some (.rt r s)
    | none => none
def whlL (c : Env → Sto → Option (Bool × Sto)) (f : Env → Sto → Option Fl) : Nat → Env → Sto → Option Fl
  | 0, _, _ => none
  | n + 1, env, st => match c env st with
    | some (true, st1) => match f env st1 with
      | some (.nx e s) => whlL c f n e s
      | some (.ct e s) => whlL c f n e s
      | some (.bk e s) => some (.nx e s)
      | some (.rt r s) => some (.rt r s)
      | none => none
    | some (false, st1) => some (.nx env st1)
    | none => none
def insK (rev : Bool) (x : D × Int) : List (D × Int) → List (D × Int)
  | [] => [x]
  | y :: r => if (if rev then y.2 ≤ x.2 else x.2 ≤ y.2) then x :: y :: r else y :: insK rev x r
def sortK (rev : Bool) : List (D × Int) → List (D × Int)
  | [] => []
  | x :: r => insK rev x (sortK rev r)
def rngD (lo hi : Int) : List D := (List.range (hi - lo).toNat).map fun (k : Nat) => .int (lo + (k : Int))
/-- the items that are walked, and the lists that must stand meanwhile -/
def srcE (st : Sto) : ER → Option (List D × List (Nat × List D))
  | .dat (.list xs) _ => some (xs, [])
  | .dat (.tuple xs) _ => some (xs, [])
  | .loc n => st[n]?.map fun xs => (xs, [(n, xs)])
  | _ => none
/-- a tuple? -/
def srcT : ER → Bool
  | .dat (.tuple _) _ => true
  | _ => false
def enmD : Nat → List D → List D
  | _, [] => []
  | k, x :: r => .tuple [.int (k : Int), x] :: enmD (k + 1) r
def zipD : List D → List D → List D
  | x :: xs, y :: ys => .tuple [x, y] :: zipD xs ys
  | _, _ => []

/-- what stands at these places -/
def pick {α : Type} (ix : List Nat) (xs : List α) : List α := ix.filterMap (xs[·]?)
/-- where it stands first -/
def findD (d : D) : Nat → List D → Option Nat
  | _, [] => none
  | k, z :: r => if PyData.eqv z d then some k else findD d (k + 1) r
/-- a test: what it comes to, as a truth -/
def tstE : Option (ER × Sto) → Option (Bool × Sto)
  | some (x, st1) => match rdE st1 x with
    | some d => match truD d with
      | some b => some (b, st1)
      | none => none
    | none => none
  | none => none
/-- sorted by a key -/
def sortE (F : D → Sto → Option (ER × Sto)) (rev : Bool) (xs : List D) (st : Sto) : Option (ER × Sto) :=
  match compL (fun d s => match F d s with
      | some (.dat (.int y) _, s1) => some ([.int y], s1)
      | _ => none) xs st with
  | some (ks, st2) => match intsD ks with
    | some is => if xs.length ≤ 1000 then some (.dat (.list ((sortK rev (xs.zip is)).map (·.1))) true, st2) else none
    | none => none
  | none => none
section
variable (G : Pk) (cl : Str → List SV → Sto → Option (ER × Sto))
mutual
def evE : IE → Env → Sto → Option (ER × Sto)
  | .int i, _, st => some (.dat (.int i) false, st)
  | .str x, _, st => some (.dat (.str x) false, st)
  | .bl b, _, st => some (.dat (.bool b) false, st)
  | .non, _, st => some (.dat .none false, st)
  | .slot i, env, st => match env[i]? with
    | some (some s) => some (erS s, st)
    | _ => none
  | .con x, _, st => match G.con x with
    | some d => some (.dat d false, st)
    | none => none
  | .tup es, env, st => match evDs es env st with
    | some (ds, st1) => if ds.length ≤ sizeLine then some (.dat (.tuple ds) false, st1) else none
    | none => none
  | .lst es, env, st => match evDs es env st with
    | some (ds, st1) => if ds.length ≤ sizeLine then some (.dat (.list ds) true, st1) else none
    | none => none
  | .bin o a b, env, st => match evE a env st with
    | some (x, st1) => match evE b env st1 with
      | some (y, st2) => match rdE st2 x, rdE st2 y with
        | some d, some e => match binD o d e with
          | some (r, fr) => some (.dat r fr, st2)
          | none => none
        | _, _ => none
      | none => none
    | none => none
  | .neg a, env, st => match evE a env st with
    | some (.dat (.int i) _, st1) => some (.dat (.int (-i)) false, st1)
    | _ => none
  | .no a, env, st => match tstE (evE a env st) with
    | some (b, st1) => some (.dat (.bool (!b)) false, st1)
    | none => none
  | .land a b, env, st => match evE a env st with
    | some (x, st1) => match rdE st1 x with
      | some d => match truD d with
        | some true => evE b env st1
        | some false => some (x, st1)
        | none => none
      | none => none
    | none => none
  | .lor a b, env, st => match evE a env st with
    | some (x, st1) => match rdE st1 x with
      | some d => match truD d with
        | some true => some (x, st1)
        | some false => evE b env st1
        | none => none
      | none => none
    | none => none
  | .cmp o a b, env, st => match evE a env st with
    | some (x, st1) => match evE b env st1 with
      | some (y, st2) => match rdE st2 x, rdE st2 y with
        | some d, some e => match cmpD o d e with
          | some r => some (.dat (.bool r) false, st2)
          | none => none
        | _, _ => none
      | none => none
    | none => none
  | .cmp2 o p a b c, env, st => match evE a env st with
    | some (x, st1) => match evE b env st1 with
      | some (y, st2) => match rdE st2 x, rdE st2 y with
        | some d, some e => match cmpD o d e with
          | some true => match evE c env st2 with
            | some (z, st3) => match rdE st3 y, rdE st3 z with
              | some e1, some f => match cmpD p e1 f with
                | some r => some (.dat (.bool r) false, st3)
                | none => none
              | _, _ => none
            | none => none
          | some false => some (.dat (.bool false) false, st2)
          | none => none
        | _, _ => none
      | none => none
    | none => none
  | .ite c a b, env, st => match tstE (evE c env st) with
    | some (true, st1) => evE a env st1
    | some (false, st1) => evE b env st1
    | none => none
  | .call f es, env, st => match evEs es env st with
    | some (rs, st1) => cl f (rs.map svE) st1
    | none => none
  | .blt f es, env, st => match evEs es env st with
    | some (rs, st1) => match rdEs st1 rs with
      | some ds => match bltD f ds with
        | some (r, fr) => some (.dat r fr, st1)
        | none => none
      | none => none
    | none => none
  | .isi a t, env, st => match evE a env st with
    | some (x, st1) => match rdE st1 x with
      | some d => match isD t d with
        | some b => some (.dat (.bool b) false, st1)
        | none => none
      | none => none
    | none => none
  | .idx a b, env, st => match evE a env st with
    | some (x, st1) => match evE b env st1 with
      | some (y, st2) => match rdE st2 x, rdE st2 y with
        | some d, some e => match idxD d e with
          | some r => some (.dat r false, st2)
          | none => none
        | _, _ => none
      | none => none
    | none => none
  | .cut a lo hi, env, st => match evE a env st with
    | some (x, st1) => match evO lo env st1 with
      | some (l, st2) => match evO hi env st2 with
        | some (h, st3) => match rdE st3 x with
          | some (.list xs) => some (.dat (.list (cutD xs l h)) true, st3)
          | some (.tuple xs) => some (.dat (.tuple (cutD xs l h)) false, st3)
          | _ => none
        | none => none
      | none => none
    | none => none
  | .rev a, env, st => match evE a env st with
    | some (x, st1) => match rdE st1 x with
      | some (.list xs) => some (.dat (.list xs.reverse) true, st1)
      | some (.tuple xs) => some (.dat (.tuple xs.reverse) false, st1)
      | _ => none
    | none => none
  | .look g a, env, st => match evE a env st with
    | some (.dat (.str k) _, st1) => match G.dic g with
      | some kvs => match kvs.lookup k with
        | some d => some (.dat d false, st1)
        | none => none
      | none => none
    | _ => none
  | .mth m a es, env, st => match evE a env st with
    | some (.dat (.dict ((.none, .str c) :: kvs)) _, st1) => match fldD m kvs, G.ms.lookup (c, m) with
      | none, some ps => if ps.length = es.length + 1 then match evEs es env st1 with
          | some (rs, st2) => cl (c ++ ("." : Str) ++ m) (.dat (.dict ((.none, .str c) :: kvs)) :: rs.map svE) st2
          | none => none
        else none
      | _, _ => none
    | _ => none
  | .fld a x, env, st => match evE a env st with
    | some (.dat (.dict ((.none, .str c) :: kvs)) _, st1) => if G.fl.contains (c, x) = true then match fldD x kvs with
        | some d => some (.dat d false, st1)
        | none => none
      else none
    | _ => none
  | .new c es, env, st => match evEs es env st with
    | some (rs, st1) => cl c (rs.map svE) st1
    | none => none
  | .indx3 a b c, env, st => match evE a env st with
    | some (x, st1) => match evE b env st1 with
      | some (y, st2) => match evE c env st2 with
        | some (.dat (.int k) _, st3) => match rdE st1 x, rdE st3 x, rdE st3 y with
          | some (.list _), some (.list ds), some d => if (okSh (.list ds) && okSh d) = true ∧ 0 ≤ k then
              match findD d k.toNat (ds.drop k.toNat) with
              | some j => some (.dat (.int ((j : Nat) : Int)) false, st3)
              | none => none
            else none
          | _, _, _ => none
        | _ => none
      | none => none
    | none => none
  | .callk f _ es ix, env, st => match evEs es env st with
    | some (rs, st1) => cl f ((pick ix rs).map svE) st1
    | none => none
  | .lc own t it cs e, env, st => match evI it env st with
    | some (xs, kp, st1) => match compL (fun d s => match bindT t d (wipeE env (own.map (·.2))) with
        | some env1 => match evCs cs env1 s with
          | some (true, s1) => match evE e env1 s1 with
            | some (.dat y _, s2) => if keptL s2 kp then some ([y], s2) else none
            | _ => none
          | some (false, s1) => if keptL s1 kp then some ([], s1) else none
          | none => none
        | none => none) xs st1 with
      | some (ys, st2) => if ys.length ≤ sizeLine then some (.dat (.list ys) true, st2) else none
      | none => none
    | none => none
  | .lc2 own vs t it cs t1 it1 cs1 e, env, st => match evI it env st with
    | some (xs, kp, st1) => match compL (fun d s => match bindT t d (wipeE env (own.map (·.2))) with
        | some env1 => match evCs cs env1 s with
          | some (true, s1) => match evI it1 env1 s1 with
            | some (zs, kp1, s2) => match compL (fun d1 s => match bindT t1 d1 (wipeE env1 vs) with
                | some env2 => match evCs cs1 env2 s with
                  | some (true, s3) => match evE e env2 s3 with
                    | some (.dat y _, s4) => if keptL s4 kp1 then some ([y], s4) else none
                    | _ => none
                  | some (false, s3) => if keptL s3 kp1 then some ([], s3) else none
                  | none => none
                | none => none) zs s2 with
              | some (ys, s5) => if keptL s5 kp then some (ys, s5) else none
              | none => none
            | none => none
          | some (false, s1) => if keptL s1 kp then some ([], s1) else none
          | none => none
        | none => none) xs st1 with
      | some (ys, st2) => if ys.length ≤ sizeLine then some (.dat (.list ys) true, st2) else none
      | none => none
    | none => none
  | .sortl a i k rev, env, st => match evE a env st with
    | some (x, st1) => match rdE st1 x with
      | some (.list xs) => sortE (fun d s => evE k (env.set i (some (.dat d))) s) rev xs st1
      | _ => none
    | none => none
  | .sortr a i k rev, env, st => match evE a env st with
    | some (.dat (.int n) _, st1) => if 0 ≤ n ∧ n ≤ 1000 then sortE (fun d s => evE k (env.set i (some (.dat d))) s) rev (rngD 0 n) st1 else none
    | _ => none
  | .indx a b, env, st => match evE a env st with
    | some (x, st1) => match evE b env st1 with
      | some (y, st2) => match rdE st1 x, rdE st2 x, rdE st2 y with
        | some (.list _), some (.list ds), some d => if okSh (.list ds) && okSh d then
            match findD d 0 ds with
            | some j => some (.dat (.int ((j : Nat) : Int)) false, st2)
            | none => none
          else none
        | _, _, _ => none
      | none => none
    | none => none
  | .card own vs t it cs t1 it1 cs1 e, env, st => match evI it env st with
    | some (xs, kp, st1) => match compL (fun d s => match bindT t d (wipeE env (own.map (·.2))) with
        | some env1 => match evCs cs env1 s with
          | some (true, s1) => match evI it1 env1 s1 with
            | some (zs, kp1, s2) => match compL (fun d1 s => match bindT t1 d1 (wipeE env1 vs) with
                | some env2 => match evCs cs1 env2 s with
                  | some (true, s3) => match evE e env2 s3 with
                    | some (.dat y _, s4) => if keptL s4 kp1 then some ([y], s4) else none
                    | _ => none
                  | some (false, s3) => if keptL s3 kp1 then some ([], s3) else none
                  | none => none
                | none => none) zs s2 with
              | some (ys, s5) => if keptL s5 kp then some (ys, s5) else none
              | none => none
            | none => none
          | some (false, s1) => if keptL s1 kp then some ([], s1) else none
          | none => none
        | none => none) xs st1 with
      | some (ys, st2) => match keysD ys with
        | some ks => if ks.length < 4000 then some (.dat (.int ((dedK [] ks).length : Nat)) false, st2) else none
        | none => none
      | none => none
    | none => none
  | .dc own t it cs k e, env, st => match evI it env st with
    | some (xs, kp, st1) => match compL (fun d s => match bindT t d (wipeE env (own.map (·.2))) with
        | some env1 => match evCs cs env1 s with
          | some (true, s1) => match evE k env1 s1 with
            | some (.dat (.int y) _, s2) => match evE e env1 s2 with
              | some (.dat (.int z) _, s3) => if keptL s3 kp then some ([.tuple [.int y, .int z]], s3) else none
              | _ => none
            | _ => none
          | some (false, s1) => if keptL s1 kp then some ([], s1) else none
          | none => none
        | none => none) xs st1 with
      | some (ys, st2) => match prsD ys with
        | some ps => if ps.length < 4000 then some (.dat (.dict ((putsP [] ps).map fun p => (.int p.1, p.2))) false, st2) else none
        | none => none
      | none => none
    | none => none
  | .srt a rev, env, st => match evE a env st with
    | some (x, st1) => match rdE st1 x with
      | some (.list xs) => if alkB xs && decide (xs.length ≤ 1000) then some (.dat (.list (srtD rev xs)) true, st1) else none
      | _ => none
    | none => none
  | .slen i, env, st => match env[i]? with
    | some (some (.scr ns)) => some (.dat (.int ns.length) false, st)
    | _ => none
  | .sidx i a, env, st => match env[i]? with
    | some (some (.scr ns)) => match evE a env st with
      | some (.dat (.int k) _, st1) => match L2.atI ns k with
        | some v => some (.dat (.int v) false, st1)
        | none => none
      | _ => none
    | _ => none
/-- data alone -/
def evDs : List IE → Env → Sto → Option (List D × Sto)
  | [], _, st => some ([], st)
  | e :: es, env, st => match evE e env st with
    | some (.dat d _, st1) => match evDs es env st1 with
      | some (ds, st2) => some (d :: ds, st2)
      | none => none
    | _ => none
def evEs : List IE → Env → Sto → Option (List ER × Sto)
  | [], _, st => some ([], st)
  | e :: es, env, st => match evE e env st with
    | some (r, st1) => match evEs es env st1 with
      | some (rs, st2) => some (r :: rs, st2)
      | none => none
    | none => none
def evCs : List IE → Env → Sto → Option (Bool × Sto)
  | [], _, st => some (true, st)
  | e :: es, env, st => match tstE (evE e env st) with
    | some (true, st1) => evCs es env st1
    | some (false, st1) => some (false, st1)
    | none => none
def evO : Option IE → Env → Sto → Option (Option Int × Sto)
  | none, _, st => some (none, st)
  | some e, env, st => match evE e env st with
    | some (.dat (.int i) _, st1) => some (some i, st1)
    | _ => none
def evI : II → Env → Sto → Option (List D × List (Nat × List D) × Sto)
  | .of e, env, st => match evE e env st with
    | some (x, st1) => match srcE st1 x with
      | some (xs, kp) => some (xs, kp, st1)
      | none => none
    | none => none
  | .rng es, env, st => match evDs es env st with
    | some ([.int n], st1) => if -(2 ^ 62) ≤ n ∧ n < 2 ^ 62 then some (rngD 0 n, [], st1) else none
    | some ([.int a, .int b], st1) => if -(2 ^ 62) ≤ a ∧ a < 2 ^ 62 ∧ -(2 ^ 62) ≤ b ∧ b < 2 ^ 62 then some (rngD a b, [], st1) else none
    | _ => none
  | .enm e, env, st => match evE e env st with
    | some (x, st1) => match srcE st1 x with
      | some (xs, kp) => some (enmD 0 xs, kp, st1)
      | none => none
    | none => none
  | .zip a b, env, st => match evE a env st with
    | some (x, st1) => match evE b env st1 with
      | some (y, st2) => match srcE st2 x, srcE st2 y with
        | some (xs, kp), some (ys, kq) => if srcT x == srcT y then some (zipD xs ys, kp ++ kq, st2) else none
        | _, _ => none
      | none => none
    | none => none
end
end
end Ev
set_option linter.all false
set_option maxRecDepth 100000
set_option maxHeartbeats 2000000
/-! Ev2: how data, slots and the store lie in the heap. -/
namespace Ev
open PySem PySem.Spec L2
variable {K : PySem.W.Frag} {T : List (Addr × Str)}

/-- the heap goes on: all that isn't at φ (and is no table) stands as it stood -/
structure Ext (φ : List Addr) (H H' : Hp) : Prop where
  keep : ∀ b o, H b = some o → b ∉ φ → (∀ ps, o ≠ .tbl ps) → H' b = some o
  dom : ∀ b, H' b = none → H b = none
/-- at φ stands nothing but lists -/
def Mo : HO → Prop
  | .lst _ => True
  | .ext _ => True
  | .dK _ => True
  | .ins _ _ _ => True
  | _ => False
def Lst (φ : List Addr) (H : Hp) : Prop := ∀ a ∈ φ, ∀ o, H a = some o → Mo o

/-- a key, as data -/
def kD : Key → D
  | .inl i => .int i
  | .inr x => .str x
mutual
/-- v is the tree d, and no list at φ is in it -/
inductive RD (K : PySem.W.Frag) (φ : List Addr) (H : Hp) : V → D → Prop
  | non : RD K φ H .non .none
  | bl (b : Bool) : RD K φ H (.bl b) (.bool b)
  | int (i : Int) : RD K φ H (.int i) (.int i)
  | str (x : Str) : RD K φ H (.str x) (.str x)
  | lst {a : Addr} {xs : List V} {ds : List D} : a ∉ φ → H a = some (.lst xs) → RDs K φ H xs ds → RD K φ H (.ref a) (.list ds)
  | tup {a : Addr} {xs : List V} {ds : List D} : SqT K H a xs → RDs K φ H xs ds → RD K φ H (.ref a) (.tuple ds)
  | dct {a : Addr} {kvs : List (Key × V)} {ds : List (D × D)} : a ∉ φ → H a = some (.dK kvs) → ds.map (·.1) = kvs.map (fun p => kD p.1) → RDs K φ H (kvs.map (·.2)) (ds.map (·.2)) → RD K φ H (.ref a) (.dict ds)
  | obj {a C dx : Addr} {c : Str} {fs : List (Str × V)} {ds : List (D × D)} : a ∉ φ → H a = some (.ins C dx fs) → PySem.W.nsIn K mainGlobals c = some (some (.ref C)) → ds.map (·.1) = fs.map (fun p => PyData.str p.1) → RDs K φ H (fs.map (·.2)) (ds.map (·.2)) → RD K φ H (.ref a) (.dict ((.none, .str c) :: ds))
inductive RDs (K : PySem.W.Frag) (φ : List Addr) (H : Hp) : List V → List D → Prop
  | nil : RDs K φ H [] []
  | cons {v : V} {vs : List V} {d : D} {ds : List D} : RD K φ H v d → RDs K φ H vs ds → RDs K φ H (v :: vs) (d :: ds)
end
theorem Ext.refl (φ : List Addr) (H : Hp) : Ext φ H H := ⟨fun _ _ h _ _ => h, fun _ h => h⟩
theorem Ext.trans {φ : List Addr} {H H1 H2 : Hp} (a : Ext φ H H1) (b : Ext φ H1 H2) : Ext φ H H2 :=
  ⟨fun c o h n t => b.keep c o (a.keep c o h n t) n t, fun c h => a.dom c (b.dom c h)⟩
theorem Ext.more {φ ψ : List Addr} {H H1 : Hp} (a : Ext φ H H1) (h : ∀ x ∈ φ, x ∈ ψ) : Ext ψ H H1 :=
  ⟨fun c o e n t => a.keep c o e (fun z => n (h c z)) t, a.dom⟩
theorem Ext.new {φ : List Addr} {H : Hp} {p : Addr} {o : HO} (h : H p = none) : Ext φ H (upd H p o) := by
  refine ⟨fun b u e _ _ => ?_, fun b e => ?_⟩
  · rw [upd_ne (ne_of_none e h)]; exact e
  · by_cases z : b = p
    · rw [z, upd_same] at e; cases e
    · rw [upd_ne z] at e; exact e
theorem Ext.at {φ : List Addr} {H : Hp} {p : Addr} {o : HO} (h : p ∈ φ) : Ext φ H (upd H p o) := by
  refine ⟨fun b u e n _ => ?_, fun b e => ?_⟩
  · rw [upd_ne (fun z => n (by rw [z]; exact h))]; exact e
  · by_cases z : b = p
    · rw [z, upd_same] at e; cases e
    · rw [upd_ne z] at e; exact e
theorem SqT.ext {φ : List Addr} {H H' : Hp} {a : Addr} {xs : List V} (x : Ext φ H H') (f : Lst φ H) (h : SqT K H a xs) : SqT K H' a xs := by
  rcases h with (h | ⟨o, h⟩) | h
  · refine .inl (.inl (x.keep _ _ h (fun z => ?_) (fun ps z => by cases z)))
    exact f _ z _ h
  · refine .inl (.inr ⟨o, x.keep _ _ h (fun z => ?_) (fun ps z => by cases z)⟩)
    exact f _ z _ h
  · exact .inr h
mutual
theorem RD.ext {φ : List Addr} {H H' : Hp} (x : Ext φ H H') (f : Lst φ H) : ∀ {v : V} {d : D}, RD K φ H v d → RD K φ H' v d
  | _, _, .non => .non
  | _, _, .bl b => .bl b
  | _, _, .int i => .int i
  | _, _, .str s => .str s
  | _, _, .lst n h r => .lst n (x.keep _ _ h n (fun ps z => by cases z)) (RDs.ext x f r)
  | _, _, .tup h r => .tup (SqT.ext x f h) (RDs.ext x f r)
  | _, _, .dct n h l r => .dct n (x.keep _ _ h n (fun ps z => by cases z)) l (RDs.ext x f r)
  | _, _, .obj n h c l r => .obj n (x.keep _ _ h n (fun ps z => by cases z)) c l (RDs.ext x f r)
theorem RDs.ext {φ : List Addr} {H H' : Hp} (x : Ext φ H H') (f : Lst φ H) : ∀ {vs : List V} {ds : List D}, RDs K φ H vs ds → RDs K φ H' vs ds
  | _, _, .nil => .nil
  | _, _, .cons a b => .cons (RD.ext x f a) (RDs.ext x f b)
end
mutual
theorem RD.weak {φ ψ : List Addr} {H : Hp} (h : ∀ a ∈ ψ, a ∈ φ) : ∀ {v : V} {d : D}, RD K φ H v d → RD K ψ H v d
  | _, _, .non => .non
  | _, _, .bl b => .bl b
  | _, _, .int i => .int i
  | _, _, .str s => .str s
  | _, _, .lst n e r => .lst (fun z => n (h _ z)) e (RDs.weak h r)
  | _, _, .tup e r => .tup e (RDs.weak h r)
  | _, _, .dct n e l r => .dct (fun z => n (h _ z)) e l (RDs.weak h r)
  | _, _, .obj n e c l r => .obj (fun z => n (h _ z)) e c l (RDs.weak h r)
theorem RDs.weak {φ ψ : List Addr} {H : Hp} (h : ∀ a ∈ ψ, a ∈ φ) : ∀ {vs : List V} {ds : List D}, RDs K φ H vs ds → RDs K ψ H vs ds
  | _, _, .nil => .nil
  | _, _, .cons a b => .cons (RD.weak h a) (RDs.weak h b)
end
mutual
/-- what was there leans on nothing that comes -/
theorem RD.fresh {φ : List Addr} {H : Hp} {p : Addr} (h : H p = none) : ∀ {v : V} {d : D}, RD K φ H v d → RD K (φ ++ [p]) H v d
  | _, _, .non => .non
  | _, _, .bl b => .bl b
  | _, _, .int i => .int i
  | _, _, .str s => .str s
  | _, _, .lst n e r => .lst (fun z => by
      rcases List.mem_append.mp z with z | z
      · exact n z
      · rw [List.mem_singleton.mp z, h] at e; cases e) e (RDs.fresh h r)
  | _, _, .tup e r => .tup e (RDs.fresh h r)
  | _, _, .dct n e l r => .dct (fun z => by
      rcases List.mem_append.mp z with z | z
      · exact n z
      · rw [List.mem_singleton.mp z, h] at e; cases e) e l (RDs.fresh h r)
  | _, _, .obj n e c l r => .obj (fun z => by
      rcases List.mem_append.mp z with z | z
      · exact n z
      · rw [List.mem_singleton.mp z, h] at e; cases e) e c l (RDs.fresh h r)
theorem RDs.fresh {φ : List Addr} {H : Hp} {p : Addr} (h : H p = none) : ∀ {vs : List V} {ds : List D}, RDs K φ H vs ds → RDs K (φ ++ [p]) H vs ds
  | _, _, .nil => .nil
  | _, _, .cons a b => .cons (RD.fresh h a) (RDs.fresh h b)
end
mutual
theorem RD.dp {φ : List Addr} {H : Hp} : ∀ {v : V} {d : D}, d.canLay0 = true → RD K φ H v d → Dp K H v d
  | _, _, _, .non => .non
  | _, _, _, .bl b => .bl b
  | _, _, _, .int i => .int i
  | _, _, _, .str s => .str s
  | _, _, c, .lst n e r => .lst (.inl (.inl e)) (RDs.dp (by simpa [PyData.canLay0] using c) r)
  | _, _, c, .tup e r => .tup e (RDs.dp (by simpa [PyData.canLay0] using c) r)
  | _, _, c, .dct _ e _ _ => by simp [PyData.canLay0] at c
  | _, _, c, .obj _ e _ _ _ => by simp [PyData.canLay0] at c
theorem RDs.dp {φ : List Addr} {H : Hp} : ∀ {vs : List V} {ds : List D}, PyData.canLayAll0 ds = true → RDs K φ H vs ds → DpAll K H vs ds
  | _, _, _, .nil => .nil
  | _, _, c, .cons a b => by
    simp only [PyData.canLayAll0, Bool.and_eq_true] at c
    exact .cons (RD.dp c.1 a) (RDs.dp c.2 b)
end
theorem RDs.length {φ : List Addr} {H : Hp} : ∀ {vs : List V} {ds : List D}, RDs K φ H vs ds → vs.length = ds.length
  | _, _, .nil => rfl
  | _, _, .cons _ b => congrArg (· + 1) (RDs.length b)
theorem RDs.get {φ : List Addr} {H : Hp} : ∀ {vs : List V} {ds : List D} {i : Nat} {d : D}, RDs K φ H vs ds → ds[i]? = some d → ∃ v, vs[i]? = some v ∧ RD K φ H v d
  | _, _, _, _, .nil, e => by simp at e
  | _, _, 0, _, .cons a _, e => ⟨_, rfl, by simp at e; subst e; exact a⟩
  | _, _, i + 1, d, .cons _ b, e => by
    obtain ⟨v, h1, h2⟩ := RDs.get (i := i) b (by simpa using e)
    exact ⟨v, by simpa using h1, h2⟩
theorem RDs.getV {φ : List Addr} {H : Hp} : ∀ {vs : List V} {ds : List D} {i : Nat} {v : V}, RDs K φ H vs ds → vs[i]? = some v → ∃ d, ds[i]? = some d ∧ RD K φ H v d
  | _, _, _, _, .nil, e => by simp at e
  | _, _, 0, _, .cons a _, e => ⟨_, rfl, by simp at e; subst e; exact a⟩
  | _, _, i + 1, d, .cons _ b, e => by
    obtain ⟨v, h1, h2⟩ := RDs.getV (i := i) b (by simpa using e)
    exact ⟨v, by simpa using h1, h2⟩
theorem RDs.append {φ : List Addr} {H : Hp} : ∀ {vs ws : List V} {ds es : List D}, RDs K φ H vs ds → RDs K φ H ws es → RDs K φ H (vs ++ ws) (ds ++ es)
  | _, _, _, _, .nil, s => s
  | _, _, _, _, .cons a b, s => .cons a (RDs.append b s)
theorem RDs.take {φ : List Addr} {H : Hp} : ∀ {vs : List V} {ds : List D} (n : Nat), RDs K φ H vs ds → RDs K φ H (vs.take n) (ds.take n)
  | _, _, 0, _ => .nil
  | _, _, _ + 1, .nil => .nil
  | _, _, n + 1, .cons a b => .cons a (RDs.take n b)
theorem RDs.drop {φ : List Addr} {H : Hp} : ∀ {vs : List V} {ds : List D} (n : Nat), RDs K φ H vs ds → RDs K φ H (vs.drop n) (ds.drop n)
  | _, _, 0, r => r
  | _, _, _ + 1, .nil => .nil
  | _, _, n + 1, .cons _ b => RDs.drop n b
theorem RDs.reverse {φ : List Addr} {H : Hp} : ∀ {vs : List V} {ds : List D}, RDs K φ H vs ds → RDs K φ H vs.reverse ds.reverse
  | _, _, .nil => .nil
  | _, _, .cons a b => by
    rw [List.reverse_cons, List.reverse_cons]
    exact (RDs.reverse b).append (.cons a .nil)
theorem RDs.rep {φ : List Addr} {H : Hp} {vs : List V} {ds : List D} (h : RDs K φ H vs ds) : ∀ k : Nat, RDs K φ H (List.replicate k vs).flatten (List.replicate k ds).flatten
  | 0 => .nil
  | k + 1 => by
    rw [List.replicate_succ, List.flatten_cons, List.replicate_succ, List.flatten_cons]
    exact h.append (RDs.rep h k)
theorem RDs.set {φ : List Addr} {H : Hp} {v : V} {d : D} (r : RD K φ H v d) : ∀ {vs : List V} {ds : List D} (i : Nat), RDs K φ H vs ds → RDs K φ H (vs.set i v) (ds.set i d)
  | _, _, _, .nil => .nil
  | _, _, 0, .cons _ b => .cons r b
  | _, _, i + 1, .cons a b => .cons a (RDs.set r i b)

/-! ### the store and the slots -/
/-- the tables of code objects; no other table is tracked -/
def TbA (T : List (Addr × Str)) (H : Hp) : Prop := LamX.Tabs T H ∧ ∀ a ps, H a = some (.tbl ps) → a ∈ T.map (·.1)
structure Ws (K : PySem.W.Frag) (T : List (Addr × Str)) (φ ρ : List Addr) (H : Hp) (st : Sto) : Prop where
  len : ρ.length = st.length
  sto : ∀ (n : Nat) (ds : List D), st[n]? = some ds → ∃ a xs, ρ[n]? = some a ∧ H a = some (.lst xs) ∧ RDs K φ H xs ds
  nd : ρ.Nodup
  sub : ∀ a ∈ ρ, a ∈ φ
  fx : ∀ a ∈ φ, ∃ o, H a = some o ∧ Mo o
  tab : TbA T H
theorem Ws.fl {φ ρ : List Addr} {H : Hp} {st : Sto} (w : Ws K T φ ρ H st) : Lst φ H := fun a ha o e => by
  obtain ⟨u, h, m⟩ := w.fx a ha
  rw [h] at e; cases e
  exact m
theorem Ws.rho {φ ρ : List Addr} {H : Hp} {st : Sto} (w : Ws K T φ ρ H st) : ∀ a ∈ ρ, ∃ xs, H a = some (.lst xs) := fun a ha => by
  obtain ⟨n, hn⟩ := List.getElem?_of_mem ha
  have hl : n < st.length := by rw [← w.len]; exact (List.getElem?_eq_some_iff.mp hn).1
  obtain ⟨b, xs, h1, h2, _⟩ := w.sto n _ (List.getElem?_eq_getElem hl)
  rw [hn] at h1; cases h1
  exact ⟨xs, h2⟩
def ScR (K : PySem.W.Frag) (H : Hp) (a : Addr) (ns : List Int) : Prop :=
  (∃ o, H a = some (.frz o (.lst (ns.map V.int)))) ∨
    ∃ (o : Obj) (its : Array Value) (n : Nat), K.lookup a = some o ∧ o.cls = .type "list" ∧ o.dict = none ∧ o.data = .seq its n ∧ its.size ≤ sizeLine ∧ Vals (ns.map V.int) its.toList
theorem ScR.sq {H : Hp} {a : Addr} {ns : List Int} (h : ScR K H a ns) : SqL K H a (ns.map V.int) := h.elim (fun ⟨o, e⟩ => .inl (.inr ⟨o, e⟩)) .inr
theorem ScR.of {H : Hp} {a : Addr} {ns : List Int} (h : SqL K H a (ns.map V.int)) (n : H a ≠ some (.lst (ns.map V.int))) : ScR K H a ns := by
  rcases h with (h | h) | h
  · exact absurd h n
  · exact .inl h
  · exact .inr h
def RS (K : PySem.W.Frag) (φ ρ : List Addr) (H : Hp) : SV → V → Prop
  | .dat d, v => RD K φ H v d
  | .loc n, v => ∃ a, ρ[n]? = some a ∧ v = .ref a
  | .scr ns, v => ∃ a, v = .ref a ∧ ScR K H a ns
abbrev RR (K : PySem.W.Frag) (φ ρ : List Addr) (H : Hp) (r : ER) (v : V) : Prop := RS K φ ρ H (svE r) v
structure Sl (K : PySem.W.Frag) (φ ρ : List Addr) (H : Hp) (env : Env) (σ : St) : Prop where
  len : env.length = σ.length
  get : ∀ (i : Nat) (s : SV), env[i]? = some (some s) → ∃ v, σ[i]? = some (some v) ∧ RS K φ ρ H s v
theorem RS.ext {φ ρ : List Addr} {H H' : Hp} (x : Ext φ H H') (f : Lst φ H) {s : SV} {v : V} (h : RS K φ ρ H s v) : RS K φ ρ H' s v := by
  cases s with
  | dat d => exact RD.ext x f h
  | loc n => exact h
  | scr ns =>
    obtain ⟨a, e, h⟩ := h
    refine ⟨a, e, ?_⟩
    rcases h with ⟨o, h⟩ | h
    · refine .inl ⟨o, x.keep _ _ h (fun z => ?_) (fun ps z => by cases z)⟩
      exact f _ z _ h
    · exact .inr h
theorem RS.fresh {φ ρ : List Addr} {H : Hp} {p : Addr} (h : H p = none) {s : SV} {v : V} (r : RS K φ ρ H s v) : RS K (φ ++ [p]) ρ H s v := by
  cases s with
  | dat d => exact RD.fresh h r
  | loc n => exact r
  | scr ns => exact r
theorem RS.weak {φ ψ ρ : List Addr} {H : Hp} (h : ∀ a ∈ ψ, a ∈ φ) {s : SV} {v : V} (r : RS K φ ρ H s v) : RS K ψ ρ H s v := by
  cases s with
  | dat d => exact RD.weak h r
  | loc n => exact r
  | scr ns => exact r
theorem Sl.ext {φ ρ : List Addr} {H H' : Hp} {env : Env} {σ : St} (x : Ext φ H H') (f : Lst φ H) (h : Sl K φ ρ H env σ) : Sl K φ ρ H' env σ :=
  ⟨h.len, fun i s e => let ⟨v, a, b⟩ := h.get i s e; ⟨v, a, b.ext x f⟩⟩
theorem Sl.fresh {φ ρ : List Addr} {H : Hp} {p : Addr} {env : Env} {σ : St} (n : H p = none) (h : Sl K φ ρ H env σ) : Sl K (φ ++ [p]) ρ H env σ :=
  ⟨h.len, fun i s e => let ⟨v, a, b⟩ := h.get i s e; ⟨v, a, b.fresh n⟩⟩
theorem Sl.weak {φ ψ ρ : List Addr} {H : Hp} {env : Env} {σ : St} (w : ∀ a ∈ ψ, a ∈ φ) (h : Sl K φ ρ H env σ) : Sl K ψ ρ H env σ :=
  ⟨h.len, fun i s e => let ⟨v, a, b⟩ := h.get i s e; ⟨v, a, b.weak w⟩⟩
theorem Sl.set {φ ρ : List Addr} {H : Hp} {env : Env} {σ : St} {i : Nat} {s : SV} {v : V} (h : Sl K φ ρ H env σ) (r : RS K φ ρ H s v) : Sl K φ ρ H (env.set i (some s)) (σ.set i (some v)) := by
  refine ⟨by simp [h.len], fun j t e => ?_⟩
  by_cases z : j = i
  · subst z
    by_cases l : j < env.length
    · rw [List.getElem?_set_self l] at e
      cases e
      exact ⟨v, List.getElem?_set_self (by rw [← h.len]; exact l), r⟩
    · rw [List.getElem?_eq_none (by simpa using l)] at e; cases e
  · rw [List.getElem?_set_ne (Ne.symm z)] at e
    obtain ⟨w, a, b⟩ := h.get j t e
    exact ⟨w, by rw [List.getElem?_set_ne (Ne.symm z)]; exact a, b⟩
theorem Sl.wipe {φ ρ : List Addr} {H : Hp} {env : Env} {σ : St} (h : Sl K φ ρ H env σ) : ∀ vs : List Nat, Sl K φ ρ H (wipeE env vs) (L2.wipe σ vs)
  | [] => h
  | k :: vs => by
    have q := Sl.wipe h vs
    refine ⟨?_, fun j t e => ?_⟩
    · show ((wipeE env vs).set k none).length = ((L2.wipe σ vs).set k none).length
      rw [List.length_set, List.length_set]; exact q.len
    · have e : ((wipeE env vs).set k none)[j]? = some (some t) := e
      show ∃ v, ((L2.wipe σ vs).set k none)[j]? = some (some v) ∧ _
      by_cases z : j = k
      · subst z
        by_cases l : j < (wipeE env vs).length
        · rw [List.getElem?_set_self l] at e; cases e
        · rw [List.getElem?_eq_none (by simpa using l)] at e; cases e
      · rw [List.getElem?_set_ne (Ne.symm z)] at e
        obtain ⟨w, a, b⟩ := q.get j t e
        exact ⟨w, by rw [List.getElem?_set_ne (Ne.symm z)]; exact a, b⟩
theorem Tabs_ext {φ : List Addr} {H : Hp} (t : TbA T H) {p : Addr} {o : HO} (h : H p = none ∨ ∃ xs, H p = some (.lst xs)) (ho : ∀ ps, o ≠ .tbl ps := by intro _ z; cases z) : TbA T (upd H p o) := by
  have k : ∀ b u, H b = some u → (∀ xs, u ≠ .lst xs) → upd H p o b = some u := fun b u e n => by
    refine (upd_ne fun z => ?_).trans e
    subst z
    rcases h with h | ⟨xs, h⟩
    · rw [h] at e; cases e
    · rw [h] at e; cases e; exact n xs rfl
  refine ⟨fun q hq => ?_, fun a ps e => ?_⟩
  rotate_left
  · by_cases z : a = p
    · subst z
      rw [upd_same] at e
      exact absurd (Option.some.inj e) (ho ps)
    · rw [upd_ne z] at e
      exact t.2 a ps e
  obtain ⟨ps, h1, h2, h3⟩ := t.1 q hq
  refine ⟨ps, k _ _ h1 (fun xs z => by cases z), h2, fun pos cv hc => ?_⟩
  obtain ⟨c, e1, e2⟩ := h3 pos cv hc
  exact ⟨c, e1, k _ _ e2 (fun xs z => by unfold LamX.CodeO at z; cases z)⟩
/-- a new object comes -/
theorem Ws.new {φ ρ : List Addr} {H : Hp} {st : Sto} {p : Addr} {o : HO} (w : Ws K T φ ρ H st) (h : H p = none) (ho : ∀ ps, o ≠ .tbl ps := by intro _ z; cases z) : Ws K T φ ρ (upd H p o) st := by
  have x : Ext φ H (upd H p o) := .new h
  refine ⟨w.len, fun n ds e => ?_, w.nd, w.sub, fun a ha => ?_, Tabs_ext (φ := φ) w.tab (.inl h) ho⟩
  · obtain ⟨a, xs, h1, h2, h3⟩ := w.sto n ds e
    exact ⟨a, xs, h1, (upd_ne (ne_of_none h2 h)).trans h2, h3.ext x w.fl⟩
  · obtain ⟨u, e, m⟩ := w.fx a ha
    exact ⟨u, (upd_ne (ne_of_none e h)).trans e, m⟩
theorem Ws.fresh {φ ρ : List Addr} {H : Hp} {st : Sto} {p : Addr} {xs : List V} (w : Ws K T φ ρ H st) (h : H p = none) : Ws K T (φ ++ [p]) ρ (upd H p (.lst xs)) st := by
  have x : Ext φ H (upd H p (.lst xs)) := .new h
  have q := w.new (o := .lst xs) h
  refine ⟨q.len, fun n ds e => ?_, q.nd, fun a ha => List.mem_append_left _ (q.sub a ha), fun a ha => ?_, q.tab⟩
  · obtain ⟨a, ys, h1, h2, h3⟩ := w.sto n ds e
    refine ⟨a, ys, h1, (upd_ne (ne_of_none h2 h)).trans h2, ?_⟩
    have y : Ext (φ ++ [p]) H (upd H p (.lst xs)) := .new h
    have r := RDs.fresh h h3
    clear h3
    have key : ∀ {vs : List V} {ds : List D}, RDs K (φ ++ [p]) H vs ds → RDs K (φ ++ [p]) (upd H p (.lst xs)) vs ds := fun {vs ds} r => by
      refine RDs.rec (motive_1 := fun v d _ => RD K (φ ++ [p]) (upd H p (.lst xs)) v d) (motive_2 := fun v d _ => RDs K (φ ++ [p]) (upd H p (.lst xs)) v d) .non .bl .int .str (fun n e _ i => ?_) (fun e _ i => ?_) (fun n e l _ i => .dct n ((upd_ne (ne_of_none e h)).trans e) l i) (fun n e c l _ i => .obj n ((upd_ne (ne_of_none e h)).trans e) c l i) .nil (fun _ _ i j => .cons i j) r
      · exact .lst n ((upd_ne fun z => n (by rw [z]; simp)).trans e) i
      · refine .tup ?_ i
        exact SqT.ext x w.fl e
    exact key r
  · rcases List.mem_append.mp ha with ha | ha
    · exact q.fx a ha
    · rw [List.mem_singleton.mp ha]; exact ⟨_, upd_same, True.intro⟩
end Ev
set_option linter.all false
set_option maxRecDepth 100000
set_option maxHeartbeats 4000000
/-! Ev3: operators, subscripts, slices, built-in functions by values. -/
namespace Ev
open PySem PySem.Spec L2
variable {K : PySem.W.Frag} {T : List (Addr × Str)} {X : Cx}

structure Post (K : PySem.W.Frag) (T : List (Addr × Str)) (φ ρ : List Addr) (H H' : Hp) (env : Env) (σ : L2.St) (st' : Sto) (r : ER) (v : V) : Prop where
  ws : Ws K T φ ρ H' st'
  sl : Sl K φ ρ H' env σ
  ext : Ext ρ H H'
  rr : RR K φ ρ H' r v
  fr : ∀ d, r = .dat d true → ∃ p xs ds, d = .list ds ∧ v = .ref p ∧ H p = none ∧ H' p = some (.lst xs) ∧ RDs K (φ ++ [p]) H' xs ds ∧ Ws K T (φ ++ [p]) ρ H' st' ∧ Sl K (φ ++ [p]) ρ H' env σ
/-- what an expression is read as -/
def tF (K : PySem.W.Frag) (T : List (Addr × Str)) (F : Env → Sto → Option (ER × Sto)) : TE := fun σ H Q =>
  ∃ φ ρ env st r st', Ws K T φ ρ H st ∧ Sl K φ ρ H env σ ∧ F env st = some (r, st') ∧ ∀ v H', Post K T φ ρ H H' env σ st' r v → Q v H'

section
variable {φ ρ : List Addr} {H H1 H2 H' : Hp} {env : Env} {σ : L2.St} {st st1 st' : Sto} {r : ER} {v : V} {d : D}
theorem Post.at (ws : Ws K T φ ρ H st) (sl : Sl K φ ρ H env σ) (rr : RR K φ ρ H r v) (n : ∀ d, r ≠ .dat d true) : Post K T φ ρ H H env σ st r v :=
  ⟨ws, sl, .refl _ _, rr, fun d e => absurd e (n d)⟩
/-- put ahead of it what went before -/
theorem Post.pre (x : Ext ρ H H1) (p : Post K T φ ρ H1 H' env σ st' r v) : Post K T φ ρ H H' env σ st' r v :=
  ⟨p.ws, p.sl, x.trans p.ext, p.rr, fun d e => let ⟨q, xs, ds, h1, h2, h3, h4⟩ := p.fr d e; ⟨q, xs, ds, h1, h2, x.dom _ h3, h4⟩⟩
theorem Post.lst {p : Addr} {xs : List V} {ds : List D} (ws : Ws K T φ ρ H st) (sl : Sl K φ ρ H env σ) (h : H p = none) (rs : RDs K φ H xs ds) :
    Post K T φ ρ H (upd H p (.lst xs)) env σ st (.dat (.list ds) true) (.ref p) := by
  have x : Ext φ H (upd H p (.lst xs)) := .new h
  have y : Ext (φ ++ [p]) H (upd H p (.lst xs)) := .new h
  have np : p ∉ φ := fun z => by obtain ⟨ys, e, _⟩ := ws.fx p z; rw [h] at e; cases e
  have w2 : Ws K T (φ ++ [p]) ρ (upd H p (.lst xs)) st := ws.fresh h
  have lift : ∀ {v : V} {d : D}, RD K φ H v d → RD K (φ ++ [p]) (upd H p (.lst xs)) v d := fun {v d} r => by
    have r := RD.fresh h r
    refine RD.rec (motive_1 := fun v d _ => RD K (φ ++ [p]) (upd H p (.lst xs)) v d) (motive_2 := fun v d _ => RDs K (φ ++ [p]) (upd H p (.lst xs)) v d) .non .bl .int .str (fun n e _ i => ?_) (fun e _ i => ?_) (fun n e l _ i => .dct n ((upd_ne (ne_of_none e h)).trans e) l i) (fun n e c l _ i => .obj n ((upd_ne (ne_of_none e h)).trans e) c l i) .nil (fun _ _ i j => .cons i j) r
    · exact .lst n ((upd_ne fun z => n (by rw [z]; simp)).trans e) i
    · exact .tup (SqT.ext x ws.fl e) i
  have lifts : ∀ {v : List V} {d : List D}, RDs K φ H v d → RDs K (φ ++ [p]) (upd H p (.lst xs)) v d := fun {v d} r => by
    induction d generalizing v with
    | nil => cases r; exact .nil
    | cons d ds ih =>
      cases r with
      | cons a b => exact .cons (lift a) (ih b)
  have rs2 := lifts rs
  refine ⟨ws.new h, sl.ext x ws.fl, .new h, .lst np upd_same (rs2.weak fun a ha => List.mem_append_left _ ha), fun d e => ?_⟩
  cases e
  refine ⟨p, xs, ds, rfl, rfl, h, upd_same, rs2, w2, sl.len, fun i s e => ?_⟩
  obtain ⟨u, h1, h2⟩ := sl.get i s e
  refine ⟨u, h1, ?_⟩
  cases s with
  | dat d => exact lift h2
  | loc n => exact h2
  | scr ns =>
    obtain ⟨a, e, h2⟩ := h2
    refine ⟨a, e, ?_⟩
    rcases h2 with ⟨o, h2⟩ | h2
    · exact .inl ⟨o, (upd_ne (ne_of_none h2 h)).trans h2⟩
    · exact .inr h2
theorem Post.tup {p : Addr} {xs : List V} {ds : List D} (ws : Ws K T φ ρ H st) (sl : Sl K φ ρ H env σ) (h : H p = none) (rs : RDs K φ H xs ds) :
    Post K T φ ρ H (upd H p (.tup xs)) env σ st (.dat (.tuple ds) false) (.ref p) := by
  have x : Ext φ H (upd H p (.tup xs)) := .new h
  exact ⟨ws.new h, sl.ext x ws.fl, .new h, .tup (.inl (.inl upd_same)) (rs.ext x ws.fl), fun d e => by cases e⟩
/-- v as it is read: a list may be one that is changed -/
def RV (K : PySem.W.Frag) (φ : List Addr) (H : Hp) (v : V) : D → Prop
  | .list ds => ∃ a xs, v = .ref a ∧ H a = some (.lst xs) ∧ RDs K φ H xs ds
  | d => RD K φ H v d
theorem RV.of (h : RD K φ H v d) : RV K φ H v d := by
  cases h with
  | lst n e r => exact ⟨_, _, rfl, e, r⟩
  | tup e r => exact .tup e r
  | dct n e l r => exact .dct n e l r
  | obj n e c l r => exact .obj n e c l r
  | non => exact .non
  | bl b => exact .bl b
  | int i => exact .int i
  | str x => exact .str x
theorem RV.dp (c : okSh d = true) (h : RV K φ H v d) : Dp K H v d := by
  have c : d.canLay0 = true := SeqAt.canLay_of_shaped c
  cases d with
  | list ds =>
    obtain ⟨a, xs, rfl, e, r⟩ := h
    exact .lst (.inl (.inl e)) (r.dp (by simpa [PyData.canLay0] using c))
  | none => exact RD.dp c h
  | bool b => exact RD.dp c h
  | int i => exact RD.dp c h
  | str x => exact RD.dp c h
  | tuple xs => exact RD.dp c h
  | dict k => exact RD.dp c h
theorem rd_view (ws : Ws K T φ ρ H st) (rr : RR K φ ρ H r v) (e : rdE st r = some d) : RV K φ H v d := by
  cases r with
  | dat d' fr =>
    cases e
    exact .of rr
  | loc n =>
    obtain ⟨a, h1, rfl⟩ := rr
    obtain ⟨ds, h2, rfl⟩ := Option.map_eq_some_iff.mp e
    obtain ⟨a', xs, h3, h4, h5⟩ := ws.sto n ds h2
    rw [h1] at h3; cases h3
    exact ⟨a, xs, rfl, h4, h5⟩
  | scr ns => cases e
end

/-! ### arithmetic -/
def CDivM (_ j : Int) : Prop := j ≠ 0 ∧ j.natAbs.log2 < 9000
theorem op_fdivM {X : Cx} : OpR X (binaryOp .FloorDiv) (rI CDivM fun i j => .int (i.fdiv j)) := opI fun _ _ _ _ _ _ _ hc q => PyProof.Rows.floordiv_int hc.1 q (.inl (PyProof.noPylong_of_log2 hc.2))
def rBin (K : PySem.W.Frag) : Operator → R2
  | .Add => fun x y H Q => rI0 (fun i j => .int (i + j)) x y H Q ∨ rCat x y H Q ∨ rCatA K x y H Q ∨ (∃ i j, x = .str i ∧ y = .str j ∧ i.length + j.length ≤ sizeLine ∧ Q (.str (i ++ j)) H)
  | .Sub => rI0 fun i j => .int (i - j)
  | .Mult => fun x y H Q => rI CMul (fun i j => .int (i * j)) x y H Q ∨ rRep x y H Q ∨ rRepT K x y H Q
  | .FloorDiv => fun x y H Q => rI CDivW (fun i j => .int (i / j)) x y H Q ∨ rI CDivM (fun i j => .int (i.fdiv j)) x y H Q
  | .Mod => rI (fun _ j => 0 < j) fun i j => .int (i % j)
  | .Pow => rI CPow fun i j => .int (i ^ j.toNat)
  | .LShift => rI CPow fun i j => .int (i * 2 ^ j.toNat)
  | _ => fun _ _ _ _ => False
theorem lt_fdivN {j : Int} (h : j < 0) (h2 : -(2 ^ 100) < j) : j.natAbs.log2 < 9000 := by
  have h3 : j.natAbs < 2 ^ 100 := by
    have h4 : ((j.natAbs : Nat) : Int) < ((2 ^ 100 : Nat) : Int) := by
      have : ((2 ^ 100 : Nat) : Int) = 2 ^ 100 := by norm_cast
      omega
    exact_mod_cast h4
  exact Nat.lt_of_lt_of_le ((Nat.log2_lt (by omega)).mpr h3) (by decide)
theorem lt_fdiv {j : Int} (h : 0 < j) (h2 : j < 2 ^ 100) : j.natAbs.log2 < 9000 := by
  have h3 : j.natAbs < 2 ^ 100 := by
    have : ((j.natAbs : Nat) : Int) = j := Int.natAbs_of_nonneg (by omega)
    have h4 : ((j.natAbs : Nat) : Int) < ((2 ^ 100 : Nat) : Int) := by rw [this]; exact_mod_cast h2
    exact_mod_cast h4
  exact Nat.lt_of_lt_of_le ((Nat.log2_lt (by omega)).mpr h3) (by decide)
theorem or_bin (o : Operator) : OpR X (binaryOp o) (rBin X.K o) := by
  cases o with
  | Add => exact op_add.or (op_cat.or (op_catA.or op_add_str))
  | Sub => exact op_sub
  | Mult => exact op_mul.or (op_rep.or op_repT)
  | FloorDiv => exact op_fdivW.or op_fdivM
  | Mod => exact op_mod
  | Pow => exact op_pow
  | LShift => exact op_shl
  | _ => exact fun _ _ _ _ _ _ _ _ _ _ _ _ h => h.elim
section
variable {φ ρ : List Addr} {H H1 H2 H' : Hp} {env : Env} {σ : L2.St} {st st1 st' : Sto} {d e z : D} {x y v : V} {Q : VK}
theorem bin_ok {o : Operator} {fr : Bool} (ws : Ws K T φ ρ H st) (sl : Sl K φ ρ H env σ) (hx : RV K φ H x d) (hy : RV K φ H y e) (h : binD o d e = some (z, fr))
    (hQ : ∀ v H', Post K T φ ρ H H' env σ st (.dat z fr) v → Q v H') : rBin K o x y H Q := by
  have flat : ∀ {v : V}, RD K φ H v z → fr = false → Q v H := fun {v} r e => hQ v H (.at ws sl r (fun d q => by subst e; cases q))
  unfold binD at h
  split at h
  · cases h; cases hx; cases hy
    exact .inl ⟨_, _, rfl, rfl, flat (.int _) rfl⟩
  · split at h
    · rename_i hl
      cases h
      obtain ⟨a, xs, rfl, h1, h2⟩ := hx
      obtain ⟨b, ys, rfl, h3, h4⟩ := hy
      refine .inr (.inl ⟨a, b, xs, ys, rfl, rfl, h1, h3, by rw [h2.length, h4.length]; exact hl, fun p hp => hQ _ _ (.lst ws sl hp (h2.append h4))⟩)
    · cases h
  · split at h
    · rename_i hl
      cases h
      cases hx with
      | tup h1 h2 =>
        cases hy with
        | tup h3 h4 =>
          refine .inr (.inr (.inl ⟨_, _, _, _, rfl, rfl, h1, h3, by rw [h2.length, h4.length]; exact hl, fun q => ?_, fun _ q => ?_, fun _ _ p hp => hQ _ _ (.tup ws sl hp (h2.append h4))⟩))
          · subst q
            cases h2
            exact flat (.tup h3 h4) rfl
          · subst q
            cases h4
            exact flat (.tup h1 (by rw [List.append_nil]; exact h2)) rfl
    · cases h
  · split at h
    · rename_i hl
      cases h; cases hx; cases hy
      exact .inr (.inr (.inr ⟨_, _, rfl, rfl, hl, flat (.str _) rfl⟩))
    · cases h
  · cases h; cases hx; cases hy
    exact ⟨_, _, rfl, rfl, flat (.int _) rfl⟩
  · split at h
    · rename_i hl
      cases h; cases hx; cases hy
      exact .inl ⟨_, _, rfl, rfl, hl, flat (.int _) rfl⟩
    · cases h
  · split at h
    · rename_i hl
      cases h; cases hy
      obtain ⟨a, xs, rfl, h1, h2⟩ := hx
      exact .inr (.inl ⟨a, _, xs, rfl, rfl, h1, hl.1, hl.2.1, by rw [h2.length]; exact hl.2.2, fun p hp => hQ _ _ (.lst ws sl hp (h2.rep _))⟩)
    · cases h
  · split at h
    · rename_i hl
      cases h; cases hy
      cases hx with
      | tup h1 h2 =>
        have e := h2.length
        refine .inr (.inr ⟨_, _, _, rfl, rfl, h1, fun q => hl.1 ?_, hl.2.1, hl.2.2.1, by rw [e]; exact hl.2.2.2, fun p hp => hQ _ _ (.tup ws sl hp (h2.rep _))⟩)
        rw [q] at e
        exact List.length_eq_zero_iff.mp e.symm
    · cases h
  · split at h
    · rename_i hl
      cases h; cases hx; cases hy
      exact .inl ⟨_, _, rfl, rfl, ⟨hl.1, lt_fdiv hl.1 hl.2⟩, flat (.int _) rfl⟩
    · split at h
      · rename_i hl
        cases h; cases hx; cases hy
        exact .inr ⟨_, _, rfl, rfl, ⟨by omega, lt_fdivN hl.1 hl.2⟩, flat (.int _) rfl⟩
      · cases h
  · split at h
    · rename_i hl
      cases h; cases hx; cases hy
      exact ⟨_, _, rfl, rfl, hl, flat (.int _) rfl⟩
    · cases h
  · split at h
    · rename_i hl
      cases h; cases hx; cases hy
      exact ⟨_, _, rfl, rfl, hl, flat (.int _) rfl⟩
    · cases h
  · split at h
    · rename_i hl
      cases h; cases hx; cases hy
      exact ⟨_, _, rfl, rfl, hl, flat (.int _) rfl⟩
    · cases h
  · cases h
/-! ### comparisons -/
end
def rInT (K : PySem.W.Frag) (neg : Bool) : R2 := fun x y H Q => ∃ d ds, Dp K H x d ∧ Dp K H y (.tuple ds) ∧ okSh d = true ∧ okSh (.tuple ds) = true ∧ Q (.bl (neg ^^ ds.any fun z => PyData.eqv z d)) H
theorem op_inT (hu : X.A.units + 65 < cLine) : OpR X (compareOp .In) (rInT X.K false) := by
  intro pins s σ H x y v u Q I rx ry h
  obtain ⟨d, ds, hd, he, sd, se, q⟩ := h
  obtain ⟨as, r1⟩ := Dp.reads I d x v hd rx
  obtain ⟨bs, r2⟩ := Dp.reads I (.tuple ds) y u he ry
  rw [Bool.false_xor] at q
  exact SeqAt.in_tuple_reads r2 r1 (SeqAt.canLay_of_shaped se) (SeqAt.canLay_of_shaped sd) (PyProof.Rows.room_in_shaped sd hu) ⟨.bl _, H, I, rfl, q⟩
theorem op_ninT (hu : X.A.units + 65 < cLine) : OpR X (compareOp .NotIn) (rInT X.K true) := by
  intro pins s σ H x y v u Q I rx ry h
  obtain ⟨d, ds, hd, he, sd, se, q⟩ := h
  obtain ⟨as, r1⟩ := Dp.reads I d x v hd rx
  obtain ⟨bs, r2⟩ := Dp.reads I (.tuple ds) y u he ry
  rw [Bool.true_xor] at q
  exact SeqAt.notIn_tuple_reads r2 r1 (SeqAt.canLay_of_shaped se) (SeqAt.canLay_of_shaped sd) (PyProof.Rows.room_in_shaped sd hu) ⟨.bl _, H, I, rfl, q⟩
def rCmp (K : PySem.W.Frag) : CmpOp → R2
  | .Eq => fun x y H Q => rEqD K x y H Q ∨ rEq x y H Q
  | .NotEq => fun x y H Q => rNeD K x y H Q ∨ rNe x y H Q
  | .Lt => rI0 fun i j => .bl (decide (i < j))
  | .LtE => rI0 fun i j => .bl (decide (i ≤ j))
  | .Gt => rI0 fun i j => .bl (decide (j < i))
  | .GtE => rI0 fun i j => .bl (decide (j ≤ i))
  | .In => fun x y H Q => rInD K x y H Q ∨ rInT K false x y H Q
  | .NotIn => fun x y H Q => rNotInD K x y H Q ∨ rInT K true x y H Q
  | .Is => fun x y H Q => (y = .non ∧ Q (.bl (decide (x = .non))) H) ∨ (rIsB x y H Q ∨ ∃ i b, x = .int i ∧ y = .bl b ∧ Q (.bl false) H)
  | .IsNot => fun x y H Q => (y = .non ∧ Q (.bl (!decide (x = .non))) H) ∨ rNotB x y H Q
theorem op_isIB : OpR X (compareOp .Is) (fun x y H Q => ∃ i b, x = .int i ∧ y = .bl b ∧ Q (.bl false) H) := by
  intro pins s σ H x y v u Q I rx ry h
  obtain ⟨i, b, rfl, rfl, q⟩ := h
  obtain ⟨t, rfl⟩ := (show ∃ t, v = Value.int i t from rx)
  cases (show u = Value.bool b from ry)
  exact wpAny_is_other rfl (fun z => by cases z) ⟨.bl false, H, I, rfl, q⟩
theorem or_cmp (hu : X.A.units + 65 < cLine) (o : CmpOp) : OpR X (compareOp o) (rCmp X.K o) := by
  cases o with
  | Eq => exact OpR.or (op_eqD (by omega)) op_eq
  | NotEq => exact OpR.or (op_neD (by omega)) op_ne
  | Lt => exact op_lt
  | LtE => exact op_le
  | Gt => exact op_gt
  | GtE => exact op_ge
  | In => exact (op_inD hu).or (op_inT hu)
  | NotIn => exact (op_notInD hu).or (op_ninT hu)
  | Is => exact OpR.or op_isN (OpR.or op_isBl op_isIB)
  | IsNot => exact OpR.or op_notN op_notBl
section
variable {φ ρ : List Addr} {H H1 H2 H' : Hp} {env : Env} {σ : L2.St} {st st1 st' : Sto} {d e z : D} {x y v : V} {Q : VK}
theorem rv_non (hx : RV K φ H x d) : decide (x = .non) = eqD d .none := by
  cases d with
  | none => cases hx; rfl
  | list xs => obtain ⟨a, vs, rfl, _⟩ := hx; rfl
  | bool b => cases hx; rfl
  | int b => cases hx; rfl
  | str b => cases hx; rfl
  | tuple b => cases hx; rfl
  | dict b => cases hx <;> rfl
theorem cmp_ok {o : CmpOp} {b : Bool} (hx : RV K φ H x d) (hy : RV K φ H y e) (h : cmpD o d e = some b) (hQ : Q (.bl b) H) : rCmp K o x y H Q := by
  unfold cmpD at h
  split at h
  · cases h; cases hx; cases hy
    refine .inr ⟨rfl, ?_⟩
    rw [decide_eq_decide.mpr (show (V.str _ = V.str _ ↔ _) from ⟨fun z => by injection z, fun z => by rw [z]⟩)]
    exact hQ
  · cases h; cases hx; cases hy
    refine .inr ⟨rfl, ?_⟩
    rw [decide_eq_decide.mpr (show (V.str _ = V.str _ ↔ _) from ⟨fun z => by injection z, fun z => by rw [z]⟩)]
    exact hQ
  · split at h
    · rename_i hl
      obtain ⟨h1, h2⟩ := Bool.and_eq_true_iff.mp hl
      cases h
      exact .inl ⟨_, _, hx.dp h1, hy.dp h2, h1, h2, hQ⟩
    · cases h
  · split at h
    · rename_i hl
      obtain ⟨h1, h2⟩ := Bool.and_eq_true_iff.mp hl
      cases h
      exact .inl ⟨_, _, hx.dp h1, hy.dp h2, h1, h2, hQ⟩
    · cases h
  · cases h; cases hx; cases hy; exact ⟨_, _, rfl, rfl, hQ⟩
  · cases h; cases hx; cases hy; exact ⟨_, _, rfl, rfl, hQ⟩
  · cases h; cases hx; cases hy; exact ⟨_, _, rfl, rfl, hQ⟩
  · cases h; cases hx; cases hy; exact ⟨_, _, rfl, rfl, hQ⟩
  · cases h; cases hy; rw [← rv_non hx] at hQ; exact .inl ⟨rfl, hQ⟩
  · cases h; cases hy; rw [← rv_non hx] at hQ; exact .inl ⟨rfl, hQ⟩
  · cases h; cases hx; cases hy; exact .inr (.inl ⟨_, _, rfl, rfl, hQ⟩)
  · cases h; cases hx; cases hy; exact .inr (.inr ⟨_, _, rfl, rfl, hQ⟩)
  · cases h; cases hx; cases hy; exact .inr ⟨_, _, rfl, rfl, hQ⟩
  · split at h
    · rename_i hl
      obtain ⟨h1, h2⟩ := Bool.and_eq_true_iff.mp hl
      cases h
      exact .inl ⟨_, _, hx.dp h1, hy.dp h2, h1, h2, hQ⟩
    · cases h
  · split at h
    · rename_i hl
      obtain ⟨h1, h2⟩ := Bool.and_eq_true_iff.mp hl
      cases h
      exact .inr ⟨_, _, hx.dp h1, hy.dp h2, h1, h2, by rw [Bool.false_xor]; exact hQ⟩
    · cases h
  · split at h
    · rename_i hl
      obtain ⟨h1, h2⟩ := Bool.and_eq_true_iff.mp hl
      cases h
      exact .inl ⟨_, _, hx.dp h1, hy.dp h2, h1, h2, hQ⟩
    · cases h
  · split at h
    · rename_i hl
      obtain ⟨h1, h2⟩ := Bool.and_eq_true_iff.mp hl
      cases h
      exact .inr ⟨_, _, hx.dp h1, hy.dp h2, h1, h2, by rw [Bool.true_xor]; exact hQ⟩
    · cases h
  · cases h

/-! ### subscripts, slices, kinds, truth -/
theorem atI_rds {xs : List V} {ds : List D} {i : Int} (r : RDs K φ H xs ds) (h : atI ds i = some d) : ∃ v, atI xs i = some v ∧ RD K φ H v d := by
  unfold atI at h ⊢
  rw [r.length]
  cases e : ixN ds.length i with
  | none => rw [e] at h; cases h
  | some j =>
    rw [e] at h
    exact r.get h
def rIxD : R2 := fun x y H Q => ∃ a v, x = .ref a ∧ DGet H a y (some v) ∧ Q v H
theorem ix_dict (hu : X.A.units + 1 < cLine) : IxR X rIxD := by
  intro value slice pins s σ H x y v u Q I rx ry h hs
  obtain ⟨a, z, rfl, g, q⟩ := h
  cases rx
  have hT := dict_typeIs I g
  unfold PyProof.Rows.subscriptTail
  refine wpAny_bind ?_
  rw [getitemInPython_of_ne hT.not_modules]
  refine wpAny_bind (wpAny_specialOf hT PySem.F.slot_dict_getitem.lookup ?_)
  have fin : wpAny (model X.prog X.w) X.A (subscripted slice false (.ref a) u) (fun r s₃ => wpAny (model X.prog X.w) X.A (letTemporaryGo value (.ref a) r >>= fun _ => pure r) (EP X pins σ Q) X.xe s₃) X.xe s := by
    rw [hs]
    exact wpAny_operating (wpAny_mono (d_getItem hu I g ry fun w' s3 I3 rw' => (⟨z, H, I3, rw', q⟩ : EP X pins σ Q w' s3)) (fun r s₃ h₃ => wpAny_bind (PySem.wpAny_letTemporaryGo (wpAny_pure h₃))) fun _ _ x => x)
  first
    | exact wpAny_pure (wpAny_bind fin)
    | exact wpAny_bind (wpAny_pure (wpAny_bind fin))
    | exact wpAny_bind fin
theorem dk_str {k : Str} : ∀ (kvs : List (Key × V)) (ds : List (D × D)), ds.map (·.1) = kvs.map (fun p => kD p.1) → RDs K φ H (kvs.map (·.2)) (ds.map (·.2)) → fldD k ds = some z → ∃ v, valV kvs (Sum.inr k : Key) = some v ∧ RD K φ H v z
  | [], [], _, _, e => by cases e
  | [], _ :: _, h, _, _ => by simp at h
  | _ :: _, [], h, _, _ => by simp at h
  | (.inl i, v) :: kvs, (dk, d) :: ds, h, r, e => by
    simp only [List.map_cons, List.cons.injEq, kD] at h
    obtain ⟨rfl, h2⟩ := h
    cases r with
    | cons a b =>
      simp only [fldD] at e
      obtain ⟨w, e1, e2⟩ := dk_str kvs ds h2 b e
      exact ⟨w, (valV_neg (by intro z; cases z)).trans e1, e2⟩
  | (.inr y, v) :: kvs, (dk, d) :: ds, h, r, e => by
    simp only [List.map_cons, List.cons.injEq, kD] at h
    obtain ⟨rfl, h2⟩ := h
    cases r with
    | cons a b =>
      simp only [fldD] at e
      split at e
      · rename_i hy
        cases e
        rw [of_decide_eq_true hy]
        exact ⟨v, valV_pos rfl, a⟩
      · rename_i hy
        obtain ⟨w, e1, e2⟩ := dk_str kvs ds h2 b e
        exact ⟨w, (valV_neg (by intro q; exact hy (decide_eq_true (Sum.inr.inj q)))).trans e1, e2⟩
theorem dk_int {k : Int} : ∀ (kvs : List (Key × V)) (ds : List (D × D)), ds.map (·.1) = kvs.map (fun p => kD p.1) → RDs K φ H (kvs.map (·.2)) (ds.map (·.2)) → keyI k ds = some z → ∃ v, valV kvs (Sum.inl k : Key) = some v ∧ RD K φ H v z
  | [], [], _, _, e => by cases e
  | [], _ :: _, h, _, _ => by simp at h
  | _ :: _, [], h, _, _ => by simp at h
  | (.inr i, v) :: kvs, (dk, d) :: ds, h, r, e => by
    simp only [List.map_cons, List.cons.injEq, kD] at h
    obtain ⟨rfl, h2⟩ := h
    cases r with
    | cons a b =>
      simp only [keyI] at e
      obtain ⟨w, e1, e2⟩ := dk_int kvs ds h2 b e
      exact ⟨w, (valV_neg (by intro z; cases z)).trans e1, e2⟩
  | (.inl y, v) :: kvs, (dk, d) :: ds, h, r, e => by
    simp only [List.map_cons, List.cons.injEq, kD] at h
    obtain ⟨rfl, h2⟩ := h
    cases r with
    | cons a b =>
      simp only [keyI] at e
      split at e
      · rename_i hy
        cases e
        rw [of_decide_eq_true hy]
        exact ⟨v, valV_pos rfl, a⟩
      · rename_i hy
        obtain ⟨w, e1, e2⟩ := dk_int kvs ds h2 b e
        exact ⟨w, (valV_neg (by intro q; exact hy (decide_eq_true (Sum.inl.inj q)))).trans e1, e2⟩
theorem idx_ok (hx : RV K φ H x d) (hy : RV K φ H y e) (h : idxD d e = some z) (hQ : ∀ v, RD K φ H v z → Q v H) : (rIxL K x y H Q ∨ rIxT K x y H Q) ∨ rIxD x y H Q := by
  unfold idxD at h
  split at h
  · cases hy
    obtain ⟨a, xs, rfl, h1, h2⟩ := hx
    obtain ⟨v, h3, h4⟩ := atI_rds h2 h
    exact .inl (.inl ⟨_, _, _, _, rfl, rfl, .inl (.inl h1), h3, hQ v h4⟩)
  · cases hy
    cases hx with
    | tup h1 h2 =>
      obtain ⟨v, h3, h4⟩ := atI_rds h2 h
      exact .inl (.inr ⟨_, _, _, _, rfl, rfl, h1, h3, hQ v h4⟩)
  · rename_i kvs k
    split at h
    · cases h
    · rename_i hn
      cases hy
      cases hx with
      | dct _ h1 h2 h3 =>
        obtain ⟨v, e1, e2⟩ := dk_str _ _ h2 h3 h
        have g := DGet.k (k := (Sum.inr k : Key)) h1
        rw [e1] at g
        exact .inr ⟨_, _, rfl, g, hQ v e2⟩
      | obj => exact absurd rfl hn
  · rename_i kvs k
    split at h
    · cases h
    · rename_i hn
      cases hy
      cases hx with
      | dct _ h1 h2 h3 =>
        obtain ⟨v, e1, e2⟩ := dk_int _ _ h2 h3 h
        have g := DGet.k (k := (Sum.inl k : Key)) h1
        rw [e1] at g
        exact .inr ⟨_, _, rfl, g, hQ v e2⟩
      | obj => exact absurd rfl hn
  · cases h
theorem cut_rds {xs : List V} {ds : List D} {lo hi : Option Int} (r : RDs K φ H xs ds) : RDs K φ H (cutV xs lo hi) (cutD ds lo hi) := by
  unfold cutV cutD
  rw [r.length]
  exact (r.drop _).take _
theorem sIx_whole {n : Nat} {lo hi : Option Int} (h : HT.sIx n 0 lo = 0 ∧ HT.sIx n n hi = n) (ds : List D) (e : ds.length = n) : cutD ds lo hi = ds := by
  unfold cutD
  rw [e, h.1, h.2, Nat.sub_zero, List.drop_zero, ← e, List.take_length]
theorem cut_ok_l {xs : List V} {ds : List D} {a : Addr} {lo hi : Option Int} (ws : Ws K T φ ρ H st) (sl : Sl K φ ρ H env σ) (h1 : H a = some (.lst xs)) (h2 : RDs K φ H xs ds)
    (hQ : ∀ v H', Post K T φ ρ H H' env σ st (.dat (.list (cutD ds lo hi)) true) v → Q v H') : rSlL K (.ref a) lo hi H Q ∨ rSlA K (.ref a) lo hi H Q :=
  .inl ⟨a, xs, rfl, .inl (.inl h1), fun p hp => hQ _ _ (.lst ws sl hp (cut_rds h2))⟩
theorem cut_ok_t {xs : List V} {ds : List D} {a : Addr} {lo hi : Option Int} (ws : Ws K T φ ρ H st) (sl : Sl K φ ρ H env σ) (h1 : SqT K H a xs) (h2 : RDs K φ H xs ds)
    (hQ : ∀ v H', Post K T φ ρ H H' env σ st (.dat (.tuple (cutD ds lo hi)) false) v → Q v H') : rSlL K (.ref a) lo hi H Q ∨ rSlA K (.ref a) lo hi H Q := by
  refine .inr ⟨a, xs, rfl, h1, fun q => ?_, fun _ p hp => hQ _ _ (.tup ws sl hp (cut_rds h2))⟩
  rw [h2.length] at q
  refine hQ _ _ (.at ws sl ?_ (fun d e => by cases e))
  rw [sIx_whole q ds rfl]
  exact .tup h1 h2
theorem sl_any : SlR X (fun x lo hi H Q => rSlL X.K x lo hi H Q ∨ rSlA X.K x lo hi H Q) := sl_list.or sl_tupA
theorem isi_ok {t : String} {b : Bool} (hx : RV K φ H x d) (h : isD t d = some b) (hQ : Q (.bl b) H) : rIsi K [x, .ty t] H Q := by
  have ty : ∀ {n : String}, TyX K H x (.type n) → L2.kitB n t = some b → rIsi K [x, .ty t] H Q := fun {n} h1 h2 => ⟨x, .ty t, .type n, .type t, b, rfl, .ty t, h1, kit_ty h2, hQ⟩
  cases d with
  | none => cases hx; exact ty (.base .non) h
  | bool c => cases hx; exact ty (.base (.bl c)) h
  | int i => cases hx; exact ty (.base (.int i)) h
  | str s => cases hx; exact ty (.base (.str s)) h
  | list ds => obtain ⟨a, xs, rfl, h1, h2⟩ := hx; exact ty (.base (.lst h1)) h
  | tuple ds =>
    cases hx with
    | tup h1 h2 =>
      rcases h1 with (h1 | ⟨o, h1⟩) | ⟨o, its, n, h1, h3, _⟩
      · exact ty (.base (.tup h1)) h
      · exact ty (.fTuple h1) h
      · exact ty (.kTuple h1 h3) h
  | dict kvs =>
    simp only [isD] at h
    split at h
    · cases h
    · rename_i hn
      cases hx with
      | dct _ h1 _ _ => exact ty (.base (.dK h1)) h
      | obj => exact absurd rfl hn
theorem tru_of {b : Bool} (hx : RV K φ H x d) (h : truD d = some b) : TruV K x H b := by
  cases d with
  | none => cases hx; cases h; rfl
  | bool c => cases hx; cases h; rfl
  | int i => cases hx; cases h; rfl
  | str s =>
    cases hx
    simp only [truD] at h
    split at h
    · rename_i hl
      cases h
      exact ⟨hl, rfl⟩
    · cases h
  | list ds =>
    obtain ⟨a, xs, rfl, h1, h2⟩ := hx
    cases h
    refine .inl ⟨xs, .inl (.inl h1), ?_⟩
    cases h2 <;> rfl
  | tuple ds =>
    cases hx with
    | tup h1 h2 =>
      cases h
      refine .inr (.inl ⟨_, h1, ?_⟩)
      cases h2 <;> rfl
  | dict kvs => cases h
end
end Ev
set_option linter.all false
set_option maxRecDepth 100000
set_option maxHeartbeats 4000000
/-! Ev4: expressions. -/
namespace Ev
open PySem PySem.Spec L2
variable {K : PySem.W.Frag} {T : List (Addr × Str)} {X : Cx} {G : Pk} {cl : Str → List SV → Sto → Option (ER × Sto)}

theorem imp {e : Expr} {t t' : TE} (h : PE X e t) (k : ∀ σ H Q, t' σ H Q → t σ H Q) : PE X e t' := ⟨fun pins s σ H Q I q => h.run pins s σ H Q I (k σ H Q q)⟩
theorem impT {e : Expr} {t t' : TT} (h : PT X e t) (k : ∀ σ H Q, t' σ H Q → t σ H Q) : PT X e t' := ⟨fun pins s σ H Q I q => h.run pins s σ H Q I (k σ H Q q)⟩
theorem impW {e : Expr} {t t' : TT} (h : PW X e t) (k : ∀ σ H Q, t' σ H Q → t σ H Q) : PW X e t' := ⟨fun wh pins s σ H Q I q => h.run wh pins s σ H Q I (k σ H Q q)⟩
theorem impA {es : List Expr} {t t' : TA} (h : PA X es t) (k : ∀ σ H Q, t' σ H Q → t σ H Q) : PA X es t' := ⟨fun pos pins s σ H Q I q => h.run pos pins s σ H Q I (k σ H Q q)⟩

/-- no star, no set, no slice -/
def pln : Expr → Bool
  | .Starred .. => false
  | .Set .. => false
  | .Slice .. => false
  | _ => true
theorem pln_star {e : Expr} (h : pln e = true) (es : List Expr) (env : PySem.Env) : starEach (e :: es) env = (false, eval e env) :: starEach es env := by
  cases e <;> first | rfl | (exact absurd (show false = true from h) Bool.false_ne_true)
theorem pln_mark {e : Expr} (h : pln e = true) (op : CmpOp) : behindInMarks op e = false := by
  cases e <;> first | rfl | (exact absurd (show false = true from h) Bool.false_ne_true)
theorem pln_last {e c : Expr} (h : pln c = true) (op op' : CmpOp) : lastMarks [op, op'] [e, c] = false := by
  show behindInMarks op' c = false
  exact pln_mark h _
theorem pln_ix {e : Expr} (h : pln e = true) : PlainIx e := by
  intro o i
  cases e <;> first | rfl | (exact absurd (show false = true from h) Bool.false_ne_true)
theorem pln_fold {e : Expr} (h : pln e = true) (env : PySem.Env) (x : Value) : foldedSetIterable e env x = pure x := by
  cases e <;> first | rfl | (exact absurd (show false = true from h) Bool.false_ne_true)

section
variable {φ ρ : List Addr} {H H1 H2 H' : Hp} {env : Env} {σ : L2.St} {st st1 st2 st' : Sto} {d e z : D} {x y : ER} {v : V} {Q : VK}
  {Fa Fb F : Env → Sto → Option (ER × Sto)}
theorem seq1 {R : V → Hp → Prop} (ws : Ws K T φ ρ H st) (sl : Sl K φ ρ H env σ) (ha : Fa env st = some (x, st1))
    (k : ∀ u H1, Ws K T φ ρ H1 st1 → Sl K φ ρ H1 env σ → Ext ρ H H1 → RR K φ ρ H1 x u → R u H1) : tF K T Fa σ H R :=
  ⟨φ, ρ, env, st, x, st1, ws, sl, ha, fun u H1 p => k u H1 p.ws p.sl p.ext p.rr⟩
theorem seq2 {R : V → V → Hp → Prop} (ws : Ws K T φ ρ H st) (sl : Sl K φ ρ H env σ) (ha : Fa env st = some (x, st1)) (hb : Fb env st1 = some (y, st2))
    (k : ∀ u v H2, Ws K T φ ρ H2 st2 → Sl K φ ρ H2 env σ → Ext ρ H H2 → RR K φ ρ H2 x u → RR K φ ρ H2 y v → R u v H2) :
    tF K T Fa σ H fun u H1 => tF K T Fb σ H1 fun v H2 => R u v H2 :=
  seq1 ws sl ha fun u H1 w1 s1 e1 r1 => seq1 w1 s1 hb fun v H2 w2 s2 e2 r2 => k u v H2 w2 s2 (e1.trans e2) (RS.ext (e2.more w1.sub) w1.fl r1) r2
theorem tF_mono {F : Env → Sto → Option (ER × Sto)} {Q Q' : VK} (h : ∀ v H, Q v H → Q' v H) (t : tF K T F σ H Q) : tF K T F σ H Q' := by
  obtain ⟨φ, ρ, env, st, r, st', a, b, c, d⟩ := t
  exact ⟨φ, ρ, env, st, r, st', a, b, c, fun v H' p => h v H' (d v H' p)⟩
end

/-! ### tests -/
structure PostB (K : PySem.W.Frag) (T : List (Addr × Str)) (φ ρ : List Addr) (H H' : Hp) (env : Env) (σ : L2.St) (st' : Sto) : Prop where
  ws : Ws K T φ ρ H' st'
  sl : Sl K φ ρ H' env σ
  ext : Ext ρ H H'
def tT (K : PySem.W.Frag) (T : List (Addr × Str)) (F : Env → Sto → Option (ER × Sto)) : TT := fun σ H Q =>
  ∃ φ ρ env st b st', Ws K T φ ρ H st ∧ Sl K φ ρ H env σ ∧ tstE (F env st) = some (b, st') ∧ ∀ H', PostB K T φ ρ H H' env σ st' → Q b H'
theorem tst_some {r : Option (ER × Sto)} {b : Bool} {st' : Sto} (h : tstE r = some (b, st')) : ∃ x d, r = some (x, st') ∧ rdE st' x = some d ∧ truD d = some b := by
  cases r with
  | none => cases h
  | some p =>
    obtain ⟨x, s⟩ := p
    simp only [tstE] at h
    split at h
    · split at h
      · cases h; exact ⟨x, _, rfl, by assumption, by assumption⟩
      · cases h
    · cases h
section
variable {φ ρ : List Addr} {H H1 H2 H' : Hp} {env : Env} {σ : L2.St} {st st1 st2 st' : Sto} {b : Bool} {F : Env → Sto → Option (ER × Sto)}
theorem seqT {R : Bool → Hp → Prop} (ws : Ws K T φ ρ H st) (sl : Sl K φ ρ H env σ) (ha : tstE (F env st) = some (b, st1))
    (k : ∀ H1, Ws K T φ ρ H1 st1 → Sl K φ ρ H1 env σ → Ext ρ H H1 → R b H1) : tT K T F σ H R :=
  ⟨φ, ρ, env, st, b, st1, ws, sl, ha, fun H1 p => k H1 p.ws p.sl p.ext⟩
end
/-- by its value's truth -/
theorem pt_plain {e : Expr} {F : Env → Sto → Option (ER × Sto)} (he : PE X e (tF X.K T F)) (h : ∀ whole, isTrue e X.env whole = (do let v ← whole; standAt e.pos; holding [v] (truthy v))) : PT X e (tT X.K T F) := by
  refine impT (pt_truth he h) fun σ H Q q => ?_
  obtain ⟨φ, ρ, env, st, b, st', ws, sl, hb, k⟩ := q
  obtain ⟨x, d, h1, h2, h3⟩ := tst_some hb
  exact seq1 ws sl h1 fun u H1 w1 s1 e1 r1 => ⟨b, tru_of (rd_view w1 r1 h2) h3, k H1 ⟨w1, s1, e1⟩⟩

/-! ### names and constants -/
theorem ok_const {e : Expr} {v : V} {d : D} {F : Env → Sto → Option (ER × Sto)} (h : PE X e (tC v)) (hF : ∀ env st, F env st = some (.dat d false, st)) (r : ∀ φ H, RD X.K φ H v d) : PE X e (tF X.K T F) := by
  refine imp h fun σ H Q q => ?_
  obtain ⟨φ, ρ, env, st, x, st', ws, sl, he, k⟩ := q
  rw [hF] at he
  cases he
  exact k v H (.at ws sl (r φ H) (fun d e => by cases e))
theorem ok_slot {e : Expr} {i : Nat} (h : PE X e (tVar i)) : PE X e (tF X.K T (evE G cl (.slot i))) := by
  refine imp h fun σ H Q q => ?_
  obtain ⟨φ, ρ, env, st, x, st', ws, sl, he, k⟩ := q
  simp only [evE] at he
  split at he
  · rename_i s hs
    cases he
    obtain ⟨v, h1, h2⟩ := sl.get i s hs
    refine ⟨v, h1, k v H (.at ws sl ?_ (fun d e => ?_))⟩
    · cases s <;> exact h2
    · cases s <;> cases e
  · cases he
theorem ok_con {e : Expr} {x : Str} {v : V} {d : D} (h : PE X e (tC v)) (hd : G.con x = some d) (r : ∀ φ H, RD X.K φ H v d) : PE X e (tF X.K T (evE G cl (.con x))) :=
  ok_const h (fun env st => by simp only [evE, hd]) r

/-! ### operators -/
section
variable {a b c : Expr} {a' b' c' : IE} {pos : Pos}
theorem ok_bin {o : Operator} (ha : PE X a (tF X.K T (evE G cl a'))) (hb : PE X b (tF X.K T (evE G cl b'))) : PE X (.BinOp a o b pos) (tF X.K T (evE G cl (.bin o a' b'))) := by
  refine imp (pe_op (or_bin o) ha hb) fun σ H Q q => ?_
  obtain ⟨φ, ρ, env, st, x, st', ws, sl, he, k⟩ := q
  simp only [evE] at he
  split at he
  · rename_i x1 st1 h1
    split at he
    · rename_i x2 st2 h2
      split at he
      · rename_i d e h3 h4
        split at he
        · rename_i r fr h5
          cases he
          exact seq2 ws sl h1 h2 fun u v H2 w2 s2 e2 ru rv => bin_ok w2 s2 (rd_view w2 ru h3) (rd_view w2 rv h4) h5 fun v H' p => k v H' (p.pre e2)
        · cases he
      · cases he
    · cases he
  · cases he
theorem ok_neg (ha : PE X a (tF X.K T (evE G cl a'))) : PE X (.UnaryOp .USub a pos) (tF X.K T (evE G cl (.neg a'))) := by
  refine imp (pe_un un_neg ha) fun σ H Q q => ?_
  obtain ⟨φ, ρ, env, st, x, st', ws, sl, he, k⟩ := q
  simp only [evE] at he
  split at he
  · rename_i i fr st1 h1
    cases he
    refine seq1 ws sl h1 fun u H1 w1 s1 e1 r1 => ?_
    cases (show RD X.K φ H1 u (.int i) from r1)
    exact ⟨_, rfl, k _ _ ⟨w1, s1, e1, .int _, fun d e => by cases e⟩⟩
  · cases he
theorem ok_no (ha : PE X a (tF X.K T (evE G cl a'))) : PE X (.UnaryOp .Not a pos) (tF X.K T (evE G cl (.no a'))) := by
  refine imp (pe_notT ha) fun σ H Q q => ?_
  obtain ⟨φ, ρ, env, st, x, st', ws, sl, he, k⟩ := q
  simp only [evE] at he
  split at he
  · rename_i b st1 h1
    cases he
    obtain ⟨x, d, h1, h2, h3⟩ := tst_some h1
    exact seq1 ws sl h1 fun u H1 w1 s1 e1 r1 => ⟨b, tru_of (rd_view w1 r1 h2) h3, k _ _ ⟨w1, s1, e1, .bl _, fun d e => by cases e⟩⟩
  · cases he
theorem okT_no (ha : PT X a (tT X.K T (evE G cl a'))) : PT X (.UnaryOp .Not a pos) (tT X.K T (evE G cl (.no a'))) := by
  refine impT (pt_not ha) fun σ H Q q => ?_
  obtain ⟨φ, ρ, env, st, b, st', ws, sl, hb, k⟩ := q
  simp only [evE] at hb
  cases h : tstE (evE G cl a' env st) with
  | none => rw [h] at hb; cases hb
  | some p =>
    obtain ⟨c, st1⟩ := p
    rw [h] at hb
    simp only [tstE, rdE, truD] at hb
    cases hb
    exact seqT ws sl h fun H1 w1 s1 e1 => k H1 ⟨w1, s1, e1⟩
theorem tst_land {env : Env} {st : Sto} : tstE (evE G cl (.land a' b') env st) = match tstE (evE G cl a' env st) with
    | some (true, st1) => tstE (evE G cl b' env st1)
    | some (false, st1) => some (false, st1)
    | none => none := by
  simp only [evE]
  cases h : evE G cl a' env st with
  | none => rfl
  | some p =>
    obtain ⟨x, st1⟩ := p
    simp only [tstE]
    cases h1 : rdE st1 x with
    | none => rfl
    | some d =>
      simp only
      cases h2 : truD d with
      | none => rfl
      | some k => cases k <;> simp only [tstE, h1, h2]
theorem tst_lor {env : Env} {st : Sto} : tstE (evE G cl (.lor a' b') env st) = match tstE (evE G cl a' env st) with
    | some (true, st1) => some (true, st1)
    | some (false, st1) => tstE (evE G cl b' env st1)
    | none => none := by
  simp only [evE]
  cases h : evE G cl a' env st with
  | none => rfl
  | some p =>
    obtain ⟨x, st1⟩ := p
    simp only [tstE]
    cases h1 : rdE st1 x with
    | none => rfl
    | some d =>
      simp only
      cases h2 : truD d with
      | none => rfl
      | some k => cases k <;> simp only [tstE, h1, h2]
theorem ok_land {rest : List Expr} (ha : PE X a (tF X.K T (evE G cl a'))) (hb : PE X (.BoolOp .And (b :: rest) pos) (tF X.K T (evE G cl b'))) :
    PE X (.BoolOp .And (a :: b :: rest) pos) (tF X.K T (evE G cl (.land a' b'))) := by
  refine imp (pe_andT ha hb) fun σ H Q q => ?_
  obtain ⟨φ, ρ, env, st, x, st', ws, sl, he, k⟩ := q
  simp only [evE] at he
  split at he
  · rename_i x1 st1 h1
    split at he
    · rename_i d h2
      refine ⟨φ, ρ, env, st, x1, st1, ws, sl, h1, fun u H1 p => ?_⟩
      split at he
      · rename_i h3
        exact ⟨true, tru_of (rd_view p.ws p.rr h2) h3, iteT ⟨φ, ρ, env, st1, x, st', p.ws, p.sl, he, fun v H' p' => k v H' (p'.pre p.ext)⟩⟩
      · rename_i h3
        cases he
        exact ⟨false, tru_of (rd_view p.ws p.rr h2) h3, iteF (k _ _ p)⟩
      · cases he
    · cases he
  · cases he
theorem ok_lor {rest : List Expr} (ha : PE X a (tF X.K T (evE G cl a'))) (hb : PE X (.BoolOp .Or (b :: rest) pos) (tF X.K T (evE G cl b'))) :
    PE X (.BoolOp .Or (a :: b :: rest) pos) (tF X.K T (evE G cl (.lor a' b'))) := by
  refine imp (pe_orT ha hb) fun σ H Q q => ?_
  obtain ⟨φ, ρ, env, st, x, st', ws, sl, he, k⟩ := q
  simp only [evE] at he
  split at he
  · rename_i x1 st1 h1
    split at he
    · rename_i d h2
      refine ⟨φ, ρ, env, st, x1, st1, ws, sl, h1, fun u H1 p => ?_⟩
      split at he
      · rename_i h3
        cases he
        exact ⟨true, tru_of (rd_view p.ws p.rr h2) h3, iteT (k _ _ p)⟩
      · rename_i h3
        exact ⟨false, tru_of (rd_view p.ws p.rr h2) h3, iteF ⟨φ, ρ, env, st1, x, st', p.ws, p.sl, he, fun v H' p' => k v H' (p'.pre p.ext)⟩⟩
      · cases he
    · cases he
  · cases he
theorem okW_land {rest : List Expr} (ha : PT X a (tT X.K T (evE G cl a'))) (hb : PW X (.BoolOp .And (b :: rest) pos) (tT X.K T (evE G cl b'))) :
    PW X (.BoolOp .And (a :: b :: rest) pos) (tT X.K T (evE G cl (.land a' b'))) := by
  refine impW (pw_and ha hb) fun σ H Q q => ?_
  obtain ⟨φ, ρ, env, st, b, st', ws, sl, he, k⟩ := q
  rw [tst_land] at he
  split at he
  · rename_i st1 h1
    exact seqT ws sl h1 fun H1 w1 s1 e1 => iteT (seqT w1 s1 he fun H2 w2 s2 e2 => k H2 ⟨w2, s2, e1.trans e2⟩)
  · rename_i st1 h1
    cases he
    exact seqT ws sl h1 fun H1 w1 s1 e1 => iteF (k H1 ⟨w1, s1, e1⟩)
  · cases he
theorem okW_lor {rest : List Expr} (ha : PT X a (tT X.K T (evE G cl a'))) (hb : PW X (.BoolOp .Or (b :: rest) pos) (tT X.K T (evE G cl b'))) :
    PW X (.BoolOp .Or (a :: b :: rest) pos) (tT X.K T (evE G cl (.lor a' b'))) := by
  refine impW (pw_or ha hb) fun σ H Q q => ?_
  obtain ⟨φ, ρ, env, st, b, st', ws, sl, he, k⟩ := q
  rw [tst_lor] at he
  split at he
  · rename_i st1 h1
    cases he
    exact seqT ws sl h1 fun H1 w1 s1 e1 => iteT (k H1 ⟨w1, s1, e1⟩)
  · rename_i st1 h1
    exact seqT ws sl h1 fun H1 w1 s1 e1 => iteF (seqT w1 s1 he fun H2 w2 s2 e2 => k H2 ⟨w2, s2, e1.trans e2⟩)
  · cases he
theorem cmp_read {o : CmpOp} {env : Env} {st st' : Sto} {x : ER} (he : evE G cl (.cmp o a' b') env st = some (x, st')) :
    ∃ x1 st1 x2 d e r, evE G cl a' env st = some (x1, st1) ∧ evE G cl b' env st1 = some (x2, st') ∧ rdE st' x1 = some d ∧ rdE st' x2 = some e ∧ cmpD o d e = some r ∧ x = .dat (.bool r) false := by
  simp only [evE] at he
  split at he
  · rename_i x1 st1 h1
    split at he
    · rename_i x2 st2 h2
      split at he
      · rename_i d e h3 h4
        split at he
        · rename_i r h5
          cases he
          exact ⟨x1, st1, x2, d, e, r, h1, h2, h3, h4, h5, rfl⟩
        · cases he
      · cases he
    · cases he
  · cases he
theorem ok_cmp {o : CmpOp} (hu : X.A.units + 65 < cLine) (ha : PE X a (tF X.K T (evE G cl a'))) (hb : PE X b (tF X.K T (evE G cl b'))) (hp : pln b = true) :
    PE X (.Compare a [o] [b] pos) (tF X.K T (evE G cl (.cmp o a' b'))) := by
  refine imp (pe_cmpR (or_cmp hu o) ha hb (pln_mark hp o)) fun σ H Q q => ?_
  obtain ⟨φ, ρ, env, st, x, st', ws, sl, he, k⟩ := q
  obtain ⟨x1, st1, x2, d, e, r, h1, h2, h3, h4, h5, rfl⟩ := cmp_read he
  exact seq2 ws sl h1 h2 fun u v H2 w2 s2 e2 ru rv => cmp_ok (rd_view w2 ru h3) (rd_view w2 rv h4) h5 (k _ _ ⟨w2, s2, e2, .bl _, fun d e => by cases e⟩)
theorem okT_cmp {o : CmpOp} (hu : X.A.units + 65 < cLine) (ha : PE X a (tF X.K T (evE G cl a'))) (hb : PE X b (tF X.K T (evE G cl b'))) (hp : pln b = true) :
    PT X (.Compare a [o] [b] pos) (tT X.K T (evE G cl (.cmp o a' b'))) := by
  refine impT (pt_cmpR (or_cmp hu o) ha hb (pln_mark hp o)) fun σ H Q q => ?_
  obtain ⟨φ, ρ, env, st, b, st', ws, sl, he, k⟩ := q
  obtain ⟨x, d', he, h6, h7⟩ := tst_some he
  obtain ⟨x1, st1, x2, d, e, r, h1, h2, h3, h4, h5, rfl⟩ := cmp_read he
  cases h6
  cases h7
  exact seq2 ws sl h1 h2 fun u v H2 w2 s2 e2 ru rv => cmp_ok (rd_view w2 ru h3) (rd_view w2 rv h4) h5 ⟨_, rfl, k _ ⟨w2, s2, e2⟩⟩
theorem cmp2_read {o p : CmpOp} {env : Env} {st st' : Sto} {x : ER} (he : evE G cl (.cmp2 o p a' b' c') env st = some (x, st')) :
    ∃ x1 st1 x2 st2 d e r, evE G cl a' env st = some (x1, st1) ∧ evE G cl b' env st1 = some (x2, st2) ∧ rdE st2 x1 = some d ∧ rdE st2 x2 = some e ∧ cmpD o d e = some r ∧
      ((r = false ∧ x = .dat (.bool false) false ∧ st' = st2) ∨ (r = true ∧ ∃ x3 e1 f r2, evE G cl c' env st2 = some (x3, st') ∧ rdE st' x2 = some e1 ∧ rdE st' x3 = some f ∧ cmpD p e1 f = some r2 ∧ x = .dat (.bool r2) false)) := by
  simp only [evE] at he
  split at he
  · rename_i x1 st1 h1
    split at he
    · rename_i x2 st2 h2
      split at he
      · rename_i d e h3 h4
        split at he
        · rename_i h5
          split at he
          · rename_i x3 st3 h6
            split at he
            · rename_i e1 f h7 h8
              split at he
              · rename_i r2 h9
                cases he
                exact ⟨x1, st1, x2, st2, d, e, true, h1, h2, h3, h4, h5, .inr ⟨rfl, x3, e1, f, r2, h6, h7, h8, h9, rfl⟩⟩
              · cases he
            · cases he
          · cases he
        · rename_i h5
          cases he
          exact ⟨x1, st1, x2, _, d, e, false, h1, h2, h3, h4, h5, .inl ⟨rfl, rfl, rfl⟩⟩
        · cases he
      · cases he
    · cases he
  · cases he
theorem chain_ok {o p : CmpOp} {φ ρ : List Addr} {H : Hp} {env : Env} {σ : L2.St} {st st' : Sto} {x : ER} {Q : VK} (ws : Ws K T φ ρ H st) (sl : Sl K φ ρ H env σ) (he : evE G cl (.cmp2 o p a' b' c') env st = some (x, st'))
    (k : ∀ b H', x = .dat (.bool b) false → PostB K T φ ρ H H' env σ st' → Q (.bl b) H') :
    tChain (rCmp K o) (rCmp K p) (tF K T (evE G cl a')) (tF K T (evE G cl b')) (tF K T (evE G cl c')) σ H Q := by
  obtain ⟨x1, st1, x2, st2, d, e, r, h1, h2, h3, h4, h5, h⟩ := cmp2_read he
  refine seq2 ws sl h1 h2 fun u v H2 w2 s2 e2 ru rv => cmp_ok (rd_view w2 ru h3) (rd_view w2 rv h4) h5 ⟨r, rfl, ?_⟩
  rcases h with ⟨rfl, rfl, rfl⟩ | ⟨rfl, x3, e1, f, r2, h6, h7, h8, h9, rfl⟩
  · exact iteF (k _ _ rfl ⟨w2, s2, e2⟩)
  · exact iteT (seq1 w2 s2 h6 fun w' H4 w4 s4 e4 rw' => cmp_ok (rd_view w4 (RS.ext (e4.more w2.sub) w2.fl rv) h7) (rd_view w4 rw' h8) h9 (k _ _ rfl ⟨w4, s4, e2.trans e4⟩))
theorem ok_cmp2 {o p : CmpOp} (hu : X.A.units + 65 < cLine) (ha : PE X a (tF X.K T (evE G cl a'))) (hb : PE X b (tF X.K T (evE G cl b'))) (hc : PE X c (tF X.K T (evE G cl c'))) (hp : pln c = true) :
    PE X (.Compare a [o, p] [b, c] pos) (tF X.K T (evE G cl (.cmp2 o p a' b' c'))) := by
  refine imp (pe_chain (or_cmp hu o) (or_cmp hu p) ha hb hc (pln_last hp o p)) fun σ H Q q => ?_
  obtain ⟨φ, ρ, env, st, x, st', ws, sl, he, k⟩ := q
  exact chain_ok ws sl he fun b H' e p => by subst e; exact k _ _ ⟨p.ws, p.sl, p.ext, .bl _, fun d e => by cases e⟩
theorem okT_cmp2 {o p : CmpOp} (hu : X.A.units + 65 < cLine) (ha : PE X a (tF X.K T (evE G cl a'))) (hb : PE X b (tF X.K T (evE G cl b'))) (hc : PE X c (tF X.K T (evE G cl c'))) (hp : pln c = true) :
    PT X (.Compare a [o, p] [b, c] pos) (tT X.K T (evE G cl (.cmp2 o p a' b' c'))) := by
  refine impT (pt_chain (or_cmp hu o) (or_cmp hu p) ha hb hc (pln_last hp o p)) fun σ H Q q => ?_
  obtain ⟨φ, ρ, env, st, b, st', ws, sl, he, k⟩ := q
  obtain ⟨x, d', he, h6, h7⟩ := tst_some he
  refine chain_ok ws sl he fun b' H' e p => ?_
  subst e
  cases h6
  cases h7
  exact ⟨_, rfl, k _ p⟩
theorem ok_ite (hc : PT X c (tT X.K T (evE G cl c'))) (ha : PE X a (tF X.K T (evE G cl a'))) (hb : PE X b (tF X.K T (evE G cl b'))) : PE X (.IfExp c a b pos) (tF X.K T (evE G cl (.ite c' a' b'))) := by
  refine imp (pe_ifExp hc ha hb) fun σ H Q q => ?_
  obtain ⟨φ, ρ, env, st, x, st', ws, sl, he, k⟩ := q
  simp only [evE] at he
  split at he
  · rename_i st1 h1
    exact seqT ws sl h1 fun H1 w1 s1 e1 => iteT ⟨φ, ρ, env, st1, x, st', w1, s1, he, fun v H' p => k v H' (p.pre e1)⟩
  · rename_i st1 h1
    exact seqT ws sl h1 fun H1 w1 s1 e1 => iteF ⟨φ, ρ, env, st1, x, st', w1, s1, he, fun v H' p => k v H' (p.pre e1)⟩
  · cases he
theorem okT_ite (hc : PT X c (tT X.K T (evE G cl c'))) (ha : PT X a (tT X.K T (evE G cl a'))) (hb : PT X b (tT X.K T (evE G cl b'))) : PT X (.IfExp c a b pos) (tT X.K T (evE G cl (.ite c' a' b'))) := by
  refine ⟨fun pins s σ H Q I q => ?_⟩
  obtain ⟨φ, ρ, env, st, r, st', ws, sl, he, k⟩ := q
  have he : tstE (match tstE (evE G cl c' env st) with | some (true, st1) => evE G cl a' env st1 | some (false, st1) => evE G cl b' env st1 | none => none) = some (r, st') := by
    simp only [evE] at he; exact he
  cases h1 : tstE (evE G cl c' env st) with
  | none => rw [h1] at he; cases he
  | some p =>
    obtain ⟨t, st1⟩ := p
    rw [h1] at he
    refine PyProof.Rows.isTrue_IfExp (thn (hc.run pins s σ H _ I (seqT (R := fun b H1 => b = t ∧ Ws X.K T φ ρ H1 st1 ∧ Sl X.K φ ρ H1 env σ ∧ Ext ρ H H1) ws sl h1 fun H1 w1 s1 e1 => ⟨rfl, w1, s1, e1⟩)) fun t' s1 ⟨H1, I1, et, w1, s1', e1⟩ => ?_)
    subst et
    cases t' with
    | true => exact PyProof.Rows.ite_tt (ha.run pins s1 σ H1 Q I1 (seqT w1 s1' he fun H2 w2 s2 e2 => k H2 ⟨w2, s2, e1.trans e2⟩))
    | false => exact PyProof.Rows.ite_ff (hb.run pins s1 σ H1 Q I1 (seqT w1 s1' he fun H2 w2 s2 e2 => k H2 ⟨w2, s2, e1.trans e2⟩))
end
end Ev
set_option linter.all false
set_option maxRecDepth 100000
set_option maxHeartbeats 4000000
/-! Ev5: arguments, displays, subscripts, built-in functions. -/
namespace Ev
open PySem PySem.Spec L2
variable {K : PySem.W.Frag} {T : List (Addr × Str)} {X : Cx} {G : Pk} {cl : Str → List SV → Sto → Option (ER × Sto)}

/-! ### arguments -/
def RRs (K : PySem.W.Frag) (φ ρ : List Addr) (H : Hp) : List ER → List V → Prop
  | [], [] => True
  | r :: rs, v :: vs => RR K φ ρ H r v ∧ RRs K φ ρ H rs vs
  | _, _ => False
theorem RRs.ext {φ ρ : List Addr} {H H' : Hp} (x : Ext φ H H') (f : Lst φ H) : ∀ {rs : List ER} {vs : List V}, RRs K φ ρ H rs vs → RRs K φ ρ H' rs vs
  | [], [], _ => True.intro
  | _ :: _, _ :: _, ⟨a, b⟩ => ⟨RS.ext x f a, RRs.ext x f b⟩
theorem RRs.length {φ ρ : List Addr} {H : Hp} : ∀ {rs : List ER} {vs : List V}, RRs K φ ρ H rs vs → rs.length = vs.length
  | [], [], _ => rfl
  | _ :: _, _ :: _, ⟨_, b⟩ => congrArg (· + 1) (RRs.length b)
def tFs (K : PySem.W.Frag) (T : List (Addr × Str)) (F : Env → Sto → Option (List ER × Sto)) : TA := fun σ H Q =>
  ∃ φ ρ env st rs st', Ws K T φ ρ H st ∧ Sl K φ ρ H env σ ∧ F env st = some (rs, st') ∧ ∀ vs H', PostB K T φ ρ H H' env σ st' → RRs K φ ρ H' rs vs → Q vs H'
def tDs (K : PySem.W.Frag) (T : List (Addr × Str)) (F : Env → Sto → Option (List D × Sto)) : TA := fun σ H Q =>
  ∃ φ ρ env st ds st', Ws K T φ ρ H st ∧ Sl K φ ρ H env σ ∧ F env st = some (ds, st') ∧ ∀ vs H', PostB K T φ ρ H H' env σ st' → RDs K φ H' vs ds → Q vs H'
theorem oks_nil : PA X [] (tFs X.K T (evEs G cl [])) := impA pa_nil fun σ H Q q => by
  obtain ⟨φ, ρ, env, st, rs, st', ws, sl, he, k⟩ := q
  simp only [evEs] at he
  cases he
  exact k [] H ⟨ws, sl, .refl _ _⟩ True.intro
theorem oks_cons {e : Expr} {es : List Expr} {e' : IE} {es' : List IE} (hp : pln e = true) (he : PE X e (tF X.K T (evE G cl e'))) (hes : PA X es (tFs X.K T (evEs G cl es'))) : PA X (e :: es) (tFs X.K T (evEs G cl (e' :: es'))) := by
  refine impA (pa_cons he hes (pln_star hp es _)) fun σ H Q q => ?_
  obtain ⟨φ, ρ, env, st, rs, st', ws, sl, h, k⟩ := q
  simp only [evEs] at h
  split at h
  · rename_i r st1 h1
    split at h
    · rename_i rs2 st2 h2
      cases h
      exact seq1 ws sl h1 fun u H1 w1 s1 e1 r1 => ⟨φ, ρ, env, st1, rs2, _, w1, s1, h2, fun vs H' p rr => k _ _ ⟨p.ws, p.sl, e1.trans p.ext⟩ ⟨RS.ext (p.ext.more w1.sub) w1.fl r1, rr⟩⟩
    · cases h
  · cases h
theorem okd_nil : PA X [] (tDs X.K T (evDs G cl [])) := impA pa_nil fun σ H Q q => by
  obtain ⟨φ, ρ, env, st, rs, st', ws, sl, he, k⟩ := q
  simp only [evDs] at he
  cases he
  exact k [] H ⟨ws, sl, .refl _ _⟩ .nil
theorem okd_cons {e : Expr} {es : List Expr} {e' : IE} {es' : List IE} (hp : pln e = true) (he : PE X e (tF X.K T (evE G cl e'))) (hes : PA X es (tDs X.K T (evDs G cl es'))) : PA X (e :: es) (tDs X.K T (evDs G cl (e' :: es'))) := by
  refine impA (pa_cons he hes (pln_star hp es _)) fun σ H Q q => ?_
  obtain ⟨φ, ρ, env, st, rs, st', ws, sl, h, k⟩ := q
  simp only [evDs] at h
  split at h
  · rename_i r fr st1 h1
    split at h
    · rename_i rs2 st2 h2
      cases h
      exact seq1 ws sl h1 fun u H1 w1 s1 e1 r1 => ⟨φ, ρ, env, st1, rs2, _, w1, s1, h2, fun vs H' p rr => k _ _ ⟨p.ws, p.sl, e1.trans p.ext⟩ (.cons (RD.ext (p.ext.more w1.sub) w1.fl r1) rr)⟩
    · cases h
  · cases h

/-! ### displays -/
section
variable {a b : Expr} {es : List Expr} {a' b' : IE} {es' : List IE} {pos : Pos}
theorem ok_tup {k : Nat} (h : PA X es (tDs X.K T (evDs G cl es'))) : PE X (.Tuple es k pos) (tF X.K T (evE G cl (.tup es'))) := by
  refine imp (pe_tup h) fun σ H Q q => ?_
  obtain ⟨φ, ρ, env, st, x, st', ws, sl, he, k⟩ := q
  simp only [evE] at he
  split at he
  · rename_i ds st1 h1
    split at he
    · rename_i hl
      cases he
      exact ⟨φ, ρ, env, st, ds, _, ws, sl, h1, fun vs H1 p rr => ⟨by rw [rr.length]; exact hl, fun q hq => k _ _ ((Post.tup p.ws p.sl hq rr).pre p.ext)⟩⟩
    · cases he
  · cases he
theorem ok_lst (h : PA X es (tDs X.K T (evDs G cl es'))) : PE X (.List es pos) (tF X.K T (evE G cl (.lst es'))) := by
  refine imp (pe_lst h) fun σ H Q q => ?_
  obtain ⟨φ, ρ, env, st, x, st', ws, sl, he, k⟩ := q
  simp only [evE] at he
  split at he
  · rename_i ds st1 h1
    split at he
    · rename_i hl
      cases he
      exact ⟨φ, ρ, env, st, ds, _, ws, sl, h1, fun vs H1 p rr => ⟨by rw [rr.length]; exact hl, fun q hq => k _ _ ((Post.lst p.ws p.sl hq rr).pre p.ext)⟩⟩
    · cases he
  · cases he

/-! ### subscripts -/
theorem ok_idx (hu : X.A.units + 65 < cLine) (ha : PE X a (tF X.K T (evE G cl a'))) (hb : PE X b (tF X.K T (evE G cl b'))) (hp : pln b = true) : PE X (.Subscript a b pos) (tF X.K T (evE G cl (.idx a' b'))) := by
  refine imp (pe_ix ((ix_list.or ix_tup).or (ix_dict (by omega))) ha hb (pln_ix hp)) fun σ H Q q => ?_
  obtain ⟨φ, ρ, env, st, x, st', ws, sl, he, k⟩ := q
  simp only [evE] at he
  split at he
  · rename_i x1 st1 h1
    split at he
    · rename_i x2 st2 h2
      split at he
      · rename_i d e h3 h4
        split at he
        · rename_i r h5
          cases he
          exact seq2 ws sl h1 h2 fun u v H2 w2 s2 e2 ru rv => idx_ok (rd_view w2 ru h3) (rd_view w2 rv h4) h5 fun v hv => k _ _ ⟨w2, s2, e2, hv, fun d e => by cases e⟩
        · cases he
      · cases he
    · cases he
  · cases he
def tOO (K : PySem.W.Frag) (T : List (Addr × Str)) (F : Env → Sto → Option (Option Int × Sto)) : TO := fun σ H Q =>
  ∃ φ ρ env st o st', Ws K T φ ρ H st ∧ Sl K φ ρ H env σ ∧ F env st = some (o, st') ∧ ∀ H', PostB K T φ ρ H H' env σ st' → Q o H'
theorem oko_none : PO X none (tOO X.K T (evO G cl none)) := by
  refine ⟨fun pins s σ H Q I q => po_none.run pins s σ H Q I ?_⟩
  obtain ⟨φ, ρ, env, st, o, st', ws, sl, he, k⟩ := q
  simp only [evO] at he
  cases he
  exact k H ⟨ws, sl, .refl _ _⟩
theorem oko_some (ha : PE X a (tF X.K T (evE G cl a'))) : PO X (some a) (tOO X.K T (evO G cl (some a'))) := by
  refine ⟨fun pins s σ H Q I q => (po_some ha).run pins s σ H Q I ?_⟩
  obtain ⟨φ, ρ, env, st, o, st', ws, sl, he, k⟩ := q
  simp only [evO] at he
  split at he
  · rename_i i fr st1 h1
    cases he
    refine seq1 ws sl h1 fun u H1 w1 s1 e1 r1 => ?_
    cases (show RD X.K φ H1 u (.int i) from r1)
    exact ⟨_, rfl, k _ ⟨w1, s1, e1⟩⟩
  · cases he
theorem ok_cut {lo hi : Option Expr} {lo' hi' : Option IE} {p2 : Pos} (ha : PE X a (tF X.K T (evE G cl a'))) (hl : PO X lo (tOO X.K T (evO G cl lo'))) (hh : PO X hi (tOO X.K T (evO G cl hi'))) :
    PE X (.Subscript a (.Slice lo hi none p2) pos) (tF X.K T (evE G cl (.cut a' lo' hi'))) := by
  refine imp (pe_slice sl_any ha hl hh) fun σ H Q q => ?_
  obtain ⟨φ, ρ, env, st, x, st', ws, sl, he, k⟩ := q
  simp only [evE] at he
  split at he
  · rename_i x1 st1 h1
    split at he
    · rename_i l st2 h2
      split at he
      · rename_i h st3 h3
        refine seq1 ws sl h1 fun u H1 w1 s1 e1 r1 => ⟨φ, ρ, env, st1, l, st2, w1, s1, h2, fun H2 p2 => ⟨φ, ρ, env, st2, h, st3, p2.ws, p2.sl, h3, fun H3 p3 => ?_⟩⟩
        have r3 : RR X.K φ ρ H3 x1 u := RS.ext (p3.ext.more p2.ws.sub) p2.ws.fl (RS.ext (p2.ext.more w1.sub) w1.fl r1)
        have e3 : Ext ρ H H3 := e1.trans (p2.ext.trans p3.ext)
        split at he
        · rename_i xs h4
          cases he
          obtain ⟨ad, ys, rfl, h5, h6⟩ := (rd_view p3.ws r3 h4 : RV X.K φ H3 u (.list xs))
          exact cut_ok_l p3.ws p3.sl h5 h6 fun v H' p => k v H' (p.pre e3)
        · rename_i xs h4
          cases he
          have r4 : RV X.K φ H3 u (.tuple xs) := rd_view p3.ws r3 h4
          cases r4 with
          | tup h5 h6 => exact cut_ok_t p3.ws p3.sl h5 h6 fun v H' p => k v H' (p.pre e3)
        · cases he
      · cases he
    · cases he
  · cases he

/-! ### kinds -/
theorem ok_isi {t : String} {p p2 : Pos} (hg : Gl X "isinstance") (hm : X.mg "isinstance" = none) (hgt : Gl X (Str.ofString t)) (hmt : X.mg (Str.ofString t) = none) (hv : bootBuiltins (Str.ofString t) = some (.type t)) (hn : Str.ofString t ≠ "__name__") (hd : (Str.ofString t == ("__debug__" : Str)) = false)
    (ha : PE X a (tF X.K T (evE G cl a'))) (hp : pln a = true) : PE X (.Call (.Name "isinstance" p) [a, .Name (Str.ofString t) p2] [] pos) (tF X.K T (evE G cl (.isi a' t))) := by
  refine imp (pe_callB call_isi hg hm PyProof.Rows.boot_isinstance (pa_cons ha (pa_cons (pe_bltn (v := .ty t) hgt hmt hv rfl hn hd) pa_nil) (pln_star hp _ _)) (he := pln_star hp _ _) (hpl := by rfl)) fun σ H Q q => ?_
  obtain ⟨φ, ρ, env, st, x, st', ws, sl, he, k⟩ := q
  simp only [evE] at he
  split at he
  · rename_i x1 st1 h1
    split at he
    · rename_i d h2
      split at he
      · rename_i b h3
        cases he
        exact seq1 ws sl h1 fun u H1 w1 s1 e1 r1 => isi_ok (rd_view w1 r1 h2) h3 (k _ _ ⟨w1, s1, e1, .bl _, fun d e => by cases e⟩)
      · cases he
    · cases he
  · cases he
end
theorem findD_some {d : D} : ∀ {ds : List D} {k j : Nat}, findD d k ds = some j → ∃ i, j = k + i ∧ ∃ z, ds[i]? = some z ∧ PyData.eqv z d = true ∧ ∀ (m : Nat) (z' : D), m < i → ds[m]? = some z' → PyData.eqv z' d = false
  | [], _, _, h => by cases h
  | z :: r, k, j, h => by
    unfold findD at h
    split at h
    · rename_i e
      cases h
      exact ⟨0, rfl, z, rfl, e, fun m z' hm => absurd hm (Nat.not_lt_zero _)⟩
    · rename_i e
      obtain ⟨i, e1, z1, h1, h2, h3⟩ := findD_some h
      refine ⟨i + 1, by omega, z1, by simpa using h1, h2, fun m z' hm hz => ?_⟩
      cases m with
      | zero =>
        cases hz
        simpa using e
      | succ m => exact h3 m z' (by omega) (by simpa using hz)
theorem ok_indx {x0 : Str} {p0 : Pos} {b : Expr} {a' b' : IE} {apos cpos : Pos} (hu : X.A.units + 65 < cLine) (ha : PE X (.Name x0 p0) (tF X.K T (evE G cl a'))) (hb : PE X b (tF X.K T (evE G cl b'))) (hp : pln b = true) (hl : (apos.endLine == cpos.line) = true) :
    PE X (.Call (.Attribute (.Name x0 p0) "index" apos) [b] [] cpos) (tF X.K T (evE G cl (.indx a' b'))) := by
  refine imp (pe_bm PySem.F.plainAttrs_list PySem.F.slot_list_index PySem.F.type_list_index (mt_indexD hu) ha (pa_cons hb pa_nil (pln_star hp _ _)) (by rfl) (by rw [pln_star hp]; rfl) hl (pln_star hp _ _) (by rfl)) fun σ H Q q => ?_
  obtain ⟨φ, ρ, env, st, x, st', ws, sl, he, k⟩ := q
  simp only [evE] at he
  split at he
  · rename_i x1 st1 h1
    split at he
    · rename_i y st2 h2
      split at he
      · rename_i ds0 ds d h3 h4 h5
        split at he
        · rename_i hs
          obtain ⟨s1, s2⟩ := Bool.and_eq_true_iff.mp hs
          split at he
          · rename_i j hj
            cases he
            obtain ⟨i, ei, z, f1, f2, f3⟩ := findD_some hj
            rw [Nat.zero_add] at ei
            subst ei
            refine seq1 ws sl h1 fun u H1 w1 sl1 e1 r1 => ?_
            obtain ⟨p, vs, rfl, hp1, _⟩ := rd_view w1 r1 h3
            refine ⟨.inl ⟨rfl, vs, .inl (.inl hp1)⟩, seq1 w1 sl1 h2 fun v H2 w2 sl2 e2 r2 => ?_⟩
            have hx := rd_view w2 (RS.ext (e2.more w1.sub) w1.fl r1) h4
            have hy := rd_view w2 r2 h5
            exact ⟨p, v, d, ds, j, z, rfl, rfl, hx.dp s1, hy.dp s2, s1, s2, f1, f2, f3, k _ _ ⟨w2, sl2, e1.trans e2, .int _, fun d e => by cases e⟩⟩
          · cases he
        · cases he
      · cases he
    · cases he
  · cases he
/-! ### xs.index(y, k) -/
def rIndexD3 (K : PySem.W.Frag) : V → List V → Hp → VK → Prop := fun x xs H Q => ∃ (a : Addr) (y : V) (d : PyData) (ds : List PyData) (k : Int) (j : Nat) (z : PyData), x = V.ref a ∧ xs = [y, .int k] ∧ Dp K H (V.ref a) (.list ds) ∧ Dp K H y d ∧
  SeqAt.shaped (.list ds) = true ∧ SeqAt.shaped d = true ∧ 0 ≤ k ∧ k.toNat ≤ j ∧ ds[j]? = some z ∧ PyData.eqv z d = true ∧ (∀ (m : Nat) (z' : PyData), k.toNat ≤ m → m < j → ds[m]? = some z' → PyData.eqv z' d = false) ∧ Q (.int (j : Nat)) H
theorem mt_indexD3 (hu : X.A.units + 65 < cLine) : MtR X "list.index" (rIndexD3 X.K) := by
  intro pins s σ H x xs v us Q I rx rxs h
  obtain ⟨a, y, d, ds, k, j, z, rfl, rfl, hl, hy, sl, sd, hk0, hkj, hz, hzj, hno, q⟩ := h
  cases rx
  cases rxs with
  | cons ry rt =>
    rename_i uy ut
    cases rt with
    | cons rk rt =>
      rename_i uk ut
      cases rt
      obtain ⟨tk, rfl⟩ := (show ∃ t, uk = Value.int k t from rk)
      obtain ⟨bs, r1⟩ := Dp.reads I d y uy hy ry
      have hxs : PyData.canLayAll0 ds = true := SeqAt.canLay_of_shaped sl
      have hroom : X.A.units + 1 + min (PyData.depthAll ds) d.depth < cLine := PyProof.Rows.room_in_shaped sd hu
      cases hl with
      | lst hs ha =>
        obtain ⟨its, rv, ⟨⟨cls, dd, data, sls⟩, n, ho, hc, hdn, hdt⟩, hlen⟩ := I.list hs
        simp only at hc hdt
        subst hc hdt
        obtain ⟨as, h4⟩ := Dp.readsAll I ds _ its ha rv
        have hn : its.length = ds.length := SeqAt.ReadsAll.length ds its as h4
        have hmap : its.map (SeqAt.readOf s.heap) = ds := SeqAt.readsAll_map ds its as hxs h4
        have hvl := rv.length
        have hsl := sizeLine_eq
        obtain ⟨hjd, _⟩ := List.getElem?_eq_some_iff.mp hz
        have hjl : j < its.length := by omega
        have hj : j < its.toArray.size := by simpa using hjl
        have at_ : ∀ (m : Nat) (hm : m < its.toArray.size) (z' : PyData), ds[m]? = some z' → SeqAt.readOf s.heap its.toArray[m] = z' := by
          intro m hm z' hz'
          have hml : m < its.length := by simpa using hm
          rw [← hmap, List.getElem?_map, List.getElem?_eq_getElem hml] at hz'
          have e1 : SeqAt.readOf s.heap its[m] = z' := Option.some.inj (show some (SeqAt.readOf s.heap its[m]) = some z' from hz')
          simpa using e1
        have sf : SeqAt.searchFrom k its.toArray.size = k.toNat := SeqAt.searchFrom_nonneg hk0 _
        have all := SeqAt.items_eqAt (vs := its.toArray) (show ReadsAll s.heap its.toArray.toList ds as from h4) r1 hxs (SeqAt.canLay_of_shaped sd) hroom
        refine call_meets PySem.F.slot_list_index ⟨_, ho, rfl⟩ PySem.F.entry_list_index (PySem.F.args_list_index_3 _ _ _)
          (SeqAt.list_index3_found a its.toArray n dd sls uy (fun m => PyData.eqv (ds.getD m .none) d) k tk j hj (by rw [sf]; exact hkj) (by omega) ?_ ?_) ⟨ho, fun m hm => ?_, ?_⟩
        · show PyData.eqv (ds.getD j .none) d = true
          rw [List.getD_eq_getElem?_getD, hz]
          exact hzj
        · intro m hm hkm hmj
          rw [sf] at hkm
          have hmd : m < ds.length := by omega
          have hz' : ds[m]? = some ds[m] := List.getElem?_eq_getElem hmd
          show PyData.eqv (ds.getD m .none) d = false
          rw [List.getD_eq_getElem?_getD, hz']
          exact hno m _ hkm hmj hz'
        · have hmd : m < ds.length := by
            have : m < its.length := by simpa using hm
            omega
          have hz' : ds[m]? = some ds[m] := List.getElem?_eq_getElem hmd
          have e := all _ (Array.getElem_mem hm)
          rw [at_ m hm _ hz'] at e
          show SeqAt.EqAt _ _ _ _ (PyData.eqv (ds.getD m .none) d)
          rw [List.getD_eq_getElem?_getD, hz']
          exact e
        · exact ⟨.int (j : Nat), H, I.tok _, ⟨_, rfl⟩, q⟩
theorem findD_drop {d : D} {ds : List D} {k j : Nat} (h : findD d k (ds.drop k) = some j) : k ≤ j ∧ ∃ z, ds[j]? = some z ∧ PyData.eqv z d = true ∧ ∀ (m : Nat) (z' : D), k ≤ m → m < j → ds[m]? = some z' → PyData.eqv z' d = false := by
  obtain ⟨i, ei, z, f1, f2, f3⟩ := findD_some h
  subst ei
  refine ⟨by omega, z, by rw [List.getElem?_drop] at f1; exact f1, f2, fun m z' h1 h2 h3 => ?_⟩
  refine f3 (m - k) z' (by omega) ?_
  rw [List.getElem?_drop, show k + (m - k) = m by omega]
  exact h3
theorem ok_indx3 {x0 f0 : Str} {p0 fp : Pos} {b c : Expr} {a' b' c' : IE} {apos cpos : Pos} (hu : X.A.units + 65 < cLine) (ha : PE X (.Attribute (.Name x0 p0) f0 fp) (tF X.K T (evE G cl a'))) (hb : PE X b (tF X.K T (evE G cl b'))) (hc : PE X c (tF X.K T (evE G cl c'))) (hp : pln b = true) (hp2 : pln c = true) (hl : (apos.endLine == cpos.line) = true) :
    PE X (.Call (.Attribute (.Attribute (.Name x0 p0) f0 fp) "index" apos) [b, c] [] cpos) (tF X.K T (evE G cl (.indx3 a' b' c'))) := by
  refine imp (pe_bm PySem.F.plainAttrs_list PySem.F.slot_list_index PySem.F.type_list_index (mt_indexD3 hu) ha (pa_cons hb (pa_cons hc pa_nil (pln_star hp2 _ _)) (pln_star hp _ _)) (by rfl) (by rw [pln_star hp, pln_star hp2]; rfl) hl (pln_star hp _ _) (by rw [pln_star hp2]; rfl)) fun σ H Q q => ?_
  obtain ⟨φ, ρ, env, st, x, st', ws, sl, he, k⟩ := q
  simp only [evE] at he
  split at he
  · rename_i x1 st1 h1
    split at he
    · rename_i y st2 h2
      split at he
      · rename_i kk fr st3 h2b
        split at he
        · rename_i ds0 ds d h3 h4 h5
          split at he
          · rename_i hs
            obtain ⟨hs, hk0⟩ := hs
            obtain ⟨s1, s2⟩ := Bool.and_eq_true_iff.mp hs
            split at he
            · rename_i j hj
              cases he
              obtain ⟨f0, z, f1, f2, f3⟩ := findD_drop hj
              refine seq1 ws sl h1 fun u H1 w1 sl1 e1 r1 => ?_
              obtain ⟨p, vs, rfl, hp1, _⟩ := rd_view w1 r1 h3
              refine ⟨.inl ⟨rfl, vs, .inl (.inl hp1)⟩, seq1 w1 sl1 h2 fun v H2 w2 sl2 e2 r2 => ?_⟩
              refine seq1 w2 sl2 h2b fun v3 H3 w3 sl3 e3 r3 => ?_
              have hx := rd_view w3 (RS.ext (e3.more w2.sub) w2.fl (RS.ext (e2.more w1.sub) w1.fl r1)) h4
              have hy := rd_view w3 (RS.ext (e3.more w2.sub) w2.fl r2) h5
              cases (show RD X.K φ H3 v3 (.int kk) from r3)
              exact ⟨p, v, d, ds, kk, j, z, rfl, rfl, hx.dp s1, hy.dp s2, s1, s2, hk0, f0, f1, f2, f3, k _ _ ⟨w3, sl3, (e1.trans e2).trans e3, .int _, fun d e => by cases e⟩⟩
            · cases he
          · cases he
        · cases he
      · cases he
    · cases he
  · cases he
/-! ### an object's fields -/
theorem fs_str {φ : List Addr} {H : Hp} {k : Str} {z : D} : ∀ (fs : List (Str × V)) (ds : List (D × D)), ds.map (·.1) = fs.map (fun p => PyData.str p.1) → RDs K φ H (fs.map (·.2)) (ds.map (·.2)) → fldD k ds = some z → ∃ v, fs.lookup k = some v ∧ RD K φ H v z
  | [], [], _, _, e => by cases e
  | [], _ :: _, h, _, _ => by simp at h
  | _ :: _, [], h, _, _ => by simp at h
  | (y, v) :: fs, (dk, d) :: ds, h, r, e => by
    simp only [List.map_cons, List.cons.injEq] at h
    obtain ⟨rfl, h2⟩ := h
    cases r with
    | cons a b =>
      simp only [fldD] at e
      split at e
      · rename_i hy
        cases e
        obtain rfl := of_decide_eq_true hy
        exact ⟨v, by simp [List.lookup], a⟩
      · rename_i hy
        obtain ⟨w, e1, e2⟩ := fs_str fs ds h2 b e
        refine ⟨w, ?_, e2⟩
        have hy : ¬ y = k := fun q => hy (decide_eq_true q)
        have : (k == y) = false := by simpa using fun q => hy q.symm
        simp only [List.lookup, this]
        exact e1
theorem fs_no {k : Str} : ∀ (fs : List (Str × V)) (ds : List (D × D)), ds.map (·.1) = fs.map (fun p => PyData.str p.1) → fldD k ds = none → fs.lookup k = none
  | [], [], _, _ => rfl
  | [], _ :: _, h, _ => by simp at h
  | _ :: _, [], h, _ => by simp at h
  | (y, v) :: fs, (dk, d) :: ds, h, e => by
    simp only [List.map_cons, List.cons.injEq] at h
    obtain ⟨rfl, h2⟩ := h
    simp only [fldD] at e
    split at e
    · cases e
    · rename_i hy
      have hy : ¬ y = k := fun q => hy (decide_eq_true q)
      have : (k == y) = false := by simpa using fun q => hy q.symm
      simp only [List.lookup, this]
      exact fs_no fs ds h2 e
theorem RD.obj_inv {φ : List Addr} {H : Hp} {v : V} {c : Str} {ds : List (D × D)} (h : RD K φ H v (.dict ((.none, .str c) :: ds))) :
    ∃ a C dx fs, v = .ref a ∧ a ∉ φ ∧ H a = some (.ins C dx fs) ∧ PySem.W.nsIn K mainGlobals c = some (some (.ref C)) ∧ ds.map (·.1) = fs.map (fun p => PyData.str p.1) ∧ RDs K φ H (fs.map (·.2)) (ds.map (·.2)) := by
  cases h with
  | dct n1 e1 h2 r1 =>
    rename_i a kvs
    cases kvs with
    | nil => simp at h2
    | cons p kvs =>
      obtain ⟨k, w⟩ := p
      simp only [List.map_cons, List.cons.injEq] at h2
      cases k <;> cases h2.1
  | obj n e c l r => exact ⟨_, _, _, _, rfl, n, e, c, l, r⟩
def FlOk (K : PySem.W.Frag) (fl : List (Str × Str)) : Prop := ∀ c x, (c, x) ∈ fl → ∃ C, PySem.W.nsIn K mainGlobals c = some (some (.ref C)) ∧ Cls K C ∧ NoAttr K C x
theorem ok_fld {x0 f : Str} {p0 pos : Pos} {a' : IE} (hfl : FlOk X.K G.fl) (ha : PE X (.Name x0 p0) (tF X.K T (evE G cl a'))) : PE X (.Attribute (.Name x0 p0) f pos) (tF X.K T (evE G cl (.fld a' f))) := by
  refine imp (pe_fld ha (by rfl)) fun σ H Q q => ?_
  obtain ⟨φ, ρ, env, st, x, st', ws, sl, he, k⟩ := q
  simp only [evE] at he
  split at he
  · rename_i c kvs fr st1 h1
    split at he
    · rename_i hc
      split at he
      · rename_i d hd
        cases he
        refine seq1 ws sl h1 fun u H1 w1 s1 e1 r1 => ?_
        obtain ⟨a, C, dx, fs, rfl, n, e, hC, l, r⟩ := RD.obj_inv (show RD X.K φ H1 u _ from r1)
        obtain ⟨C2, hC2, cls, na⟩ := hfl c f (by simpa using hc)
        rw [hC] at hC2
        cases hC2
        obtain ⟨v, hv, rv⟩ := fs_str fs kvs l r hd
        exact ⟨_, C, _, _, v, rfl, e, cls, na, hv, k _ _ ⟨w1, s1, e1, rv, fun d e => by cases e⟩⟩
      · cases he
    · cases he
  · cases he
end Ev
set_option linter.all false
set_option maxRecDepth 100000
set_option maxHeartbeats 4000000
/-! Ev6: calls: of the package's own functions, of built-in ones. -/
namespace Ev
open PySem PySem.Spec L2
variable {K : PySem.W.Frag} {T : List (Addr × Str)} {X : Cx} {G : Pk} {cl : Str → List SV → Sto → Option (ER × Sto)}

/-! ### own functions -/
/-- what a call promises, by cl -/
def spC (K : PySem.W.Frag) (T : List (Addr × Str)) (cl : Str → List SV → Sto → Option (ER × Sto)) (f : Str) (n : Nat) : Sp := fun vs H Q _ =>
  vs.length = n ∧ ∃ φ ρ rs st r st', Ws K T φ ρ H st ∧ RRs K φ ρ H rs vs ∧ cl f (rs.map svE) st = some (r, st') ∧ ∀ v H', Post K T φ ρ H H' [] [] st' r v → Q v H'
/-- a function keeps its promise, where no repr is under way -/
structure FnE (P : Program) (w : World) (K : PySem.W.Frag) (mg : Str → Option Value) (base : Heap) (k : Nat) (f : Addr) (fd : FuncData) (ps : List Str) (sp : Sp) : Prop where
  run : ∀ (A : Around) (outer : List PySem.Env) (s : Shared) (H : Hp) (us : List Value) (vs : List V) (Q : VK), Room k A → A.guards = some [] → Env0 P w K mg base A outer s H → Vals vs us → sp vs H Q E0 →
    ∀ args, BindsTo s fd args (ps.zip us) → codeAny (model P w) A (.call (.ref f) args) (CR CX0 outer P w H s Q E0) s
/-- what making an object promises, by cl: x the object, dx its dict, both new -/
def spN (K : PySem.W.Frag) (T : List (Addr × Str)) (cl : Str → List SV → Sto → Option (ER × Sto)) (f : Str) (n : Nat) (C : Addr) : Sp := fun vs H Q _ => ∃ (x dx : Addr) (vs' : List V) (H1 : Hp), vs = .ref x :: vs' ∧ vs'.length = n ∧ H1 x = none ∧ H1 dx = none ∧ dx ≠ x ∧
  H = upd (upd H1 dx (.own x)) x (.ins C dx []) ∧ ∃ φ ρ rs st r st', Ws K T φ ρ H1 st ∧ RRs K φ ρ H1 rs vs' ∧ cl f (rs.map svE) st = some (r, st') ∧ ∀ H', Post K T φ ρ H1 H' [] [] st' r (.ref x) → Q .non H'
structure NewE (P : Program) (w : World) (K : PySem.W.Frag) (mg : Str → Option Value) (base : Heap) (T : List (Addr × Str)) (k : Nat) (cl : Str → List SV → Sto → Option (ER × Sto)) (f : Str) (ps : List Str) (C : Addr) : Prop where
  ex : (∀ svs st, cl f svs st = none) ∨ ∃ a fd k', k' + 1 ≤ k ∧ Mk K C a ∧ Binds K fd (("self" : Str) :: ps) [] ∧ FnE P w K mg base k' a fd (("self" : Str) :: ps) (spN K T cl f ps.length C)
/-- cl's functions are the module's -/
structure ClOk (P : Program) (w : World) (K : PySem.W.Frag) (mg : Str → Option Value) (base : Heap) (T : List (Addr × Str)) (k : Nat) (cl : Str → List SV → Sto → Option (ER × Sto)) (fs : List (Str × List Str)) (G : Pk) : Prop where
  nget : ∀ f ps, G.nws.lookup f = some ps → ∃ C, mg f = some (.ref C) ∧ NewE P w K mg base T k cl f ps C
  mget : ∀ c m ps, G.ms.lookup (c, m) = some ps → ∃ C a fd, PySem.W.nsIn K mainGlobals c = some (some (.ref C)) ∧ Cls K C ∧ Meth K C m a ∧ Binds K fd ps [] ∧ FnE P w K mg base k a fd ps (spC K T cl (c ++ ("." : Str) ++ m) ps.length)
  kget : ∀ f ks ix, (f, ks, ix) ∈ G.kc → ∃ ps a fd, mg f = some (.ref a) ∧ PySem.W.keepIn K (.ref a) = true ∧ ix.length = ps.length ∧ (∀ i ∈ ix, i < ks.length) ∧ (∀ (s : Shared) (ws : List Value), ws.length = ks.length → BindsTo s fd ⟨[], ks.zip ws⟩ (ps.zip (pick ix ws))) ∧ FnE P w K mg base k a fd ps (spC K T cl f ps.length)
  get : ∀ f ps, fs.lookup f = some ps → ∃ a fd, mg f = some (.ref a) ∧ PySem.W.keepIn K (.ref a) = true ∧ Binds K fd ps [] ∧ FnE P w K mg base k a fd ps (spC K T cl f ps.length)

theorem evEs_len : ∀ {es' : List IE} {env : Env} {st : Sto} {rs : List ER} {st1 : Sto}, evEs G cl es' env st = some (rs, st1) → rs.length = es'.length
  | [], env, st, rs, st1, h => by simp only [evEs] at h; cases h; rfl
  | e :: es', env, st, rs, st1, h => by
    simp only [evEs] at h
    split at h
    · split at h
      · rename_i h2
        cases h
        exact congrArg (· + 1) (evEs_len h2)
      · cases h
    · cases h
theorem back_pln {es : List Expr} (h : es.all pln = true) (pos : Pos) (env : PySem.Env) : (backTo pos (starEach es env)).any (·.1) = false := by
  induction es with
  | nil => rfl
  | cons e es ih =>
    rw [List.all_cons, Bool.and_eq_true] at h
    rw [pln_star h.1]
    show (((false, _) :: backTo pos (starEach es env)).any (·.1)) = false
    rw [List.any_cons, ih h.2]
    rfl
theorem Post.toCaller {φ ρ : List Addr} {H H' : Hp} {env : Env} {σ : L2.St} {st' : Sto} {r : ER} {v : V} (sl : Sl K φ ρ H env σ) (fl : Lst φ H) (sub : ∀ a ∈ ρ, a ∈ φ) (p : Post K T φ ρ H H' [] [] st' r v) : Post K T φ ρ H H' env σ st' r v := by
  refine ⟨p.ws, sl.ext (p.ext.more sub) fl, p.ext, p.rr, fun d e => ?_⟩
  obtain ⟨q, xs, ds, h1, h2, h3, h4, h5, h6, h7⟩ := p.fr d e
  refine ⟨q, xs, ds, h1, h2, h3, h4, h5, h6, (sl.fresh h3).ext (p.ext.more fun a h => List.mem_append_left _ (sub a h)) fun a ha o e => ?_⟩
  rcases List.mem_append.mp ha with ha | ha
  · exact fl a ha o e
  · rw [List.mem_singleton.mp ha, h3] at e; cases e
theorem runE {k : Nat} {f : Addr} {fd : FuncData} {ps : List Str} {sp : Sp} {pins : List (Addr × Obj)} {σ : L2.St} {H : Hp} {s : Shared} {Q : VK} {us : List Value} {vs : List V}
    (F : FnE X.prog X.w X.K X.mg X.base k f fd ps sp) (hr : Room k X.A) (hg : X.A.guards = some []) (hb : Binds X.K fd ps []) (hl : vs.length = ps.length)
    (I : Inv X pins σ H s) (r : Vals vs us) (h : sp vs H Q E0) : wpAny (model X.prog X.w) X.A (call (.ref f) us) (EP X pins σ Q) X.xe s := by
  have hb' : BindsTo s fd ⟨us, []⟩ (ps.zip us) := by
    have q := hb s us I.kIn (by rw [List.append_nil, ← r.length]; exact hl)
    rw [List.append_nil] at q
    exact q
  have go := F.run X.A X.stack s H us vs Q hr hg I.env0 r h _ hb'
  refine wpAny_call (codeAny_mono go fun res s2 hq => ?_)
  match res, hq with
  | .ok (.ret u), hq => exact I.after hq
theorem ok_call {k : Nat} {f : Str} {fs : List (Str × List Str)} {ps : List Str} {e : Expr} {es : List Expr} {es' : List IE} {p pos : Pos} (C : ClOk X.prog X.w X.K X.mg X.base T k cl fs G) (hf : fs.lookup f = some ps) (hr : Room k X.A) (hgu : X.A.guards = some [])
    (hg : Gl X f) (hd : (f == ("__debug__" : Str)) = false) (hps : ps.length = es'.length) (hes : PA X (e :: es) (tFs X.K T (evEs G cl es'))) (hp : (e :: es).all pln = true) :
    PE X (.Call (.Name f p) (e :: es) [] pos) (tF X.K T (evE G cl (.call f es'))) := by
  obtain ⟨a, fd, hm, hk, hb, F⟩ := C.get f ps hf
  have hp1 : pln e = true ∧ es.all pln = true := by rw [List.all_cons, Bool.and_eq_true] at hp; exact hp
  refine ⟨fun pins s σ H Q I q => ?_⟩
  obtain ⟨φ, ρ, env, st, x, st', ws, sl, he, k⟩ := q
  simp only [evE] at he
  split at he
  · rename_i rs st1 h1
    refine wpAny_Call_Name_kw (ld_glob I hg hm ?_ hd)
    refine PySem.W.callWith_K (h₀ := X.base) I.ok.mod.kin hk (thn (hes.run pos pins s σ H (fun vs H1 => vs.length = ps.length ∧ PostB X.K T φ ρ H H1 env σ st1 ∧ RRs X.K φ ρ H1 rs vs) I ⟨φ, ρ, env, st, rs, st1, ws, sl, h1, fun vs H1 p rr => ⟨?_, p, rr⟩⟩) fun us s1 q => ?_) (pln_star hp1.1 _ _) (back_pln hp1.2 _ _)
    · rw [← rr.length, hps]
      exact evEs_len h1
    · obtain ⟨vs, H1, I1, r1, hl, p, rr⟩ := q
      refine ⟨I1.kIn, runE F hr hgu hb hl I1 r1 ⟨hl, φ, ρ, rs, st1, x, st', p.ws, rr, he, fun v H' p' => k v H' ((p'.toCaller p.sl p.ws.fl p.ws.sub).pre p.ext)⟩⟩
  · cases he

theorem pick_len {α : Type} {ix : List Nat} {xs : List α} (h : ∀ i ∈ ix, i < xs.length) : (pick ix xs).length = ix.length := by
  unfold pick
  induction ix with
  | nil => rfl
  | cons i ix ih =>
    have hi := h i (List.mem_cons_self ..)
    rw [List.filterMap_cons, List.getElem?_eq_getElem hi]
    exact congrArg (· + 1) (ih fun j hj => h j (List.mem_cons_of_mem _ hj))
theorem pick_vals {vs : List V} {us : List Value} (r : Vals vs us) : ∀ ix : List Nat, Vals (pick ix vs) (pick ix us)
  | [] => .nil
  | i :: ix => by
    have ih := pick_vals r ix
    unfold pick at ih ⊢
    cases e : vs[i]? with
    | some v =>
      obtain ⟨u, hu, rv⟩ := r.get e
      rw [List.filterMap_cons_some e, List.filterMap_cons_some hu]
      exact .cons rv ih
    | none =>
      have hu : us[i]? = none := by
        rw [List.getElem?_eq_none_iff] at e ⊢
        rw [← r.length]; exact e
      rw [List.filterMap_cons_none e, List.filterMap_cons_none hu]
      exact ih
theorem RRs.get {φ ρ : List Addr} {H : Hp} : ∀ (rs : List ER) (vs : List V) (i : Nat) (u : V), RRs K φ ρ H rs vs → vs[i]? = some u → ∃ x, rs[i]? = some x ∧ RR K φ ρ H x u
  | [], [], _, _, _, h => by simp at h
  | x :: rs, v :: vs, 0, u, r, h => by
    cases h
    exact ⟨x, rfl, r.1⟩
  | x :: rs, v :: vs, i + 1, u, r, h => RRs.get rs vs i u r.2 (by simpa using h)
theorem pick_rrs {φ ρ : List Addr} {H : Hp} {rs : List ER} {vs : List V} (r : RRs K φ ρ H rs vs) : ∀ ix : List Nat, RRs K φ ρ H (pick ix rs) (pick ix vs)
  | [] => True.intro
  | i :: ix => by
    have ih := pick_rrs r ix
    unfold pick at ih ⊢
    cases e : vs[i]? with
    | some v =>
      obtain ⟨u, hu, rv⟩ := RRs.get _ _ _ _ r e
      rw [List.filterMap_cons_some e, List.filterMap_cons_some hu]
      exact ⟨rv, ih⟩
    | none =>
      have hu : rs[i]? = none := by
        rw [List.getElem?_eq_none_iff] at e ⊢
        rw [r.length]; exact e
      rw [List.filterMap_cons_none e, List.filterMap_cons_none hu]
      exact ih
theorem okk_nil : PK X [] (tFs X.K T (evEs G cl [])) := by
  refine ⟨fun pos pins s σ H Q I q => pk_nil.run pos pins s σ H Q I ?_⟩
  obtain ⟨φ, ρ, env, st, rs, st', ws, sl, he, k⟩ := q
  simp only [evEs] at he
  cases he
  exact k [] H ⟨ws, sl, .refl _ _⟩ True.intro
theorem okk_cons {nm : Option Str} {kpos : Pos} {e : Expr} {es : List Keyword} {e' : IE} {es' : List IE} (he : PE X e (tF X.K T (evE G cl e'))) (hes : PK X es (tFs X.K T (evEs G cl es'))) : PK X (⟨nm, e, kpos⟩ :: es) (tFs X.K T (evEs G cl (e' :: es'))) := by
  refine ⟨fun pos pins s σ H Q I q => (pk_cons he hes).run pos pins s σ H Q I ?_⟩
  obtain ⟨φ, ρ, env, st, rs, st', ws, sl, h, k⟩ := q
  simp only [evEs] at h
  split at h
  · rename_i r1 st1 h1
    split at h
    · rename_i rs2 st2 h2
      cases h
      refine ⟨φ, ρ, env, st, r1, st1, ws, sl, h1, fun v H1 p => ⟨φ, ρ, env, st1, rs2, _, p.ws, p.sl, h2, fun vs H2 p2 rr => k (v :: vs) H2 ⟨p2.ws, p2.sl, p.ext.trans p2.ext⟩ ⟨?_, rr⟩⟩⟩
      exact RS.ext (p2.ext.more p.ws.sub) p.ws.fl p.rr
    · cases h
  · cases h
theorem kws_all {kws : List Keyword} {ks : List Str} (h : kws.map (·.arg) = ks.map some) (pos : Pos) (env : PySem.Env) : (backToKw pos (keywordEach kws env)).all (·.1.isSome) = true ∧ (backToKw pos (keywordEach kws env)).filterMap (·.1) = ks ∧ (backToKw pos (keywordEach kws env)).any (·.1.isNone) = false := by
  induction kws generalizing ks with
  | nil =>
    cases ks with
    | nil => exact ⟨rfl, rfl, rfl⟩
    | cons _ _ => simp at h
  | cons kw kws ih =>
    cases ks with
    | nil => simp at h
    | cons n ks =>
      obtain ⟨nm, v, p⟩ := kw
      simp only [List.map_cons, List.cons.injEq] at h
      obtain ⟨rfl, h⟩ := h
      obtain ⟨h1, h2, h3⟩ := ih h
      have e : ∀ t, backToKw pos ((some n, t) :: keywordEach kws env) = (some n, do let v ← t; standAt pos; pure v) :: backToKw pos (keywordEach kws env) := fun t => rfl
      simp only [keywordEach, e, List.all_cons, List.any_cons, List.filterMap_cons, h1, h2, h3, Option.isSome_some, Option.isNone_some, Bool.and_self, Bool.or_self, and_self]
theorem ok_callk {k : Nat} {f : Str} {fs : List (Str × List Str)} {ks : List Str} {ix : List Nat} {kws : List Keyword} {es' : List IE} {p pos : Pos} (C : ClOk X.prog X.w X.K X.mg X.base T k cl fs G) (hf : (f, ks, ix) ∈ G.kc) (hr : Room k X.A) (hgu : X.A.guards = some [])
    (hg : Gl X f) (hd : (f == ("__debug__" : Str)) = false) (hn : kws.map (·.arg) = ks.map some) (hl : es'.length = ks.length) (hes : PK X kws (tFs X.K T (evEs G cl es'))) :
    PE X (.Call (.Name f p) [] kws pos) (tF X.K T (evE G cl (.callk f ks es' ix))) := by
  obtain ⟨ps, a, fd, hm, hk, hix, hlt, hb, F⟩ := C.kget f ks ix hf
  obtain ⟨k1, k2, k3⟩ := kws_all hn pos X.env
  refine ⟨fun pins s σ H Q I q => ?_⟩
  obtain ⟨φ, ρ, env, st, x, st', ws, sl, he, k⟩ := q
  simp only [evE] at he
  split at he
  · rename_i rs st1 h1
    have hlr : rs.length = ks.length := by rw [evEs_len h1, hl]
    refine wpAny_Call_Name_kw (ld_glob I hg hm ?_ hd)
    refine PySem.W.callWith_KW0 (h₀ := X.base) I.ok.mod.kin hk k1 (thn (hes.run pos pins s σ H (fun vs H1 => PostB X.K T φ ρ H H1 env σ st1 ∧ RRs X.K φ ρ H1 rs vs) I ⟨φ, ρ, env, st, rs, st1, ws, sl, h1, fun vs H1 p rr => ⟨p, rr⟩⟩) fun us s1 q => ?_) (by rw [k3]; rfl)
    obtain ⟨vs, H1, I1, r1, p, rr⟩ := q
    refine ⟨I1.kIn, ?_⟩
    rw [k2]
    have hlv : vs.length = ks.length := by rw [← rr.length, hlr]
    have hlu : us.length = ks.length := by rw [← r1.length, hlv]
    have hlp : (pick ix vs).length = ps.length := by rw [pick_len (fun i hi => by rw [hlv]; exact hlt i hi), hix]
    have go := F.run X.A X.stack s1 H1 (pick ix us) (pick ix vs) Q hr hgu I1.env0 (pick_vals r1 ix) ⟨hlp, φ, ρ, pick ix rs, st1, x, st', p.ws, pick_rrs rr ix, he, fun v H' p' => k v H' ((p'.toCaller p.sl p.ws.fl p.ws.sub).pre p.ext)⟩ ⟨[], ks.zip us⟩ (hb s1 us hlu)
    refine wpAny_call (codeAny_mono go fun res s2 hq => ?_)
    match res, hq with
    | .ok (.ret u), hq => exact I1.after hq
  · cases he
/-- f() -/
theorem ok_call0 {k : Nat} {f : Str} {fs : List (Str × List Str)} {p pos : Pos} (C : ClOk X.prog X.w X.K X.mg X.base T k cl fs G) (hf : fs.lookup f = some []) (hr : Room k X.A) (hgu : X.A.guards = some [])
    (hg : Gl X f) (hd : (f == ("__debug__" : Str)) = false) : PE X (.Call (.Name f p) [] [] pos) (tF X.K T (evE G cl (.call f []))) := by
  obtain ⟨a, fd, hm, hk, hb, F⟩ := C.get f [] hf
  refine ⟨fun pins s σ H Q I q => ?_⟩
  obtain ⟨φ, ρ, env, st, x, st', ws, sl, he, k⟩ := q
  simp only [evE, evEs] at he
  refine wpAny_Call_Name_kw (ld_glob I hg hm ?_ hd)
  exact PySem.W.callWith_K0 I.kIn hk (runE (us := []) (vs := []) F hr hgu hb rfl I .nil ⟨rfl, φ, ρ, [], st, x, st', ws, True.intro, he, fun v H' p' => k v H' (p'.toCaller sl ws.fl ws.sub)⟩)

/-! ### making an object; a method -/
theorem runN {k : Nat} {f C : Addr} {fd : FuncData} {ps : List Str} {sp : Sp} {pins : List (Addr × Obj)} {σ : L2.St} {H : Hp} {s : Shared} {Q : VK} {us : List Value} {vs : List V} (M : Mk X.K C f)
    (F : FnE X.prog X.w X.K X.mg X.base k f fd (("self" : Str) :: ps) sp) (hr : Room (k + 1) X.A) (hg : X.A.guards = some []) (hb : Binds X.K fd (("self" : Str) :: ps) []) (hl : vs.length = ps.length)
    (I : Inv X pins σ H s) (r : Vals vs us) (h : ∀ x dx, H x = none → H dx = none → dx ≠ x → sp (.ref x :: vs) (upd (upd H dx (.own x)) x (.ins C dx [])) (fun v H2 => v = .non ∧ Q (.ref x) H2) E0) :
    wpAny (model X.prog X.w) X.A (call (.ref C) us) (EP X pins σ Q) X.xe s := by
  have hq := h (s.heap.objs.size + 1) s.heap.objs.size (I.hok.fresh (Nat.le_succ _)) (I.hok.fresh (Nat.le_refl _)) (Nat.ne_of_lt (Nat.lt_succ_self _))
  have I2 := Inv.made (C := C) I
  have r2 : Vals (V.ref (s.heap.objs.size + 1) :: vs) (Value.ref (s.heap.objs.size + 1) :: us) := .cons rfl r
  have hl2 : (Value.ref (s.heap.objs.size + 1) :: us ++ []).length = (("self" : Str) :: ps).length := by
    rw [List.append_nil, List.length_cons, List.length_cons, ← r.length, hl]
  have hb' := hb _ (Value.ref (s.heap.objs.size + 1) :: us) I2.kIn hl2
  rw [List.append_nil] at hb'
  refine wpAny_call (make_map (f := f) I.kIn M.makes M.init (beq_iff_eq.mp M.fn) (codeAny_mono (F.run _ X.stack _ _ (Value.ref (s.heap.objs.size + 1) :: us) (V.ref (s.heap.objs.size + 1) :: vs) _ (hr.make C us []) hg
    (I2.env0.make C us []) r2 hq ⟨Value.ref (s.heap.objs.size + 1) :: us, []⟩ hb') fun r s' hq' => ?_))
  match r, hq' with
  | .ok (.ret u), hq' =>
    obtain ⟨v, H', I3, rv, ev, q3⟩ := I2.after hq'
    subst ev
    exact ⟨rv, ⟨V.ref (s.heap.objs.size + 1), H', I3, rfl, q3⟩⟩
theorem ok_new {k : Nat} {f : Str} {fs : List (Str × List Str)} {ps : List Str} {e : Expr} {es : List Expr} {es' : List IE} {p pos : Pos} (C : ClOk X.prog X.w X.K X.mg X.base T k cl fs G) (hf : G.nws.lookup f = some ps) (hr : Room k X.A) (hgu : X.A.guards = some [])
    (hg : Gl X f) (hd : (f == ("__debug__" : Str)) = false) (hps : ps.length = es'.length) (hes : PA X (e :: es) (tFs X.K T (evEs G cl es'))) (hp : (e :: es).all pln = true) :
    PE X (.Call (.Name f p) (e :: es) [] pos) (tF X.K T (evE G cl (.new f es'))) := by
  obtain ⟨Ca, hm, ⟨hN⟩⟩ := C.nget f ps hf
  have hp1 : pln e = true ∧ es.all pln = true := by rw [List.all_cons, Bool.and_eq_true] at hp; exact hp
  refine ⟨fun pins s σ H Q I q => ?_⟩
  obtain ⟨φ, ρ, env, st, x, st', ws, sl, he, k⟩ := q
  simp only [evE] at he
  split at he
  · rename_i rs st1 h1
    obtain ⟨a, fd, k', hk', M, hb, F⟩ := hN.resolve_left (fun z => by rw [z] at he; cases he)
    refine wpAny_Call_Name_kw (ld_glob I hg hm ?_ hd)
    refine PySem.W.callWith_K (h₀ := X.base) I.ok.mod.kin M.kp (thn (hes.run pos pins s σ H (fun vs H1 => vs.length = ps.length ∧ PostB X.K T φ ρ H H1 env σ st1 ∧ RRs X.K φ ρ H1 rs vs) I ⟨φ, ρ, env, st, rs, st1, ws, sl, h1, fun vs H1 p rr => ⟨?_, p, rr⟩⟩) fun us s1 q => ?_) (pln_star hp1.1 _ _) (back_pln hp1.2 _ _)
    · rw [← rr.length, hps]
      exact evEs_len h1
    · obtain ⟨vs, H1, I1, r1, hl, p, rr⟩ := q
      refine ⟨I1.kIn, runN M F (hr.mono hk') hgu hb hl I1 r1 fun x0 dx n1 n2 n3 => ⟨x0, dx, vs, H1, rfl, hl, n1, n2, n3, rfl, φ, ρ, rs, st1, x, st', p.ws, rr, he, fun H' p' => ⟨rfl, k _ H' ((p'.toCaller p.sl p.ws.fl p.ws.sub).pre p.ext)⟩⟩⟩
  · cases he
theorem back_all {es : List Expr} (h : es.all pln = true) (pos : Pos) (env : PySem.Env) : (backTo pos (starEach es env)).all (fun x => !x.1) = true := by
  induction es with
  | nil => rfl
  | cons e es ih =>
    rw [List.all_cons, Bool.and_eq_true] at h
    rw [pln_star h.1]
    show (((false, _) :: backTo pos (starEach es env)).all (fun x => !x.1)) = true
    rw [List.all_cons, ih h.2]
    rfl
theorem meth_eq {x0 m : Str} {p0 apos pos : Pos} {es : List Expr} {env : PySem.Env} (hp : es.all pln = true) (hl : (apos.endLine == pos.line) = true) (hn : es.length < 29) : eval (.Call (.Attribute (.Name x0 p0) m apos) es [] pos) env = (do
      let ov ← eval (.Name x0 p0) env
      standAt apos.atName
      let (f, first) ← holding [ov] (getMethod ov m (do return (← importBound (.Name x0 p0) env).getD true))
      callWith pos f first (backTo pos (starEach es env)) (backToKw pos (keywordEach [] env))) := by
  have hb : attributeBase (.Name x0 p0) m env (eval (.Name x0 p0) env) = eval (.Name x0 p0) env := rfl
  have hf : methodCallForm (es.length + ([] : List Keyword).length) (backTo pos (starEach es env)) (backToKw pos (keywordEach [] env)) = true := by
    have e2 : (backToKw pos (keywordEach [] env)) = [] := rfl
    unfold methodCallForm
    rw [back_all hp, e2]
    simp only [List.all_nil, Bool.true_and, List.length_nil, List.isEmpty_nil, if_true]
    exact decide_eq_true (by omega)
  rw [arm_eval_Call, hb]
  unfold methodCall calleeOf methodCallPos
  rw [hf, hl]
  rfl
theorem ok_mth {k : Nat} {m x0 : Str} {p0 : Pos} {fs : List (Str × List Str)} {e : Expr} {es : List Expr} {a' : IE} {es' : List IE} {apos pos : Pos} (C : ClOk X.prog X.w X.K X.mg X.base T k cl fs G) (hr : Room k X.A) (hgu : X.A.guards = some [])
    (ho : PE X (.Name x0 p0) (tF X.K T (evE G cl a'))) (hes : PA X (e :: es) (tFs X.K T (evEs G cl es'))) (hp : (e :: es).all pln = true) (hl : (apos.endLine == pos.line) = true) (hne : (e :: es).length < 29) :
    PE X (.Call (.Attribute (.Name x0 p0) m apos) (e :: es) [] pos) (tF X.K T (evE G cl (.mth m a' es'))) := by
  have hp1 : pln e = true ∧ es.all pln = true := by rw [List.all_cons, Bool.and_eq_true] at hp; exact hp
  refine ⟨fun pins s σ H Q I q => ?_⟩
  obtain ⟨φ, ρ, env, st, x, st', ws, sl, he, k⟩ := q
  simp only [evE] at he
  split at he
  · rename_i c kvs fr st1 h1
    split at he
    · rename_i ps hn hms
      split at he
      · rename_i hlen
        split at he
        · rename_i rs st2 h2
          obtain ⟨Ca, a, fd, hC, cls, hm, hb, F⟩ := C.mget c m ps hms
          refine PySem.W.methodCall_KW (thn (ho.run pins s σ H (fun u H1 => PostB X.K T φ ρ H H1 env σ st1 ∧ RD X.K φ H1 u (.dict ((.none, .str c) :: kvs))) I ⟨φ, ρ, env, st, _, st1, ws, sl, h1, fun u H1 p => ⟨⟨p.ws, p.sl, p.ext⟩, p.rr⟩⟩) fun u s1 q => ?_) (meth_eq hp hl hne)
          obtain ⟨v, H1, I1, rx, p, ro⟩ := q
          obtain ⟨oa, C2, dx, ffs, rfl, no, eo, hC2, l, r⟩ := ro.obj_inv
          rw [hC] at hC2
          cases hC2
          obtain rfl : u = Value.ref oa := rx
          refine getmeth_ok I1 eo cls hm (fs_no ffs kvs l hn) ?_
          refine PySem.W.callWith_K (first := [.ref oa]) (h₀ := X.base) I1.ok.mod.kin hm.kp (thn (hes.run pos pins s1 σ H1 (fun vs H2 => PostB X.K T φ ρ H1 H2 env σ st2 ∧ RRs X.K φ ρ H2 rs vs) I1 ⟨φ, ρ, env, st1, rs, st2, p.ws, p.sl, h2, fun vs H2 p2 rr => ⟨p2, rr⟩⟩) fun us s2 q => ?_) (pln_star hp1.1 _ _) (back_pln hp1.2 _ _)
          obtain ⟨vs, H2, I2, r2, p2, rr⟩ := q
          have hlv : (V.ref oa :: vs).length = ps.length := by
            rw [List.length_cons, ← rr.length, evEs_len h2, hlen]
          have ro2 : RD X.K φ H2 (.ref oa) (.dict ((.none, .str c) :: kvs)) := RD.ext (p2.ext.more p.ws.sub) p.ws.fl ro
          refine ⟨I2.kIn, runE (us := .ref oa :: us) (vs := .ref oa :: vs) F hr hgu hb hlv I2 (.cons rfl r2) ⟨hlv, φ, ρ, .dat (.dict ((.none, .str c) :: kvs)) false :: rs, st2, x, st', p2.ws, ⟨ro2, rr⟩, he, fun v H' p' => k v H' ((p'.toCaller p2.sl p2.ws.fl p2.ws.sub).pre (p.ext.trans p2.ext))⟩⟩
        · cases he
      · cases he
    · cases he
  · cases he

/-! ### built-in functions -/
theorem rds_ints {φ : List Addr} {H : Hp} : ∀ {xs : List V} {ds : List D} {is : List Int}, RDs K φ H xs ds → intsD ds = some is → xs = is.map V.int
  | _, _, _, .nil, h => by cases h; rfl
  | _, _, _, .cons (d := .int i) a b, h => by
    simp only [intsD, Option.map_eq_some_iff] at h
    obtain ⟨js, h1, rfl⟩ := h
    cases a
    rw [rds_ints b h1]; rfl
  | _, _, _, .cons (d := .none) a b, h => by cases h
  | _, _, _, .cons (d := .bool _) a b, h => by cases h
  | _, _, _, .cons (d := .str _) a b, h => by cases h
  | _, _, _, .cons (d := .list _) a b, h => by cases h
  | _, _, _, .cons (d := .tuple _) a b, h => by cases h
  | _, _, _, .cons (d := .dict _) a b, h => by cases h
theorem rds_bols {φ : List Addr} {H : Hp} : ∀ {xs : List V} {ds : List D} {is : List Bool}, RDs K φ H xs ds → bolsD ds = some is → xs = is.map V.bl
  | _, _, _, .nil, h => by cases h; rfl
  | _, _, _, .cons (d := .bool i) a b, h => by
    simp only [bolsD, Option.map_eq_some_iff] at h
    obtain ⟨js, h1, rfl⟩ := h
    cases a
    rw [rds_bols b h1]; rfl
  | _, _, _, .cons (d := .none) a b, h => by cases h
  | _, _, _, .cons (d := .int _) a b, h => by cases h
  | _, _, _, .cons (d := .str _) a b, h => by cases h
  | _, _, _, .cons (d := .list _) a b, h => by cases h
  | _, _, _, .cons (d := .tuple _) a b, h => by cases h
  | _, _, _, .cons (d := .dict _) a b, h => by cases h
/-- the read values of arguments -/
def RVs (K : PySem.W.Frag) (φ : List Addr) (H : Hp) : List V → List D → Prop
  | [], [] => True
  | v :: vs, d :: ds => RV K φ H v d ∧ RVs K φ H vs ds
  | _, _ => False
theorem rvs_of {φ ρ : List Addr} {H : Hp} {st : Sto} (ws : Ws K T φ ρ H st) : ∀ {rs : List ER} {vs : List V} {ds : List D}, RRs K φ ρ H rs vs → rdEs st rs = some ds → RVs K φ H vs ds
  | [], [], ds, _, h => by simp only [rdEs] at h; cases h; exact True.intro
  | r :: rs, v :: vs, ds, ⟨a, b⟩, h => by
    simp only [rdEs] at h
    split at h
    · rename_i d ds' h1 h2
      cases h
      exact ⟨rd_view ws a h1, rvs_of ws b h2⟩
    · cases h
theorem RVs.one {φ : List Addr} {H : Hp} {vs : List V} {d : D} (h : RVs K φ H vs [d]) : ∃ v, vs = [v] ∧ RV K φ H v d := by
  match vs, h with
  | [v], ⟨a, _⟩ => exact ⟨v, rfl, a⟩
theorem RVs.two {φ : List Addr} {H : Hp} {vs : List V} {d e : D} (h : RVs K φ H vs [d, e]) : ∃ v u, vs = [v, u] ∧ RV K φ H v d ∧ RV K φ H u e := by
  match vs, h with
  | [v, u], ⟨a, b, _⟩ => exact ⟨v, u, rfl, a, b⟩
theorem maxI_mem : ∀ (m : Int) (l : List Int), maxI m l ∈ m :: l ∧ ∀ y ∈ m :: l, y ≤ maxI m l
  | m, [] => ⟨by simp [maxI], by simp [maxI]⟩
  | m, x :: r => by
    obtain ⟨h1, h2⟩ := maxI_mem (if x > m then x else m) r
    refine ⟨?_, fun y hy => ?_⟩
    · show maxI (if x > m then x else m) r ∈ _
      rcases List.mem_cons.mp h1 with e | e
      · rw [e]; split <;> simp
      · simp [e]
    · show y ≤ maxI (if x > m then x else m) r
      have h0 := h2 _ List.mem_cons_self
      rcases List.mem_cons.mp hy with rfl | hy
      · refine Int.le_trans ?_ h0; split <;> omega
      · rcases List.mem_cons.mp hy with rfl | hy
        · refine Int.le_trans ?_ h0; split <;> omega
        · exact h2 y (List.mem_cons_of_mem _ hy)
theorem minI_mem : ∀ (m : Int) (l : List Int), minI m l ∈ m :: l ∧ ∀ y ∈ m :: l, minI m l ≤ y
  | m, [] => ⟨by simp [minI], by simp [minI]⟩
  | m, x :: r => by
    obtain ⟨h1, h2⟩ := minI_mem (if x < m then x else m) r
    refine ⟨?_, fun y hy => ?_⟩
    · show minI (if x < m then x else m) r ∈ _
      rcases List.mem_cons.mp h1 with e | e
      · rw [e]; split <;> simp
      · simp [e]
    · show minI (if x < m then x else m) r ≤ y
      have h0 := h2 _ List.mem_cons_self
      rcases List.mem_cons.mp hy with rfl | hy
      · refine Int.le_trans h0 ?_; split <;> omega
      · rcases List.mem_cons.mp hy with rfl | hy
        · refine Int.le_trans h0 ?_; split <;> omega
        · exact h2 y (List.mem_cons_of_mem _ hy)

theorem reads_repr {v : Value} {d : D} {as : List Addr} {pins : List (Addr × Obj)} {σ : L2.St} {H : Hp} {s : Shared} {Q : VK} (hg : X.A.guards = some []) (hu : X.A.units + 65 < cLine) (I : Inv X pins σ H s) (r : Reads s.heap v d as) (h : okRep d = true) (q : Q (.str d.shown) H) :
    wpAny (model X.prog X.w) X.A (call (.builtin "repr") [v]) (EP X pins σ Q) X.xe s := by
  simp only [okRep, Bool.and_eq_true, decide_eq_true_eq, Bool.not_eq_true'] at h
  obtain ⟨⟨⟨h1, h2⟩, h3⟩, h4⟩ := h
  cases r with
  | none => exact PySem.P.repr_of_none ⟨.str _, H, I.tok _, ⟨_, rfl⟩, q⟩
  | bool b => exact PySem.P.repr_of_bool ⟨.str _, H, I.tok _, ⟨_, rfl⟩, q⟩
  | int i t => exact PySem.P.repr_of_int (by simpa [PyData.showable] using h1) ⟨.str _, H, I.tok _, ⟨_, rfl⟩, q⟩
  | str x t => exact PySem.P.repr_of_str ⟨.str _, H, I.tok _, ⟨_, rfl⟩, q⟩ h4
  | list a b c e => exact repr_of_reads' (.list a b c e) h1 (PyData.noDict_hsm h2) hg (by omega) (fun _ _ z => z) (fun h' u tk k => ⟨.str _, H, I.kept k, ⟨_, rfl⟩, q⟩) h4
  | tuple a b c e => exact repr_of_reads' (.tuple a b c e) h1 (PyData.noDict_hsm h2) hg (by omega) (fun _ _ z => z) (fun h' u tk k => ⟨.str _, H, I.kept k, ⟨_, rfl⟩, q⟩) h4
  | dict => simp [PyData.hasDict] at h2
mutual
/-- without dicts -/
theorem RD.dpN {φ : List Addr} {H : Hp} : ∀ {v : V} {d : D}, d.hasDict = false → RD K φ H v d → Dp K H v d
  | _, _, _, .non => .non
  | _, _, _, .bl b => .bl b
  | _, _, _, .int i => .int i
  | _, _, _, .str s => .str s
  | _, _, c, .lst n e r => .lst (.inl (.inl e)) (RDs.dpN (by simpa [PyData.hasDict] using c) r)
  | _, _, c, .tup e r => .tup e (RDs.dpN (by simpa [PyData.hasDict] using c) r)
  | _, _, c, .dct _ e _ _ => by simp [PyData.hasDict] at c
  | _, _, c, .obj _ e _ _ _ => by simp [PyData.hasDict] at c
theorem RDs.dpN {φ : List Addr} {H : Hp} : ∀ {vs : List V} {ds : List D}, PyData.hasDictAll ds = false → RDs K φ H vs ds → DpAll K H vs ds
  | _, _, _, .nil => .nil
  | _, _, c, .cons a b => by
    simp only [PyData.hasDictAll, Bool.or_eq_false_iff] at c
    exact .cons (RD.dpN c.1 a) (RDs.dpN c.2 b)
end
theorem RV.dpN {φ : List Addr} {H : Hp} {v : V} {d : D} (c : d.hasDict = false) (h : RV K φ H v d) : Dp K H v d := by
  cases d with
  | list ds =>
    obtain ⟨a, xs, rfl, e, r⟩ := h
    exact .lst (.inl (.inl e)) (r.dpN (by simpa [PyData.hasDict] using c))
  | none => exact RD.dpN c h
  | bool b => exact RD.dpN c h
  | int i => exact RD.dpN c h
  | str x => exact RD.dpN c h
  | tuple xs => exact RD.dpN c h
  | dict k => exact RD.dpN c h
def rRep1 (K : PySem.W.Frag) : List V → Hp → VK → Prop := fun xs H Q => ∃ x d, xs = [x] ∧ Dp K H x d ∧ okRep d = true ∧ Q (.str d.shown) H
theorem call_rep (hg : X.A.guards = some []) (hu : X.A.units + 65 < cLine) : CallR X (.builtin "repr") (rRep1 X.K) := by
  intro pins s σ H xs us Q I r h
  obtain ⟨x, d, rfl, h1, h2, q⟩ := h
  obtain ⟨u, rfl, r1⟩ := vals1 r
  obtain ⟨as, rd⟩ := Dp.reads I d x u h1 r1
  exact reads_repr hg hu I rd h2 q
/-! ### the greatest and the least of rows -/
def rBest (best : D → List D → D) (K : PySem.W.Frag) : List V → Hp → VK → Prop := fun xs H Q => ∃ p ys d ds φ, xs = [.ref p] ∧ H p = some (.lst ys) ∧ RDs K φ H ys (d :: ds) ∧ alkB (d :: ds) = true ∧ ∀ v, RD K φ H v (best d ds) → Q v H
theorem alk_out {xs : List D} (h : alkB xs = true) : okSh (.list xs) = true ∧ (∀ x ∈ xs, ∃ a r, x = .tuple (a :: r)) ∧ (∀ x ∈ xs, ∀ y ∈ xs, W.alike x y = true) ∧ PyData.depthAll xs ≤ 50 := by
  simp only [alkB, Bool.and_eq_true, List.all_eq_true, decide_eq_true_eq] at h
  refine ⟨h.1.1.1, fun x hx => ?_, h.1.2, h.2⟩
  have z := h.1.1.2 x hx
  unfold rowB at z
  split at z
  · exact ⟨_, _, rfl⟩
  · cases z
theorem alk_shAll {xs : List D} (h : okSh (.list xs) = true) : PyData.canLayAll0 xs = true := by
  have c := SeqAt.canLay_of_shaped h
  simpa [PyData.canLay0] using c
theorem best_run {best : D → List D → D} {F : Value}
    (run : ∀ (s : Shared) (l : Addr) (vs : Array Value) (x : D) (xs : List D) (as : List Addr) (Q : Value → Shared → Prop), s.heap.IsList l vs → ReadsAll s.heap vs.toList (x :: xs) as → W.AlikeAll (x :: xs) → X.A.units + 1 + PyData.depthAll (x :: xs) < cLine →
      (∀ (i : Nat) v h' tk bs, vs[i]? = some v → Reads h' v (best x xs) bs → (∀ b o, s.heap.get? b = some o → h'.get? b = some o) → Q v { s with heap := h', toks := tk }) → wpAny (model X.prog X.w) X.A (call F [.ref l]) Q X.xe s)
    (hu : X.A.units + 65 < cLine) : CallR X F (rBest best X.K) := by
  intro pins s σ H xs us Q I r h
  obtain ⟨p, ys, d, ds, φ, rfl, hp, rd, al, q⟩ := h
  obtain ⟨h1, h2, h3, h4⟩ := alk_out al
  obtain rfl := Vals.ref1 r
  obtain ⟨its, rv, hl, hz⟩ := I.list (.inl (.inl hp))
  have dp : Dp X.K H (.ref p) (.list (d :: ds)) := .lst (.inl (.inl hp)) (rd.dp (alk_shAll h1))
  obtain ⟨as, r1⟩ := Dp.reads I (.list (d :: ds)) (.ref p) (.ref p) dp rfl
  cases r1 with
  | @list a o vs n xs as e1 e2 e3 e4 =>
    have hlist : s.heap.IsList p vs := ⟨o, e1, e2, n, e3⟩
    have same : vs = its.toArray := by
      obtain ⟨o', m', e', c', d', q'⟩ := hl
      rw [e1] at e'
      cases e'
      rw [e3] at q'
      injection q' with q1 q2
    refine run s p vs d ds as _ hlist e4 ⟨h3, fun x hx => ?_⟩ (by omega) fun i v h' tk bs hi rb kp => ?_
    · obtain ⟨a, r, rfl⟩ := h2 x hx
      intro z; cases z
    · rw [same] at hi
      have hi2 : its[i]? = some v := by simpa using hi
      have hiy : i < ys.length := by rw [rv.length]; exact (List.getElem?_eq_some_iff.mp hi2).1
      obtain ⟨u', hu', r'⟩ := rv.get (List.getElem?_eq_getElem hiy)
      rw [hi2] at hu'
      cases hu'
      obtain ⟨z, hz1, hz2⟩ := rd.getV (List.getElem?_eq_getElem hiy)
      have hm : z ∈ d :: ds := List.mem_of_getElem? hz1
      have cl : PyData.canLayAll0 (d :: ds) = true := alk_shAll h1
      obtain ⟨bs2, rz⟩ := Dp.reads I z _ v (hz2.dp (PyData.canLay0_of_mem _ _ cl hm)) r'
      have rz' : Reads h' v z bs2 := W.reads_keeps kp rz
      have ez : best d ds = z := (PyProof.Rows.reads_det (fun b o e _ => e) rz' rb).1
      rw [← ez] at hz2
      exact ⟨ys[i], H, I.kept kp, r', q _ hz2⟩
theorem call_maxB (hc : X.calm = true) (hu : X.A.units + 65 < cLine) : CallR X (.builtin "max") (rBest W.maxD X.K) := by
  intro pins s σ H xs us Q I r h
  exact best_run (F := .builtin "max") (fun s l vs x xs as Q h1 h2 h3 h4 h5 => W.max_list_data (I.ok.hd hc) h1 h2 h3 h4 h5) hu pins s σ H xs us Q I r h
theorem call_minB (hc : X.calm = true) (hu : X.A.units + 65 < cLine) : CallR X (.builtin "min") (rBest W.minD X.K) := by
  intro pins s σ H xs us Q I r h
  exact best_run (F := .builtin "min") (fun s l vs x xs as Q h1 h2 h3 h4 h5 => W.min_list_data (I.ok.hd hc) h1 h2 h3 h4 h5) hu pins s σ H xs us Q I r h
/-- how each is called, and by which rule -/
def bltR (K : PySem.W.Frag) : Bf → List V → Hp → VK → Prop
  | .len => fun xs H Q => (∃ p ys, xs = [.ref p] ∧ (SqL K H p ys ∨ SqT K H p ys) ∧ Q (.int ys.length) H) ∨ ∃ a kvs, xs = [.ref a] ∧ H a = some (.dK kvs) ∧ Q (.int kvs.length) H
  | .all => rAll K
  | .any => rAny K
  | .tup => fun xs H Q => ∃ p ys, xs = [.ref p] ∧ ((SqL K H p ys ∧ ∀ l, H l = none → Q (.ref l) (upd H l (.tup ys))) ∨ (SqT K H p ys ∧ Q (.ref p) H))
  | .lst => fun xs H Q => ∃ p ys, xs = [.ref p] ∧ (SqL K H p ys ∨ SqT K H p ys) ∧ ∀ l, H l = none → Q (.ref l) (upd H l (.lst ys))
  | .max => fun xs H Q => (∃ i j, xs = [.int i, .int j] ∧ Q (.int (if j > i then j else i)) H) ∨ (rMax K xs H Q ∨ rBest W.maxD K xs H Q)
  | .min => fun xs H Q => (∃ i j, xs = [.int i, .int j] ∧ Q (.int (if j < i then j else i)) H) ∨ (rMin K xs H Q ∨ rBest W.minD K xs H Q)
  | .sum => rSum K
  | .abs => fun xs H Q => ∃ i, xs = [.int i] ∧ Q (.int (if i < 0 then -i else i)) H
  | .int => fun xs H Q => (∃ i, xs = [.int i] ∧ Q (.int i) H) ∨ ∃ k, xs = [.bl k] ∧ Q (.int (if k then 1 else 0)) H
  | .rep => rRep1 K
  | .str => fun xs H Q => ∃ i, xs = [.int i] ∧ i.natAbs.log2 < 1920 ∧ Q (.str (toString i)) H
def bltV : Bf → Value
  | .len => .builtin "len" | .all => .builtin "all" | .any => .builtin "any" | .tup => .type "tuple" | .lst => .type "list" | .max => .builtin "max" | .min => .builtin "min" | .sum => .builtin "sum" | .abs => .builtin "abs" | .int => .type "int" | .rep => .builtin "repr" | .str => .type "str"
theorem bltV_boot (f : Bf) : bootBuiltins f.nm = some (bltV f) := by cases f <;> decide +kernel
theorem bltV_run (hc : X.calm = true) (hg : X.A.guards = some []) (hu : X.A.units + 65 < cLine) (f : Bf) : CallR X (bltV f) (bltR X.K f) := by
  cases f with
  | len => exact call_len_seq.or call_lenD
  | all => exact cr_all hc
  | any => exact cr_any hc
  | tup => exact call_tuple_of
  | lst => exact call_list_of
  | max => exact (call_max2 hc).or ((cr_max hc).or (call_maxB hc hu))
  | min => exact (call_min2 hc).or ((cr_min hc).or (call_minB hc hu))
  | sum => exact cr_sum hc
  | abs => exact call_abs
  | int => exact call_int1
  | rep => exact call_rep hg hu
  | str => exact call_str_int
theorem blt_ok {φ ρ : List Addr} {H : Hp} {env : Env} {σ : L2.St} {st : Sto} {Q : VK} {f : Bf} {vs : List V} {ds : List D} {z : D} {fr : Bool} (ws : Ws K T φ ρ H st) (sl : Sl K φ ρ H env σ) (hv : RVs K φ H vs ds) (h : bltD f ds = some (z, fr))
    (hQ : ∀ v H', Post K T φ ρ H H' env σ st (.dat z fr) v → Q v H') : bltR K f vs H Q := by
  have flat : ∀ {v : V}, RD K φ H v z → fr = false → Q v H := fun {v} r e => hQ v H (.at ws sl r (fun d q => by subst e; cases q))
  unfold bltD at h
  split at h
  · cases h
    obtain ⟨v, rfl, ad, xs, rfl, h1, h2⟩ := hv.one
    exact .inl ⟨ad, xs, rfl, .inl (.inl (.inl h1)), by rw [h2.length]; exact flat (.int _) rfl⟩
  · cases h
    obtain ⟨v, rfl, h1⟩ := hv.one
    cases h1 with
    | tup h1 h2 => exact .inl ⟨_, _, rfl, .inr h1, by rw [h2.length]; exact flat (.int _) rfl⟩
  · split at h
    · cases h
    · rename_i hn
      cases h
      obtain ⟨v, rfl, h1⟩ := hv.one
      cases h1 with
      | dct _ h1 h2 h3 =>
        have e := congrArg List.length h2
        rw [List.length_map, List.length_map] at e
        exact .inr ⟨_, _, rfl, h1, by rw [← e]; exact flat (.int _) rfl⟩
      | obj => exact absurd rfl hn
  · obtain ⟨bs, h3, h4⟩ := Option.map_eq_some_iff.mp h
    cases h4
    obtain ⟨v, rfl, ad, xs, rfl, h1, h2⟩ := hv.one
    exact ⟨ad, bs, rfl, .inl (.inl (by rw [← rds_bols h2 h3]; exact h1)), flat (.bl _) rfl⟩
  · obtain ⟨bs, h3, h4⟩ := Option.map_eq_some_iff.mp h
    cases h4
    obtain ⟨v, rfl, ad, xs, rfl, h1, h2⟩ := hv.one
    exact ⟨ad, bs, rfl, .inl (.inl (by rw [← rds_bols h2 h3]; exact h1)), flat (.bl _) rfl⟩
  · cases h
    obtain ⟨v, rfl, ad, xs, rfl, h1, h2⟩ := hv.one
    exact ⟨ad, xs, rfl, .inl ⟨.inl (.inl h1), fun l hl => hQ _ _ (.tup ws sl hl h2)⟩⟩
  · cases h
    obtain ⟨v, rfl, h1⟩ := hv.one
    cases h1 with
    | tup h1 h2 => exact ⟨_, _, rfl, .inr ⟨h1, flat (.tup h1 h2) rfl⟩⟩
  · cases h
    obtain ⟨v, rfl, ad, xs, rfl, h1, h2⟩ := hv.one
    exact ⟨ad, xs, rfl, .inl (.inl (.inl h1)), fun l hl => hQ _ _ (.lst ws sl hl h2)⟩
  · cases h
    obtain ⟨v, rfl, h1⟩ := hv.one
    cases h1 with
    | tup h1 h2 => exact ⟨_, _, rfl, .inr h1, fun l hl => hQ _ _ (.lst ws sl hl h2)⟩
  · cases h
    obtain ⟨v, u, rfl, h1, h2⟩ := hv.two
    cases h1; cases h2
    exact .inl ⟨_, _, rfl, flat (.int _) rfl⟩
  · split at h
    · rename_i x r h3
      cases h
      obtain ⟨v, rfl, ad, xs, rfl, h1, h2⟩ := hv.one
      have e := rds_ints h2 h3
      refine .inr (.inl ⟨ad, x :: r, rfl, .inl (.inl (by rw [← e]; exact h1)), by simp, fun m h4 h5 => ?_⟩)
      obtain ⟨h6, h7⟩ := maxI_mem x r
      have e2 : m = maxI x r := Int.le_antisymm (h7 m h4) (h5 _ h6)
      rw [e2]
      exact flat (.int _) rfl
    · split at h
      · split at h
        · rename_i ha
          cases h
          obtain ⟨v, rfl, ad, xs, rfl, h1, h2⟩ := hv.one
          exact .inr (.inr ⟨ad, xs, _, _, φ, rfl, h1, h2, ha, fun v r => flat r rfl⟩)
        · cases h
      · cases h
  · cases h
    obtain ⟨v, u, rfl, h1, h2⟩ := hv.two
    cases h1; cases h2
    exact .inl ⟨_, _, rfl, flat (.int _) rfl⟩
  · split at h
    · rename_i x r h3
      cases h
      obtain ⟨v, rfl, ad, xs, rfl, h1, h2⟩ := hv.one
      have e := rds_ints h2 h3
      refine .inr (.inl ⟨ad, x :: r, rfl, .inl (.inl (by rw [← e]; exact h1)), by simp, fun m h4 h5 => ?_⟩)
      obtain ⟨h6, h7⟩ := minI_mem x r
      have e2 : m = minI x r := Int.le_antisymm (h5 _ h6) (h7 m h4)
      rw [e2]
      exact flat (.int _) rfl
    · split at h
      · split at h
        · rename_i ha
          cases h
          obtain ⟨v, rfl, ad, xs, rfl, h1, h2⟩ := hv.one
          exact .inr (.inr ⟨ad, xs, _, _, φ, rfl, h1, h2, ha, fun v r => flat r rfl⟩)
        · cases h
      · cases h
  · obtain ⟨is, h3, h4⟩ := Option.map_eq_some_iff.mp h
    cases h4
    obtain ⟨v, rfl, ad, xs, rfl, h1, h2⟩ := hv.one
    exact ⟨ad, is, rfl, .inl (.inl (by rw [← rds_ints h2 h3]; exact h1)), flat (.int _) rfl⟩
  · cases h
    obtain ⟨v, rfl, h1⟩ := hv.one
    cases h1
    exact ⟨_, rfl, flat (.int _) rfl⟩
  · cases h
    obtain ⟨v, rfl, h1⟩ := hv.one
    cases h1
    exact .inl ⟨_, rfl, flat (.int _) rfl⟩
  · cases h
    obtain ⟨v, rfl, h1⟩ := hv.one
    cases h1
    exact .inr ⟨_, rfl, flat (.int _) rfl⟩
  · split at h
    · rename_i h3
      cases h
      obtain ⟨v, rfl, h1⟩ := hv.one
      have h5 := h3
      simp only [okRep, Bool.and_eq_true, Bool.not_eq_true'] at h5
      exact ⟨v, _, rfl, h1.dpN h5.1.1.2, h3, flat (.str _) rfl⟩
    · cases h
  · split at h
    · rename_i h3
      cases h
      obtain ⟨v, rfl, h1⟩ := hv.one
      cases h1
      exact ⟨_, rfl, h3, flat (.str _) rfl⟩
    · cases h
  · cases h
theorem ok_blt {f : Bf} {e : Expr} {es : List Expr} {es' : List IE} {p pos : Pos} (hc : X.calm = true) (hgu : X.A.guards = some []) (hu : X.A.units + 65 < cLine) (hg : Gl X f.nm) (hm : X.mg f.nm = none)
    (hes : PA X (e :: es) (tFs X.K T (evEs G cl es'))) (hp : (e :: es).all pln = true) : PE X (.Call (.Name f.nm p) (e :: es) [] pos) (tF X.K T (evE G cl (.blt f es'))) := by
  have hp1 : pln e = true ∧ es.all pln = true := by rw [List.all_cons, Bool.and_eq_true] at hp; exact hp
  have hn : f.nm ≠ "__name__" := by cases f <;> decide
  have hd : (f.nm == ("__debug__" : Str)) = false := by cases f <;> decide
  have main : PE X (.Call (.Name f.nm p) (e :: es) [] pos) (tCB (bltR X.K f) (tFs X.K T (evEs G cl es'))) := by
    have h1 := bltV_run hc hgu hu f
    have h2 := bltV_boot f
    cases f <;> first
      | exact pe_callB h1 hg hm h2 hes hn hd (pln_star hp1.1 _ _) (back_pln hp1.2 _ _)
      | exact pe_callTy h1 hg hm h2 hes hn hd (pln_star hp1.1 _ _) (back_pln hp1.2 _ _)
  refine imp main fun σ H Q q => ?_
  obtain ⟨φ, ρ, env, st, x, st', ws, sl, he, k⟩ := q
  simp only [evE] at he
  split at he
  · rename_i rs st1 h1
    split at he
    · rename_i ds h2
      split at he
      · rename_i r fr h3
        cases he
        exact ⟨φ, ρ, env, st, rs, _, ws, sl, h1, fun vs H1 p rr => blt_ok p.ws p.sl (rvs_of p.ws rr h2) h3 fun v H' p' => k v H' (p'.pre p.ext)⟩
      · cases he
    · cases he
  · cases he

/-! ### a dict of the module; the script -/
theorem ok_look {g : Str} {a : Expr} {a' : IE} {p p2 : Pos} {pos : Pos} {ad : Addr} {kvs : List (Str × D)} (hg : Gl X g) (hm : X.mg g = some (.ref ad)) (hd : (g == ("__debug__" : Str)) = false) (hk : G.dic g = some kvs)
    (hv : ∀ k d, kvs.lookup k = some d → ∃ v, KDct X.K X.w ad k v ∧ ∀ φ H, RD X.K φ H v d) (ha : PE X a (tF X.K T (evE G cl a'))) (hp : pln a = true) : PE X (.Subscript (.Name g p) a pos) (tF X.K T (evE G cl (.look g a'))) := by
  refine imp (pe_ix ix_kdict (pe_glob (v := .ref ad) hg hm rfl hd) ha (pln_ix hp)) fun σ H Q q => ?_
  obtain ⟨φ, ρ, env, st, x, st', ws, sl, he, k⟩ := q
  simp only [evE] at he
  split at he
  · rename_i kk fr st1 h1
    rw [hk] at he
    simp only at he
    split at he
    · rename_i d h2
      cases he
      obtain ⟨v, h3, h4⟩ := hv _ _ h2
      refine seq1 ws sl h1 fun u H1 w1 s1 e1 r1 => ?_
      cases (show RD X.K φ H1 u (.str kk) from r1)
      exact ⟨ad, kk, v, rfl, rfl, h3, k _ _ ⟨w1, s1, e1, h4 _ _, fun d e => by cases e⟩⟩
    · cases he
  · cases he
theorem ok_slen {i : Nat} {a : Expr} {p pos : Pos} (hg : Gl X "len") (hm : X.mg "len" = none) (ha : PE X a (tVar i)) (hp : pln a = true) : PE X (.Call (.Name "len" p) [a] [] pos) (tF X.K T (evE G cl (.slen i))) := by
  refine imp (pe_callB call_len_seq hg hm PySem.boot_len (pa_cons ha pa_nil (pln_star hp _ _)) (he := pln_star hp _ _) (hpl := by rfl)) fun σ H Q q => ?_
  obtain ⟨φ, ρ, env, st, x, st', ws, sl, he, k⟩ := q
  simp only [evE] at he
  split at he
  · rename_i ns hs
    cases he
    obtain ⟨v, h1, ad, rfl, h2⟩ := sl.get i _ hs
    refine ⟨.ref ad, h1, ad, _, rfl, .inl h2.sq, ?_⟩
    rw [List.length_map]
    exact k _ _ (.at ws sl (.int _) (fun d e => by cases e))
  · cases he
theorem ok_sidx {i : Nat} {a b : Expr} {b' : IE} {pos : Pos} (ha : PE X a (tVar i)) (hb : PE X b (tF X.K T (evE G cl b'))) (hp : pln b = true) : PE X (.Subscript a b pos) (tF X.K T (evE G cl (.sidx i b'))) := by
  refine imp (pe_ix ix_list ha hb (pln_ix hp)) fun σ H Q q => ?_
  obtain ⟨φ, ρ, env, st, x, st', ws, sl, he, k⟩ := q
  simp only [evE] at he
  split at he
  · rename_i ns hs
    split at he
    · rename_i kk fr st1 h1
      split at he
      · rename_i v h2
        cases he
        obtain ⟨u, h3, ad, rfl, h4⟩ := sl.get i _ hs
        refine ⟨.ref ad, h3, seq1 ws sl h1 fun u2 H1 w1 s1 e1 r1 => ?_⟩
        cases (show RD X.K φ H1 u2 (.int kk) from r1)
        obtain ⟨ad2, e5, h5⟩ := (RS.ext (e1.more ws.sub) ws.fl (show RS X.K φ ρ H (.scr ns) (.ref ad) from ⟨ad, rfl, h4⟩) : RS X.K φ ρ H1 (.scr ns) (.ref ad))
        cases e5
        refine ⟨ad, _, kk, .int v, rfl, rfl, h5.sq, ?_, k _ _ ⟨w1, s1, e1, .int _, fun d e => by cases e⟩⟩
        unfold atI at h2 ⊢
        rw [List.length_map]
        cases e : ixN ns.length kk with
        | none => rw [e] at h2; cases h2
        | some j =>
          rw [e] at h2
          show (ns.map V.int)[j]? = some (.int v)
          rw [List.getElem?_map]
          have h2 : ns[j]? = some v := h2
          rw [h2]; rfl
      · cases he
    · cases he
  · cases he
end Ev
set_option linter.all false
set_option maxRecDepth 100000
set_option maxHeartbeats 4000000
/-! EvEn: enumerate of a tuple. -/
namespace Ev
open PySem PySem.Spec L2
theorem new_enum_tup (l : Addr) (items : Array Value) (o : Obj) (hT : o.cls = .type "tuple") (n : Nat) (hD : o.data = .seq items n) :
    Meets (Builtin.«enumerate.__new__» ⟨[.type "enumerate", .ref l], []⟩) (fun _ R s => s.heap.get? l = some o ∧
      R (.ok (.ret (.ref (s.heap.push { cls := .type "tuple_iterator", data := .fields #[.ref l, .int 0 0] }).objs.size)))
        { s with heap := (s.heap.push { cls := .type "tuple_iterator", data := .fields #[.ref l, .int 0 0] }).push { cls := .type "enumerate", data := .fields #[.none, .bool false, .ref s.heap.objs.size, rawInt 0, .none, .none] } }) :=
  .of_wp fun prog w A R s h => by
    obtain ⟨hp, g, d, tk, os⟩ := s
    obtain ⟨hl, h⟩ := h
    have sb := sub_enumerate
    have tup : Heap.IsTuple (Shared.heap ⟨hp, g, d, tk, os⟩) l items := ⟨_, hl, hT, n, hD⟩
    wp_walk using PySem.AutoSeq1.wpAny_loadPart' hl
    refine wpAny_stack_any fun sk => wpAny_pure ?_
    split
    · rename_i c _ _ _ _ _
      cases (c == Value.type "enumerate") <;>
      · wp_walk using PySem.AutoSeq1.wpAny_loadPart' hl, wpAny_pyIter_tuple tup
        exact ⟨_, rfl, h⟩
    · wp_walk using PySem.AutoSeq1.wpAny_loadPart' hl, wpAny_pyIter_tuple tup
      exact ⟨_, rfl, h⟩
section
variable {prog : Program} {w : World} {A : Around} {E : Value → Shared → Prop} {s : Shared}
theorem call_enum_tup {l : Addr} {items : Array Value} {Q : Value → Shared → Prop} (hL : s.heap.IsTuple l items)
    (h : ∀ h', IsEnum h' (s.heap.objs.size + 1) s.heap.objs.size 0 .none → h'.IsTupleIter s.heap.objs.size l 0 → (∀ b o, s.heap.get? b = some o → h'.get? b = some o) → Q (.ref (s.heap.objs.size + 1)) { s with heap := h' }) :
    wpAny (model prog w) A (call (.type "enumerate") [.ref l]) Q E s := by
  obtain ⟨o, hl, hc, n, hd⟩ := hL
  refine callType_new F.called_enumerate (by decide) (F.typeCall_enumerate_1 _) (F.newCall_enumerate_1 _) (fun ob => F.args_object_init_2 ob _) F.entry_enumerate_new (new_enum_tup l items o hc n hd) ⟨hl, ?_⟩
  generalize hi : ({ cls := .type "tuple_iterator", data := .fields #[.ref l, .int 0 0] } : Obj) = ti
  have hz : (s.heap.push ti).objs.size = s.heap.objs.size + 1 := Heap.size_push ..
  show _ ∧ _
  rw [hz]
  generalize he : ({ cls := .type "enumerate", data := .fields #[.none, .bool false, .ref s.heap.objs.size, rawInt 0, .none, .none] } : Obj) = te
  have h2 : ((s.heap.push ti).push te).get? (s.heap.objs.size + 1) = some te := by
    have q := Heap.get?_push_size (s.heap.push ti) (o := te) (by rw [← he]; rfl)
    rw [hz] at q
    exact q
  have en : IsEnum ((s.heap.push ti).push te) (s.heap.objs.size + 1) s.heap.objs.size 0 .none := by rw [← he] at h2 ⊢; exact h2
  refine ⟨⟨_, en, rfl⟩, h _ en ⟨ti, Heap.get?_push_of_some _ (Heap.get?_push_size _ (by rw [← hi]; rfl)), by rw [← hi], by rw [← hi]; rfl⟩ fun b ob x => Heap.get?_push_of_some _ (Heap.get?_push_of_some _ x)⟩
end
/-- the tuple at a, each item in a new pair -/
def IteT (K : PySem.W.Frag) (a : Addr) : It where
  go := fun i H => ∃ (xs : List V) (x : V), SqT K H a xs ∧ xs[i]? = some x
  yld := fun i H v H' => ∃ t x, v = .ref t ∧ H t = none ∧ H' = upd H t (.tup [.int (i : Nat), x]) ∧ ∀ xs, SqT K H a xs → xs[i]? = some x
  stop := fun i H => ∃ xs : List V, SqT K H a xs ∧ xs.length ≤ i
theorem turn_enumT {P : Program} {w : World} {K : PySem.W.Frag} {elts : List Expr} {kk : Nat} {tpos : Pos} (a e it : Addr) :
    Turn P w K (.Tuple elts kk tpos) (IteT K a) [e, it] e (fun i h => (∃ old, IsEnum h e it ((i : Nat) : Int) old) ∧ h.IsTupleIter it a i ∧ e ≠ it ∧ a ≠ it ∧ a ≠ e) where
  mem := by simp
  obj := fun i h st b hb => by
    obtain ⟨⟨old, he⟩, ⟨o, ho, hc, hd⟩, _⟩ := st
    rcases (by simpa using hb : b = e ∨ b = it) with z | z
    · rw [z]; exact ⟨_, he, fun v q => nomatch q⟩
    · rw [z]; exact ⟨o, ho, fun v q => by rw [hd] at q; cases q⟩
  keep := fun i h h' st k => by
    obtain ⟨⟨old, he⟩, hi, r⟩ := st
    exact ⟨⟨old, k e (by simp) _ he⟩, hi.at fun o q => k it (by simp) o q, r⟩
  item := by
    intro X hP hw hK hc i pins s σ H E I hf st hg
    subst hP hw hK
    obtain ⟨⟨old, he⟩, hit, hne, hai, hae⟩ := st
    obtain ⟨xs, x, hq, hx⟩ := hg
    obtain ⟨its, rv, p, hz⟩ := I.tuple hq
    obtain ⟨u, hu, ru⟩ := rv.get hx
    have el : e < s.heap.objs.size := Heap.lt_size he
    have il : it < s.heap.objs.size := by obtain ⟨_, q, _⟩ := hit; exact Heap.lt_size q
    have hlt : i < its.toArray.size := by
      rw [List.size_toArray]
      exact (List.getElem?_eq_some_iff.mp hu).1
    have hh : X.A.handled = none := I.ok.hd hc
    refine wpAny_pyNext_enum_itemD (Draws.tuple (A := X.A.in1) hh it a hai its.toArray) he ⟨hit, p⟩ hlt hne (by simp [hne, hae.symm]) fun y h' tk py ho hst hT hsz hk => ?_
    have ey : y = u := by
      have z : its.toArray[i]? = some y := py
      rw [List.getElem?_toArray, hu] at z
      exact (Option.some.inj z).symm
    subst ey
    refine ⟨_, rfl, wpAny_letOwnedTupleGo_enum (s := { s with heap := h', toks := tk + 1 }) ho fun h'' he' sb => ?_⟩
    have hT2 : h''.get? s.heap.objs.size = some { cls := .type "tuple", data := .seq #[.int i tk, y] } := (sb.2 _ (Nat.ne_of_gt el)).trans hT
    have new : ObjOk X.prog X.w (upd H s.heap.objs.size (.tup [.int (i : Nat), x])) h'' s.heap.objs.size (.tup [.int (i : Nat), x]) :=
      ⟨by show 2 ≤ sizeLine; decide, [.int i tk, y], .cons ⟨_, rfl⟩ (.cons ru .nil), ⟨_, hT2, rfl, _, rfl⟩⟩
    have I1 : Inv X pins σ (upd H s.heap.objs.size (.tup [.int (i : Nat), x])) { s with heap := h'', toks := tk + 1 } :=
      I.turnedNew (ch := [e, it]) (fun b ob hb q => (sb.2 b (fun z => hb (by simp [z]))).trans (hk b ob (fun z => hb (by simp [z])) (fun z => hb (by simp [z])) q)) hf (Nat.le_refl _) new
    refine ⟨.ref s.heap.objs.size, _, I1, rfl, ⟨_, x, rfl, I.hok.fresh (Nat.le_refl _), rfl, fun ys hy => by rw [I.tuple_inj hy hq]; exact hx⟩, ⟨⟨y, ?_⟩, hst.1.at fun o q => (sb.2 it (Ne.symm hne)).trans q, hne, hai, hae⟩, fun b hb => ?_⟩
    · rw [show ((i + 1 : Nat) : Int) = (i : Int) + 1 by omega]
      exact he'
    · have hb' : b < s.heap.objs.size := by
        rcases (by simpa using hb : b = e ∨ b = it) with z | z
        · rw [z]; exact el
        · rw [z]; exact il
      rw [upd_ne (Nat.ne_of_lt hb')]
      exact (hf b hb).1
  done := by
    intro X hP hw hK hc i pins s σ H E I hf st hg
    subst hP hw hK
    obtain ⟨⟨old, he⟩, hit, hne, hai, hae⟩ := st
    obtain ⟨xs, hq, hx⟩ := hg
    obtain ⟨its, rv, p, hz⟩ := I.tuple hq
    obtain ⟨f0, f1, f2, f3, f4, f5⟩ := hf it (by simp)
    have hl := rv.length
    have hh : X.A.handled = none := I.ok.hd hc
    have hT : s.TypeIs (.ref e) "enumerate" := ⟨_, he, rfl⟩
    unfold pyNext
    refine wpAny_bind (wpAny_attempt (wpAny_callSpecial?_slot (name := Str.ofString "__next__") hT F.slot_enumerate_next
      (wpAny_call_entry F.slot_enumerate_next hT F.entry_enumerate_next ?_ (F.args_enumerate_next_1 _))))
    show wpAny _ _ (field (.ref e) 2 >>= _) _ _ _
    refine wpAny_bind (wpAny_field he rfl (x := .ref it) rfl ?_)
    refine wpAny_bind (wpAny_nextOf_tuple_end (A := X.A.in1) hh hit p (by simp; omega) fun h' x he' hx' => ?_)
    obtain ⟨o, ho, hcx⟩ := hx'
    refine wpAny_bind (wpAny_isInstance (T := "StopIteration") (b := true) ⟨o, ho, hcx⟩ isSubtype_stop ?_)
    exact wpAny_pure ⟨rfl, I.turned (t' := s.toks) (fun b o hb q => he' b o hb q) f0 f1 f3 f4 f5⟩
  self := fun A i s Q E st h => let ⟨⟨_, he⟩, _⟩ := st; wpAny_pyIter_enum he h
def iEnumA (K : PySem.W.Frag) (ta : TA) : TI := fun σ H R => ta σ H fun vs H1 => ∃ a xs, vs = [.ref a] ∧ ((SqL K H1 a xs ∧ R (Ite K a) H1) ∨ (SqT K H1 a xs ∧ R (IteT K a) H1))
theorem pi_enumA {X : Cx} {e : Expr} {ta : TA} {p pos tpos : Pos} {elts : List Expr} {kk : Nat} (hg : Gl X "enumerate") (hm : X.mg "enumerate" = none) (ha : PA X [e] ta) (hs : starEach [e] X.env = [(false, eval e X.env)]) :
    PI X (.Tuple elts kk tpos) (.Call (.Name "enumerate" p) [e] [] pos) (iEnumA X.K ta) := by
  refine ⟨fun pins s σ H R I h => ?_⟩
  refine PyProof.Rows.Call_ (ld_blt I hg hm PyProof.Rows.boot_enumerate (PyProof.Rows.callWith_type1 (thn (ha.run pos pins s σ H _ I h) fun us s1 ⟨vs, H1, I1, r1, q1⟩ => ?_) hs rfl))
  obtain ⟨a, xs, ex, q1⟩ := q1
  subst ex
  obtain ⟨u, rfl, ru⟩ := vals1 r1
  cases (show u = Value.ref a from ru)
  have new2 : ∀ b ∈ [s1.heap.objs.size + 1, s1.heap.objs.size], FpOk X pins H1 b := fun b hb => by
    have le : s1.heap.objs.size ≤ b := by
      rcases (by simpa using hb : b = s1.heap.objs.size + 1 ∨ b = s1.heap.objs.size) with z | z <;> omega
    exact I1.fpOk le (I1.hok.fresh le)
  rcases q1 with ⟨hq, q⟩ | ⟨hq, q⟩
  · obtain ⟨its, rv, p', hz⟩ := I1.list hq
    refine call_enumerate_list p'.isList fun h' he hit hsz hk => wpAny_pyIter_enum he ?_
    exact ⟨s1.heap.objs.size + 1, [s1.heap.objs.size + 1, s1.heap.objs.size], _, _, H1, rfl, I1.kept (t' := s1.toks) hk, turn_enum a (s1.heap.objs.size + 1) s1.heap.objs.size, ⟨⟨.none, he⟩, hit, Nat.succ_ne_self _⟩, new2, q⟩
  · obtain ⟨its, rv, p', hz⟩ := I1.tuple hq
    have al : a < s1.heap.objs.size := by obtain ⟨_, z, _⟩ := id p'; exact Heap.lt_size z
    refine call_enum_tup p' fun h' he hit hk => wpAny_pyIter_enum he ?_
    exact ⟨s1.heap.objs.size + 1, [s1.heap.objs.size + 1, s1.heap.objs.size], _, _, H1, rfl, I1.kept (t' := s1.toks) hk, turn_enumT a (s1.heap.objs.size + 1) s1.heap.objs.size, ⟨⟨.none, he⟩, hit, Nat.succ_ne_self _, Nat.ne_of_lt al, Nat.ne_of_lt (Nat.lt_succ_of_lt al)⟩, new2, q⟩
end Ev
set_option linter.all false
set_option maxRecDepth 100000
set_option maxHeartbeats 4000000
/-! Ev7: what is walked, targets. -/
namespace Ev
open PySem PySem.Spec L2
variable {K : PySem.W.Frag} {T : List (Addr × Str)} {X : Cx} {G : Pk} {cl : Str → List SV → Sto → Option (ER × Sto)}

/-- the heap goes on, and so do the lists that are changed -/
structure Gr (φ φ' : List Addr) (H H' : Hp) : Prop where
  ext : Ext φ H H'
  pre : ∃ more, φ' = φ ++ more ∧ ∀ a ∈ more, H a = none
theorem Gr.lst {φ φ' : List Addr} {H H' : Hp} (g : Gr φ φ' H H') (f : Lst φ H) : Lst φ' H := fun a ha o e => by
  obtain ⟨more, rfl, hm⟩ := g.pre
  rcases List.mem_append.mp ha with h | h
  · exact f a h o e
  · rw [hm a h] at e; cases e
theorem Gr.sub {φ φ' : List Addr} {H H' : Hp} (g : Gr φ φ' H H') : ∀ a ∈ φ, a ∈ φ' := fun a ha => by
  obtain ⟨more, rfl, _⟩ := g.pre
  exact List.mem_append_left _ ha
theorem Gr.rd {φ φ' : List Addr} {H H' : Hp} (g : Gr φ φ' H H') (f : Lst φ H) {v : V} {d : D} (r : RD K φ H v d) : RD K φ' H' v d := by
  have r2 : RD K φ' H v d := by
    obtain ⟨more, rfl, hm⟩ := g.pre
    clear g f
    induction more generalizing φ with
    | nil => rw [List.append_nil]; exact r
    | cons p more ih =>
      have q := ih (φ := φ ++ [p]) (RD.fresh (hm p List.mem_cons_self) r) fun a ha => hm a (List.mem_cons_of_mem _ ha)
      rwa [List.append_assoc] at q
  exact RD.ext (g.ext.more g.sub) (g.lst f) r2
theorem Gr.refl (φ : List Addr) (H : Hp) : Gr φ φ H H := ⟨.refl _ _, [], by simp, by simp⟩
theorem Gr.trans {φ φ1 φ2 : List Addr} {H H1 H2 : Hp} (a : Gr φ φ1 H H1) (b : Gr φ1 φ2 H1 H2) (x : Ext φ H H2) : Gr φ φ2 H H2 := by
  refine ⟨x, ?_⟩
  obtain ⟨m1, rfl, h1⟩ := a.pre
  obtain ⟨m2, rfl, h2⟩ := b.pre
  refine ⟨m1 ++ m2, by rw [List.append_assoc], fun c hc => ?_⟩
  rcases List.mem_append.mp hc with h | h
  · exact h1 c h
  · exact a.ext.dom c (h2 c h)

/-! ### what is walked -/
/-- a later state, in which the lists of kp stand as they stood -/
structure Lt (K : PySem.W.Frag) (T : List (Addr × Str)) (φ ρ : List Addr) (H1 : Hp) (kp : List (Nat × List D)) (φ' ρ' : List Addr) (H : Hp) (st : Sto) : Prop where
  ws : Ws K T φ' ρ' H st
  kept : keptL st kp = true
  gr : Gr φ φ' H1 H
  pre : ∃ more, ρ' = ρ ++ more
structure WalkD (K : PySem.W.Frag) (T : List (Addr × Str)) (φ ρ : List Addr) (H1 : Hp) (xs : List D) (kp : List (Nat × List D)) (J : It) : Prop where
  goes : ∀ i φ' ρ' H st, i < xs.length → Lt K T φ ρ H1 kp φ' ρ' H st → J.go i H
  stops : ∀ φ' ρ' H st, Lt K T φ ρ H1 kp φ' ρ' H st → J.stop xs.length H
  yields : ∀ i φ' ρ' H st v H', i < xs.length → Lt K T φ ρ H1 kp φ' ρ' H st → J.yld i H v H' → (∃ d, xs[i]? = some d ∧ RD K φ' H' v d) ∧ (H' = H ∨ ∃ p o, H p = none ∧ (∀ ps, o ≠ .tbl ps) ∧ H' = upd H p o)
def SrcL (K : PySem.W.Frag) (T : List (Addr × Str)) (φ ρ : List Addr) (H1 : Hp) (xs : List D) (kp : List (Nat × List D)) (a : Addr) : Prop :=
  ∀ φ' ρ' H st, Lt K T φ ρ H1 kp φ' ρ' H st → ∃ vs, SqL K H a vs ∧ RDs K φ' H vs xs
def SrcT (K : PySem.W.Frag) (T : List (Addr × Str)) (φ ρ : List Addr) (H1 : Hp) (xs : List D) (kp : List (Nat × List D)) (a : Addr) : Prop :=
  ∀ φ' ρ' H st, Lt K T φ ρ H1 kp φ' ρ' H st → ∃ vs, SqT K H a vs ∧ RDs K φ' H vs xs
theorem keptL_app {st : Sto} : ∀ {kp kq : List (Nat × List D)}, keptL st (kp ++ kq) = (keptL st kp && keptL st kq)
  | [], kq => by simp [keptL]
  | (n, xs) :: r, kq => by
    show ((match st[n]? with | some ys => eqDs xs ys | none => false) && keptL st (r ++ kq)) = ((match st[n]? with | some ys => eqDs xs ys | none => false) && keptL st r && keptL st kq)
    rw [keptL_app, Bool.and_assoc]
section
variable {φ ρ : List Addr} {H1 : Hp} {xs ys : List D} {kp kq : List (Nat × List D)} {a b : Addr} {st1 : Sto}
theorem Lt.left {φ' ρ' : List Addr} {H : Hp} {st : Sto} (l : Lt K T φ ρ H1 (kp ++ kq) φ' ρ' H st) : Lt K T φ ρ H1 kp φ' ρ' H st := by
  have k := l.kept
  rw [keptL_app, Bool.and_eq_true] at k
  exact ⟨l.ws, k.1, l.gr, l.pre⟩
theorem Lt.right {φ' ρ' : List Addr} {H : Hp} {st : Sto} (l : Lt K T φ ρ H1 (kp ++ kq) φ' ρ' H st) : Lt K T φ ρ H1 kq φ' ρ' H st := by
  have k := l.kept
  rw [keptL_app, Bool.and_eq_true] at k
  exact ⟨l.ws, k.2, l.gr, l.pre⟩
/-- a source -/
theorem src_of {r : ER} {v : V} (ws : Ws K T φ ρ H1 st1) (rr : RR K φ ρ H1 r v) (h : srcE st1 r = some (xs, kp)) : keptL st1 kp = true ∧ ∃ a, v = .ref a ∧ ((srcT r = false ∧ SrcL K T φ ρ H1 xs kp a) ∨ (srcT r = true ∧ SrcT K T φ ρ H1 xs kp a)) := by
  unfold srcE at h
  split at h
  · cases h
    cases (show RD K φ H1 v (.list xs) from rr) with
    | lst n e r =>
      refine ⟨rfl, _, rfl, .inl ⟨rfl, fun φ' ρ' H st l => ?_⟩⟩
      cases l.gr.rd ws.fl (RD.lst n e r) with
      | lst n' e' r' => exact ⟨_, .inl (.inl e'), r'⟩
  · cases h
    cases (show RD K φ H1 v (.tuple xs) from rr) with
    | tup e r =>
      refine ⟨rfl, _, rfl, .inr ⟨rfl, fun φ' ρ' H st l => ?_⟩⟩
      cases l.gr.rd ws.fl (RD.tup e r) with
      | tup e' r' => exact ⟨_, e', r'⟩
  · rename_i n
    obtain ⟨zs, h1, h2⟩ := Option.map_eq_some_iff.mp h
    cases h2
    obtain ⟨a, h3, rfl⟩ := rr
    refine ⟨?_, a, rfl, .inl ⟨rfl, fun φ' ρ' H st l => ?_⟩⟩
    · show ((match st1[n]? with | some ys => eqDs xs ys | none => false) && keptL st1 []) = true
      rw [h1]
      simp [eqDs_refl, keptL]
    · have k := l.kept
      have k : ((match st[n]? with | some ys => eqDs xs ys | none => false) && keptL st []) = true := k
      cases e : st[n]? with
      | none => rw [e] at k; cases k
      | some ws' =>
        rw [e] at k
        simp only [keptL, Bool.and_true] at k
        have e2 := eqDs_eq k
        subst e2
        obtain ⟨a', vs, h5, h6, h7⟩ := l.ws.sto n _ e
        obtain ⟨more, rfl⟩ := l.pre
        have h8 : (ρ ++ more)[n]? = some a := by
          rw [List.getElem?_append_left (List.getElem?_eq_some_iff.mp h3).1]
          exact h3
        rw [h8] at h5
        cases h5
        exact ⟨vs, .inl (.inl h6), h7⟩
  · cases h
theorem walkL (s : SrcL K T φ ρ H1 xs kp a) : WalkD K T φ ρ H1 xs kp (Itl K a) where
  goes := fun i φ' ρ' H st hi l => by
    obtain ⟨vs, h1, h2⟩ := s _ _ _ _ l
    exact ⟨vs, vs[i]'(by rw [h2.length]; exact hi), h1, by simp⟩
  stops := fun φ' ρ' H st l => by
    obtain ⟨vs, h1, h2⟩ := s _ _ _ _ l
    exact ⟨vs, h1, Nat.le_of_eq h2.length⟩
  yields := fun i φ' ρ' H st v H' hi l y => by
    obtain ⟨vs, h1, h2⟩ := s _ _ _ _ l
    obtain ⟨rfl, f⟩ := y
    obtain ⟨d, h3, h4⟩ := h2.getV (f vs h1)
    exact ⟨⟨d, h3, h4⟩, .inl rfl⟩
theorem walkT (s : SrcT K T φ ρ H1 xs kp a) : WalkD K T φ ρ H1 xs kp (Itt K a) where
  goes := fun i φ' ρ' H st hi l => by
    obtain ⟨vs, h1, h2⟩ := s _ _ _ _ l
    exact ⟨vs, vs[i]'(by rw [h2.length]; exact hi), h1, by simp⟩
  stops := fun φ' ρ' H st l => by
    obtain ⟨vs, h1, h2⟩ := s _ _ _ _ l
    exact ⟨vs, h1, Nat.le_of_eq h2.length⟩
  yields := fun i φ' ρ' H st v H' hi l y => by
    obtain ⟨vs, h1, h2⟩ := s _ _ _ _ l
    obtain ⟨rfl, f⟩ := y
    obtain ⟨d, h3, h4⟩ := h2.getV (f vs h1)
    exact ⟨⟨d, h3, h4⟩, .inl rfl⟩
theorem walkR {lo : Int} {n : Nat} : WalkD K T φ ρ H1 ((List.range n).map fun (k : Nat) => .int (lo + (k : Int))) [] (Itr lo n) where
  goes := fun i φ' ρ' H st hi l => by show i < n; simpa using hi
  stops := fun φ' ρ' H st l => by show n ≤ _; simp
  yields := fun i φ' ρ' H st v H' hi l y => by
    obtain ⟨rfl, rfl⟩ := y
    have hi : i < n := by simpa using hi
    exact ⟨⟨.int (lo + (i : Int)), by rw [List.getElem?_map, List.getElem?_range hi]; rfl, .int _⟩, .inl rfl⟩
theorem enmD_get : ∀ (xs : List D) (k i : Nat), (enmD k xs)[i]? = xs[i]?.map fun x => .tuple [.int ((k + i : Nat) : Int), x]
  | [], _, _ => rfl
  | x :: r, k, 0 => rfl
  | x :: r, k, i + 1 => by
    show (enmD (k + 1) r)[i]? = _
    rw [enmD_get r (k + 1) i]
    simp only [List.getElem?_cons_succ]
    congr 1
    funext y
    rw [show k + 1 + i = k + (i + 1) by omega]
theorem enmD_len : ∀ (xs : List D) (k : Nat), (enmD k xs).length = xs.length
  | [], _ => rfl
  | x :: r, k => congrArg (· + 1) (enmD_len r (k + 1))
theorem pair_rd {φ' : List Addr} {H : Hp} {p : Addr} {v : V} {d : D} {u : V} {e : D} (f : Lst φ' H) (hp : H p = none) (r : RD K φ' H v d) (r2 : RD K φ' H u e) : RD K φ' (upd H p (.tup [v, u])) (.ref p) (.tuple [d, e]) :=
  .tup (.inl (.inl upd_same)) (.cons (RD.ext (.new hp) f r) (.cons (RD.ext (.new hp) f r2) .nil))
theorem walkEL (s : SrcL K T φ ρ H1 xs kp a) : WalkD K T φ ρ H1 (enmD 0 xs) kp (Ite K a) where
  goes := fun i φ' ρ' H st hi l => by
    obtain ⟨vs, h1, h2⟩ := s _ _ _ _ l
    rw [enmD_len] at hi
    exact ⟨vs, vs[i]'(by rw [h2.length]; exact hi), h1, by simp⟩
  stops := fun φ' ρ' H st l => by
    obtain ⟨vs, h1, h2⟩ := s _ _ _ _ l
    rw [enmD_len]
    exact ⟨vs, h1, Nat.le_of_eq h2.length⟩
  yields := fun i φ' ρ' H st v H' hi l y => by
    obtain ⟨vs, h1, h2⟩ := s _ _ _ _ l
    obtain ⟨p, x, rfl, hp, rfl, f⟩ := y
    obtain ⟨d, h3, h4⟩ := h2.getV (f vs h1)
    exact ⟨⟨_, by rw [enmD_get, h3]; rfl, pair_rd l.ws.fl hp (by rw [Nat.zero_add]; exact .int _) h4⟩, .inr ⟨p, _, hp, (fun _ z => by cases z), rfl⟩⟩
theorem walkET (s : SrcT K T φ ρ H1 xs kp a) : WalkD K T φ ρ H1 (enmD 0 xs) kp (IteT K a) where
  goes := fun i φ' ρ' H st hi l => by
    obtain ⟨vs, h1, h2⟩ := s _ _ _ _ l
    rw [enmD_len] at hi
    exact ⟨vs, vs[i]'(by rw [h2.length]; exact hi), h1, by simp⟩
  stops := fun φ' ρ' H st l => by
    obtain ⟨vs, h1, h2⟩ := s _ _ _ _ l
    rw [enmD_len]
    exact ⟨vs, h1, Nat.le_of_eq h2.length⟩
  yields := fun i φ' ρ' H st v H' hi l y => by
    obtain ⟨vs, h1, h2⟩ := s _ _ _ _ l
    obtain ⟨p, x, rfl, hp, rfl, f⟩ := y
    obtain ⟨d, h3, h4⟩ := h2.getV (f vs h1)
    exact ⟨⟨_, by rw [enmD_get, h3]; rfl, pair_rd l.ws.fl hp (by rw [Nat.zero_add]; exact .int _) h4⟩, .inr ⟨p, _, hp, (fun _ z => by cases z), rfl⟩⟩
theorem zipD_get : ∀ (xs ys : List D) (i : Nat) (x y : D), xs[i]? = some x → ys[i]? = some y → (zipD xs ys)[i]? = some (.tuple [x, y])
  | [], _, _, _, _, h, _ => by simp at h
  | _ :: _, [], _, _, _, _, h => by simp at h
  | a :: xs, b :: ys, 0, x, y, h1, h2 => by simp at h1 h2; subst h1; subst h2; rfl
  | a :: xs, b :: ys, i + 1, x, y, h1, h2 => by
    show (zipD xs ys)[i]? = _
    exact zipD_get xs ys i x y (by simpa using h1) (by simpa using h2)
theorem zipD_len : ∀ (xs ys : List D), (zipD xs ys).length = min xs.length ys.length
  | [], _ => by simp [zipD]
  | _ :: _, [] => by simp [zipD]
  | a :: xs, b :: ys => by
    show (zipD xs ys).length + 1 = _
    rw [zipD_len xs ys, List.length_cons, List.length_cons]
    omega
theorem walkZL (s : SrcL K T φ ρ H1 xs kp a) (t : SrcL K T φ ρ H1 ys kq b) : WalkD K T φ ρ H1 (zipD xs ys) (kp ++ kq) (Itz K a b) where
  goes := fun i φ' ρ' H st hi l => by
    obtain ⟨vs, h1, h2⟩ := s _ _ _ _ l.left
    obtain ⟨us, h3, h4⟩ := t _ _ _ _ l.right
    rw [zipD_len] at hi
    exact ⟨vs, us, vs[i]'(by rw [h2.length]; omega), us[i]'(by rw [h4.length]; omega), h1, h3, by simp, by simp⟩
  stops := fun φ' ρ' H st l => by
    obtain ⟨vs, h1, h2⟩ := s _ _ _ _ l.left
    obtain ⟨us, h3, h4⟩ := t _ _ _ _ l.right
    have e1 := h2.length
    have e2 := h4.length
    exact ⟨vs, us, h1, h3, by rw [zipD_len]; omega⟩
  yields := fun i φ' ρ' H st v H' hi l y => by
    obtain ⟨vs, h1, h2⟩ := s _ _ _ _ l.left
    obtain ⟨us, h3, h4⟩ := t _ _ _ _ l.right
    obtain ⟨p, x, z, rfl, hp, rfl, f, g⟩ := y
    obtain ⟨d, h5, h6⟩ := h2.getV (f vs h1)
    obtain ⟨e, h7, h8⟩ := h4.getV (g us h3)
    exact ⟨⟨_, zipD_get _ _ _ _ _ h5 h7, pair_rd l.ws.fl hp h6 h8⟩, .inr ⟨p, _, hp, (fun _ z => by cases z), rfl⟩⟩
theorem walkZT (s : SrcT K T φ ρ H1 xs kp a) (t : SrcT K T φ ρ H1 ys kq b) : WalkD K T φ ρ H1 (zipD xs ys) (kp ++ kq) (RZ.ItzT K a b) where
  goes := fun i φ' ρ' H st hi l => by
    obtain ⟨vs, h1, h2⟩ := s _ _ _ _ l.left
    obtain ⟨us, h3, h4⟩ := t _ _ _ _ l.right
    rw [zipD_len] at hi
    exact ⟨vs, us, vs[i]'(by rw [h2.length]; omega), us[i]'(by rw [h4.length]; omega), h1, h3, by simp, by simp⟩
  stops := fun φ' ρ' H st l => by
    obtain ⟨vs, h1, h2⟩ := s _ _ _ _ l.left
    obtain ⟨us, h3, h4⟩ := t _ _ _ _ l.right
    have e1 := h2.length
    have e2 := h4.length
    exact ⟨vs, us, h1, h3, by rw [zipD_len]; omega⟩
  yields := fun i φ' ρ' H st v H' hi l y => by
    obtain ⟨vs, h1, h2⟩ := s _ _ _ _ l.left
    obtain ⟨us, h3, h4⟩ := t _ _ _ _ l.right
    obtain ⟨p, x, z, rfl, hp, rfl, f, g⟩ := y
    obtain ⟨d, h5, h6⟩ := h2.getV (f vs h1)
    obtain ⟨e, h7, h8⟩ := h4.getV (g us h3)
    exact ⟨⟨_, zipD_get _ _ _ _ _ h5 h7, pair_rd l.ws.fl hp h6 h8⟩, .inr ⟨p, _, hp, (fun _ z => by cases z), rfl⟩⟩
end

def tI (K : PySem.W.Frag) (T : List (Addr × Str)) (F : Env → Sto → Option (List D × List (Nat × List D) × Sto)) : TI := fun σ H R =>
  ∃ φ ρ env st xs kp st', Ws K T φ ρ H st ∧ Sl K φ ρ H env σ ∧ F env st = some (xs, kp, st') ∧ ∀ J H1, PostB K T φ ρ H H1 env σ st' → keptL st' kp = true → WalkD K T φ ρ H1 xs kp J → R J H1
theorem impI {tg e : Expr} {t t' : TI} (h : PI X tg e t) (k : ∀ σ H R, t' σ H R → t σ H R) : PI X tg e t' := ⟨fun pins s σ H R I q => h.run pins s σ H R I (k σ H R q)⟩
/-- a list or a tuple -/
theorem pi_seq {tg l : Expr} {tl : TE} (hl : PE X l tl) : PI X tg l (fun σ H R => tl σ H fun x H1 => ∃ a, x = .ref a ∧ (((∃ xs, SqL X.K H1 a xs) ∧ R (Itl X.K a) H1) ∨ ((∃ xs, SqT X.K H1 a xs) ∧ R (Itt X.K a) H1))) := by
  refine ⟨fun pins s σ H R I h => thn (hl.run pins s σ H _ I h) fun v s1 ⟨x, H1, I1, r1, a, e, q⟩ => ?_⟩
  subst e
  cases (show v = Value.ref a from r1)
  have hn : ∀ b ∈ [s1.heap.objs.size], FpOk X pins H1 b := fun b hb => by
    rw [List.mem_singleton.mp hb]
    exact I1.fpOk (Nat.le_refl _) (I1.hok.fresh (Nat.le_refl _))
  rcases q with ⟨⟨xs, hq⟩, q⟩ | ⟨⟨xs, hq⟩, q⟩
  · obtain ⟨its, rv, p, hz⟩ := I1.list hq
    exact wpAny_pyIter_list p.isList ⟨_, [s1.heap.objs.size], _, _, H1, rfl, I1.kept (t' := s1.toks) fun b o e => Heap.get?_push_of_some _ e, turn_list a _, ⟨_, Heap.get?_push_size _ rfl, rfl, rfl⟩, hn, q⟩
  · obtain ⟨its, rv, p, hz⟩ := I1.tuple hq
    exact wpAny_pyIter_tuple p ⟨_, [s1.heap.objs.size], _, _, H1, rfl, I1.kept (t' := s1.toks) fun b o e => Heap.get?_push_of_some _ e, turn_tuple a _, ⟨_, Heap.get?_push_size _ rfl, rfl, rfl⟩, hn, q⟩
section
variable {tg a b : Expr} {a' b' : IE} {es' : List IE} {p pos : Pos}
theorem evDs_len : ∀ {es' : List IE} {env : Env} {st : Sto} {ds : List D} {st1 : Sto}, evDs G cl es' env st = some (ds, st1) → ds.length = es'.length
  | [], env, st, ds, st1, h => by simp only [evDs] at h; cases h; rfl
  | e :: es', env, st, ds, st1, h => by
    simp only [evDs] at h
    split at h
    · split at h
      · rename_i h2
        cases h
        exact congrArg (· + 1) (evDs_len h2)
      · cases h
    · cases h
theorem oki_of (ha : PE X a (tF X.K T (evE G cl a'))) : PI X tg a (tI X.K T (evI G cl (.of a'))) := by
  refine impI (pi_seq ha) fun σ H R q => ?_
  obtain ⟨φ, ρ, env, st, xs, kp, st', ws, sl, he, k⟩ := q
  simp only [evI] at he
  split at he
  · rename_i x st1 h1
    split at he
    · rename_i ys kq h2
      cases he
      refine seq1 ws sl h1 fun u H1 w1 s1 e1 r1 => ?_
      obtain ⟨kk, ad, rfl, hs⟩ := src_of w1 r1 h2
      have now : Lt X.K T φ ρ H1 kp φ ρ H1 st' := ⟨w1, kk, .refl _ _, [], by simp⟩
      rcases hs with ⟨_, hs⟩ | ⟨_, hs⟩
      · obtain ⟨vs, h3, _⟩ := hs _ _ _ _ now
        exact ⟨ad, rfl, .inl ⟨⟨vs, h3⟩, k _ _ ⟨w1, s1, e1⟩ kk (walkL hs)⟩⟩
      · obtain ⟨vs, h3, _⟩ := hs _ _ _ _ now
        exact ⟨ad, rfl, .inr ⟨⟨vs, h3⟩, k _ _ ⟨w1, s1, e1⟩ kk (walkT hs)⟩⟩
    · cases he
  · cases he
theorem oki_enm {elts : List Expr} {kk : Nat} {tpos : Pos} (hg : Gl X "enumerate") (hm : X.mg "enumerate" = none) (ha : PE X a (tF X.K T (evE G cl a'))) (hp : pln a = true) : PI X (.Tuple elts kk tpos) (.Call (.Name "enumerate" p) [a] [] pos) (tI X.K T (evI G cl (.enm a'))) := by
  refine impI (pi_enumA hg hm (pa_cons ha pa_nil (pln_star hp _ _)) (pln_star hp _ _)) fun σ H R q => ?_
  obtain ⟨φ, ρ, env, st, xs, kp, st', ws, sl, he, k⟩ := q
  simp only [evI] at he
  split at he
  · rename_i x st1 h1
    split at he
    · rename_i ys kq h2
      cases he
      refine seq1 ws sl h1 fun u H1 w1 s1 e1 r1 => ?_
      obtain ⟨kk, ad, rfl, hs⟩ := src_of w1 r1 h2
      have now : Lt X.K T φ ρ H1 kp φ ρ H1 st' := ⟨w1, kk, .refl _ _, [], by simp⟩
      rcases hs with ⟨_, hs⟩ | ⟨_, hs⟩
      · obtain ⟨vs, h3, _⟩ := hs _ _ _ _ now
        exact ⟨ad, vs, rfl, .inl ⟨h3, k _ _ ⟨w1, s1, e1⟩ kk (walkEL hs)⟩⟩
      · obtain ⟨vs, h3, _⟩ := hs _ _ _ _ now
        exact ⟨ad, vs, rfl, .inr ⟨h3, k _ _ ⟨w1, s1, e1⟩ kk (walkET hs)⟩⟩
    · cases he
  · cases he
theorem oki_rng1 (hg : Gl X "range") (hm : X.mg "range" = none) (hes : PA X [a] (tDs X.K T (evDs G cl es'))) (hl : es'.length = 1) (hp : pln a = true) : PI X tg (.Call (.Name "range" p) [a] [] pos) (tI X.K T (evI G cl (.rng es'))) := by
  refine impI (pi_range1 hg hm hes (pln_star hp _ _)) fun σ H R q => ?_
  obtain ⟨φ, ρ, env, st, xs, kp, st', ws, sl, he, k⟩ := q
  simp only [evI] at he
  split at he
  · rename_i n st1 h1
    split at he
    · rename_i hb
      cases he
      refine ⟨φ, ρ, env, st, _, _, ws, sl, h1, fun vs H1 pb rd => ?_⟩
      cases rd with
      | cons r rr =>
        cases rr
        cases r
        refine ⟨n, rfl, hb.1, hb.2, ?_⟩
        have w := walkR (K := X.K) (T := T) (φ := φ) (ρ := ρ) (H1 := H1) (lo := 0) (n := n.toNat)
        refine k _ _ pb rfl ?_
        unfold rngD
        rw [Int.sub_zero]
        exact w
    · cases he
  · rename_i c d st1 h1
    have := evDs_len h1
    rw [hl] at this
    cases this
  · cases he
theorem oki_rng2 (hg : Gl X "range") (hm : X.mg "range" = none) (hes : PA X [a, b] (tDs X.K T (evDs G cl es'))) (hl : es'.length = 2) (hp : pln a = true) (hp2 : pln b = true) : PI X tg (.Call (.Name "range" p) [a, b] [] pos) (tI X.K T (evI G cl (.rng es'))) := by
  refine impI (pi_range2 hg hm hes (by rw [pln_star hp, pln_star hp2]; rfl) (pln_star hp2 _ _)) fun σ H R q => ?_
  obtain ⟨φ, ρ, env, st, xs, kp, st', ws, sl, he, k⟩ := q
  simp only [evI] at he
  split at he
  · rename_i n st1 h1
    have := evDs_len h1
    rw [hl] at this
    cases this
  · rename_i c d st1 h1
    split at he
    · rename_i hb
      cases he
      refine ⟨φ, ρ, env, st, _, _, ws, sl, h1, fun vs H1 pb rd => ?_⟩
      cases rd with
      | cons r rr =>
        cases r
        cases rr with
        | cons r rr =>
          cases r
          cases rr
          exact ⟨c, d, rfl, ⟨hb.1, hb.2.1, hb.2.2.1, hb.2.2.2⟩, k _ _ pb rfl walkR⟩
    · cases he
  · cases he
theorem oki_zip {elts : List Expr} {kk : Nat} {tpos : Pos} (hg : Gl X "zip") (hm : X.mg "zip" = none) (ha : PE X a (tF X.K T (evE G cl a'))) (hb : PE X b (tF X.K T (evE G cl b'))) (hp : pln a = true) (hp2 : pln b = true) :
    PI X (.Tuple elts kk tpos) (.Call (.Name "zip" p) [a, b] [] pos) (tI X.K T (evI G cl (.zip a' b'))) := by
  refine impI (RZ.pi_zipA hg hm (pa_cons ha (pa_cons hb pa_nil (pln_star hp2 _ _)) (pln_star hp _ _)) (pln_star hp _ _) (back_pln (es := [b]) (by rw [List.all_cons, hp2]; rfl) _ _)) fun σ H R q => ?_
  obtain ⟨φ, ρ, env, st, xs, kp, st', ws, sl, he, k⟩ := q
  simp only [evI] at he
  split at he
  · rename_i x st1 h1
    split at he
    · rename_i y st2 h2
      split at he
      · rename_i us kq vs kr h3 h4
        split at he
        · rename_i hk
          cases he
          have hk : srcT x = srcT y := by simpa using hk
          refine seq2 ws sl h1 h2 fun u v H2 w2 s2 e2 ru rv => ?_
          obtain ⟨k1, a1, rfl, hs⟩ := src_of w2 ru h3
          obtain ⟨k2, a2, rfl, ht⟩ := src_of w2 rv h4
          have nowL : Lt X.K T φ ρ H2 kq φ ρ H2 st' := ⟨w2, k1, .refl _ _, [], by simp⟩
          have nowR : Lt X.K T φ ρ H2 kr φ ρ H2 st' := ⟨w2, k2, .refl _ _, [], by simp⟩
          have kk : keptL st' (kq ++ kr) = true := by rw [keptL_app, k1, k2]; rfl
          rcases hs with ⟨e1, hs⟩ | ⟨e1, hs⟩
          · rcases ht with ⟨e3, ht⟩ | ⟨e3, ht⟩
            · obtain ⟨us', h5, _⟩ := hs _ _ _ _ nowL
              obtain ⟨vs', h6, _⟩ := ht _ _ _ _ nowR
              exact ⟨a1, a2, us', vs', rfl, .inl ⟨h5, h6, k _ _ ⟨w2, s2, e2⟩ kk (walkZL hs ht)⟩⟩
            · rw [e1, e3] at hk; cases hk
          · rcases ht with ⟨e3, ht⟩ | ⟨e3, ht⟩
            · rw [e1, e3] at hk; cases hk
            · obtain ⟨us', h5, _⟩ := hs _ _ _ _ nowL
              obtain ⟨vs', h6, _⟩ := ht _ _ _ _ nowR
              exact ⟨a1, a2, us', vs', rfl, .inr ⟨h5, h6, k _ _ ⟨w2, s2, e2⟩ kk (walkZT hs ht)⟩⟩
        · cases he
      · cases he
    · cases he
  · cases he
end
end Ev
set_option linter.all false
set_option maxRecDepth 100000
set_option maxHeartbeats 4000000
/-! Ev8: targets, comprehensions. -/
namespace Ev
open PySem PySem.Spec L2
variable {K : PySem.W.Frag} {T : List (Addr × Str)} {X : Cx} {G : Pk} {cl : Str → List SV → Sto → Option (ER × Sto)}

/-! ### targets -/
theorem wipe_set {σ : L2.St} {i : Nat} {x : Option V} : ∀ {vs : List Nat}, L2.wipe (σ.set i x) vs = if i ∈ vs then L2.wipe σ vs else (L2.wipe σ vs).set i x
  | [] => by simp [L2.wipe]
  | k :: vs => by
    show (L2.wipe (σ.set i x) vs).set k none = _
    rw [wipe_set (vs := vs)]
    by_cases h : i ∈ vs
    · rw [if_pos h, if_pos (List.mem_cons_of_mem _ h)]; rfl
    · rw [if_neg h]
      by_cases e : i = k
      · subst e
        rw [if_pos List.mem_cons_self, List.set_set]; rfl
      · rw [if_neg (by simp [e, h]), List.set_comm _ _ e]; rfl
theorem wipe_in {σ : L2.St} {i : Nat} {x : Option V} {vs : List Nat} (h : i ∈ vs) : L2.wipe (σ.set i x) vs = L2.wipe σ vs := by rw [wipe_set, if_pos h]
theorem wipe_wipe {σ : L2.St} {vs : List Nat} : ∀ {us : List Nat}, (∀ i ∈ us, i ∈ vs) → L2.wipe (L2.wipe σ us) vs = L2.wipe σ vs
  | [], _ => rfl
  | u :: us, h => by
    show L2.wipe ((L2.wipe σ us).set u none) vs = _
    rw [wipe_in (h u List.mem_cons_self)]
    exact wipe_wipe fun i hi => h i (List.mem_cons_of_mem _ hi)
def tG (K : PySem.W.Frag) (T : List (Addr × Str)) (t : IT) : TG := fun v σ H Q => ∃ φ ρ env st d env', Ws K T φ ρ H st ∧ Sl K φ ρ H env σ ∧ RD K φ H v d ∧ bindT t d env = some env' ∧
  ∀ σ', Sl K φ ρ H env' σ' → (∀ vs, (∀ i ∈ slT t, i ∈ vs) → L2.wipe σ' vs = L2.wipe σ vs) → Q σ' H
def tGs (K : PySem.W.Frag) (T : List (Addr × Str)) (ts : List IT) : TGs := fun us σ H Q => ∃ φ ρ env st ds env', Ws K T φ ρ H st ∧ Sl K φ ρ H env σ ∧ RDs K φ H us ds ∧ bindTs ts ds env = some env' ∧
  ∀ σ', Sl K φ ρ H env' σ' → (∀ vs, (∀ i ∈ slTs ts, i ∈ vs) → L2.wipe σ' vs = L2.wipe σ vs) → Q σ' H
theorem impG {e : Expr} {t t' : TG} (h : PG X e t) (k : ∀ v σ H Q, t' v σ H Q → t v σ H Q) : PG X e t' := ⟨fun pins s σ H v u Q I r q => h.run pins s σ H v u Q I r (k v σ H Q q)⟩
theorem impGs {e : List Expr} {t t' : TGs} (h : PGs X e t) (k : ∀ v σ H Q, t' v σ H Q → t v σ H Q) : PGs X e t' := ⟨fun pins s σ H v u Q I r q => h.run pins s σ H v u Q I r (k v σ H Q q)⟩
/-- a name or a tuple of targets -/
def plnT : Expr → Bool
  | .Name .. => true
  | .Tuple .. => true
  | _ => false
theorem okg_nm {i : Nat} {x : Str} {pos : Pos} (hN : X.N.Nodup) (hi : X.N[i]? = some x) (hx : Loc X.env.scope x) (hf : X.fn x = true ∨ X.env.scope.names.lookup x = some .local) : PG X (.Name x pos) (tG X.K T (.nm i)) := by
  refine impG (pg_name hN hi hx hf) fun v σ H Q q => ?_
  obtain ⟨φ, ρ, env, st, d, env', ws, sl, rd, hb, k⟩ := q
  simp only [bindT] at hb
  split at hb
  · cases hb
    exact k _ (sl.set (s := .dat d) rd) fun vs h => wipe_in (h i (by simp [slT]))
  · cases hb
theorem okgs_nil : PGs X [] (tGs X.K T []) := by
  refine impGs pgs_nil fun v σ H Q q => ?_
  obtain ⟨φ, ρ, env, st, d, env', ws, sl, rd, hb, k⟩ := q
  cases rd with
  | nil =>
    simp only [bindTs] at hb
    cases hb
    exact ⟨rfl, k _ sl fun vs h => rfl⟩
  | cons a b => simp [bindTs] at hb
theorem okgs_cons {e : Expr} {es : List Expr} {t : IT} {ts : List IT} (hp : plnT e = true) (h : PG X e (tG X.K T t)) (hs : PGs X es (tGs X.K T ts)) : PGs X (e :: es) (tGs X.K T (t :: ts)) := by
  refine impGs (pgs_cons h hs (by cases e <;> first | rfl | (exact absurd (show false = true from hp) Bool.false_ne_true))) fun us σ H Q q => ?_
  obtain ⟨φ, ρ, env, st, d, env', ws, sl, rd, hb, k⟩ := q
  cases rd with
  | nil => simp [bindTs] at hb
  | cons a b =>
    simp only [bindTs] at hb
    split at hb
    · rename_i env1 h1
      refine ⟨_, _, rfl, φ, ρ, env, st, _, env1, ws, sl, a, h1, fun σ1 sl1 w1 => ⟨φ, ρ, env1, st, _, env', ws, sl1, b, hb, fun σ2 sl2 w2 => k σ2 sl2 fun vs h => ?_⟩⟩
      rw [w2 vs fun i hi => h i (by simp [slTs, hi]), w1 vs fun i hi => h i (by simp [slTs, hi])]
    · cases hb
theorem plnT_len {es : List Expr} {env : PySem.Env} (h : es.all plnT = true) : (assignEach es env).length = es.length ∧ (assignEach es env).findIdx? (·.1) = none := by
  induction es with
  | nil => exact ⟨rfl, rfl⟩
  | cons e es ih =>
    rw [List.all_cons, Bool.and_eq_true] at h
    obtain ⟨h1, h2⟩ := ih h.2
    have e1 : assignEach (e :: es) env = (false, assign e env) :: assignEach es env := by
      cases e <;> first | rfl | (exact absurd (show false = true from h.1) Bool.false_ne_true)
    rw [e1]
    refine ⟨congrArg (· + 1) h1, ?_⟩
    rw [List.findIdx?_cons]
    simp only [Bool.false_eq_true, if_false, h2, Option.map_none]
theorem okg_tp {es : List Expr} {ts : List IT} {k : Nat} {pos : Pos} (hc : X.calm = true) (hp : es.all plnT = true) (hl : es.length = ts.length) (hs : PGs X es (tGs X.K T ts)) : PG X (.Tuple es k pos) (tG X.K T (.tp ts)) := by
  refine impG (pg_tup hc hs (plnT_len hp).1 (plnT_len hp).2) fun v σ H Q q => ?_
  obtain ⟨φ, ρ, env, st, d, env', ws, sl, rd, hb, k⟩ := q
  cases rd with
  | tup h1 h2 =>
    simp only [bindT] at hb
    refine ⟨_, _, rfl, h1, ?_, φ, ρ, env, st, _, env', ws, sl, h2, hb, fun σ' sl' w => k σ' sl' fun vs h => w vs fun i hi => h i (by simpa [slT] using hi)⟩
    rw [h2.length, hl]
    have len : ∀ {ts : List IT} {ds : List D} {env env' : Env}, bindTs ts ds env = some env' → ds.length = ts.length := by
      intro ts
      induction ts with
      | nil => intro ds env env' h; cases ds with | nil => rfl | cons a b => simp [bindTs] at h
      | cons t ts ih =>
        intro ds env env' h
        cases ds with
        | nil => simp [bindTs] at h
        | cons a b =>
          simp only [bindTs] at h
          split at h
          · exact congrArg (· + 1) (ih h)
          · cases h
    exact len hb
  | non => simp [bindT] at hb
  | bl b => simp [bindT] at hb
  | int i => simp [bindT] at hb
  | str x => simp [bindT] at hb
  | lst a b c => simp [bindT] at hb
  | dct _ e _ _ => simp [bindT] at hb
  | obj _ e _ _ _ => simp [bindT] at hb

/-! ### tests of a comprehension -/
def tCs (K : PySem.W.Frag) (T : List (Addr × Str)) (F : Env → Sto → Option (Bool × Sto)) : TT := fun σ H Q =>
  ∃ φ ρ env st b st', Ws K T φ ρ H st ∧ Sl K φ ρ H env σ ∧ F env st = some (b, st') ∧ ∀ H', PostB K T φ ρ H H' env σ st' → Q b H'
theorem okc_nil : PTs X [] (tCs X.K T (evCs G cl [])) := by
  refine ⟨fun pins s σ H Q I q => pts_nil.run pins s σ H Q I ?_⟩
  obtain ⟨φ, ρ, env, st, b, st', ws, sl, he, k⟩ := q
  simp only [evCs] at he
  cases he
  exact k H ⟨ws, sl, .refl _ _⟩
theorem okc_one {c : Expr} {c' : IE} (h : PT X c (tT X.K T (evE G cl c'))) : PTs X [c] (tCs X.K T (evCs G cl [c'])) := by
  refine ⟨fun pins s σ H Q I q => (pts_one h).run pins s σ H Q I ?_⟩
  obtain ⟨φ, ρ, env, st, b, st', ws, sl, he, k⟩ := q
  simp only [evCs] at he
  split at he
  · rename_i st1 h1
    cases he
    exact seqT ws sl h1 fun H1 w1 s1 e1 => k H1 ⟨w1, s1, e1⟩
  · rename_i st1 h1
    cases he
    exact seqT ws sl h1 fun H1 w1 s1 e1 => k H1 ⟨w1, s1, e1⟩
  · cases he

/-! ### list comprehensions -/
section
variable {φ ρ : List Addr} {H H' : Hp} {st : Sto} {p : Addr} {xs : List V} {o : HO}
theorem Ws.weak {ψ : List Addr} (w : Ws K T φ ρ H st) (h : ∀ a ∈ ψ, a ∈ φ) (r : ∀ a ∈ ρ, a ∈ ψ) : Ws K T ψ ρ H st :=
  ⟨w.len, fun n ds e => let ⟨a, xs, h1, h2, h3⟩ := w.sto n ds e; ⟨a, xs, h1, h2, h3.weak h⟩, w.nd, r, fun a ha => w.fx a (h a ha), w.tab⟩
/-- a forbidden list, none of the store's, is changed -/
theorem Ws.put {ys : List V} (w : Ws K T φ ρ H st) (h1 : p ∈ φ) (h2 : p ∉ ρ) (h0 : ∃ zs, H p = some (.lst zs)) : Ws K T φ ρ (upd H p (.lst ys)) st := by
  have x : Ext φ H (upd H p (.lst ys)) := .at h1
  obtain ⟨zs, ez⟩ := h0
  refine ⟨w.len, fun n ds e => ?_, w.nd, w.sub, fun a ha => ?_, Tabs_ext (φ := φ) w.tab (.inr ⟨zs, ez⟩)⟩
  · obtain ⟨a, xs, h3, h4, h5⟩ := w.sto n ds e
    exact ⟨a, xs, h3, (upd_ne fun z => h2 (by rw [← z]; exact List.mem_of_getElem? h3)).trans h4, h5.ext x w.fl⟩
  · by_cases e : a = p
    · rw [e]; exact ⟨_, upd_same, True.intro⟩
    · obtain ⟨u, h3, m⟩ := w.fx a ha
      exact ⟨u, (upd_ne e).trans h3, m⟩
end
/-- the state within a comprehension: the new list at d, what it holds so far -/
structure Lc (K : PySem.W.Frag) (T : List (Addr × Str)) (φ ρ : List Addr) (H1 : Hp) (env : Env) (σ : L2.St) (d : Addr) (H : Hp) (st : Sto) (vs : List V) (ds : List D) : Prop where
  ws : Ws K T (φ ++ [d]) ρ H st
  sl : Sl K (φ ++ [d]) ρ H env σ
  at' : H d = some (.lst vs)
  rd : RDs K (φ ++ [d]) H vs ds
  ext : Ext ρ H1 H
  non : H1 d = none
  out : d ∉ φ
section
variable {φ ρ : List Addr} {H1 H H' : Hp} {env : Env} {σ : L2.St} {d : Addr} {st st' : Sto} {vs : List V} {ds : List D}
theorem Lc.gr (l : Lc K T φ ρ H1 env σ d H st vs ds) (sub : ∀ a ∈ ρ, a ∈ φ) : Gr φ (φ ++ [d]) H1 H := ⟨l.ext.more sub, [d], rfl, fun a ha => by rw [List.mem_singleton.mp ha]; exact l.non⟩
theorem Lc.nr (l : Lc K T φ ρ H1 env σ d H st vs ds) (sub : ∀ a ∈ ρ, a ∈ φ) : d ∉ ρ := fun z => l.out (sub _ z)
theorem Lc.start (ws : Ws K T φ ρ H1 st) (sl : Sl K φ ρ H1 env σ) (n : H1 d = none) : Lc K T φ ρ H1 env σ d (upd H1 d (.lst [])) st [] [] := by
  have out : d ∉ φ := fun z => by obtain ⟨xs, e, _⟩ := ws.fx d z; rw [n] at e; cases e
  refine ⟨ws.fresh n, ?_, upd_same, .nil, .new n, n, out⟩
  obtain ⟨p, xs, ds, e1, e2, e3, e4, e5, e6, e7⟩ := (Post.lst (ds := []) ws sl n .nil).fr _ rfl
  cases e2
  exact e7
/-- a step that changes nothing at d -/
theorem Lc.step (l : Lc K T φ ρ H1 env σ d H st vs ds) (sub : ∀ a ∈ ρ, a ∈ φ) (w : Ws K T (φ ++ [d]) ρ H' st') (x : Ext ρ H H') : Lc K T φ ρ H1 env σ d H' st' vs ds :=
  ⟨w, l.sl.ext (x.more l.ws.sub) l.ws.fl, x.keep _ _ l.at' (l.nr sub) (fun ps z => by cases z), l.rd.ext (x.more l.ws.sub) l.ws.fl, l.ext.trans x, l.non, l.out⟩
/-- one more item -/
theorem Lc.push {v : V} {z : D} (l : Lc K T φ ρ H1 env σ d H st vs ds) (sub : ∀ a ∈ ρ, a ∈ φ) (r : RD K (φ ++ [d]) H v z) : Lc K T φ ρ H1 env σ d (upd H d (.lst (vs ++ [v]))) st (vs ++ [v]) (ds ++ [z]) := by
  have hd : d ∈ φ ++ [d] := by simp
  have x : Ext (φ ++ [d]) H (upd H d (.lst (vs ++ [v]))) := .at hd
  refine ⟨l.ws.put hd (l.nr sub) ⟨_, l.at'⟩, l.sl.ext x l.ws.fl, upd_same, (l.rd.append (.cons r .nil)).ext x l.ws.fl, ⟨fun b o e n t => ?_, fun b e => ?_⟩, l.non, l.out⟩
  · have nb : b ≠ d := fun q => by rw [q, l.non] at e; cases e
    exact (upd_ne nb).trans (l.ext.keep b o e n t)
  · by_cases q : b = d
    · rw [q]; exact l.non
    · exact l.ext.dom b ((upd_ne q).symm.trans e)
theorem Lc.post {env0 : Env} {σ0 : L2.St} {H0 : Hp} (l : Lc K T φ ρ H1 env σ d H st vs ds) (sub : ∀ a ∈ ρ, a ∈ φ) (w1 : Ws K T φ ρ H1 st') (s1 : Sl K φ ρ H1 env0 σ0) (x : Ext ρ H0 H1) : Post K T φ ρ H0 H env0 σ0 st (.dat (.list ds) true) (.ref d) := by
  have g := l.gr sub
  refine ⟨l.ws.weak (fun a ha => List.mem_append_left _ ha) sub, s1.ext g.ext w1.fl, x.trans l.ext, .lst l.out l.at' (l.rd.weak fun a ha => List.mem_append_left _ ha), fun z e => ?_⟩
  cases e
  refine ⟨d, vs, ds, rfl, rfl, x.dom _ l.non, l.at', l.rd, l.ws, s1.len, fun i s e => ?_⟩
  obtain ⟨u, h1, h2⟩ := s1.get i s e
  refine ⟨u, h1, ?_⟩
  cases s with
  | dat z => exact g.rd w1.fl h2
  | loc n => exact h2
  | scr ns => exact RS.ext g.ext w1.fl h2
end
theorem lc_read {own : List (Str × Nat)} {t : IT} {it : II} {cs : List IE} {e : IE} (hown : ∀ i ∈ slT t, i ∈ own.map (·.2)) (σ : L2.St) (H : Hp) (Q : VK) (q : tF K T (evE G cl (.lc own t it cs e)) σ H Q) :
    tLc (tI K T (evI G cl it)) (tG K T t) (tCs K T (evCs G cl cs)) (tF K T (evE G cl e)) (own.map (·.2)) σ H Q := by
  obtain ⟨φ, ρ, env, st, x, st', ws, sl, hev, k⟩ := q
  simp only [evE] at hev
  split at hev
  · rename_i xs kp st1 h1
    split at hev
    · rename_i ys st2 h2
      split at hev
      · rename_i hlen
        cases hev
        refine ⟨φ, ρ, env, st, xs, kp, st1, ws, sl, h1, fun J H1 p kk walk dd hdd => ?_⟩
        have sub := p.ws.sub
        have slw : Sl K φ ρ H1 (wipeE env (own.map (·.2))) (L2.wipe σ (own.map (·.2))) := p.sl.wipe _
        generalize hF : (fun (d : D) (s : Sto) => match bindT t d (wipeE env (own.map (·.2))) with
          | some env1 => match evCs G cl cs env1 s with
            | some (true, s1) => match evE G cl e env1 s1 with
              | some (.dat y _, s2) => if keptL s2 kp then some ([y], s2) else none
              | _ => none
            | some (false, s1) => if keptL s1 kp then some ([], s1) else none
            | none => none
          | none => none) = F at h2
        refine ⟨fun i m Hh => m = xs.length - i ∧ i ≤ xs.length ∧ ∃ stc vs done rest, Lc K T φ ρ H1 (wipeE env (own.map (·.2))) (L2.wipe σ (own.map (·.2))) dd Hh stc vs done ∧ keptL stc kp = true ∧ compL F (xs.drop i) stc = some (rest, st') ∧ done ++ rest = ys,
          ⟨xs.length, by simp, Nat.zero_le _, st1, [], [], ys, Lc.start p.ws slw hdd, kk, h2, rfl⟩, ?_⟩
        rintro i m Hh ⟨rfl, hi, stc, vs, done, rest, l, kc, hrest, hys⟩
        have lt : Lt K T φ ρ H1 kp (φ ++ [dd]) ρ Hh stc := ⟨l.ws, kc, l.gr sub, [], by simp⟩
        by_cases hlt : i < xs.length
        · refine .inr ⟨walk.goes i _ _ _ _ hlt lt, ?_⟩
          have hdrop : xs.drop i = xs[i] :: xs.drop (i + 1) := List.drop_eq_getElem_cons hlt
          rw [hdrop] at hrest
          simp only [compL] at hrest
          split at hrest
          · rename_i zs sta ha
            split at hrest
            · rename_i ws' stb hb
              cases hrest
              refine ⟨fun H' => ∃ vs2, Lc K T φ ρ H1 (wipeE env (own.map (·.2))) (L2.wipe σ (own.map (·.2))) dd H' sta vs2 (done ++ zs) ∧ keptL sta kp = true, fun H' hN' => ?_, fun u Hy hy => ?_⟩
              · obtain ⟨vs2, l2, k2⟩ := hN'
                exact ⟨xs.length - (i + 1), by omega, rfl, hlt, sta, vs2, done ++ zs, ws', l2, k2, hb, by rw [List.append_assoc]; exact hys⟩
              · obtain ⟨⟨d0, hd0, rd0⟩, hch⟩ := walk.yields i _ _ _ _ u Hy hlt lt hy
                have ed : d0 = xs[i] := by rw [List.getElem?_eq_getElem hlt] at hd0; exact (Option.some.inj hd0).symm
                subst ed
                have ly : Lc K T φ ρ H1 (wipeE env (own.map (·.2))) (L2.wipe σ (own.map (·.2))) dd Hy stc vs done := by
                  rcases hch with rfl | ⟨pp, oo, hp0, hoo, rfl⟩
                  · exact l
                  · exact l.step sub (l.ws.new hp0 hoo) (.new hp0)
                rw [← hF] at ha
                simp only at ha
                split at ha
                · rename_i env1 hb1
                  refine ⟨φ ++ [dd], ρ, _, stc, xs[i], env1, ly.ws, ly.sl, rd0, hb1, fun σ2 sl2 w2 => ⟨(w2 _ hown).trans (wipe_wipe fun _ h => h), ?_⟩⟩
                  split at ha
                  · rename_i s1 hc1
                    split at ha
                    · rename_i y fr s2 he2
                      split at ha
                      · rename_i hk2
                        cases ha
                        refine ⟨φ ++ [dd], ρ, env1, stc, true, s1, ly.ws, sl2, hc1, fun H3 p3 => iteT ⟨φ ++ [dd], ρ, env1, s1, _, sta, p3.ws, p3.sl, he2, fun v4 H4 p4 => ?_⟩⟩
                        have l4 := (ly.step sub p3.ws p3.ext).step sub p4.ws p4.ext
                        have hlen2 : vs.length < sizeLine := by
                          rw [l4.rd.length]
                          have : (done ++ ([y] ++ ws')).length ≤ sizeLine := by rw [hys]; exact hlen
                          simp only [List.length_append, List.length_cons, List.length_nil] at this
                          omega
                        exact ⟨vs, l4.at', hlen2, vs ++ [v4], l4.push sub p4.rr, hk2⟩
                      · cases ha
                    · cases ha
                  · rename_i s1 hc1
                    split at ha
                    · rename_i hk2
                      cases ha
                      exact ⟨φ ++ [dd], ρ, env1, stc, false, sta, ly.ws, sl2, hc1, fun H3 p3 => iteF ⟨vs, by rw [List.append_nil]; exact ly.step sub p3.ws p3.ext, hk2⟩⟩
                    · cases ha
                  · cases ha
                · cases ha
            · cases hrest
          · cases hrest
        · have e : i = xs.length := by omega
          subst e
          refine .inl ⟨walk.stops _ _ _ _ lt, ?_⟩
          rw [List.drop_length] at hrest
          simp only [compL] at hrest
          cases hrest
          rw [List.append_nil] at hys
          subst hys
          exact k _ _ (l.post sub p.ws p.sl p.ext)
      · cases hev
    · cases hev
  · cases hev
theorem ok_lc {elt tg iter : Expr} {ifs : List Expr} {scope : Scope} {own : List (Str × Nat)} {pos : Pos} {t : IT} {it : II} {cs : List IE} {e : IE} (hc : X.calm = true) (hN : X.N.Nodup) (hi : PI X tg iter (tI X.K T (evI G cl it))) (ok : BlkOk X.N X.env.scope scope own)
    (hg : ∀ (s : Shared) (H : Hp) (C : Addr) (cl : List (Str × Addr)) (fp : List Addr), PG (X.blk s H scope (compEnvC scope cl C X.env) fp) tg (tG X.K T t))
    (ht : ∀ (s : Shared) (H : Hp) (C : Addr) (cc : List (Str × Addr)) (fp : List Addr), PTs (X.blk s H scope (compEnvC scope cc C X.env) fp) ifs (tCs X.K T (evCs G cl cs)))
    (he : ∀ (s : Shared) (H : Hp) (C : Addr) (cc : List (Str × Addr)) (fp : List Addr), PE (X.blk s H scope (compEnvC scope cc C X.env) fp) elt (tF X.K T (evE G cl e)))
    (hs : pln iter = true) (hown : ∀ i ∈ slT t, i ∈ own.map (·.2)) :
    PE X (.ListComp elt [⟨tg, iter, ifs, 0⟩] scope pos) (tF X.K T (evE G cl (.lc own t it cs e))) := by
  exact imp (pe_lc hc hN hi ok hg ht he (fun x => pln_fold hs _ x)) (lc_read hown)
end Ev
set_option linter.all false
set_option maxRecDepth 100000
set_option maxHeartbeats 8000000
/-! Ev9: comprehensions of two fors. -/
namespace Ev
open PySem PySem.Spec L2
variable {K : PySem.W.Frag} {T : List (Addr × Str)} {X : Cx} {G : Pk} {cl : Str → List SV → Sto → Option (ER × Sto)}
theorem Lc.slots {φ ρ : List Addr} {H1 H : Hp} {env env' : Env} {σ σ' : L2.St} {d : Addr} {st : Sto} {vs : List V} {ds : List D} (l : Lc K T φ ρ H1 env σ d H st vs ds) (s : Sl K (φ ++ [d]) ρ H env' σ') : Lc K T φ ρ H1 env' σ' d H st vs ds :=
  ⟨l.ws, s, l.at', l.rd, l.ext, l.non, l.out⟩
theorem lc2_read {own : List (Str × Nat)} {vs1 : List Nat} {t t1 : IT} {it it1 : II} {cs cs1 : List IE} {e : IE} (hown : ∀ i ∈ slT t, i ∈ own.map (·.2)) (hown1 : ∀ i ∈ slT t1, i ∈ vs1) (σ : L2.St) (H : Hp) (Q : VK) (q : tF K T (evE G cl (.lc2 own vs1 t it cs t1 it1 cs1 e)) σ H Q) :
    tLc2 (tI K T (evI G cl it)) (tG K T t) (tCs K T (evCs G cl cs)) (tI K T (evI G cl it1)) (tG K T t1) (tCs K T (evCs G cl cs1)) (tF K T (evE G cl e)) (own.map (·.2)) vs1 σ H Q := by
  obtain ⟨φ, ρ, env, st, x, st', ws, sl, hev, k⟩ := q
  simp only [evE] at hev
  split at hev
  · rename_i xs kp st1 h1
    split at hev
    · rename_i ys st2 h2
      split at hev
      · rename_i hlen
        cases hev
        refine ⟨φ, ρ, env, st, xs, kp, st1, ws, sl, h1, fun J H1 p kk walk dd hdd => ?_⟩
        have sub := p.ws.sub
        have slw : Sl K φ ρ H1 (wipeE env (own.map (·.2))) (L2.wipe σ (own.map (·.2))) := p.sl.wipe _
        generalize hF : (fun (d : D) (s : Sto) => match bindT t d (wipeE env (own.map (·.2))) with
          | some env1 => match evCs G cl cs env1 s with
            | some (true, s1) => match evI G cl it1 env1 s1 with
              | some (zs, kp1, s2) => match compL (fun d1 s => match bindT t1 d1 (wipeE env1 vs1) with
                  | some env2 => match evCs G cl cs1 env2 s with
                    | some (true, s3) => match evE G cl e env2 s3 with
                      | some (.dat y _, s4) => if keptL s4 kp1 then some ([y], s4) else none
                      | _ => none
                    | some (false, s3) => if keptL s3 kp1 then some ([], s3) else none
                    | none => none
                  | none => none) zs s2 with
                | some (ys, s5) => if keptL s5 kp then some (ys, s5) else none
                | none => none
              | none => none
            | some (false, s1) => if keptL s1 kp then some ([], s1) else none
            | none => none
          | none => none) = F at h2
        refine ⟨fun i m Hh => m = xs.length - i ∧ i ≤ xs.length ∧ ∃ stc vs done rest, Lc K T φ ρ H1 (wipeE env (own.map (·.2))) (L2.wipe σ (own.map (·.2))) dd Hh stc vs done ∧ keptL stc kp = true ∧ compL F (xs.drop i) stc = some (rest, st') ∧ done ++ rest = ys,
          ⟨xs.length, by simp, Nat.zero_le _, st1, [], [], ys, Lc.start p.ws slw hdd, kk, h2, rfl⟩, ?_⟩
        rintro i m Hh ⟨rfl, hi, stc, vs, done, rest, l, kc, hrest, hys⟩
        have lt : Lt K T φ ρ H1 kp (φ ++ [dd]) ρ Hh stc := ⟨l.ws, kc, l.gr sub, [], by simp⟩
        by_cases hlt : i < xs.length
        · refine .inr ⟨walk.goes i _ _ _ _ hlt lt, ?_⟩
          have hdrop : xs.drop i = xs[i] :: xs.drop (i + 1) := List.drop_eq_getElem_cons hlt
          rw [hdrop] at hrest
          simp only [compL] at hrest
          split at hrest
          · rename_i zs sta ha
            split at hrest
            · rename_i ws' stb hb
              cases hrest
              refine ⟨fun H' => ∃ vs2, Lc K T φ ρ H1 (wipeE env (own.map (·.2))) (L2.wipe σ (own.map (·.2))) dd H' sta vs2 (done ++ zs) ∧ keptL sta kp = true, fun H' hN' => ?_, fun u Hy hy => ?_⟩
              · obtain ⟨vs2, l2, k2⟩ := hN'
                exact ⟨xs.length - (i + 1), by omega, rfl, hlt, sta, vs2, done ++ zs, ws', l2, k2, hb, by rw [List.append_assoc]; exact hys⟩
              · obtain ⟨⟨d0, hd0, rd0⟩, hch⟩ := walk.yields i _ _ _ _ u Hy hlt lt hy
                have ed : d0 = xs[i] := by rw [List.getElem?_eq_getElem hlt] at hd0; exact (Option.some.inj hd0).symm
                subst ed
                have ly : Lc K T φ ρ H1 (wipeE env (own.map (·.2))) (L2.wipe σ (own.map (·.2))) dd Hy stc vs done := by
                  rcases hch with rfl | ⟨pp, oo, hp0, hoo, rfl⟩
                  · exact l
                  · exact l.step sub (l.ws.new hp0 hoo) (.new hp0)
                have hdd2 : dd ∈ φ ++ [dd] := by simp
                rw [← hF] at ha
                simp only at ha
                split at ha
                · rename_i env1 hb1
                  refine ⟨φ ++ [dd], ρ, _, stc, xs[i], env1, ly.ws, ly.sl, rd0, hb1, fun σ2 sl2 w2 => ⟨(w2 _ hown).trans (wipe_wipe fun _ h => h), ?_⟩⟩
                  split at ha
                  · rename_i s1 hc1
                    split at ha
                    · rename_i us kp1 s2 hi2
                      split at ha
                      · rename_i yi s5 hcomp
                        split at ha
                        · rename_i hk5
                          cases ha
                          refine ⟨φ ++ [dd], ρ, env1, stc, true, s1, ly.ws, sl2, hc1, fun H3 p3 => iteT ⟨φ ++ [dd], ρ, env1, s1, us, kp1, s2, p3.ws, p3.sl, hi2, fun J1 H4 p4 kk1 walk1 => ?_⟩⟩
                          have l4 := (ly.step sub p3.ws p3.ext).step sub p4.ws p4.ext
                          have sl4 : Sl K (φ ++ [dd]) ρ H4 env1 σ2 := p4.sl
                          generalize hF1 : (fun (d1 : D) (s : Sto) => match bindT t1 d1 (wipeE env1 vs1) with
                            | some env2 => match evCs G cl cs1 env2 s with
                              | some (true, s3) => match evE G cl e env2 s3 with
                                | some (.dat y _, s4) => if keptL s4 kp1 then some ([y], s4) else none
                                | _ => none
                              | some (false, s3) => if keptL s3 kp1 then some ([], s3) else none
                              | none => none
                            | none => none) = F1 at hcomp
                          refine ⟨fun j m Hh => m = us.length - j ∧ j ≤ us.length ∧ ∃ stc vs done2 rest2, Lc K T φ ρ H1 (wipeE env1 vs1) (L2.wipe σ2 vs1) dd Hh stc vs (done ++ done2) ∧ Sl K (φ ++ [dd]) ρ Hh (wipeE env (own.map (·.2))) (L2.wipe σ (own.map (·.2))) ∧ Ext (φ ++ [dd]) H4 Hh ∧ keptL stc kp1 = true ∧ compL F1 (us.drop j) stc = some (rest2, sta) ∧ done2 ++ rest2 = zs,
                            ⟨us.length, by simp, Nat.zero_le _, s2, vs, [], zs, by rw [List.append_nil]; exact l4.slots (sl4.wipe _), l4.sl, .refl _ _, kk1, hcomp, rfl⟩, ?_⟩
                          rintro j m2 Hj ⟨rfl, hj, stj, vsj, done2, rest2, lj, slj, xj, kj, hrest2, hzs⟩
                          have ltj : Lt K T (φ ++ [dd]) ρ H4 kp1 (φ ++ [dd]) ρ Hj stj := ⟨lj.ws, kj, ⟨xj, [], by simp, by simp⟩, [], by simp⟩
                          by_cases hltj : j < us.length
                          · refine .inr ⟨walk1.goes j _ _ _ _ hltj ltj, ?_⟩
                            have hdropj : us.drop j = us[j] :: us.drop (j + 1) := List.drop_eq_getElem_cons hltj
                            rw [hdropj] at hrest2
                            simp only [compL] at hrest2
                            split at hrest2
                            · rename_i qs stq hq
                              split at hrest2
                              · rename_i wq stb2 hb2
                                cases hrest2
                                refine ⟨fun H' => ∃ vs2, Lc K T φ ρ H1 (wipeE env1 vs1) (L2.wipe σ2 vs1) dd H' stq vs2 (done ++ (done2 ++ qs)) ∧ Sl K (φ ++ [dd]) ρ H' (wipeE env (own.map (·.2))) (L2.wipe σ (own.map (·.2))) ∧ Ext (φ ++ [dd]) H4 H' ∧ keptL stq kp1 = true, fun H' hN' => ?_, fun u2 Hz hz => ?_⟩
                                · obtain ⟨vs2, l2, slx, xx, k2⟩ := hN'
                                  exact ⟨us.length - (j + 1), by omega, rfl, hltj, stq, vs2, done2 ++ qs, wq, l2, slx, xx, k2, hb2, by rw [List.append_assoc]; exact hzs⟩
                                · obtain ⟨⟨d1, hd1, rd1⟩, hch1⟩ := walk1.yields j _ _ _ _ u2 Hz hltj ltj hz
                                  have ed1 : d1 = us[j] := by rw [List.getElem?_eq_getElem hltj] at hd1; exact (Option.some.inj hd1).symm
                                  subst ed1
                                  have lz : Lc K T φ ρ H1 (wipeE env1 vs1) (L2.wipe σ2 vs1) dd Hz stj vsj (done ++ done2) ∧ Sl K (φ ++ [dd]) ρ Hz (wipeE env (own.map (·.2))) (L2.wipe σ (own.map (·.2))) ∧ Ext (φ ++ [dd]) H4 Hz := by
                                    rcases hch1 with rfl | ⟨pp, oo, hp0, hoo, rfl⟩
                                    · exact ⟨lj, slj, xj⟩
                                    · exact ⟨lj.step sub (lj.ws.new hp0 hoo) (.new hp0), slj.ext (.new hp0) lj.ws.fl, xj.trans (.new hp0)⟩
                                  obtain ⟨lz, slz, xz⟩ := lz
                                  rw [← hF1] at hq
                                  simp only at hq
                                  split at hq
                                  · rename_i env2 hb3
                                    refine ⟨φ ++ [dd], ρ, _, stj, us[j], env2, lz.ws, lz.sl, rd1, hb3, fun σ3 sl3 w3 => ⟨(w3 _ hown1).trans (wipe_wipe fun _ h => h), ?_⟩⟩
                                    split at hq
                                    · rename_i s3 hc3
                                      split at hq
                                      · rename_i y fr s4 he4
                                        split at hq
                                        · rename_i hk4
                                          cases hq
                                          refine ⟨φ ++ [dd], ρ, env2, stj, true, s3, lz.ws, sl3, hc3, fun H6 p6 => iteT ⟨φ ++ [dd], ρ, env2, s3, _, stq, p6.ws, p6.sl, he4, fun v7 H7 p7 => ?_⟩⟩
                                          have l7 := (lz.step sub p6.ws p6.ext).step sub p7.ws p7.ext
                                          have x7 : Ext (φ ++ [dd]) Hz H7 := (p6.ext.trans p7.ext).more lz.ws.sub
                                          have s7 := (slz.ext x7 lz.ws.fl)
                                          have hlen2 : vsj.length < sizeLine := by
                                            rw [l7.rd.length]
                                            have h0 : (done ++ (done2 ++ ([y] ++ wq) ++ ws')).length ≤ sizeLine := by rw [hzs, hys]; exact hlen
                                            simp only [List.length_append, List.length_cons, List.length_nil] at h0 ⊢
                                            omega
                                          refine ⟨vsj, l7.at', hlen2, vsj ++ [v7], by rw [← List.append_assoc]; exact l7.push sub p7.rr, s7.ext (.at hdd2) l7.ws.fl, (xz.trans x7).trans (.at hdd2), hk4⟩
                                        · cases hq
                                      · cases hq
                                    · rename_i s3 hc3
                                      split at hq
                                      · rename_i hk4
                                        cases hq
                                        refine ⟨φ ++ [dd], ρ, env2, stj, false, stq, lz.ws, sl3, hc3, fun H6 p6 => iteF ⟨vsj, by rw [List.append_nil]; exact lz.step sub p6.ws p6.ext, slz.ext (p6.ext.more lz.ws.sub) lz.ws.fl, xz.trans (p6.ext.more lz.ws.sub), hk4⟩⟩
                                      · cases hq
                                    · cases hq
                                  · cases hq
                              · cases hrest2
                            · cases hrest2
                          · have ej : j = us.length := by omega
                            subst ej
                            refine .inl ⟨walk1.stops _ _ _ _ ltj, ?_⟩
                            rw [List.drop_length] at hrest2
                            simp only [compL] at hrest2
                            cases hrest2
                            rw [List.append_nil] at hzs
                            subst hzs
                            exact ⟨vsj, lj.slots slj, hk5⟩
                        · cases ha
                      · cases ha
                    · cases ha
                  · rename_i s1 hc1
                    split at ha
                    · rename_i hk2
                      cases ha
                      exact ⟨φ ++ [dd], ρ, env1, stc, false, sta, ly.ws, sl2, hc1, fun H3 p3 => iteF ⟨vs, by rw [List.append_nil]; exact ly.step sub p3.ws p3.ext, hk2⟩⟩
                    · cases ha
                  · cases ha
                · cases ha
            · cases hrest
          · cases hrest
        · have e : i = xs.length := by omega
          subst e
          refine .inl ⟨walk.stops _ _ _ _ lt, ?_⟩
          rw [List.drop_length] at hrest
          simp only [compL] at hrest
          cases hrest
          rw [List.append_nil] at hys
          subst hys
          exact k _ _ (l.post sub p.ws p.sl p.ext)
      · cases hev
    · cases hev
  · cases hev
theorem ok_lc2 {elt tg iter tg1 iter1 : Expr} {ifs ifs1 : List Expr} {scope : Scope} {own : List (Str × Nat)} {vs1 : List Nat} {pos : Pos} {t t1 : IT} {it it1 : II} {cs cs1 : List IE} {e : IE} (hc : X.calm = true) (hN : X.N.Nodup) (hi : PI X tg iter (tI X.K T (evI G cl it))) (ok : BlkOk X.N X.env.scope scope own)
    (hv : ∀ i ∈ vs1, i ∈ own.map (·.2))
    (hg : ∀ (s : Shared) (H : Hp) (C : Addr) (cl : List (Str × Addr)) (fp : List Addr), PG (X.blk s H scope (compEnvC scope cl C X.env) fp) tg (tG X.K T t))
    (ht : ∀ (s : Shared) (H : Hp) (C : Addr) (cc : List (Str × Addr)) (fp : List Addr), PTs (X.blk s H scope (compEnvC scope cc C X.env) fp) ifs (tCs X.K T (evCs G cl cs)))
    (hi1 : ∀ (s : Shared) (H : Hp) (C : Addr) (cc : List (Str × Addr)) (fp : List Addr), PI (X.blk s H scope (compEnvC scope cc C X.env) fp) tg1 iter1 (tI X.K T (evI G cl it1)))
    (hg1 : ∀ (s : Shared) (H : Hp) (C : Addr) (cl : List (Str × Addr)) (fp : List Addr), PG (X.blk s H scope (compEnvC scope cl C X.env) fp) tg1 (tG X.K T t1))
    (ht1 : ∀ (s : Shared) (H : Hp) (C : Addr) (cc : List (Str × Addr)) (fp : List Addr), PTs (X.blk s H scope (compEnvC scope cc C X.env) fp) ifs1 (tCs X.K T (evCs G cl cs1)))
    (he : ∀ (s : Shared) (H : Hp) (C : Addr) (cc : List (Str × Addr)) (fp : List Addr), PE (X.blk s H scope (compEnvC scope cc C X.env) fp) elt (tF X.K T (evE G cl e)))
    (hs : pln iter = true) (hs1 : pln iter1 = true) (hown : ∀ i ∈ slT t, i ∈ own.map (·.2)) (hown1 : ∀ i ∈ slT t1, i ∈ vs1) :
    PE X (.ListComp elt [⟨tg, iter, ifs, 0⟩, ⟨tg1, iter1, ifs1, 0⟩] scope pos) (tF X.K T (evE G cl (.lc2 own vs1 t it cs t1 it1 cs1 e))) := by
  exact imp (pe_lc2 hc hN hi ok hv hg ht hi1 hg1 ht1 he (fun x => pln_fold hs _ x) (fun env x => pln_fold hs1 _ x)) (lc2_read hown hown1)
end Ev
set_option linter.all false
set_option maxRecDepth 100000
set_option maxHeartbeats 8000000
/-! EvN: a set made by a comprehension of two fors (None, ints, texts), and how many it holds. -/
namespace Ev
open PySem PySem.Spec L2 PyProof.Rows

/-! ### the set as a thing that is tracked -/
abbrev NK := Option Key
def vN : NK → V
  | none => .non
  | some k => kV k
theorem vN_is {P : Program} {w : World} : ∀ {k : NK} {u : Value}, RelV (vN k) u → (noneKind P w).is k u = true
  | none, u, r => by
    cases (show u = Value.none from r)
    rfl
  | some k, u, r => (kV_is (P := P) (w := w) r : _)
theorem vN_scan : ∀ {k : NK} {u : Value}, RelV (vN k) u → u.scannable = true
  | none, u, r => by
    cases (show u = Value.none from r)
    rfl
  | some k, u, r => key_scan (k := k) r
def SetN (P : Program) (w : World) (a : Addr) (S : NK → Bool) (n : Nat) : HO := .ext fun h => h.SetOf (noneKind P w) a S n
def more (S : NK → Bool) (k : NK) : NK → Bool := fun j => S j || decide (j = k)
def moreN (S : NK → Bool) (k : NK) (n : Nat) : Nat := if S k = true then n else n + 1
section
variable {P : Program} {w : World} {H : Hp} {h : Heap} {a : Addr} {S : NK → Bool} {n : Nat}
theorem setN_ok (R : h.SetOf (noneKind P w) a S n) : ObjOk P w H h a (SetN P w a S n) := by
  refine ⟨R, ?_, fun _ _ p k => ?_⟩
  · obtain ⟨o, _, _, _, e, _⟩ := R
    exact ⟨o, e⟩
  · obtain ⟨o, x, y, z, e, r⟩ := p
    exact ⟨o, x, y, z, k o e, r⟩
theorem setN_none (P : Program) (w : World) (h : Heap) :
    (h.push { cls := .type "set", dict := none, data := .set #[] 0 (.fresh 0 0 (!w.params.followText "set-order")) }).SetOf (noneKind P w) h.objs.size (fun _ => false) 0 := by
  refine ⟨_, #[], 0, _, Heap.get?_push_size _ rfl, ⟨rfl, rfl, rfl⟩, rfl, ?_, ?_, ?_, ?_, rfl⟩
  · intro e he; simp at he
  · intro k; simp
  · decide
  · rfl
end
section
variable {X : Cx} {pins : List (Addr × Obj)} {σ : L2.St} {H : Hp} {s : Shared} {E : Value → Shared → Prop} {d : Addr} {S : NK → Bool} {n : Nat} {k : NK} {u : Value} {Q : Value → Shared → Prop}
theorem addN (I : Inv X pins σ H s) (hd : H d = some (SetN X.prog X.w d S n)) (room : n + 1 < scanBound) (r : RelV (vN k) u)
    (go : ∀ s', Inv X pins σ (upd H d (SetN X.prog X.w d (more S k) (moreN S k n))) s' → Q .none s') :
    wpAny (model X.prog X.w) X.A (call (.builtin "set.add") [.ref d, u]) Q E s := by
  refine call_set_add (vN_is r) (vN_scan r) (I.hok d _ hd).1 room fun h' sb new => go _ ?_
  have there : ∃ o, h'.get? d = some o := by
    obtain ⟨o, _, _, _, e, _⟩ := new
    exact ⟨o, e⟩
  exact I.write (e := d) (t' := s.toks + 1) (by rw [hd]; trivial) (.inl rfl) (fun b o hb e => (sb.2 b hb).trans e) there (setN_ok new)
/-- len of it -/
def rLenN (P : Program) (w : World) : List V → Hp → VK → Prop := fun vs H Q => ∃ a S n, vs = [.ref a] ∧ H a = some (SetN P w a S n) ∧ n < 2 ^ 62 ∧ Q (.int (n : Nat)) H
theorem cr_lenN : CallR X (.builtin "len") (rLenN X.prog X.w) := by
  intro pins s σ H vs us Q I r q
  obtain ⟨a, S, n, rfl, ha, small, q⟩ := q
  cases r with
  | cons r1 r2 =>
    cases r2
    cases r1
    obtain ⟨o, es, ep, t, ho, hex, hd, _, _, _, hf, hn⟩ := (I.hok a _ ha).1
    exact call_len_set ho hex hd hf (by rw [hn]; omega) ⟨.int n, H, I.tok _, ⟨_, by rw [hn]⟩, q⟩
end

/-! ### the code's loops -/
/-- the tests of a for, in their order -/
def tests (cs : List Expr) (env : PySem.Env) : Sem Bool :=
  forIn cs true fun c b => if b = true then do { let z ← isTrue c env (eval c env); pure (ForInStep.yield z) } else pure (ForInStep.yield b)
section
variable {prog : Program} {w : World} {A : Around} {R : Result → Shared → Prop} {env : PySem.Env} {elt t0 i0 t1 i1 : Expr} {c0 c1 : List Expr} {scope : Scope} {pos : Pos} {it acc : Value}
abbrev wpF {α : Type} (prog : Program) (w : World) (A : Around) (m : Sem α) (Q : α → Shared → Prop) (s : Shared) : Prop := wpAny (model prog w) A m Q (fun _ _ => False) s
abbrev scx (elt t0 i0 t1 i1 : Expr) (c0 c1 : List Expr) (scope : Scope) (pos : Pos) : Expr := .SetComp elt [⟨t0, i0, c0, 0⟩, ⟨t1, i1, c1, 0⟩] scope pos
theorem sc_in (I : Nat → Shared → Prop)
    (turn : ∀ n s, I n s → wpF prog w A (pyNext it) (fun r sa => match r with
      | none => R (.ok .next) sa
      | some v => wpF prog w A (letOwnedTupleGo t1 it v) (fun _ sb => wpF prog w A (assign t1 env v) (fun _ sc => wpF prog w A (tests c1 env) (fun b sd =>
          if b = true then wpF prog w A (eval elt env) (fun x se => wpF prog w A (call (.builtin "set.add") [acc, x]) (fun _ sf => ∃ m, m < n ∧ I m sf) se) sd
          else ∃ m, m < n ∧ I m sd) sc) sb) sa) s)
    (n : Nat) (s : Shared) (h : I n s) : codeAny (model prog w) A (.compLoop (scx elt t0 i0 t1 i1 c0 c1 scope pos) 1 it acc env) R s := by
  refine codeAny_loop rfl I (fun n s hI => ?_) n h
  show wpAny _ A ((compTurn (scx elt t0 i0 t1 i1 c0 c1 scope pos) 1 it acc env).onRaise _) _ _ s
  refine wpAny_noted ?_
  show wpAny _ A (standAt i1.pos >>= _) _ _ s
  refine wpAny_bind (wpAny_standAt ?_)
  show wpAny _ A (pyNext it >>= _) _ _ _
  refine wpAny_bind (thnF (turn n s hI) fun r sa ha => ?_)
  cases r with
  | none => exact wpAny_pure ha
  | some v =>
    refine wpAny_bind (thnF ha fun _ sb hb => wpAny_bind (thnF hb fun _ sc hc => wpAny_bind (thnF hc fun b sd hd => ?_)))
    cases b with
    | false => exact wpAny_pure ⟨rfl, hd⟩
    | true => exact wpAny_bind (wpAny_bind (thnF hd fun x se he => wpAny_bind (wpAny_standAt (wpAny_bind (thnF he fun _ sf hf => wpAny_pure (wpAny_pure ⟨rfl, hf⟩))))))
theorem sc_out (fold : ∀ x, foldedSetIterable i1 env x = pure x) (I : Nat → Shared → Prop)
    (turn : ∀ n s, I n s → wpF prog w A (pyNext it) (fun r sa => match r with
      | none => R (.ok .next) sa
      | some v => wpF prog w A (letOwnedTupleGo t0 it v) (fun _ sb => wpF prog w A (assign t0 env v) (fun _ sc => wpF prog w A (tests c0 env) (fun b sd =>
          if b = true then wpF prog w A (eval i1 env) (fun x se => wpF prog w A (pyIter x) (fun jt sf =>
              codeAny (model prog w) A (.compStart (scx elt t0 i0 t1 i1 c0 c1 scope pos) 1 jt acc env) (fun r sg => r.isOk = true ∧ ∃ m, m < n ∧ I m sg) sf) se) sd
          else ∃ m, m < n ∧ I m sd) sc) sb) sa) s)
    (n : Nat) (s : Shared) (h : I n s) : codeAny (model prog w) A (.compLoop (scx elt t0 i0 t1 i1 c0 c1 scope pos) 0 it acc env) R s := by
  refine codeAny_loop rfl I (fun n s hI => ?_) n h
  show wpAny _ A ((compTurn (scx elt t0 i0 t1 i1 c0 c1 scope pos) 0 it acc env).onRaise _) _ _ s
  refine wpAny_noted ?_
  show wpAny _ A (standAt i0.pos >>= _) _ _ s
  refine wpAny_bind (wpAny_standAt ?_)
  show wpAny _ A (pyNext it >>= _) _ _ _
  refine wpAny_bind (thnF (turn n s hI) fun r sa ha => ?_)
  cases r with
  | none => exact wpAny_pure ha
  | some v =>
    refine wpAny_bind (thnF ha fun _ sb hb => wpAny_bind (thnF hb fun _ sc hc => wpAny_bind (thnF hc fun b sd hd => ?_)))
    cases b with
    | false => exact wpAny_pure ⟨rfl, hd⟩
    | true =>
      refine wpAny_bind (thnF hd fun x se he => wpAny_bind (wpAny_standAt (wpAny_bind (wpAny_of_eq (fold x) (wpAny_bind (wpAny_holding (thnF he fun jt sf hf => ?_)))))))
      refine wpAny_bind (wpAny_runOwn ?_)
      rw [Around.mark_none]
      refine codeAny_mono hf fun r sg hr => ?_
      cases r with
      | ok f => first | exact wpAny_pure ⟨rfl, hr.2⟩ | exact wpAny_bind (wpAny_pure (wpAny_pure ⟨rfl, hr.2⟩))
      | error e => exact absurd hr.1 (by intro z; cases z)
theorem sc_start1 {s : Shared} (h0 : codeAny (model prog w) A (.compLoop (scx elt t0 i0 t1 i1 c0 c1 scope pos) 1 it acc env) R s)
    (h1 : wpAny (model prog w) A (pyIter it) (fun jt sa => codeAny (model prog w) A (.compLoop (scx elt t0 i0 t1 i1 c0 c1 scope pos) 1 jt acc env) R sa) (notedBy (model prog w) A env fun x sa => R (.error x) sa) s) :
    codeAny (model prog w) A (.compStart (scx elt t0 i0 t1 i1 c0 c1 scope pos) 1 it acc env) R s := by
  refine codeAny_of_tree (wpAny_notedAt (m := compStart (scx elt t0 i0 t1 i1 c0 c1 scope pos) 1 it acc env) (pos := theWindowsPlace) ?_)
  unfold compStart
  refine wpAny_bind (m := ask) (wpAny_askSetting (wpAny_ite ?_))
  split
  · first | exact wpAny_pure ⟨rfl, h0⟩ | exact wpAny_bind (wpAny_pure (wpAny_pure ⟨rfl, h0⟩))
  · refine wpAny_bind (wpAny_rule ?_)
    refine wpAny_bind (m := standAt i1.pos) (wpAny_standAt (wpAny_bind (wpAny_mono h1 (fun jt sa q => wpAny_pure ⟨rfl, q⟩) fun _ _ z => z)))
end
end Ev
set_option linter.all false
set_option maxRecDepth 100000
set_option maxHeartbeats 16000000
/-! EvO: the set's comprehension as an expression. -/
namespace Ev
open PySem PySem.Spec L2 PyProof.Rows
/-- a walk from W on, till it stops -/
abbrev Steps (J : It) (W : Nat → Nat → Hp → Prop) (fin : Hp → Prop) (body : (Hp → Prop) → V → Hp → Prop) : Prop :=
  ∀ i m H, W i m H → (J.stop i H ∧ fin H) ∨ (J.go i H ∧ ∃ Nx : Hp → Prop, (∀ K, Nx K → ∃ l, l < m ∧ W (i + 1) l K) ∧ ∀ x K, J.yld i H x K → body Nx x K)
def tSc2 (P : Program) (w : World) (wi : TI) (g : TG) (tt : TT) (wi1 : TI) (g1 : TG) (tt1 : TT) (te : TE) (vs vs1 : List Nat) : TE := fun σ H Q => wi σ H fun J H1 => ∀ D, H1 D = none →
  ∃ W : Nat → Nat → Hp → Prop, (∃ m, W 0 m (upd H1 D (SetN P w D (fun _ => false) 0))) ∧ Steps J W (Q (.ref D)) fun Nx x K =>
    g x (L2.wipe σ vs) K fun σ2 H2 => L2.wipe σ2 vs = L2.wipe σ vs ∧ tt σ2 H2 fun b H3 => if b = true then wi1 σ2 H3 fun J1 H4 =>
      ∃ W1 : Nat → Nat → Hp → Prop, (∃ m, W1 0 m H4) ∧ Steps J1 W1 Nx fun Nx1 x K =>
        g1 x (L2.wipe σ2 vs1) K fun σ3 H5 => L2.wipe σ3 vs1 = L2.wipe σ2 vs1 ∧ tt1 σ3 H5 fun b H6 => if b = true then te σ3 H6 fun y H7 =>
          ∃ k S n, y = vN k ∧ H7 D = some (SetN P w D S n) ∧ n + 1 < scanBound ∧ Nx1 (upd H7 D (SetN P w D (more S k) (moreN S k n)))
          else Nx1 H6
    else Nx H3
section
variable {X : Cx} {pins : List (Addr × Obj)} {elt tg iter tg1 iter1 : Expr} {ifs ifs1 : List Expr} {scope : Scope} {own : List (Str × Nat)} {vs1 : List Nat} {pos : Pos} {wi wi1 : TI} {g g1 : TG} {tt tt1 : TT} {te : TE}
/-- what a block's own context is good for -/
structure BlkK (X : Cx) (scope : Scope) (tg iter tg1 iter1 elt : Expr) (ifs ifs1 : List Expr) (wi1 : TI) (g g1 : TG) (tt tt1 : TT) (te : TE) : Prop where
  tg : ∀ s H C cl fp, PG (X.blk s H scope (compEnvC scope cl C X.env) fp) tg g
  ifs : ∀ s H C cl fp, PTs (X.blk s H scope (compEnvC scope cl C X.env) fp) ifs tt
  it1 : ∀ s H C cl fp, PI (X.blk s H scope (compEnvC scope cl C X.env) fp) tg1 iter1 wi1
  tg1 : ∀ s H C cl fp, PG (X.blk s H scope (compEnvC scope cl C X.env) fp) tg1 g1
  ifs1 : ∀ s H C cl fp, PTs (X.blk s H scope (compEnvC scope cl C X.env) fp) ifs1 tt1
  elt : ∀ s H C cl fp, PE (X.blk s H scope (compEnvC scope cl C X.env) fp) elt te
/-- one iterator within a context: where it stands -/
structure At (X : Cx) (pins : List (Addr × Obj)) (σ : L2.St) (fp : List Addr) (tn : Nat → Heap → Prop) (i : Nat) (H : Hp) (s : Shared) : Prop where
  inv : Inv X pins σ H s
  st : tn i s.heap
  off : ∀ b ∈ fp, H b = none
theorem At.next {J : It} {fp : List Addr} {it : Addr} {tn : Nat → Heap → Prop} {i : Nat} {σ σ' : L2.St} {H' : Hp} {s s' : Shared} {Y : Cx} (T : Turn Y.prog Y.w Y.K tg J fp it tn) (st : tn i s.heap) (I : Inv Y (pins ++ pinsAt fp s.heap) σ' H' s')
    (hl : σ.length = σ'.length) (hk : ∀ (j : Nat) v, σ[j]? = some (some v) → σ'[j]? = some (some v)) : At Y pins σ fp tn i H' s' := by
  have pin : ∀ b ∈ fp, ∀ o, s.heap.get? b = some o → s'.heap.get? b = some o ∧ H' b = none := fun b hb o e => by
    have z := I.pin (b, o) (List.mem_append_right _ (List.mem_append_right _ (mem_pinsAt hb e)))
    exact ⟨z.1, z.2.1⟩
  refine ⟨(I.unpinned (pins := pins)).weak hl hk, T.keep _ _ _ st fun b hb o e => (pin b hb o e).1, fun b hb => ?_⟩
  obtain ⟨o, e, _⟩ := T.obj _ _ st b hb
  exact (pin b hb o e).2
theorem pe_sc2 (hc : X.calm = true) (hN : X.N.Nodup) (hi : PI X tg iter wi) (ok : BlkOk X.N X.env.scope scope own) (hv : ∀ i ∈ vs1, i ∈ own.map (·.2)) (B : BlkK X scope tg iter tg1 iter1 elt ifs ifs1 wi1 g g1 tt tt1 te)
    (f0 : ∀ x, foldedSetIterable iter X.env x = pure x) (f1 : ∀ env x, foldedSetIterable iter1 env x = pure x) :
    PE X (scx elt tg iter tg1 iter1 ifs ifs1 scope pos) (tSc2 X.prog X.w wi g tt wi1 g1 tt1 te (own.map (·.2)) vs1) := by
  refine ⟨fun pins s σ H Q I q => ?_⟩
  have hfree : ∀ y ∈ scope.names, y.2 = .free → ∃ c, X.env.cells.lookup y.1 = some c := fun y hy e =>
    I.ok.has _ ((ok.free y hy e).elim .inl .inr)
  show wpAny _ _ (comprehension (scx elt tg iter tg1 iter1 ifs ifs1 scope pos) scope X.env _ (newSet (.type "set")) false (eval iter X.env) none) _ _ s
  refine wpAny_comprehension_free (g := ⟨tg, iter, ifs, 0⟩) (gs := [⟨tg1, iter1, ifs1, 0⟩]) rfl f0 (closure_ok hfree) ok.kind (fun y hy e => by rw [ok.uniq y hy, e]) ?_
  refine thn (hi.run pins s σ H _ I q) fun xv sa ha => thn ha fun itv sb hb => ?_
  obtain ⟨it, fp, tn, J, H1, rfl, Ib, T, stb, fpb, q⟩ := hb
  refine PpSet.newSet_ok (newEnv_comp ?_)
  obtain ⟨d, hd⟩ : ∃ d, d = sb.heap.objs.size := ⟨_, rfl⟩
  rw [← hd]
  have dn : H1 d = none := Ib.hok.fresh (Nat.le_of_eq hd.symm)
  obtain ⟨W, ⟨m0, w0⟩, turn⟩ := q d dn
  obtain ⟨s3, hs3⟩ : ∃ s3 : Shared, s3 = { sb with heap := sb.heap.push { cls := .type "set", dict := none, data := .set #[] 0 (.fresh 0 0 (!X.w.params.followText "set-order")) } } := ⟨_, rfl⟩
  rw [← hs3]
  have h3 : s3.heap = sb.heap.push { cls := .type "set", dict := none, data := .set #[] 0 (.fresh 0 0 (!X.w.params.followText "set-order")) } := by rw [hs3]
  obtain ⟨H3, hH3⟩ : ∃ H3, H3 = upd H1 d (SetN X.prog X.w d (fun _ => false) 0) := ⟨_, rfl⟩
  rw [← hH3] at w0
  have I3 : Inv X pins σ H3 s3 := by
    rw [hs3, hH3]
    refine Ib.laid (t' := sb.toks) (fun b o e => Heap.get?_push_of_some _ e) (Nat.le_of_eq hd.symm) ?_
    rw [hd]
    exact setN_ok (setN_none X.prog X.w sb.heap)
  have old : ∀ b ∈ fp, b < sb.heap.objs.size := fun b hb => by
    obtain ⟨o, e, _⟩ := T.obj _ _ stb b hb
    exact Heap.lt_size e
  have fp3 : ∀ b ∈ fp, FpOk X pins H3 b ∧ b < s3.heap.objs.size := fun b hb => by
    refine ⟨⟨?_, (fpb b hb).2⟩, by rw [h3, Heap.size_push]; exact Nat.lt_succ_of_lt (old b hb)⟩
    rw [hH3, upd_ne (by rw [hd]; exact Nat.ne_of_lt (old b hb))]
    exact (fpb b hb).1
  have st3 : tn 0 s3.heap := T.keep _ _ _ stb fun b _ o e => by rw [h3]; exact Heap.get?_push_of_some _ e
  have I4 := block_start I3 ok hN fp3
  obtain ⟨ce, hce⟩ : ∃ ce, ce = compEnvC scope (cellsFrom (s3.heap.objs.size + 1) scope.names (cloFrom X.env.cells scope.names [])) s3.heap.objs.size X.env := ⟨_, rfl⟩
  have cL : ce.locals = s3.heap.objs.size := by rw [hce]; rfl
  obtain ⟨Y, hY⟩ : ∃ Y, Y = X.blk s3 H3 scope ce fp := ⟨_, rfl⟩
  have bt : PG Y tg g := by rw [hY, hce]; exact B.tg _ _ _ _ _
  have bi : PTs Y ifs tt := by rw [hY, hce]; exact B.ifs _ _ _ _ _
  have bj : PI Y tg1 iter1 wi1 := by rw [hY, hce]; exact B.it1 _ _ _ _ _
  have bt1 : PG Y tg1 g1 := by rw [hY, hce]; exact B.tg1 _ _ _ _ _
  have bi1 : PTs Y ifs1 tt1 := by rw [hY, hce]; exact B.ifs1 _ _ _ _ _
  have be : PE Y elt te := by rw [hY, hce]; exact B.elt _ _ _ _ _
  rw [← hce, ← hY] at I4
  have Yp : Y.prog = X.prog := by rw [hY]
  have Yw : Y.w = X.w := by rw [hY]
  have YA : Y.A = X.A := by rw [hY]
  have YK : Y.K = X.K := by rw [hY]
  have Ye : Y.env = ce := by rw [hY]
  have Yx : Y.xe = fun _ _ => False := by rw [hY]
  have T' : Turn Y.prog Y.w Y.K tg J fp it tn := by rw [Yp, Yw, YK]; exact T
  obtain ⟨s4, hs4⟩ : ∃ s4 : Shared, s4 = { s3 with heap := pushCells (s3.heap.push { cls := .type "dict", data := .dict #[] }) scope.names } := ⟨_, rfl⟩
  rw [← hs4] at I4
  have st4 : tn 0 s4.heap := T.keep _ _ _ st3 fun b _ o e => by rw [hs4]; exact pushCells_keeps _ _ _ _ (Heap.get?_push_of_some _ e)
  have stat : ∀ {σ' : L2.St} {H' : Hp} {s' : Shared}, Inv Y [] σ' H' s' → (∀ b ∈ fp, H' b = none) → ∀ b ∈ fp, FpOk Y [] H' b := fun {σ' H' s'} I' hn b hb => by
    rw [hY] at I' ⊢
    exact ⟨hn b hb, (I'.ok.exf b hb).1, I'.ok.exfs b hb, .inl hb, fun x c e => (I'.ok.exf b hb).2 x c e, fun p hp => absurd (show p ∈ ([] : List (Addr × Obj)) ++ [] from hp) (by simp)⟩
  show codeAny _ _ (.compStart (scx elt tg iter tg1 iter1 ifs ifs1 scope pos) 0 (.ref it) (.ref d) _) _ _
  rw [← hs4]
  show codeAny _ _ (.compStart (scx elt tg iter tg1 iter1 ifs ifs1 scope pos) 0 (.ref it) (.ref d) (compEnvC scope (cellsFrom (s3.heap.objs.size + 1) scope.names (cloFrom X.env.cells scope.names [])) s3.heap.objs.size X.env)) _ _
  rw [← hce]
  obtain ⟨ws, hws⟩ : ∃ ws, ws = own.map (·.2) := ⟨_, rfl⟩
  rw [← hws] at I4 turn hv
  have loop : ∀ R : Result → Shared → Prop, (∀ s' H', Inv Y [] (L2.wipe σ ws) H' s' → Q (.ref d) H' → R (.ok .next) s') → codeAny (model X.prog X.w) X.A (.compLoop (scx elt tg iter tg1 iter1 ifs ifs1 scope pos) 0 (.ref it) (.ref d) ce) R s4 := fun R hR => by
    refine sc_out (f1 ce) (fun n s' => ∃ i H', At Y [] (L2.wipe σ ws) fp tn i H' s' ∧ W i n H') ?_ m0 s4 ⟨0, H3, ⟨I4, st4, fun b hb => (fp3 b hb).1.1⟩, w0⟩
    rintro n s5 ⟨i, H5, a5, w5⟩
    rcases turn i n H5 w5 with ⟨stop, qq⟩ | ⟨go, Nx, hNx, step⟩
    · have t0 := T.done Y Yp Yw YK (by rw [hY]; exact hc) i [] s5 _ H5 (fun _ _ => False) a5.inv (stat a5.inv a5.off) a5.st stop
      rw [YA] at t0
      refine thnF t0 fun r s6 ⟨hr, I6⟩ => ?_
      subst hr
      exact hR s6 H5 I6 qq
    · have t0 := T.item Y Yp Yw YK (by rw [hY]; exact hc) i [] s5 _ H5 (fun _ _ => False) a5.inv (stat a5.inv a5.off) a5.st go
      rw [YA] at t0
      refine thnF t0 fun r s6 ⟨u, hr, h6⟩ => ?_
      subst hr
      refine thnF h6 fun _ s7 ⟨x, H7, I7, r7, y7, st7, n7⟩ => ?_
      have P7 := I7.pinned (stat I7 n7) (T.obj _ _ st7)
      have t7 := bt.run _ s7 _ H7 x u _ P7 r7 (step x H7 y7)
      rw [Ye, Yp, Yw, YA, Yx] at t7
      refine thnF t7 fun _ s8 ⟨σ8, H8, I8, hw8, q8⟩ => ?_
      have t8 := bi.run _ s8 σ8 H8 _ I8 q8
      rw [Ye, Yp, Yw, YA, Yx] at t8
      refine thnF t8 fun b s9 ⟨H9, I9, q9⟩ => ?_
      have len8 : (L2.wipe σ ws).length = σ8.length := by rw [← hw8, wipe_length]
      have fin : ∀ {σ9 : L2.St} {s' : Shared} {H' : Hp}, Inv Y ([] ++ pinsAt fp s7.heap) σ9 H' s' → (L2.wipe σ ws).length = σ9.length → (∀ (j : Nat) v, (L2.wipe σ ws)[j]? = some (some v) → σ9[j]? = some (some v)) → Nx H' →
          ∃ m, m < n ∧ ∃ i H', At Y [] (L2.wipe σ ws) fp tn i H' s' ∧ W i m H' := fun {σ9 s' H'} I' hl hk nx => by
        obtain ⟨m', hm, w'⟩ := hNx H' nx
        exact ⟨m', hm, i + 1, H', At.next (T') st7 I' hl hk, w'⟩
      cases b with
      | false => exact fin I9 len8 (fun j v e => by rw [← hw8] at e; exact (wipe_some e).1) (by simpa using q9)
      | true =>
        simp only [if_true] at q9
        have t9 := bj.run _ s9 σ8 H9 _ I9 q9
        rw [Ye, Yp, Yw, YA, Yx] at t9
        refine thnF t9 fun xv sa ha => thnF ha fun itv sb hb => ?_
        obtain ⟨jt, fq, tm, J1, H11, rfl, I11, T1, stj, fqb, W1, ⟨m1, w1⟩, turn1⟩ := hb
        have stat1 : ∀ {H' : Hp}, (∀ b ∈ fq, H' b = none) → ∀ b ∈ fq, FpOk Y ([] ++ pinsAt fp s7.heap) H' b := fun hn b hb => ⟨hn b hb, (fqb b hb).2⟩
        have T1' : Turn Y.prog Y.w Y.K tg1 J1 fq jt tm := T1
        have inner : codeAny (model X.prog X.w) X.A (.compLoop (scx elt tg iter tg1 iter1 ifs ifs1 scope pos) 1 (.ref jt) (.ref d) ce) (fun r sg => r.isOk = true ∧ ∃ m, m < n ∧ ∃ i H', At Y [] (L2.wipe σ ws) fp tn i H' sg ∧ W i m H') sb := by
          refine sc_in (fun k s' => ∃ j H', At Y ([] ++ pinsAt fp s7.heap) (L2.wipe σ8 vs1) fq tm j H' s' ∧ W1 j k H') ?_ m1 sb ⟨0, H11, ⟨I11.weak (wipe_length _ _) (fun j v e => (wipe_some e).1), stj, fun b hb => (fqb b hb).1⟩, w1⟩
          rintro k sc ⟨j, H12, a12, w12⟩
          rcases turn1 j k H12 w12 with ⟨stop1, nx1⟩ | ⟨go1, Nx1, hNx1, step1⟩
          · have td := T1'.done Y rfl rfl rfl (by rw [hY]; exact hc) j _ sc _ H12 (fun _ _ => False) a12.inv (stat1 a12.off) a12.st stop1
            rw [Yp, Yw, YA] at td
            refine thnF td fun r sd ⟨hr, I13⟩ => ?_
            subst hr
            refine ⟨rfl, fin I13 (len8.trans (wipe_length σ8 vs1).symm) (fun j v e => ?_) nx1⟩
            rw [← hw8] at e
            obtain ⟨e1, e2⟩ := wipe_some e
            rw [wipe_out fun z => e2 (hv j z)]
            exact e1
          · have ti := T1'.item Y rfl rfl rfl (by rw [hY]; exact hc) j _ sc _ H12 (fun _ _ => False) a12.inv (stat1 a12.off) a12.st go1
            rw [Yp, Yw, YA] at ti
            refine thnF ti fun r sd ⟨u1, hr, hd1⟩ => ?_
            subst hr
            refine thnF hd1 fun _ se ⟨x1, H14, I14, r14, y14, st14, n14⟩ => ?_
            have P14 := I14.pinned (stat1 n14) (T1'.obj _ _ st14)
            have t14 := bt1.run _ se _ H14 x1 u1 _ P14 r14 (step1 x1 H14 y14)
            rw [Ye, Yp, Yw, YA, Yx] at t14
            refine thnF t14 fun _ sf ⟨σ15, H15, I15, hw15, q15⟩ => ?_
            have t15 := bi1.run _ sf σ15 H15 _ I15 q15
            rw [Ye, Yp, Yw, YA, Yx] at t15
            refine thnF t15 fun b1 sg ⟨H16, I16, q16⟩ => ?_
            have fin1 : ∀ {s' : Shared} {H' : Hp}, Inv Y (([] ++ pinsAt fp s7.heap) ++ pinsAt fq se.heap) σ15 H' s' → Nx1 H' → ∃ m, m < k ∧ ∃ j H', At Y ([] ++ pinsAt fp s7.heap) (L2.wipe σ8 vs1) fq tm j H' s' ∧ W1 j m H' := fun {s' H'} I' nx => by
              obtain ⟨m', hm, w'⟩ := hNx1 H' nx
              exact ⟨m', hm, j + 1, H', At.next T1' st14 I' (by rw [← hw15, wipe_length]) (fun j v e => by rw [← hw15] at e; exact (wipe_some e).1), w'⟩
            cases b1 with
            | false => exact fin1 I16 (by simpa using q16)
            | true =>
              simp only [if_true] at q16
              have t16 := be.run _ sg σ15 H16 _ I16 q16
              rw [Ye, Yp, Yw, YA, Yx] at t16
              refine thnF t16 fun z sh ⟨yv, H17, I17, r17, kk, S0, n0, ey, hD, room, nx⟩ => ?_
              subst ey
              have ta := addN (X := Y) (E := fun _ _ => False) (Q := fun _ s6 => ∃ m, m < k ∧ ∃ j H', At Y ([] ++ pinsAt fp s7.heap) (L2.wipe σ8 vs1) fq tm j H' s6 ∧ W1 j m H') I17 (by rw [Yp, Yw]; exact hD) room r17 fun s' I' => fin1 I' (by rw [Yp, Yw]; exact nx)
              rw [Yp, Yw, YA] at ta
              exact ta
        have T2 : Turn X.prog X.w Y.K tg1 J1 fq jt tm := by rw [← Yp, ← Yw]; exact T1'
        exact sc_start1 inner (T2.self X.A 0 _ _ _ stj inner)
  have end' : ∀ s' H', Inv Y [] (L2.wipe σ ws) H' s' → Q (.ref d) H' → compPost (model X.prog X.w) X.A X.xe none (EP X pins σ Q) (.ref d) s3.heap.objs.size (.ok .next) s' := fun s6 H6 I6 qq => by
    rw [hY] at I6
    have I7 : Inv X pins σ H6 s6 := I3.call' (ch := fp) I6.os I6.base I6.hok I6.bare fun b hb => ⟨(fp3 b hb).1.2.2.2.1, (fp3 b hb).1.2.1, (fp3 b hb).1.2.2.2.2.1, (fp3 b hb).1.2.2.2.2.2⟩
    have nC : H6 s3.heap.objs.size = none := by rw [← cL]; exact I6.free
    obtain ⟨m, hn, _⟩ := I6.loc
    have hn : s6.heap.Ns s3.heap.objs.size m := by rw [← cL]; exact hn
    obtain ⟨g0, g1, g2, g3, g4, g5⟩ := I3.fpOk (Nat.le_refl _) nC
    exact ⟨m, hn, fun h'' sb => ⟨.ref d, H6, I7.turned (t' := s6.toks) (fun b o hb e => (sb.2 b hb).trans e) g0 g1 g3 g4 g5, rfl, qq⟩⟩
  have l4 := loop _ end'
  exact PpSet.codeAny_compStart_set l4 (T.self X.A 0 _ _ _ st4 l4)
end
end Ev
set_option linter.all false
set_option maxRecDepth 100000
set_option maxHeartbeats 16000000
/-! EvP: how many a set holds, read off the small language. -/
namespace Ev
open PySem PySem.Spec L2
variable {K : PySem.W.Frag} {T : List (Addr × Str)} {X : Cx} {G : Pk} {cl : Str → List SV → Sto → Option (ER × Sto)}
/-! ### a set that changes -/
theorem code_ne_set {c : Addr} {q : Str} {P : Program} {w : World} {S : NK → Bool} {n : Nat} : LamX.CodeO c q ≠ SetN P w c S n := fun z => by
  unfold LamX.CodeO SetN at z
  injection z with e
  obtain ⟨oc, hoc⟩ : ∃ oc : Obj, oc = { cls := .type "code", dict := none, data := .fields #[.none, .str q 0] } := ⟨_, rfl⟩
  obtain ⟨h, hh⟩ : ∃ h : Heap, h.get? c = some oc := by
    refine ⟨⟨(Array.replicate c oc).push oc, {}⟩, ?_⟩
    have q : ((Array.replicate c oc).push oc)[c]? = some oc := by
      have z := Array.getElem?_push_size (xs := Array.replicate c oc) (x := oc)
      rw [Array.size_replicate] at z
      exact z
    unfold Heap.get?
    rw [hoc] at q ⊢
    simp only [q]
  have k := (congrFun e h).mp ⟨oc, _, 0, hh, by rw [hoc], rfl⟩
  obtain ⟨o, es, ep, t, h1, _, h3, _⟩ := k
  rw [hh] at h1
  cases h1
  rw [hoc] at h3
  cases h3
theorem Ws.putX {φ ρ : List Addr} {H : Hp} {d : Addr} {P : Program} {w' : World} {S : NK → Bool} {n : Nat} {o : HO} {st : Sto} (w : Ws K T φ ρ H st) (hd : d ∈ φ) (h : H d = some (SetN P w' d S n)) (hm : Mo o) : Ws K T φ ρ (upd H d o) st := by
  have x : Ext φ H (upd H d o) := .at hd
  have h' : ∃ f, H d = some (.ext f) := ⟨_, h⟩
  obtain ⟨f, hf⟩ := h'
  have k : ∀ b u, H b = some u → (∀ g, u ≠ .ext g) → upd H d o b = some u := fun b u e n => (upd_ne fun q => by rw [q, hf] at e; cases e; exact n f rfl).trans e
  refine ⟨w.len, fun n ds e => ?_, w.nd, w.sub, fun a ha => ?_, ⟨fun q hq => ?_, fun a ps e => ?_⟩⟩
  · obtain ⟨a, xs, h1, h2, h3⟩ := w.sto n ds e
    exact ⟨a, xs, h1, k _ _ h2 (fun _ z => by cases z), h3.ext x w.fl⟩
  · by_cases q : a = d
    · rw [q]; exact ⟨_, upd_same, hm⟩
    · obtain ⟨u, e, m⟩ := w.fx a ha
      exact ⟨u, (upd_ne q).trans e, m⟩
  · obtain ⟨ps, h1, h2, h3⟩ := w.tab.1 q hq
    refine ⟨ps, k _ _ h1 (fun _ z => by cases z), h2, fun pos cv hcv => ?_⟩
    obtain ⟨c, e1, e2⟩ := h3 pos cv hcv
    refine ⟨c, e1, (upd_ne fun z => ?_).trans e2⟩
    subst z
    rw [h] at e2
    exact code_ne_set (Option.some.inj e2).symm
  · by_cases q : a = d
    · rw [q, upd_same] at e
      rw [Option.some.inj e] at hm
      exact hm.elim
    · rw [upd_ne q] at e
      exact w.tab.2 a ps e

/-! ### what it holds -/
theorem keyD_v {φ : List Addr} {H : Hp} {v : V} {z : D} {k : Option Key} (r : RD K φ H v z) (h : keyD z = some k) : v = vN k := by
  cases r <;> simp only [keyD] at h <;> first | cases h; rfl | cases h
theorem keysD_app : ∀ {xs ys : List D} {ks : List (Option Key)}, keysD (xs ++ ys) = some ks → ∃ as bs, keysD xs = some as ∧ keysD ys = some bs ∧ ks = as ++ bs
  | [], ys, ks, h => ⟨[], ks, rfl, h, rfl⟩
  | x :: xs, ys, ks, h => by
    simp only [List.cons_append, keysD] at h
    split at h
    · rename_i k ks' h1 h2
      cases h
      obtain ⟨as, bs, e1, e2, e3⟩ := keysD_app h2
      exact ⟨k :: as, bs, by simp only [keysD, h1, e1], e2, by rw [e3]; rfl⟩
    · cases h
theorem dedK_app : ∀ (as bs acc : List (Option Key)), dedK acc (as ++ bs) = dedK (dedK acc as) bs
  | [], _, _ => rfl
  | a :: as, bs, acc => by simp only [List.cons_append, dedK]; exact dedK_app as bs _
theorem dedK_len : ∀ (as acc : List (Option Key)), (dedK acc as).length ≤ acc.length + as.length
  | [], _ => by simp [dedK]
  | a :: as, acc => by
    simp only [dedK]
    have q := dedK_len as (if hasKey acc a = true then acc else acc ++ [a])
    have : (if hasKey acc a = true then acc else acc ++ [a]).length ≤ acc.length + 1 := by split <;> simp
    simp only [List.length_cons]
    omega
def hasK (ks : List (Option Key)) : NK → Bool := fun j => hasKey (dedK [] ks) j
theorem hasK_more (ks : List (Option Key)) (k : Option Key) : more (hasK ks) k = hasK (ks ++ [k]) := by
  funext j
  simp only [more, hasK, dedK_app, dedK]
  by_cases h : hasKey (dedK [] ks) k = true
  · rw [if_pos h]
    by_cases e : j = k
    · subst e; simp [h]
    · simp [e]
  · rw [if_neg h]
    simp only [hasKey, List.any_append, List.any_cons, List.any_nil, Bool.or_false]
    congr 1
    by_cases e : j = k
    · simp [e]
    · rw [decide_eq_false e, decide_eq_false (fun z => e z.symm)]
theorem hasK_num (ks : List (Option Key)) (k : Option Key) : moreN (hasK ks) k (dedK [] ks).length = (dedK [] (ks ++ [k])).length := by
  simp only [moreN, hasK, dedK_app, dedK]
  by_cases h : hasKey (dedK [] ks) k = true
  · simp [h]
  · simp [h]

/-- the state within: the new set at d, what it holds so far -/
structure Lk (P : Program) (w : World) (K : PySem.W.Frag) (T : List (Addr × Str)) (φ ρ : List Addr) (H1 : Hp) (env : Env) (σ : L2.St) (d : Addr) (H : Hp) (st : Sto) (ks : List (Option Key)) : Prop where
  ws : Ws K T (φ ++ [d]) ρ H st
  sl : Sl K (φ ++ [d]) ρ H env σ
  at' : H d = some (SetN P w d (hasK ks) (dedK [] ks).length)
  ext : Ext ρ H1 H
  non : H1 d = none
  out : d ∉ φ
section
variable {P : Program} {w : World} {φ ρ : List Addr} {H1 H H' : Hp} {env env' : Env} {σ σ' : L2.St} {d : Addr} {st st' : Sto} {ks : List (Option Key)}
theorem Lk.nr (l : Lk P w K T φ ρ H1 env σ d H st ks) : d ∉ ρ := fun z => by
  obtain ⟨xs, e⟩ := l.ws.rho d z
  rw [l.at'] at e
  unfold SetN at e
  cases e
theorem Lk.start (ws : Ws K T φ ρ H1 st) (sl : Sl K φ ρ H1 env σ) (n : H1 d = none) : Lk P w K T φ ρ H1 env σ d (upd H1 d (SetN P w d (fun _ => false) 0)) st [] := by
  have e : (fun _ => false : NK → Bool) = hasK [] := by funext j; simp [hasK, dedK, hasKey]
  have out : d ∉ φ := fun z => by obtain ⟨u, e, _⟩ := ws.fx d z; rw [n] at e; cases e
  have w1 : Ws K T φ ρ (upd H1 d (SetN P w d (fun _ => false) 0)) st := ws.new n (fun ps z => by unfold SetN at z; cases z)
  have x : Ext φ H1 (upd H1 d (SetN P w d (fun _ => false) 0)) := .new n
  have y : Ext (φ ++ [d]) H1 (upd H1 d (SetN P w d (fun _ => false) 0)) := .new n
  have fl1 : Lst (φ ++ [d]) H1 := fun a ha o e => by
    rcases List.mem_append.mp ha with h | h
    · exact ws.fl a h o e
    · rw [List.mem_singleton.mp h, n] at e; cases e
  refine ⟨⟨w1.len, fun m ds q => ?_, w1.nd, fun a ha => List.mem_append_left _ (w1.sub a ha), fun a ha => ?_, w1.tab⟩, ⟨sl.len, fun i s q => ?_⟩, ?_, .new n, n, out⟩
  · obtain ⟨a, xs, h1, h2, h3⟩ := ws.sto m ds q
    exact ⟨a, xs, h1, (upd_ne (ne_of_none h2 n)).trans h2, (RDs.fresh n h3).ext y fl1⟩
  · rcases List.mem_append.mp ha with h | h
    · exact w1.fx a h
    · rw [List.mem_singleton.mp h]; exact ⟨_, upd_same, by unfold SetN; trivial⟩
  · obtain ⟨v, a, b⟩ := sl.get i s q
    exact ⟨v, a, (b.fresh n).ext y fl1⟩
  · rw [upd_same, e]
    rfl
theorem Lk.step (l : Lk P w K T φ ρ H1 env σ d H st ks) (v : Ws K T (φ ++ [d]) ρ H' st') (x : Ext ρ H H') : Lk P w K T φ ρ H1 env σ d H' st' ks :=
  ⟨v, l.sl.ext (x.more l.ws.sub) l.ws.fl, x.keep _ _ l.at' l.nr (fun ps z => by unfold SetN at z; cases z), l.ext.trans x, l.non, l.out⟩
theorem Lk.slots (l : Lk P w K T φ ρ H1 env σ d H st ks) (s : Sl K (φ ++ [d]) ρ H env' σ') : Lk P w K T φ ρ H1 env' σ' d H st ks := ⟨l.ws, s, l.at', l.ext, l.non, l.out⟩
theorem Lk.push (l : Lk P w K T φ ρ H1 env σ d H st ks) (k : Option Key) : Lk P w K T φ ρ H1 env σ d (upd H d (SetN P w d (more (hasK ks) k) (moreN (hasK ks) k (dedK [] ks).length))) st (ks ++ [k]) := by
  have hd : d ∈ φ ++ [d] := by simp
  refine ⟨l.ws.putX hd l.at' (by unfold SetN; trivial), l.sl.ext (.at hd) l.ws.fl, ?_, ⟨fun b o e n t => ?_, fun b e => ?_⟩, l.non, l.out⟩
  · rw [upd_same, hasK_more, hasK_num]
  · have nb : b ≠ d := fun q => by rw [q, l.non] at e; cases e
    exact (upd_ne nb).trans (l.ext.keep b o e n t)
  · by_cases q : b = d
    · rw [q]; exact l.non
    · exact l.ext.dom b ((upd_ne q).symm.trans e)
theorem Lk.gr (l : Lk P w K T φ ρ H1 env σ d H st ks) (sub : ∀ a ∈ ρ, a ∈ φ) : Gr φ (φ ++ [d]) H1 H := ⟨l.ext.more sub, [d], rfl, fun a ha => by rw [List.mem_singleton.mp ha]; exact l.non⟩
end
theorem keysD_cat : ∀ {xs ys : List D} {as bs : List (Option Key)}, keysD xs = some as → keysD ys = some bs → keysD (xs ++ ys) = some (as ++ bs)
  | [], ys, as, bs, h, g => by cases h; exact g
  | x :: xs, ys, as, bs, h, g => by
    simp only [keysD] at h
    split at h
    · rename_i k ks h1 h2
      cases h
      simp only [List.cons_append, keysD, h1, keysD_cat h2 g]
    · cases h
/-- the next one is a key, and there is room -/
theorem key_next {ys done more : List D} {y : D} {ks kd : List (Option Key)} (hy : keysD ys = some ks) (e : ys = done ++ ([y] ++ more)) (hd : keysD done = some kd) (hl : ks.length < 4000) :
    ∃ k, keyD y = some k ∧ keysD (done ++ [y]) = some (kd ++ [k]) ∧ (dedK [] kd).length + 1 < scanBound := by
  rw [e] at hy
  obtain ⟨as, bs, h1, h2, h3⟩ := keysD_app hy
  rw [hd] at h1
  cases h1
  obtain ⟨cs, ds, h4, h5, h6⟩ := keysD_app h2
  simp only [keysD] at h4
  split at h4
  · rename_i k ks' h7 h8
    cases h8
    cases h4
    refine ⟨k, h7, keysD_cat hd (by simp only [keysD, h7]), ?_⟩
    have q := dedK_len kd []
    rw [h3] at hl
    simp only [List.length_append, List.length_nil] at hl q
    unfold scanBound
    omega
  · cases h4
theorem card_read {P : Program} {w : World} {own : List (Str × Nat)} {vs1 : List Nat} {t t1 : IT} {it it1 : II} {cs cs1 : List IE} {e : IE} (hown : ∀ i ∈ slT t, i ∈ own.map (·.2)) (hown1 : ∀ i ∈ slT t1, i ∈ vs1) (σ : L2.St) (H : Hp) (Q : VK) (q : tF K T (evE G cl (.card own vs1 t it cs t1 it1 cs1 e)) σ H Q) :
    tCB (rLenN P w) (tCons (tSc2 P w (tI K T (evI G cl it)) (tG K T t) (tCs K T (evCs G cl cs)) (tI K T (evI G cl it1)) (tG K T t1) (tCs K T (evCs G cl cs1)) (tF K T (evE G cl e)) (own.map (·.2)) vs1) tNil) σ H Q := by
  obtain ⟨φ, ρ, env, st, x, st', ws, sl, hev, kq⟩ := q
  simp only [evE] at hev
  split at hev
  case h_2 => cases hev
  rename_i xs kp st1 h1
  split at hev
  case h_2 => cases hev
  rename_i ys st2 h2
  split at hev
  case h_2 => cases hev
  rename_i ks hks
  split at hev
  case isFalse => cases hev
  rename_i hkl
  cases hev
  show tSc2 P w (tI K T (evI G cl it)) (tG K T t) (tCs K T (evCs G cl cs)) (tI K T (evI G cl it1)) (tG K T t1) (tCs K T (evCs G cl cs1)) (tF K T (evE G cl e)) (own.map (·.2)) vs1 σ H (fun v H1 => rLenN P w [v] H1 Q)
  refine ⟨φ, ρ, env, st, xs, kp, st1, ws, sl, h1, fun J H1 p kk walk dd hdd => ?_⟩
  have sub := p.ws.sub
  have hdd2 : dd ∈ φ ++ [dd] := by simp
  have slw : Sl K φ ρ H1 (wipeE env (own.map (·.2))) (L2.wipe σ (own.map (·.2))) := p.sl.wipe _
  generalize hF : (fun (d : D) (s : Sto) => match bindT t d (wipeE env (own.map (·.2))) with
    | some env1 => match evCs G cl cs env1 s with
      | some (true, s1) => match evI G cl it1 env1 s1 with
        | some (zs, kp1, s2) => match compL (fun d1 s => match bindT t1 d1 (wipeE env1 vs1) with
            | some env2 => match evCs G cl cs1 env2 s with
              | some (true, s3) => match evE G cl e env2 s3 with
                | some (.dat y _, s4) => if keptL s4 kp1 then some ([y], s4) else none
                | _ => none
              | some (false, s3) => if keptL s3 kp1 then some ([], s3) else none
              | none => none
            | none => none) zs s2 with
          | some (ys, s5) => if keptL s5 kp then some (ys, s5) else none
          | none => none
        | none => none
      | some (false, s1) => if keptL s1 kp then some ([], s1) else none
      | none => none
    | none => none) = F at h2
  refine ⟨fun i m Hh => m = xs.length - i ∧ i ≤ xs.length ∧ ∃ stc kd done rest, Lk P w K T φ ρ H1 (wipeE env (own.map (·.2))) (L2.wipe σ (own.map (·.2))) dd Hh stc kd ∧ keysD done = some kd ∧ keptL stc kp = true ∧ compL F (xs.drop i) stc = some (rest, st') ∧ done ++ rest = ys,
    ⟨xs.length, by simp, Nat.zero_le _, st1, [], [], ys, Lk.start p.ws slw hdd, rfl, kk, h2, rfl⟩, ?_⟩
  rintro i m Hh ⟨rfl, hi, stc, kd, done, rest, l, hkd, kc, hrest, hys⟩
  have lt : Lt K T φ ρ H1 kp (φ ++ [dd]) ρ Hh stc := ⟨l.ws, kc, l.gr sub, [], by simp⟩
  by_cases hlt : i < xs.length
  · refine .inr ⟨walk.goes i _ _ _ _ hlt lt, ?_⟩
    have hdrop : xs.drop i = xs[i] :: xs.drop (i + 1) := List.drop_eq_getElem_cons hlt
    rw [hdrop] at hrest
    simp only [compL] at hrest
    split at hrest
    case h_2 => cases hrest
    rename_i zs sta ha
    split at hrest
    case h_2 => cases hrest
    rename_i ws' stb hb
    cases hrest
    refine ⟨fun H' => ∃ kd2, Lk P w K T φ ρ H1 (wipeE env (own.map (·.2))) (L2.wipe σ (own.map (·.2))) dd H' sta kd2 ∧ keysD (done ++ zs) = some kd2 ∧ keptL sta kp = true, fun H' hN' => ?_, fun u Hy hy => ?_⟩
    · obtain ⟨kd2, l2, k1, k2⟩ := hN'
      exact ⟨xs.length - (i + 1), by omega, rfl, hlt, sta, kd2, done ++ zs, ws', l2, k1, k2, hb, by rw [List.append_assoc]; exact hys⟩
    · obtain ⟨⟨d0, hd0, rd0⟩, hch⟩ := walk.yields i _ _ _ _ u Hy hlt lt hy
      have ed : d0 = xs[i] := by rw [List.getElem?_eq_getElem hlt] at hd0; exact (Option.some.inj hd0).symm
      subst ed
      have ly : Lk P w K T φ ρ H1 (wipeE env (own.map (·.2))) (L2.wipe σ (own.map (·.2))) dd Hy stc kd := by
        rcases hch with rfl | ⟨pp, oo, hp0, hoo, rfl⟩
        · exact l
        · exact l.step (l.ws.new hp0 hoo) (.new hp0)
      rw [← hF] at ha
      simp only at ha
      split at ha
      case h_2 => cases ha
      rename_i env1 hb1
      refine ⟨φ ++ [dd], ρ, _, stc, xs[i], env1, ly.ws, ly.sl, rd0, hb1, fun σ2 sl2 w2 => ⟨(w2 _ hown).trans (wipe_wipe fun _ h => h), ?_⟩⟩
      split at ha
      · rename_i s1 hc1
        split at ha
        case h_2 => cases ha
        rename_i us kp1 s2 hi2
        split at ha
        case h_2 => cases ha
        rename_i yi s5 hcomp
        split at ha
        case isFalse => cases ha
        rename_i hk5
        cases ha
        refine ⟨φ ++ [dd], ρ, env1, stc, true, s1, ly.ws, sl2, hc1, fun H3 p3 => iteT ⟨φ ++ [dd], ρ, env1, s1, us, kp1, s2, p3.ws, p3.sl, hi2, fun J1 H4 p4 kk1 walk1 => ?_⟩⟩
        have l4 := (ly.step p3.ws p3.ext).step p4.ws p4.ext
        have sl4 : Sl K (φ ++ [dd]) ρ H4 env1 σ2 := p4.sl
        generalize hF1 : (fun (d1 : D) (s : Sto) => match bindT t1 d1 (wipeE env1 vs1) with
          | some env2 => match evCs G cl cs1 env2 s with
            | some (true, s3) => match evE G cl e env2 s3 with
              | some (.dat y _, s4) => if keptL s4 kp1 then some ([y], s4) else none
              | _ => none
            | some (false, s3) => if keptL s3 kp1 then some ([], s3) else none
            | none => none
          | none => none) = F1 at hcomp
        refine ⟨fun j m Hh => m = us.length - j ∧ j ≤ us.length ∧ ∃ stc kd2 done2 rest2, Lk P w K T φ ρ H1 (wipeE env1 vs1) (L2.wipe σ2 vs1) dd Hh stc kd2 ∧ keysD (done ++ done2) = some kd2 ∧ Sl K (φ ++ [dd]) ρ Hh (wipeE env (own.map (·.2))) (L2.wipe σ (own.map (·.2))) ∧ Ext (φ ++ [dd]) H4 Hh ∧ keptL stc kp1 = true ∧ compL F1 (us.drop j) stc = some (rest2, sta) ∧ done2 ++ rest2 = zs,
          ⟨us.length, by simp, Nat.zero_le _, s2, kd, [], zs, l4.slots (sl4.wipe _), by rw [List.append_nil]; exact hkd, l4.sl, .refl _ _, kk1, hcomp, rfl⟩, ?_⟩
        rintro j m2 Hj ⟨rfl, hj, stj, kd2, done2, rest2, lj, hkd2, slj, xj, kj, hrest2, hzs⟩
        have ltj : Lt K T (φ ++ [dd]) ρ H4 kp1 (φ ++ [dd]) ρ Hj stj := ⟨lj.ws, kj, ⟨xj, [], by simp, by simp⟩, [], by simp⟩
        by_cases hltj : j < us.length
        · refine .inr ⟨walk1.goes j _ _ _ _ hltj ltj, ?_⟩
          have hdropj : us.drop j = us[j] :: us.drop (j + 1) := List.drop_eq_getElem_cons hltj
          rw [hdropj] at hrest2
          simp only [compL] at hrest2
          split at hrest2
          case h_2 => cases hrest2
          rename_i qs stq hq
          split at hrest2
          case h_2 => cases hrest2
          rename_i wq stb2 hb2
          cases hrest2
          refine ⟨fun H' => ∃ kd3, Lk P w K T φ ρ H1 (wipeE env1 vs1) (L2.wipe σ2 vs1) dd H' stq kd3 ∧ keysD (done ++ (done2 ++ qs)) = some kd3 ∧ Sl K (φ ++ [dd]) ρ H' (wipeE env (own.map (·.2))) (L2.wipe σ (own.map (·.2))) ∧ Ext (φ ++ [dd]) H4 H' ∧ keptL stq kp1 = true, fun H' hN' => ?_, fun u2 Hz hz => ?_⟩
          · obtain ⟨kd3, l2, hk3, slx, xx, k2⟩ := hN'
            exact ⟨us.length - (j + 1), by omega, rfl, hltj, stq, kd3, done2 ++ qs, wq, l2, hk3, slx, xx, k2, hb2, by rw [List.append_assoc]; exact hzs⟩
          · obtain ⟨⟨d1, hd1, rd1⟩, hch1⟩ := walk1.yields j _ _ _ _ u2 Hz hltj ltj hz
            have ed1 : d1 = us[j] := by rw [List.getElem?_eq_getElem hltj] at hd1; exact (Option.some.inj hd1).symm
            subst ed1
            have lz : Lk P w K T φ ρ H1 (wipeE env1 vs1) (L2.wipe σ2 vs1) dd Hz stj kd2 ∧ Sl K (φ ++ [dd]) ρ Hz (wipeE env (own.map (·.2))) (L2.wipe σ (own.map (·.2))) ∧ Ext (φ ++ [dd]) H4 Hz := by
              rcases hch1 with rfl | ⟨pp, oo, hp0, hoo, rfl⟩
              · exact ⟨lj, slj, xj⟩
              · exact ⟨lj.step (lj.ws.new hp0 hoo) (.new hp0), slj.ext (.new hp0) lj.ws.fl, xj.trans (.new hp0)⟩
            obtain ⟨lz, slz, xz⟩ := lz
            rw [← hF1] at hq
            simp only at hq
            split at hq
            case h_2 => cases hq
            rename_i env2 hb3
            refine ⟨φ ++ [dd], ρ, _, stj, us[j], env2, lz.ws, lz.sl, rd1, hb3, fun σ3 sl3 w3 => ⟨(w3 _ hown1).trans (wipe_wipe fun _ h => h), ?_⟩⟩
            split at hq
            · rename_i s3 hc3
              split at hq
              case h_2 => cases hq
              rename_i y fr s4 he4
              split at hq
              case isFalse => cases hq
              rename_i hk4
              cases hq
              refine ⟨φ ++ [dd], ρ, env2, stj, true, s3, lz.ws, sl3, hc3, fun H6 p6 => iteT ⟨φ ++ [dd], ρ, env2, s3, _, stq, p6.ws, p6.sl, he4, fun v7 H7 p7 => ?_⟩⟩
              have l7 := (lz.step p6.ws p6.ext).step p7.ws p7.ext
              have x7 : Ext (φ ++ [dd]) Hz H7 := (p6.ext.trans p7.ext).more lz.ws.sub
              have s7 := (slz.ext x7 lz.ws.fl)
              obtain ⟨k, hk, hkk, room⟩ := key_next (y := y) (done := done ++ done2) (more := wq ++ ws') hks (by rw [← hys, ← hzs]; simp) hkd2 hkl
              refine ⟨k, _, _, keyD_v p7.rr hk, l7.at', room, kd2 ++ [k], l7.push k, by rw [← List.append_assoc]; exact hkk, s7.ext (.at hdd2) l7.ws.fl, (xz.trans x7).trans (.at hdd2), hk4⟩
            · rename_i s3 hc3
              split at hq
              case isFalse => cases hq
              rename_i hk4
              cases hq
              refine ⟨φ ++ [dd], ρ, env2, stj, false, stq, lz.ws, sl3, hc3, fun H6 p6 => iteF ⟨kd2, lz.step p6.ws p6.ext, by rw [List.append_nil]; exact hkd2, slz.ext (p6.ext.more lz.ws.sub) lz.ws.fl, xz.trans (p6.ext.more lz.ws.sub), hk4⟩⟩
            · cases hq
        · have ej : j = us.length := by omega
          subst ej
          refine .inl ⟨walk1.stops _ _ _ _ ltj, ?_⟩
          rw [List.drop_length] at hrest2
          simp only [compL] at hrest2
          cases hrest2
          rw [List.append_nil] at hzs
          subst hzs
          exact ⟨kd2, lj.slots slj, hkd2, hk5⟩
      · rename_i s1 hc1
        split at ha
        case isFalse => cases ha
        rename_i hk2
        cases ha
        exact ⟨φ ++ [dd], ρ, env1, stc, false, sta, ly.ws, sl2, hc1, fun H3 p3 => iteF ⟨kd, ly.step p3.ws p3.ext, by rw [List.append_nil]; exact hkd, hk2⟩⟩
      · cases ha
  · have ei : i = xs.length := by omega
    subst ei
    refine .inl ⟨walk.stops _ _ _ _ lt, ?_⟩
    rw [List.drop_length] at hrest
    simp only [compL] at hrest
    cases hrest
    rw [List.append_nil] at hys
    subst hys
    have hkq : kd = ks := Option.some.inj (hkd.symm.trans hks)
    subst hkq
    refine ⟨dd, _, _, rfl, l.at', ?_, kq _ _ ⟨l.ws.weak (fun a ha => List.mem_append_left _ ha) sub, p.sl.ext (l.gr sub).ext p.ws.fl, p.ext.trans l.ext, .int _, fun d e => by cases e⟩⟩
    have q := dedK_len kd []
    simp only [List.length_nil] at q
    omega
end Ev
set_option linter.all false
set_option maxRecDepth 100000
set_option maxHeartbeats 16000000
/-! EvD: dict comprehensions of ints, as values and for a name. -/
namespace Ev
open PySem PySem.Spec L2
variable {K : PySem.W.Frag} {T : List (Addr × Str)} {X : Cx} {G : Pk} {cl : Str → List SV → Sto → Option (ER × Sto)}
/-- name = {..} on one line, the name a local -/
theorem ps_setDc {i : Nat} {y : Str} {py : Pos} {kx vx tg iter : Expr} {ifs : List Expr} {scope : Scope} {own : List (Str × Nat)} {pos spos : Pos} {wi : TI} {g : TG} {tt : TT} {tk tv : TE} (hc : X.calm = true) (hN : X.N.Nodup) (hy : X.N[i]? = some y) (hyl : X.env.scope.names.lookup y = some .local)
    (hsw : swapsWith (.DictComp kx vx [⟨tg, iter, ifs, 0⟩] scope pos) (some (.Name y py)) spos.line X.env = pure true) (hi : PI X tg iter wi) (ok : BlkOk X.N X.env.scope scope own)
    (hg : ∀ (s : Shared) (H : Hp) (C : Addr) (cl : List (Str × Addr)) (fp : List Addr), PG (X.blk s H scope (compEnvC scope cl C X.env) fp) tg g) (ht : ∀ (s : Shared) (H : Hp) (C : Addr) (cl : List (Str × Addr)) (fp : List Addr), PTs (X.blk s H scope (compEnvC scope cl C X.env) fp) ifs tt)
    (hk : ∀ (s : Shared) (H : Hp) (C : Addr) (cl : List (Str × Addr)) (fp : List Addr), PE (X.blk s H scope (compEnvC scope cl C X.env) fp) kx tk)
    (he : ∀ (s : Shared) (H : Hp) (C : Addr) (cl : List (Str × Addr)) (fp : List Addr), PE (X.blk s H scope (compEnvC scope cl C X.env) fp) vx tv) (hs : ∀ x, foldedSetIterable iter X.env x = pure x := by intro _; rfl) :
    PS X (.Assign [.Name y py] (.DictComp kx vx [⟨tg, iter, ifs, 0⟩] scope pos) spos) (tAsg (tDc wi g tt tk tv (own.map (·.2))) (gName i)) := by
  refine ⟨fun pins s σ H D I h => ?_⟩
  rw [exec_Assign_Name_used _ _ _ _ hsw]
  refine wpAny_bind (wpAny_standAt (wpAny_bind ?_))
  show wpAny _ X.A (do let _ ← comprehension (.DictComp kx vx [⟨tg, iter, ifs, 0⟩] scope pos) scope X.env (firstIterPos [⟨tg, iter, ifs, 0⟩] pos) newDict false (eval iter X.env) (some (assign (.Name y py) X.env))) _ _ s
  have h : tDc wi g tt tk tv (own.map (·.2)) σ H (fun x H1 => gName i x σ H1 D.nx) := h
  refine wpAny_bind (thn (dc_core (Qf := fun _ s' => SP X pins D .next s') hc hN I hi ok hg ht hk he hs h fun L C s' m H' I' q hn f => ?_) fun _ s' hq => wpAny_pure (wpAny_pure hq))
  show wpAny _ _ (assign (.Name y py) X.env (.ref L)) _ _ _
  refine wpAny_assign_Name (store_ok2 (v := V.ref L) I' hN hy (.inl hyl) rfl (fun s2 I2 ⟨a, sb, ha⟩ => ?_) (.inr hyl))
  obtain ⟨f0, f1, f2, f3, f4, f5⟩ := f
  have haC : C ≠ a := by
    rcases ha with z | z
    · rw [z]; exact f1
    · exact fun e => f4 y a z e.symm
  refine ⟨m, hn.sameBut sb haC, fun h3 sb3 => ?_⟩
  exact ⟨_, H', I2.turned (t' := s2.toks) (fun b o hb e => (sb3.2 b hb).trans e) f0 f1 f3 f4 f5, q⟩
/-! ### a dict that changes -/
theorem Ws.putD {φ ρ : List Addr} {H : Hp} {d : Addr} {kvs kvs' : List (Key × V)} {st : Sto} (w : Ws K T φ ρ H st) (hd : d ∈ φ) (h : H d = some (.dK kvs)) : Ws K T φ ρ (upd H d (.dK kvs')) st := by
  have x : Ext φ H (upd H d (.dK kvs')) := .at hd
  have k : ∀ b u, H b = some u → (∀ ks, u ≠ .dK ks) → upd H d (.dK kvs') b = some u := fun b u e n => (upd_ne fun q => by rw [q, h] at e; cases e; exact n kvs rfl).trans e
  refine ⟨w.len, fun n ds e => ?_, w.nd, w.sub, fun a ha => ?_, ⟨fun q hq => ?_, fun a ps e => ?_⟩⟩
  · obtain ⟨a, xs, h1, h2, h3⟩ := w.sto n ds e
    exact ⟨a, xs, h1, k _ _ h2 (fun _ z => by cases z), h3.ext x w.fl⟩
  · by_cases q : a = d
    · rw [q]; exact ⟨_, upd_same, True.intro⟩
    · obtain ⟨u, e, m⟩ := w.fx a ha
      exact ⟨u, (upd_ne q).trans e, m⟩
  · obtain ⟨ps, h1, h2, h3⟩ := w.tab.1 q hq
    refine ⟨ps, k _ _ h1 (fun _ z => by cases z), h2, fun pos cv hcv => ?_⟩
    obtain ⟨c, e1, e2⟩ := h3 pos cv hcv
    exact ⟨c, e1, k _ _ e2 (fun _ z => by unfold LamX.CodeO at z; cases z)⟩
  · by_cases q : a = d
    · rw [q, upd_same] at e
      cases e
    · rw [upd_ne q] at e
      exact w.tab.2 a ps e
/-! ### what it holds -/
def vI : D → V
  | .int z => .int z
  | _ => .non
def gK (p : Int × D) : Key × V := ((Sum.inl p.1 : Key), vI p.2)
structure sameK (kvs : List (Key × V)) (ps : List (Int × D)) : Prop where
  eq : kvs = ps.map gK
  nums : ∀ p ∈ ps, ∃ z, p.2 = .int z
theorem sameK.len {kvs : List (Key × V)} {ps : List (Int × D)} (h : sameK kvs ps) : kvs.length = ps.length := by
  rw [h.eq, List.length_map]
theorem sameK.put {kvs : List (Key × V)} {ps : List (Int × D)} (h : sameK kvs ps) (k z : Int) : sameK (putK kvs (.inl k) (.int z)) (putP ps k (.int z)) := by
  obtain ⟨rfl, hi⟩ := h
  have ha : ((ps.map gK).any fun kv => decide (kv.1 = (.inl k : Key))) = ps.any fun p => decide (p.1 = k) := by
    rw [List.any_map]
    congr 1
    funext p
    simp [gK]
  unfold putK putP
  rw [ha]
  by_cases hx : (ps.any fun p => decide (p.1 = k)) = true
  · rw [if_pos hx, if_pos hx]
    refine ⟨?_, fun p hp => ?_⟩
    · rw [List.map_map, List.map_map]
      refine List.map_congr_left fun p _ => ?_
      show (if (gK p).1 = (Sum.inl k : Key) then ((gK p).1, V.int z) else gK p) = gK (if p.1 = k then (p.1, PyData.int z) else p)
      by_cases e : p.1 = k
      · rw [if_pos (show (gK p).1 = (Sum.inl k : Key) by show (Sum.inl p.1 : Key) = _; rw [e]), if_pos e]
        rfl
      · rw [if_neg (fun q : (gK p).1 = (Sum.inl k : Key) => e (Sum.inl.inj q)), if_neg e]
    · obtain ⟨q, hq, rfl⟩ := List.mem_map.mp hp
      split
      · exact ⟨z, rfl⟩
      · exact hi q hq
  · rw [if_neg hx, if_neg hx]
    refine ⟨by rw [List.map_append]; rfl, fun p hp => ?_⟩
    rcases List.mem_append.mp hp with hp | hp
    · exact hi p hp
    · rw [List.mem_singleton.mp hp]
      exact ⟨z, rfl⟩
theorem sameK.keys {kvs : List (Key × V)} {ps : List (Int × D)} (h : sameK kvs ps) : (ps.map fun p => (PyData.int p.1, p.2)).map (·.1) = kvs.map fun p => kD p.1 := by
  rw [h.eq, List.map_map, List.map_map]
  rfl
theorem sameK.vals {kvs : List (Key × V)} {φ : List Addr} {H : Hp} : ∀ {ps : List (Int × D)}, sameK kvs ps → RDs K φ H (kvs.map (·.2)) ((ps.map fun p => (PyData.int p.1, p.2)).map (·.2)) := by
  intro ps h
  rw [h.eq]
  have := h.nums
  clear h
  induction ps with
  | nil => exact .nil
  | cons p ps ih =>
    obtain ⟨k, d⟩ := p
    obtain ⟨z, hz⟩ := this (k, d) (List.mem_cons_self ..)
    obtain rfl : d = .int z := hz
    exact .cons (.int z) (ih fun q hq => this q (List.mem_cons_of_mem _ hq))
theorem putP_len (ps : List (Int × D)) (k : Int) (z : D) : (putP ps k z).length ≤ ps.length + 1 := by
  unfold putP
  split
  · rw [List.length_map]; omega
  · rw [List.length_append]; exact Nat.le_refl _
theorem puts_len : ∀ (ps acc : List (Int × D)), (putsP acc ps).length ≤ acc.length + ps.length
  | [], _ => Nat.le_refl _
  | p :: ps, acc => by
    have h1 := puts_len ps (putP acc p.1 p.2)
    have h2 := putP_len acc p.1 p.2
    simp only [putsP, List.length_cons]
    omega
theorem puts_app : ∀ (ps qs acc : List (Int × D)), putsP acc (ps ++ qs) = putsP (putsP acc ps) qs
  | [], _, _ => rfl
  | p :: ps, qs, acc => puts_app ps qs (putP acc p.1 p.2)
theorem prs_cons {y z : Int} {ds : List D} {ps : List (Int × D)} (h : prsD (.tuple [.int y, .int z] :: ds) = some ps) : ∃ qs, prsD ds = some qs ∧ ps = (y, .int z) :: qs := by
  simp only [prsD] at h
  split at h
  · rename_i qs h1
    cases h
    exact ⟨qs, h1, rfl⟩
  · cases h
theorem prs_snoc : ∀ {xs : List D} {ps : List (Int × D)} {y z : Int}, prsD xs = some ps → prsD (xs ++ [.tuple [.int y, .int z]]) = some (ps ++ [(y, .int z)])
  | [], ps, y, z, h => by
    cases h
    rfl
  | x :: xs, ps, y, z, h => by
    rw [List.cons_append]
    unfold prsD at h ⊢
    split at h
    · rename_i e; cases e
    · rename_i e
      cases e
      split at h
      · rename_i qs h1
        cases h
        simp only [prs_snoc h1]
        rfl
      · cases h
    · cases h
theorem prs_app : ∀ {xs ys : List D} {ps : List (Int × D)}, prsD (xs ++ ys) = some ps → ∃ as bs, prsD xs = some as ∧ prsD ys = some bs ∧ ps = as ++ bs
  | [], ys, ps, h => ⟨[], ps, rfl, h, rfl⟩
  | x :: xs, ys, ps, h => by
    rw [List.cons_append] at h
    unfold prsD at h
    split at h
    · rename_i e; cases e
    · rename_i k z r e
      cases e
      split at h
      · rename_i qs h1
        cases h
        obtain ⟨as, bs, e1, e2, e3⟩ := prs_app h1
        exact ⟨(k, z) :: as, bs, by simp only [prsD, e1], e2, by rw [e3]; rfl⟩
      · cases h
    · cases h
/-- the state within: the new dict at d, what it holds so far -/
structure Ld (K : PySem.W.Frag) (T : List (Addr × Str)) (φ ρ : List Addr) (H1 : Hp) (env : Env) (σ : L2.St) (d : Addr) (H : Hp) (st : Sto) (kvs : List (Key × V)) (ps : List (Int × D)) : Prop where
  ws : Ws K T (φ ++ [d]) ρ H st
  sl : Sl K (φ ++ [d]) ρ H env σ
  at' : H d = some (.dK kvs)
  sm : sameK kvs ps
  ext : Ext ρ H1 H
  non : H1 d = none
  out : d ∉ φ
section
variable {φ ρ : List Addr} {H1 H H' : Hp} {env env' : Env} {σ σ' : L2.St} {d : Addr} {st st' : Sto} {kvs : List (Key × V)} {ps : List (Int × D)}
theorem Ld.gr (l : Ld K T φ ρ H1 env σ d H st kvs ps) (sub : ∀ a ∈ ρ, a ∈ φ) : Gr φ (φ ++ [d]) H1 H := ⟨l.ext.more sub, [d], rfl, fun a ha => by rw [List.mem_singleton.mp ha]; exact l.non⟩
theorem Ld.nr (l : Ld K T φ ρ H1 env σ d H st kvs ps) (sub : ∀ a ∈ ρ, a ∈ φ) : d ∉ ρ := fun z => l.out (sub _ z)
theorem Ld.start (ws : Ws K T φ ρ H1 st) (sl : Sl K φ ρ H1 env σ) (n : H1 d = none) : Ld K T φ ρ H1 env σ d (upd H1 d (.dK [])) st [] [] := by
  have out : d ∉ φ := fun z => by obtain ⟨u, e, _⟩ := ws.fx d z; rw [n] at e; cases e
  have w1 : Ws K T φ ρ (upd H1 d (.dK [])) st := ws.new n
  have y : Ext (φ ++ [d]) H1 (upd H1 d (.dK [])) := .new n
  have fl1 : Lst (φ ++ [d]) H1 := fun a ha o e => by
    rcases List.mem_append.mp ha with h | h
    · exact ws.fl a h o e
    · rw [List.mem_singleton.mp h, n] at e; cases e
  refine ⟨⟨w1.len, fun m ds q => ?_, w1.nd, fun a ha => List.mem_append_left _ (w1.sub a ha), fun a ha => ?_, w1.tab⟩, ⟨sl.len, fun i s q => ?_⟩, upd_same, ⟨rfl, fun p hp => by cases hp⟩, .new n, n, out⟩
  · obtain ⟨a, xs, h1, h2, h3⟩ := ws.sto m ds q
    exact ⟨a, xs, h1, (upd_ne (ne_of_none h2 n)).trans h2, (RDs.fresh n h3).ext y fl1⟩
  · rcases List.mem_append.mp ha with h | h
    · exact w1.fx a h
    · rw [List.mem_singleton.mp h]; exact ⟨_, upd_same, True.intro⟩
  · obtain ⟨v, a, b⟩ := sl.get i s q
    exact ⟨v, a, (b.fresh n).ext y fl1⟩
theorem Ld.step (l : Ld K T φ ρ H1 env σ d H st kvs ps) (sub : ∀ a ∈ ρ, a ∈ φ) (v : Ws K T (φ ++ [d]) ρ H' st') (x : Ext ρ H H') : Ld K T φ ρ H1 env σ d H' st' kvs ps :=
  ⟨v, l.sl.ext (x.more l.ws.sub) l.ws.fl, x.keep _ _ l.at' (l.nr sub) (fun ps z => by cases z), l.sm, l.ext.trans x, l.non, l.out⟩
theorem Ld.push (l : Ld K T φ ρ H1 env σ d H st kvs ps) (k z : Int) : Ld K T φ ρ H1 env σ d (upd H d (.dK (putK kvs (.inl k) (.int z)))) st (putK kvs (.inl k) (.int z)) (putP ps k (.int z)) := by
  have hd : d ∈ φ ++ [d] := by simp
  refine ⟨l.ws.putD hd l.at', l.sl.ext (.at hd) l.ws.fl, upd_same, l.sm.put k z, ⟨fun b o e n t => ?_, fun b e => ?_⟩, l.non, l.out⟩
  · have nb : b ≠ d := fun q => by rw [q, l.non] at e; cases e
    exact (upd_ne nb).trans (l.ext.keep b o e n t)
  · by_cases q : b = d
    · rw [q]; exact l.non
    · exact l.ext.dom b ((upd_ne q).symm.trans e)
end
theorem dc_read {own : List (Str × Nat)} {t : IT} {it : II} {cs : List IE} {ke e : IE} (hown : ∀ i ∈ slT t, i ∈ own.map (·.2)) (σ : L2.St) (H : Hp) (Q : VK) (q : tF K T (evE G cl (.dc own t it cs ke e)) σ H Q) :
    tDc (tI K T (evI G cl it)) (tG K T t) (tCs K T (evCs G cl cs)) (tF K T (evE G cl ke)) (tF K T (evE G cl e)) (own.map (·.2)) σ H Q := by
  obtain ⟨φ, ρ, env, st, x, st', ws, sl, hev, kq⟩ := q
  simp only [evE] at hev
  split at hev
  case h_2 => cases hev
  rename_i xs kp st1 h1
  split at hev
  case h_2 => cases hev
  rename_i ys st2 h2
  split at hev
  case h_2 => cases hev
  rename_i pall hall
  split at hev
  case isFalse => cases hev
  rename_i hlen
  cases hev
  refine ⟨φ, ρ, env, st, xs, kp, st1, ws, sl, h1, fun J H1 p kk walk dd hdd => ?_⟩
  have sub := p.ws.sub
  have slw : Sl K φ ρ H1 (wipeE env (own.map (·.2))) (L2.wipe σ (own.map (·.2))) := p.sl.wipe _
  generalize hF : (fun (d : D) (s : Sto) => match bindT t d (wipeE env (own.map (·.2))) with
    | some env1 => match evCs G cl cs env1 s with
      | some (true, s1) => match evE G cl ke env1 s1 with
        | some (.dat (.int y) _, s2) => match evE G cl e env1 s2 with
          | some (.dat (.int z) _, s3) => if keptL s3 kp then some ([PyData.tuple [.int y, .int z]], s3) else none
          | _ => none
        | _ => none
      | some (false, s1) => if keptL s1 kp then some ([], s1) else none
      | none => none
    | none => none) = F at h2
  refine ⟨fun i m Hh => m = xs.length - i ∧ i ≤ xs.length ∧ ∃ stc kvs done pd rest, Ld K T φ ρ H1 (wipeE env (own.map (·.2))) (L2.wipe σ (own.map (·.2))) dd Hh stc kvs (putsP [] pd) ∧ prsD done = some pd ∧ keptL stc kp = true ∧ compL F (xs.drop i) stc = some (rest, st') ∧ done ++ rest = ys,
    ⟨xs.length, by simp, Nat.zero_le _, st1, [], [], [], ys, Ld.start p.ws slw hdd, rfl, kk, h2, rfl⟩, ?_⟩
  rintro i m Hh ⟨rfl, hi, stc, kvs, done, pd, rest, l, hpd, kc, hrest, hys⟩
  have lt : Lt K T φ ρ H1 kp (φ ++ [dd]) ρ Hh stc := ⟨l.ws, kc, l.gr sub, [], by simp⟩
  by_cases hlt : i < xs.length
  · refine .inr ⟨walk.goes i _ _ _ _ hlt lt, ?_⟩
    have hdrop : xs.drop i = xs[i] :: xs.drop (i + 1) := List.drop_eq_getElem_cons hlt
    rw [hdrop] at hrest
    simp only [compL] at hrest
    split at hrest
    case h_2 => cases hrest
    rename_i zs sta ha
    split at hrest
    case h_2 => cases hrest
    rename_i ws' stb hb
    cases hrest
    refine ⟨fun H' => ∃ kvs2 pd2, Ld K T φ ρ H1 (wipeE env (own.map (·.2))) (L2.wipe σ (own.map (·.2))) dd H' sta kvs2 (putsP [] pd2) ∧ prsD (done ++ zs) = some pd2 ∧ keptL sta kp = true, fun H' hN' => ?_, fun u Hy hy => ?_⟩
    · obtain ⟨kvs2, pd2, l2, k1, k2⟩ := hN'
      exact ⟨xs.length - (i + 1), by omega, rfl, hlt, sta, kvs2, done ++ zs, pd2, ws', l2, k1, k2, hb, by rw [List.append_assoc]; exact hys⟩
    · obtain ⟨⟨d0, hd0, rd0⟩, hch⟩ := walk.yields i _ _ _ _ u Hy hlt lt hy
      have ed : d0 = xs[i] := by rw [List.getElem?_eq_getElem hlt] at hd0; exact (Option.some.inj hd0).symm
      subst ed
      have ly : Ld K T φ ρ H1 (wipeE env (own.map (·.2))) (L2.wipe σ (own.map (·.2))) dd Hy stc kvs (putsP [] pd) := by
        rcases hch with rfl | ⟨pp, oo, hp0, hoo, rfl⟩
        · exact l
        · exact l.step sub (l.ws.new hp0 hoo) (.new hp0)
      rw [← hF] at ha
      simp only at ha
      split at ha
      case h_2 => cases ha
      rename_i env1 hb1
      refine ⟨φ ++ [dd], ρ, _, stc, xs[i], env1, ly.ws, ly.sl, rd0, hb1, fun σ2 sl2 w2 => ⟨(w2 _ hown).trans (wipe_wipe fun _ h => h), ?_⟩⟩
      split at ha
      · rename_i s1 hc1
        split at ha
        · rename_i yk fr1 s2 hk2
          split at ha
          · rename_i zv fr2 s3 he3
            split at ha
            case isFalse => cases ha
            rename_i hk3
            cases ha
            refine ⟨φ ++ [dd], ρ, env1, stc, true, s1, ly.ws, sl2, hc1, fun H3 p3 => iteT ⟨φ ++ [dd], ρ, env1, s1, _, s2, p3.ws, p3.sl, hk2, fun v4 H4 p4 => ⟨φ ++ [dd], ρ, env1, s2, _, sta, p4.ws, p4.sl, he3, fun v5 H5 p5 => ?_⟩⟩⟩
            have l5 := ((ly.step sub p3.ws p3.ext).step sub p4.ws p4.ext).step sub p5.ws p5.ext
            cases (show RD K (φ ++ [dd]) H4 v4 (.int yk) from p4.rr)
            cases (show RD K (φ ++ [dd]) H5 v5 (.int zv) from p5.rr)
            have hroom : kvs.length < sizeLine := by
              have e0 := l5.sm.len
              have e1 := puts_len pd []
              obtain ⟨as, bs, q1, q2, q3⟩ := prs_app (xs := done) (ys := [PyData.tuple [.int yk, .int zv]] ++ ws') (by rw [hys]; exact hall)
              rw [hpd] at q1
              cases q1
              rw [q3, List.length_append] at hlen
              rw [PySem.sizeLine_eq]
              simp only [List.length_nil] at e1
              omega
            refine ⟨kvs, .inl yk, rfl, l5.at', hroom, putK kvs (.inl yk) (.int zv), pd ++ [(yk, .int zv)], ?_, prs_snoc hpd, hk3⟩
            rw [puts_app]
            exact l5.push yk zv
          · cases ha
        · cases ha
      · rename_i s1 hc1
        split at ha
        case isFalse => cases ha
        rename_i hk2
        cases ha
        exact ⟨φ ++ [dd], ρ, env1, stc, false, sta, ly.ws, sl2, hc1, fun H3 p3 => iteF ⟨kvs, pd, ly.step sub p3.ws p3.ext, by rw [List.append_nil]; exact hpd, hk2⟩⟩
      · cases ha
  · have ei : i = xs.length := by omega
    subst ei
    refine .inl ⟨walk.stops _ _ _ _ lt, ?_⟩
    rw [List.drop_length] at hrest
    simp only [compL] at hrest
    cases hrest
    rw [List.append_nil] at hys
    subst hys
    have hkq : pd = pall := Option.some.inj (hpd.symm.trans hall)
    subst hkq
    exact kq _ _ ⟨l.ws.weak (fun a ha => List.mem_append_left _ ha) sub, p.sl.ext (l.gr sub).ext p.ws.fl, p.ext.trans l.ext, RD.dct l.out l.at' l.sm.keys l.sm.vals, fun d e => by cases e⟩
theorem ok_dc {kx vx tg iter : Expr} {ifs : List Expr} {scope : Scope} {own : List (Str × Nat)} {pos : Pos} {t : IT} {it : II} {cs : List IE} {ke e : IE} (hc : X.calm = true) (hN : X.N.Nodup) (hi : PI X tg iter (tI X.K T (evI G cl it))) (ok : BlkOk X.N X.env.scope scope own)
    (hg : ∀ (s : Shared) (H : Hp) (C : Addr) (cl : List (Str × Addr)) (fp : List Addr), PG (X.blk s H scope (compEnvC scope cl C X.env) fp) tg (tG X.K T t))
    (ht : ∀ (s : Shared) (H : Hp) (C : Addr) (cc : List (Str × Addr)) (fp : List Addr), PTs (X.blk s H scope (compEnvC scope cc C X.env) fp) ifs (tCs X.K T (evCs G cl cs)))
    (hk : ∀ (s : Shared) (H : Hp) (C : Addr) (cc : List (Str × Addr)) (fp : List Addr), PE (X.blk s H scope (compEnvC scope cc C X.env) fp) kx (tF X.K T (evE G cl ke)))
    (he : ∀ (s : Shared) (H : Hp) (C : Addr) (cc : List (Str × Addr)) (fp : List Addr), PE (X.blk s H scope (compEnvC scope cc C X.env) fp) vx (tF X.K T (evE G cl e)))
    (hs : pln iter = true) (hown : ∀ i ∈ slT t, i ∈ own.map (·.2)) :
    PE X (.DictComp kx vx [⟨tg, iter, ifs, 0⟩] scope pos) (tF X.K T (evE G cl (.dc own t it cs ke e))) := by
  exact imp (pe_dc hc hN hi ok hg ht hk he (fun x => pln_fold hs _ x)) (dc_read hown)
end Ev
set_option linter.all false
set_option maxRecDepth 100000
set_option maxHeartbeats 4000000
/-! EvL: a lambda of one parameter, called. -/
namespace Ev
open PySem PySem.Spec L2
/-- the names of a lambda of one parameter x (a local, or a cell): the others are captured or global -/
structure Lm (sc scope : Scope) (x : Str) : Prop where
  kind : scope.kind = .function
  co : scope.isCoroutine = false
  gen : scope.isGenerator = false
  par : scope.names.lookup x = some .local ∨ scope.names.lookup x = some .cell
  loc : ∀ y ∈ scope.names, y.2 = .local → y.1 = x
  cel : scope.names.filter (fun y => y.2 == .cell) = if scope.names.lookup x = some .cell then [(x, .cell)] else []
  free : ∀ y ∈ scope.names, y.2 = .free → sc.names.lookup y.1 = some .cell ∨ sc.names.lookup y.1 = some .free
def lmB (sc scope : Scope) (x : Str) : Bool :=
  decide (scope.kind = .function) && !scope.isCoroutine && !scope.isGenerator && (decide (scope.names.lookup x = some .local) || decide (scope.names.lookup x = some .cell)) &&
  scope.names.all (fun y => !decide (y.2 = .local) || decide (y.1 = x)) && decide (scope.names.filter (fun y => y.2 == .cell) = if scope.names.lookup x = some .cell then [(x, .cell)] else []) &&
  scope.names.all fun y => !decide (y.2 = .free) || decide (sc.names.lookup y.1 = some .cell) || decide (sc.names.lookup y.1 = some .free)
theorem lm_by {sc scope : Scope} {x : Str} (h : lmB sc scope x = true) : Lm sc scope x := by
  unfold lmB at h
  simp only [Bool.and_eq_true, Bool.or_eq_true, Bool.not_eq_true', decide_eq_true_eq, decide_eq_false_iff_not, List.all_eq_true] at h
  obtain ⟨⟨⟨⟨⟨⟨h1, h2⟩, h3⟩, h4⟩, h5⟩, h6⟩, h7⟩ := h
  refine ⟨h1, h2, h3, h4, fun y hy e => (h5 y hy).resolve_left (fun z => z e), h6, fun y hy e => ?_⟩
  rcases h7 y hy with (z | z) | z
  · exact absurd e z
  · exact .inl z
  · exact .inr z
theorem cellsFrom_nil {cl : List (Str × Addr)} : ∀ {names : List (Str × NameKind)} {n : Nat}, names.filter (fun y => y.2 == .cell) = [] → cellsFrom n names cl = cl
  | [], _, _ => rfl
  | (y, k) :: r, n, h => by
    unfold cellsFrom
    cases hk : k == NameKind.cell with
    | true => rw [List.filter_cons, if_pos hk] at h; cases h
    | false => rw [List.filter_cons, if_neg (by simp [hk])] at h; exact cellsFrom_nil h
theorem cellsFrom_one {x : Str} {cl : List (Str × Addr)} : ∀ {names : List (Str × NameKind)} {n : Nat}, names.filter (fun y => y.2 == .cell) = [(x, .cell)] → cellsFrom n names cl = (x, n) :: cl
  | [], _, h => by cases h
  | (y, k) :: r, n, h => by
    unfold cellsFrom
    cases hk : k == NameKind.cell with
    | true =>
      rw [List.filter_cons, if_pos hk] at h
      injection h with h1 h2
      injection h1 with h3 h4
      subst h3
      exact cellsFrom_nil h2
    | false => rw [List.filter_cons, if_neg (by simp [hk])] at h; exact cellsFrom_one h
theorem pushCells_nil : ∀ {names : List (Str × NameKind)} {h : Heap}, names.filter (fun y => y.2 == .cell) = [] → pushCells h names = h
  | [], _, _ => rfl
  | (y, k) :: r, n, h => by
    unfold pushCells
    cases hk : k == NameKind.cell with
    | true => rw [List.filter_cons, if_pos hk] at h; cases h
    | false => rw [List.filter_cons, if_neg (by simp [hk])] at h; exact pushCells_nil h
theorem pushCells_one {x : Str} : ∀ {names : List (Str × NameKind)} {h : Heap}, names.filter (fun y => y.2 == .cell) = [(x, .cell)] → pushCells h names = h.push { cls := .type "cell", data := .cell none }
  | [], _, h => by cases h
  | (y, k) :: r, n, h => by
    unfold pushCells
    cases hk : k == NameKind.cell with
    | true =>
      rw [List.filter_cons, if_pos hk] at h
      injection h with h1 h2
      exact pushCells_nil h2
    | false => rw [List.filter_cons, if_neg (by simp [hk])] at h; exact pushCells_one h
/-- the lambda's cells -/
def lmCells (X : Cx) (scope : Scope) (L : Addr) (x : Str) : List (Str × Addr) :=
  if scope.names.lookup x = some .cell then (x, L + 1) :: cloFrom X.env.cells scope.names [] else cloFrom X.env.cells scope.names []
abbrev lmEnv (X : Cx) (scope : Scope) (L f c' : Addr) (x : Str) : PySem.Env := PySem.W.envX (X.env.qual ++ "<lambda>") scope L f (.ref c') (lmCells X scope L x)
/-- the context of the lambda's body -/
def lmCx (X : Cx) (A : Around) (s : Shared) (H : Hp) (scope : Scope) (f c' : Addr) (x : Str) : Cx where
  prog := X.prog
  w := X.w
  K := X.K
  mg := X.mg
  base := X.base
  A := A.deeper (lmEnv X scope s.heap.objs.size f c' x)
  N := X.N
  s_0 := s
  H_0 := H
  env := lmEnv X scope s.heap.objs.size f c' x
  outer := X.stack
  stack := lmEnv X scope s.heap.objs.size f c' x :: X.stack
  ex := []
  fn := fun _ => false
  calm := true
  pn := []
  xe := fun _ _ => False
section
variable {X : Cx} {pins : List (Addr × Obj)} {σ : L2.St} {H : Hp} {s : Shared}
theorem lm_new {E : Value → Shared → Prop} {M : Model} {A : Around} {scope : Scope} {globals : Addr} {cl : List (Str × Addr)} {x : Str} {u : Value} {qual : Str} {func : Option Addr} {code : Value} {builtins : Addr} {Q : PySem.Env → Shared → Prop} {sc : Scope}
    (L : Lm sc scope x)
    (h : ∀ env h' tk, env = newEnv scope s.heap.objs.size globals (if scope.names.lookup x = some .cell then (x, s.heap.objs.size + 1) :: cl else cl) qual func code none builtins →
      (∀ b o, s.heap.get? b = some o → h'.get? b = some o) → h'.Ns s.heap.objs.size (fun y => if scope.names.lookup x = some .cell then none else if y = x then some u else none) →
      (scope.names.lookup x = some .cell → h'.IsCell (s.heap.objs.size + 1) (some u)) → Q env { s with heap := h', toks := tk }) :
    wpAny M A (newFunctionEnv scope globals cl [(x, u)] qual func code none builtins) Q E s := by
  by_cases hx : scope.names.lookup x = some .cell
  · have cel := L.cel
    rw [if_pos hx] at cel
    simp only [newFunctionEnv, Option.isSome_none, Bool.false_eq_true, if_false]
    refine wpAny_bind (wpAny_alloc ?_)
    refine wpAny_bind (wpAny_layCells _ (fun name kind cells => by cases hkc : kind == NameKind.cell <;> simp [hkc]) _ _ _ _ ?_)
    rw [cellsFrom_one cel, pushCells_one cel]
    have e1 : ({ s with heap := s.heap.push { cls := .type "frame", data := .dict #[] } } : Shared).heap.objs.size = s.heap.objs.size + 1 := Heap.size_push ..
    rw [e1]
    have hc : ((s.heap.push { cls := .type "frame", data := .dict #[] }).push { cls := .type "cell", data := .cell none }).IsCell (s.heap.objs.size + 1) none :=
      ⟨{ cls := .type "cell", data := .cell none }, by
        have q := Heap.get?_push_size (o := { cls := .type "cell", data := .cell none }) (s.heap.push { cls := .type "frame", data := .dict #[] }) rfl
        rw [Heap.size_push] at q
        exact q, rfl⟩
    rw [List.forIn_cons]
    refine wpAny_bind (wpAny_bind (wpAny_bind (wpAny_storeName_cell L.kind hx (by simp [newEnv]) hc fun h' hc' hs' => wpAny_pure ?_)))
    simp only [List.forIn_nil]
    refine wpAny_pure (wpAny_pure ?_)
    refine h _ h' _ (by rw [if_pos hx]; rfl) (fun b o e => ?_) ?_ (fun _ => hc')
    · have lt := Heap.lt_size e
      refine hs'.extBut b o (Nat.ne_of_lt (Nat.lt_succ_of_lt lt)) (Heap.get?_push_of_some _ (Heap.get?_push_of_some _ e))
    · refine Heap.Ns.sameBut ?_ hs' (Nat.ne_of_lt (Nat.lt_succ_self _))
      have q : (s.heap.push { cls := .type "frame", data := .dict #[] }).Ns s.heap.objs.size (fun _ => none) := Heap.Ns.new s.heap (.type "frame")
      have e : (fun y => if scope.names.lookup x = some .cell then none else if y = x then some u else none) = (fun _ : Str => (none : Option Value)) := by
        funext y; rw [if_pos hx]
      rw [e]
      exact q.keeps fun b o z => Heap.get?_push_of_some _ z
  · have cel := L.cel
    rw [if_neg hx] at cel
    have hl : scope.names.lookup x = some .local := L.par.resolve_right hx
    refine wpAny_newFunctionEnv (fun y hy e => ?_) (fun y hy => ?_) (fun h' hns hsb => ?_) L.kind
    · have : y ∈ scope.names.filter (fun y => y.2 == .cell) := List.mem_filter.mpr ⟨hy, by rw [e]; rfl⟩
      rw [cel] at this
      cases this
    · rw [List.mem_singleton.mp hy]; exact hl
    · refine h _ h' _ (by rw [if_neg hx]) (fun b o e => hsb.extBut b o (Nat.ne_of_lt (Heap.lt_size e)) (Heap.get?_push_of_some _ e)) ?_ (fun z => absurd z hx)
      have e : (fun y => if scope.names.lookup x = some .cell then none else if y = x then some u else none) = (fun y => [(x, u)].reverse.lookup y) := by
        funext y
        rw [if_neg hx]
        simp only [List.reverse_cons, List.reverse_nil, List.nil_append, List.lookup]
        by_cases hy : y = x
        · rw [if_pos hy, beq_iff_eq.mpr hy]
        · rw [if_neg hy, beq_eq_false_iff_ne.mpr hy]
      rw [e]
      exact hns
theorem Lm.has {X : Cx} {scope : Scope} {x : Str} (L : Lm X.env.scope scope x) (ok : X.Ok) : ∀ y ∈ scope.names, y.2 = .free → ∃ c, X.env.cells.lookup y.1 = some c := fun y hy e => by
  rcases L.free y hy e with k | k
  · exact ok.has _ (.inl k)
  · exact ok.has _ (.inr k)
theorem lm_start {A : Around} {scope : Scope} {x : Str} {f c' : Addr} {h₁ : Heap} {tk i : Nat} {v : V} {u : Value} (I : Inv X pins σ H s) (L : Lm X.env.scope scope x) (hd : A.handled = none) (hfr : A.frames = X.A.frames) (hi : X.N[i]? = some x) (hN : X.N.Nodup) (rv : RelV v u)
    (kp : ∀ b o, s.heap.get? b = some o → h₁.get? b = some o) (hns : h₁.Ns s.heap.objs.size (fun y => if scope.names.lookup x = some .cell then none else if y = x then some u else none))
    (hcl : scope.names.lookup x = some .cell → h₁.IsCell (s.heap.objs.size + 1) (some u)) :
    Inv (lmCx X A s H scope f c' x) [] (σ.set i (some v)) H { s with heap := h₁, toks := tk } := by
  have e0 := I.env0
  have hfree := L.has I.ok
  have cm : ∀ {y c}, (cloFrom X.env.cells scope.names []).lookup y = some c → X.env.cells.lookup y = some c := fun {y c} e => by
    rcases cloFrom_mem (PySem.mem_of_lookup e) with hm | ⟨h1, h2⟩
    · cases hm
    · obtain ⟨c1, hc⟩ := hfree _ h1 rfl
      have hc : X.env.cells.lookup y = some c1 := hc
      have e2 : c = c1 := by rw [h2, hc] <;> rfl
      rw [e2]
      exact hc
  have look : ∀ {y}, scope.names.lookup y = some .free → ∃ c, (cloFrom X.env.cells scope.names []).lookup y = some c := fun {y} hl => mem_lookup (cloFrom_has (cells := X.env.cells) (acc := []) (PySem.mem_of_lookup hl))
  have old : ∀ {y c}, (cloFrom X.env.cells scope.names []).lookup y = some c → c < s.heap.objs.size := fun {y c} e => by
    obtain ⟨v, z⟩ := I.cell y c (cm e)
    exact z.lt
  have cellK : ∀ {c : Addr} {v : Option Value}, s.heap.IsCell c v → h₁.IsCell c v := fun {c v} ⟨o, ho, hd⟩ => ⟨o, kp _ _ ho, hd⟩
  have cs : ∀ {y c}, (lmCells X scope s.heap.objs.size x).lookup y = some c → (scope.names.lookup x = some .cell ∧ y = x ∧ c = s.heap.objs.size + 1) ∨ (cloFrom X.env.cells scope.names []).lookup y = some c := fun {y c} e => by
    unfold lmCells at e
    split at e
    · rename_i hx
      simp only [List.lookup] at e
      split at e
      · rename_i hy
        cases e
        exact .inl ⟨hx, beq_iff_eq.mp hy, rfl⟩
      · exact .inr e
    · exact .inr e
  have noA : ∀ b : Addr, b ∉ (lmCx X A s H scope f c' x).ex := fun b z => absurd (show b ∈ ([] : List Addr) from z) (by simp)
  have notfree : scope.names.lookup x ≠ some .free := fun z => by rcases L.par with p | p <;> rw [p] at z <;> cases z
  have lookC : ∀ {y c}, y ≠ x → (cloFrom X.env.cells scope.names []).lookup y = some c → (lmCells X scope s.heap.objs.size x).lookup y = some c := fun {y c} hy e => by
    unfold lmCells
    split
    · simp only [List.lookup]
      rw [beq_eq_false_iff_ne.mpr hy]
      exact e
    · exact e
  refine ⟨⟨e0.mod, L.kind, rfl, rfl, Nat.le_refl _, fun y z c e1 e2 => ?_, fun y hy => ?_, fun y c z _ => ?_, fun _ => hd, Around.frames_deeper (hfr.trans e0.frames), .inr ⟨rfl, rfl⟩, fun b z => absurd z (noA b), e0.bs, e0.bsz, fun b _ _ => noA b,
      fun b z => absurd z (noA b), e0.funs, e0.frf⟩,
    rfl, e0.bare, Un.kept kp, ⟨_, hns, fun j y v' e1 e2 e3 => ?_⟩, fun y c e => ?_, e0.hok.fresh (Nat.le_refl _), fun y c e => ?_, fun q hq => absurd (show q ∈ ([] : List (Addr × Obj)) ++ [] from hq) (by simp), e0.hok.kept kp, by rw [List.length_set]; exact I.len⟩
  · rcases cs e1 with ⟨_, rfl, h1⟩ | h1
    · rcases cs e2 with ⟨_, rfl, h2⟩ | h2
      · rfl
      · have := old h2
        rw [h1] at this
        exact absurd (Nat.lt_of_succ_lt this) (Nat.lt_irrefl _)
    · rcases cs e2 with ⟨_, rfl, h2⟩ | h2
      · have := old h1
        rw [h2] at this
        exact absurd (Nat.lt_of_succ_lt this) (Nat.lt_irrefl _)
      · exact I.ok.inj y z c (cm h1) (cm h2)
  · have hy : scope.names.lookup y = some .cell ∨ scope.names.lookup y = some .free := hy
    show ∃ c, (lmCells X scope s.heap.objs.size x).lookup y = some c
    rcases hy with hy | hy
    · have hm : (y, NameKind.cell) ∈ scope.names.filter (fun y => y.2 == .cell) := List.mem_filter.mpr ⟨PySem.mem_of_lookup hy, rfl⟩
      rw [L.cel] at hm
      split at hm
      · rename_i hx
        have e : y = x := by
          have := List.mem_singleton.mp hm
          injection this
        subst e
        exact ⟨s.heap.objs.size + 1, by unfold lmCells; rw [if_pos hx]; simp⟩
      · cases hm
    · obtain ⟨c, hc⟩ := look hy
      exact ⟨c, lookC (fun z => notfree (z ▸ hy)) hc⟩
  · have z : false = true := z
    cases z
  · have e1 : X.N[j]? = some y := e1
    have e3 : Vis scope y := e3
    have hlen : σ.length = X.N.length := I.len
    by_cases hy : y = x
    · subst hy
      have hij : i = j := nodup_ix hN hi e1
      subst hij
      have hlt : i < σ.length := by rw [hlen]; exact (List.getElem?_eq_some_iff.mp hi).1
      rw [List.getElem?_set_self hlt] at e2
      cases e2
      rcases L.par with p | p
      · exact ⟨u, rv, .inl ⟨p, by
          show (if scope.names.lookup y = some .cell then none else if y = y then some u else none) = some u
          rw [if_neg (by rw [p]; decide), if_pos rfl]⟩⟩
      · refine ⟨u, rv, .inr ⟨.inl p, s.heap.objs.size + 1, ?_, hcl p⟩⟩
        show (lmCells X scope s.heap.objs.size y).lookup y = _
        unfold lmCells
        rw [if_pos p]
        simp
    · have hij : i ≠ j := fun z => hy (by
        rw [← z, hi] at e1
        exact (Option.some.inj e1).symm)
      rw [List.getElem?_set_ne hij] at e2
      rcases e3 with k | k | k
      · exact absurd (L.loc _ (PySem.mem_of_lookup k) rfl) hy
      · have hm : (y, NameKind.cell) ∈ scope.names.filter (fun y => y.2 == .cell) := List.mem_filter.mpr ⟨PySem.mem_of_lookup k, rfl⟩
        rw [L.cel] at hm
        split at hm
        · have := List.mem_singleton.mp hm
          injection this with h1 h2
          exact absurd h1 hy
        · cases hm
      · obtain ⟨m, hn, hl⟩ := I.loc
        have hvis : Vis X.env.scope y := (L.free _ (PySem.mem_of_lookup k) rfl).elim (fun k => .inr (.inl k)) (fun k => .inr (.inr k))
        obtain ⟨w', r, q⟩ := hl j y v' e1 e2 hvis
        obtain ⟨c2, h2⟩ := look k
        refine ⟨w', r, .inr ⟨.inr k, c2, lookC hy h2, ?_⟩⟩
        have c1 := cm h2
        rcases q with ⟨k', _⟩ | ⟨_, c3, e', z⟩
        · have k' : X.env.scope.names.lookup y = some .local := k'
          rcases L.free _ (PySem.mem_of_lookup k) rfl with k2 | k2 <;> rw [show X.env.scope.names.lookup y = _ from k2] at k' <;> cases k'
        · rw [c1] at e'
          cases e'
          exact cellK z
  · rcases cs e with ⟨hx, _, hc⟩ | hc
    · rw [hc]
      exact ⟨some u, hcl hx⟩
    · obtain ⟨w', z⟩ := I.cell y c (cm hc)
      exact ⟨w', cellK z⟩
  · rcases cs e with ⟨hx, _, hc⟩ | hc
    · rw [hc]
      exact e0.hok.fresh (Nat.le_succ _)
    · exact I.freeC y c (cm hc)
/-- the lambda called -/
theorem lm_run {A : Around} {scope : Scope} {params : Arguments} {body : Expr} {x : Str} {f c' : Addr} {i : Nat} {v : V} {u : Value} {pm ctv : Value} {tb : TE} {Q : VK} (I : Inv X pins σ H s) (L : Lm X.env.scope scope x) (hd : A.handled = none) (hfr : A.frames = X.A.frames) (hdep : A.depth < recursionLimit)
    (hi : X.N[i]? = some x) (hN : X.N.Nodup) (rv : RelV v u)
    (hf : s.heap.get? f = some (PySem.W.kla_obj "<lambda>" (X.env.qual ++ "<lambda>") params body scope (cloFrom X.env.cells scope.names []) pm c' ctv))
    (hbind : ∀ (q : Str) (cl : List (Str × Addr)) (pm cv ctv : Value) (u : Value), bindArgs (PySem.W.kla_fn "<lambda>" q params body scope cl pm cv ctv) ⟨[u], []⟩ = pure [(x, u)])
    (hc : H c' = some (LamX.CodeO c' (X.env.qual ++ "<lambda>")))
    (hbody : PE (lmCx X A s H scope f c' x) body tb) (h : tb (σ.set i (some v)) H Q) :
    codeAny (model X.prog X.w) A (.call (.ref f) ⟨[u], []⟩) (CR L2.CX0 X.stack X.prog X.w H s Q E0) s := by
  obtain ⟨⟨oc, vs, t, hoc, hdc, hvc⟩, _, _⟩ := I.hok c' _ hc
  refine PySem.W.kla_callFunE hdep hf rfl L.co L.gen rfl ⟨c', oc, vs, t, rfl, hoc, hdc, hvc⟩ ?_
  rw [hbind]
  refine wpAny_pure (lm_new L fun env h' tk he kp hns hcl => ⟨I.nolimit.keeps kp, ?_⟩)
  have he2 : env = lmEnv X scope s.heap.objs.size f c' x := he
  rw [he2]
  have J := lm_start (A := A) (f := f) (c' := c') (tk := tk) I L hd hfr hi hN rv kp hns hcl
  refine PySem.W.kla_codeExpr (wpAny_mono (hbody.run [] _ _ H Q J h) (fun v s' hq => ?_) fun e s' hq => hq.elim)
  obtain ⟨w', H', J', rv', q⟩ := hq
  exact ⟨w', H', J'.os, J'.bare, J'.base, J'.hok, rv', q⟩
end
end Ev
set_option linter.all false
set_option maxRecDepth 100000
set_option maxHeartbeats 4000000
/-! EvS: sorted with key= a lambda. -/
namespace Ev
open PySem PySem.Spec L2 PyProof.Rows
section
variable {prog : Program} {w : World} {A : Around} {E : Value → Shared → Prop} {s : Shared}
theorem sorted_shell {src : Value} {kw : List (Str × Value)} {Q : Value → Shared → Prop} {Pu : List Value → Heap → Prop} (ha1 : argsOk "sorted" ⟨[src], kw⟩) (ha2 : ∀ x, argsOk "list.sort" ⟨[.ref x], kw⟩)
    (hcol : ∀ (A' : Around) (E' : Value → Shared → Prop) (Q' : List Value → Shared → Prop), A'.handled = A.handled →
      (∀ (us : List Value) (h' : Heap) (tk : Nat), (∀ b o, s.heap.get? b = some o → h'.get? b = some o) → Pu us h' → Q' us { s with heap := h', toks := tk }) → wpAny (model prog w) A' (collect src) Q' E' s)
    (hP : ∀ us h', Pu us h' → us.length ≤ sizeLine)
    (body : ∀ (us : List Value) (h' : Heap) (tk : Nat), (∀ b o, s.heap.get? b = some o → h'.get? b = some o) → Pu us h' → ∀ E' : Value → Shared → Prop,
      wpAny (model prog w) A.in1.in1 (Builtin.«list.sort» ⟨[.ref h'.objs.size], kw⟩) (fun f s' => f = .done (.ret .none) ∧ Q (.ref h'.objs.size) s') E' { s with heap := h'.push (seqObj "list" us.toArray 0), toks := tk }) :
    wpAny (model prog w) A (call (.builtin "sorted") [src] kw) Q E s := by
  refine call_function_entry_kw kind_sorted plain_sorted entry_sorted ha1 ?_
  unfold Builtin.«sorted»
  refine wpAny_bind (m := checkCount "sorted" 1 1 _) (wpAny_pure ?_)
  refine wpAny_bind (hcol _ _ _ rfl fun us h' tk kp hu => ?_)
  refine wpAny_bind (wpAny_newList ?_ (hP us h' hu))
  have hat : (h'.push (seqObj "list" us.toArray 0)).get? h'.objs.size = some (seqObj "list" us.toArray 0) := Heap.get?_push_size _ rfl
  refine wpAny_bind (wpAny_holding (wpAny_call_entry_kw slot_list_sort ⟨_, hat, rfl⟩ entry_list_sort ?body (ha2 _)))
  case body =>
    refine wpAny_mono (body us h' tk kp hu _) (fun f s' hf => ?_) fun _ _ e => e
    obtain ⟨rfl, hq⟩ := hf
    exact ⟨_, rfl, wpAny_pure ⟨_, rfl, hq⟩⟩
theorem col_list {l : Addr} {vs : List Value} (hl : s.heap.IsList l vs.toArray) (hL : vs.length ≤ sizeLine) (A' : Around) (E' : Value → Shared → Prop) (Q' : List Value → Shared → Prop)
    (h : ∀ (us : List Value) (h' : Heap) (tk : Nat), (∀ b o, s.heap.get? b = some o → h'.get? b = some o) → (us = vs ∧ s.heap.objs.size ≤ h'.objs.size) → Q' us { s with heap := h', toks := tk }) : wpAny (model prog w) A' (collect (.ref l)) Q' E' s := by
  refine collect_list hl (h vs _ s.toks (fun b o e => ?_) ⟨rfl, by rw [Heap.size_update, Heap.size_push]; exact Nat.le_succ _⟩) hL
  have lt := Heap.lt_size e
  exact (Heap.get?_update_ne _ _ _ _ (Nat.ne_of_lt lt)).trans (Heap.get?_push_of_some _ e)
end
/-! ### the order -/
def leK (rev : Bool) (a b : D × Int) : Bool := if rev then decide (b.2 ≤ a.2) else decide (a.2 ≤ b.2)
theorem insK_eq (rev : Bool) (x : D × Int) : ∀ l₁ l₂ : List (D × Int), (∀ b ∈ l₁, leK rev x b = false) → (∀ b ∈ l₂, leK rev x b = true) → insK rev x (l₁ ++ l₂) = l₁ ++ x :: l₂
  | [], [], _, _ => rfl
  | [], y :: l, _, h => by
    have q := h y (List.mem_cons_self ..)
    show (if (if rev then y.2 ≤ x.2 else x.2 ≤ y.2) then x :: y :: l else y :: insK rev x l) = _
    rw [if_pos]
    · rfl
    · unfold leK at q
      cases rev <;> simpa using q
  | y :: l₁, l₂, h, h2 => by
    have q := h y (List.mem_cons_self ..)
    show (if (if rev then y.2 ≤ x.2 else x.2 ≤ y.2) then x :: y :: (l₁ ++ l₂) else y :: insK rev x (l₁ ++ l₂)) = _
    rw [if_neg, insK_eq rev x l₁ l₂ (fun b hb => h b (List.mem_cons_of_mem _ hb)) h2]
    · rfl
    · unfold leK at q
      cases rev <;> simpa using q
theorem leK_trans (rev : Bool) (a b c : D × Int) (h1 : leK rev a b = true) (h2 : leK rev b c = true) : leK rev a c = true := by
  unfold leK at *
  cases rev <;> simp only [if_true, Bool.false_eq_true, if_false, decide_eq_true_eq] at * <;> omega
theorem leK_total (rev : Bool) (a b : D × Int) : (leK rev a b || leK rev b a) = true := by
  unfold leK
  cases rev <;> simp only [if_true, Bool.false_eq_true, if_false, Bool.or_eq_true, decide_eq_true_eq] <;> omega
theorem sortK_eq (rev : Bool) : ∀ l : List (D × Int), l.mergeSort (leK rev) = sortK rev l
  | [] => List.mergeSort_nil
  | x :: l => by
    obtain ⟨l₁, l₂, e1, e2, h⟩ := List.mergeSort_cons (leK_trans rev) (leK_total rev) x l
    have hp := List.pairwise_mergeSort (leK_trans rev) (leK_total rev) (x :: l)
    rw [e1] at hp
    rw [e1]
    show _ = insK rev x (sortK rev l)
    rw [← sortK_eq rev l, e2, insK_eq rev x l₁ l₂ (fun b hb => by simpa using h b hb) fun b hb => ?_]
    exact (List.pairwise_cons.mp (List.pairwise_append.mp hp).2.1).1 b hb
theorem le_data (rev : Bool) : PySem.W.dataLe rev (fun b : D × Int => PyData.int b.2) = leK rev := by
  cases rev with
  | false => rw [PySem.W.dataLe_int (fun b : D × Int => b.2)]; funext a b; rfl
  | true => rw [PySem.W.dataGe_int (fun b : D × Int => b.2)]; funext a b; rfl
/-! ### the keys, one after another -/
def KeysR (F : D → Sto → Option (ER × Sto)) : List D → Sto → List Int → Sto → Prop
  | [], st, [], st' => st = st'
  | d :: ds, st, y :: ys, st' => ∃ st1 fr, F d st = some (.dat (.int y) fr, st1) ∧ KeysR F ds st1 ys st'
  | _, _, _, _ => False
theorem keysR_of (F : D → Sto → Option (ER × Sto)) : ∀ (xs : List D) (st : Sto) (ks : List D) (is : List Int) (st2 : Sto), compL (fun d s => match F d s with
    | some (.dat (.int y) _, s1) => some ([.int y], s1)
    | _ => none) xs st = some (ks, st2) → intsD ks = some is → KeysR F xs st is st2
  | [], st, ks, is, st2, h, hi => by
    simp only [compL] at h
    cases h
    cases hi
    exact rfl
  | d :: ds, st, ks, is, st2, h, hi => by
    simp only [compL] at h
    split at h
    · rename_i ys st1 h1
      split at h1
      · rename_i y fr s1 h2
        cases h1
        split at h
        · rename_i zs st3 h3
          cases h
          simp only [List.singleton_append, intsD, Option.map_eq_some_iff] at hi
          obtain ⟨js, h4, rfl⟩ := hi
          exact ⟨_, fr, h2, keysR_of F ds _ _ _ _ h3 h4⟩
        · cases h
      · cases h1
    · cases h
theorem KeysR.len {F : D → Sto → Option (ER × Sto)} : ∀ {xs : List D} {st : Sto} {is : List Int} {st2 : Sto}, KeysR F xs st is st2 → xs.length = is.length
  | [], _, [], _, _ => rfl
  | _ :: _, _, _ :: _, _, ⟨_, _, _, h⟩ => congrArg (· + 1) h.len
  | [], _, _ :: _, _, h => h.elim
  | _ :: _, _, [], _, h => h.elim
theorem each_vals {K : PySem.W.Frag} {φ : List Addr} {H : Hp} : ∀ (vsV : List V) (us : List Value) (xs : List D) (is : List Int), Vals vsV us → RDs K φ H vsV xs → xs.length = is.length →
    PySem.W.EachIs (fun (u : Value) (b : D × Int) => ∃ v, RelV v u ∧ RD K φ H v b.1) us (xs.zip is)
  | [], _, _, is, .nil, .nil, h => by
    cases is with
    | nil => exact .nil
    | cons _ _ => cases h
  | v :: vs, _, _, is, .cons r rs, .cons d ds, h => by
    cases is with
    | nil => cases h
    | cons i is => exact .cons ⟨v, r, d⟩ (each_vals vs _ _ is rs ds (by simpa using h))
theorem vals_each {K : PySem.W.Frag} {φ : List Addr} {H : Hp} : ∀ {us : List Value} {bs : List (D × Int)}, PySem.W.EachIs (fun (u : Value) (b : D × Int) => ∃ v, RelV v u ∧ RD K φ H v b.1) us bs → ∃ vsV, Vals vsV us ∧ RDs K φ H vsV (bs.map (·.1))
  | _, _, .nil => ⟨[], .nil, .nil⟩
  | _, _, .cons ⟨v, r, d⟩ t => by
    obtain ⟨vs, a, b⟩ := vals_each t
    exact ⟨v :: vs, .cons r a, .cons d b⟩
theorem zip_snd_ints : ∀ {xs : List D} {is : List Int}, xs.length = is.length → (xs.zip is).map (fun b => PyData.int b.2) = is.map PyData.int
  | [], [], _ => rfl
  | _ :: xs, _ :: is, h => by
    simp only [List.zip_cons_cons, List.map_cons]
    rw [zip_snd_ints (by simpa using h)]
  | [], _ :: _, h => by cases h
  | _ :: _, [], h => by cases h

section
variable {X : Cx} {pins : List (Addr × Obj)} {σ : L2.St} {H : Hp} {s : Shared} {G : Pk} {cl : Str → List SV → Sto → Option (ER × Sto)} {T : List (Addr × Str)} {φ ρ : List Addr} {env : Env} {st st2 : Sto}
structure KJ (X : Cx) (pins : List (Addr × Obj)) (σ : L2.St) (T : List (Addr × Str)) (φ ρ : List Addr) (env : Env) (H : Hp) (a kS f : Addr) (fo : Obj) (e1 : Nat) (F : D → Sto → Option (ER × Sto)) (xs : List D) (is : List Int) (st2 : Sto) (j : Nat) (s' : Shared) (Hj : Hp) (stj : Sto) (kA : Array Value) (e : Nat) : Prop where
  I : Inv X pins σ Hj s'
  ws : Ws X.K T φ ρ Hj stj
  sl : Sl X.K φ ρ Hj env σ
  ext : Ext ρ H Hj
  nA : Hj a = none
  nK : Hj kS = none
  nF : Hj f = none
  gK : s'.heap.get? kS = some (seqObj "list" kA e)
  gA : s'.heap.get? a = some (seqObj "list" #[] e1)
  gF : s'.heap.get? f = some fo
  ks : PySem.W.EachIs (fun (v : Value) (n : Int) => ∃ t, v = Value.int n t) kA.toList (is.take j)
  go : KeysR F (xs.drop j) stj (is.drop j) st2
theorem ksk_core {scope : Scope} {params : Arguments} {body : Expr} {x : Str} {f c' : Addr} {i : Nat} {pm ctv : Value} {k' : IE} {rev : Bool} {E : Value → Shared → Prop} {Q : VK} {h' : Heap} {tk : Nat} {us : List Value} {vsV : List V} {xs : List D} {is : List Int}
    (I : Inv X pins σ H s) (ws : Ws X.K T φ ρ H st) (sl : Sl X.K φ ρ H env σ) (L : Lm X.env.scope scope x) (hroom : Room 0 X.A) (hi : X.N[i]? = some x) (hN : X.N.Nodup)
    (hf : s.heap.get? f = some (PySem.W.kla_obj "<lambda>" (X.env.qual ++ "<lambda>") params body scope (cloFrom X.env.cells scope.names []) pm c' ctv)) (hfn : H f = none) (hfr : f ∉ frs X.stack)
    (hbind : ∀ (q : Str) (cl : List (Str × Addr)) (pm cv ctv : Value) (u : Value), bindArgs (PySem.W.kla_fn "<lambda>" q params body scope cl pm cv ctv) ⟨[u], []⟩ = pure [(x, u)])
    (hc : H c' = some (LamX.CodeO c' (X.env.qual ++ "<lambda>")))
    (hbody : ∀ (s : Shared) (H : Hp), PE (lmCx X X.A.in1.in1 s H scope f c' x) body (tF X.K T (evE G cl k')))
    (rv : Vals vsV us) (rd : RDs X.K φ H vsV xs) (hl : xs.length ≤ 1000) (hk : KeysR (fun d s => evE G cl k' (env.set i (some (.dat d))) s) xs st is st2)
    (kp : ∀ b o, s.heap.get? b = some o → h'.get? b = some o) (hsz : s.heap.objs.size ≤ h'.objs.size)
    (hQ : ∀ p H', Post X.K T φ ρ H H' env σ st2 (.dat (.list ((sortK rev (xs.zip is)).map (·.1))) true) (.ref p) → Q (.ref p) H') :
    wpAny (model X.prog X.w) X.A.in1.in1 (ksk_tree h'.objs.size (.ref f) rev) (fun fl s' => fl = .done (.ret .none) ∧ EP X pins σ Q (.ref h'.objs.size) s') E { s with heap := h'.push (seqObj "list" us.toArray 0), toks := tk } := by
  have hlu : us.length = xs.length := by rw [← rv.length, rd.length]
  have hZ : us.length ≤ sizeLine := by rw [hlu, sizeLine_eq]; omega
  have hlk := hk.len
  -- the objects laid ahead of the calls
  generalize ha : h'.objs.size = a
  have hsa : s.heap.objs.size ≤ a := by rw [← ha]; exact hsz
  have ho : (h'.push (seqObj "list" us.toArray 0)).get? a = some (seqObj "list" us.toArray 0) := by rw [← ha]; exact Heap.get?_push_size _ rfl
  generalize hA : h'.push (seqObj "list" us.toArray 0) = hA' at ho
  have kpA : ∀ b o, s.heap.get? b = some o → hA'.get? b = some o := fun b o e => by rw [← hA]; exact Heap.get?_push_of_some _ (kp b o e)
  have szA : hA'.objs.size = a + 1 := by rw [← hA, Heap.size_push, ha]
  obtain ⟨e1, ho1⟩ : ∃ e1, (hA'.update a (Obj.mapSeq fun _ => (#[] : Array Value))).get? a = some (seqObj "list" #[] e1) := ⟨_, get?_update_seq ho fun _ => #[]⟩
  unfold ksk_tree
  refine wpAny_bind (listItems_at ho rfl ?_)
  refine wpAny_bind (listUpdate_at ho rfl ?_ (by rw [List.size_toArray]; exact hZ) (Nat.zero_le _))
  refine wpAny_bind (seqEpoch_at ho1 rfl ?_)
  refine wpAny_bind (wpAny_newTuple ?_ (by show us.length ≤ _; exact hZ))
  refine wpAny_bind (wpAny_newList ?_ (Nat.zero_le _))
  refine wpAny_holding ?_
  generalize hk1 : ((hA'.update a (Obj.mapSeq fun _ => (#[] : Array Value))).push (seqObj "tuple" us.toArray 0)).objs.size = kS
  have eK : kS = a + 2 := by rw [← hk1, Heap.size_push, Heap.size_update, szA]
  have hka : kS ≠ a := by rw [eK]; exact Nat.ne_of_gt (Nat.lt_succ_of_lt (Nat.lt_succ_self a))
  have hsk : s.heap.objs.size ≤ kS := by rw [eK]; exact Nat.le_trans hsa (Nat.le_add_right a 2)
  generalize hB : ((hA'.update a (Obj.mapSeq fun _ => (#[] : Array Value))).push (seqObj "tuple" us.toArray 0)).push (seqObj "list" #[] 0) = hB'
  have kpB : ∀ b o, s.heap.get? b = some o → hB'.get? b = some o := fun b o e => by
    rw [← hB]
    refine Heap.get?_push_of_some _ (Heap.get?_push_of_some _ ?_)
    exact (Heap.get?_update_ne _ _ _ _ (Nat.ne_of_lt (Nat.lt_of_lt_of_le (Heap.lt_size e) hsa))).trans (kpA b o e)
  have atK : hB'.get? kS = some (seqObj "list" #[] 0) := by rw [← hB, ← hk1]; exact Heap.get?_push_size _ rfl
  have atA : hB'.get? a = some (seqObj "list" #[] e1) := by rw [← hB]; exact Heap.get?_push_of_some _ (Heap.get?_push_of_some _ ho1)
  have I4 : Inv X pins σ H { s with heap := hB', toks := tk } := I.kept kpB
  have nA : H a = none := I.hok.fresh hsa
  have nK : H kS = none := I.hok.fresh hsk
  have fpA : ∀ {H' : Hp}, H' a = none → FpOk X pins H' a := fun e => I.fpOk hsa e
  have fpK : ∀ {H' : Hp}, H' kS = none → FpOk X pins H' kS := fun e => I.fpOk hsk e
  have nfA : a ∉ frs X.stack := fun z => by
    rcases List.mem_cons.mp (I.stkSub _ z) with e | e
    · have h1 := I.lt
      rw [← e] at h1
      exact Nat.lt_irrefl _ (Nat.lt_of_lt_of_le h1 hsa)
    · exact I.nofs hsa e
  have nfK : kS ∉ frs X.stack := fun z => by
    rcases List.mem_cons.mp (I.stkSub _ z) with e | e
    · have h1 := I.lt
      rw [← e] at h1
      exact Nat.lt_irrefl _ (Nat.lt_of_lt_of_le h1 hsk)
    · exact I.nofs hsk e
  have hcne : ∀ c o, H c = some o → (∀ xs, o ≠ .lst xs) → c ∉ ρ := fun c o e n z => by
    obtain ⟨ys, q⟩ := ws.rho c z
    rw [e] at q
    exact n ys (Option.some.inj q)
  unfold ksk_rest
  refine wpAny_bind (wpAny_rule ?_)
  first
    | rw [List.forIn_toArray]
    | (rw [← Array.forIn_toList]; simp only [List.toList_toArray])
    | rw [← Array.forIn_toList]
  refine wpAny_bind (ksk_fold (fun j s' => ∃ Hj stj kA e, KJ X pins σ T φ ρ env H a kS f _ e1 (fun d s => evE G cl k' (env.set i (some (.dat d))) s) xs is st2 j s' Hj stj kA e) us 0 _
    ⟨H, st, #[], 0, ⟨I4, ws, sl, .refl _ _, nA, nK, hfn, atK, atA, kpB _ _ hf, .nil, hk⟩⟩ ?step ?done)
  case step =>
    rintro j u s' hu ⟨Hj, stj, kA, e, J⟩
    simp only [Nat.zero_add] at J ⊢
    have hj : j < us.length := (List.getElem?_eq_some_iff.mp hu).1
    have hjx : j < xs.length := by rw [← hlu]; exact hj
    have hji : j < is.length := by rw [← hlk]; exact hjx
    have go := J.go
    rw [List.drop_eq_getElem_cons hjx, List.drop_eq_getElem_cons hji] at go
    obtain ⟨st1, fr, g1, g2⟩ := go
    have hv : ∃ v, vsV[j]? = some v ∧ RelV v u := by
      have hjv : j < vsV.length := by rw [rv.length]; exact hj
      obtain ⟨u', hu', r⟩ := rv.get (List.getElem?_eq_getElem hjv)
      rw [hu] at hu'
      cases hu'
      exact ⟨_, List.getElem?_eq_getElem hjv, r⟩
    obtain ⟨v, hv1, hv2⟩ := hv
    have rdj := rd.ext (J.ext.more ws.sub) ws.fl
    have hvd : RD X.K φ Hj v xs[j] := by
      obtain ⟨d, hd1, hd2⟩ := rdj.getV hv1
      rw [List.getElem?_eq_getElem hjx] at hd1
      cases hd1
      exact hd2
    have hcj : Hj c' = some (LamX.CodeO c' (X.env.qual ++ "<lambda>")) := J.ext.keep _ _ hc (hcne _ _ hc (fun ys z => by cases z)) (fun ps z => by cases z)
    have hz : kA.size ≤ us.length := by
      have h1 := J.ks.length
      rw [Array.length_toList, List.length_take] at h1
      omega
    have run := lm_run (A := X.A.in1.in1) (Q := fun v' H' => ∃ y fr', v' = V.int y ∧ y = is[j] ∧ Post X.K T φ ρ Hj H' (env.set i (some (.dat xs[j]))) (σ.set i (some v)) st1 (.dat (.int y) fr') v') J.I L hroom.hd rfl (by have := hroom.dp; show X.A.depth < _; omega) hi hN hv2 J.gF hbind hcj (hbody s' Hj)
      ⟨φ, ρ, env.set i (some (.dat xs[j])), stj, _, st1, J.ws, J.sl.set (s := .dat xs[j]) hvd, g1, fun v' H' p => ⟨is[j], fr, by cases (show RD X.K φ H' v' (.int is[j]) from p.rr); rfl, rfl, p⟩⟩
    refine wpAny_bind (wpAny_attempt (wpAny_call (codeAny_mono run fun r s2 hq => ?_)))
    match r, hq with
    | .ok (.ret u2), hq =>
      obtain ⟨v', H', os, bare, un, hok, rr, y, fr', ev, ey, p⟩ := hq
      obtain ⟨hh, g, dd, t, os'⟩ := s2
      obtain rfl : os' = s'.os := os
      have I2 : Inv X pins σ H' ⟨hh, g, dd, t, s'.os⟩ := J.I.call (h' := hh) (g' := g) (d' := dd) (t' := t) (ch := []) un hok bare (fun b z => absurd z (by simp))
      subst ev
      obtain ⟨tk2, rfl⟩ : ∃ tk2, u2 = Value.int y tk2 := rr
      have gK2 : hh.get? kS = some (seqObj "list" kA e) := un.keep kS _ J.gK J.nK nfK (by simp)
      have gA2 : hh.get? a = some (seqObj "list" #[] e1) := un.keep a _ J.gA J.nA nfA (by simp)
      have gF2 : hh.get? f = some _ := un.keep f _ J.gF J.nF hfr (by simp)
      have nK2 : H' kS = none := un.free kS _ J.gK J.nK (by simp)
      have nA2 : H' a = none := un.free a _ J.gA J.nA (by simp)
      have nF2 : H' f = none := un.free f _ J.gF J.nF (by simp)
      have s1 := Heap.SameBut.update hh kS (Obj.mapSeq (·.push (Value.int y tk2)))
      obtain ⟨c2, hc2⟩ : ∃ c2, (hh.update kS (Obj.mapSeq (·.push (Value.int y tk2)))).get? kS = some (seqObj "list" (kA.push (Value.int y tk2)) c2) := ⟨_, get?_update_seq gK2 (·.push (Value.int y tk2))⟩
      refine wpAny_bind (listUpdate_at gK2 rfl ?_ (Nat.le_trans hz hZ) (Nat.le_trans (Nat.le_of_eq (Array.size_push ..)) (Nat.succ_le_succ (Nat.le_trans hz hZ))))
      have kpU : ∀ b o, b ∉ [kS] → hh.get? b = some o → (hh.update kS (Obj.mapSeq (·.push (Value.int y tk2)))).get? b = some o := fun b o hb e => (s1.2 b (fun z => hb (by simp [z]))).trans e
      have hfK : f ≠ kS := fun z => by
        have q := Heap.lt_size hf
        rw [z] at q
        exact Nat.lt_irrefl _ (Nat.lt_of_lt_of_le q hsk)
      have I3 : Inv X pins σ H' { heap := hh.update kS (Obj.mapSeq (·.push (Value.int y tk2))), gens := g, drawn := dd, toks := t, os := s'.os } := I2.turnedL (t' := t) kpU (fun b hb => by rw [List.mem_singleton.mp hb]; exact fpK nK2)
      have ek : is.take (j + 1) = is.take j ++ [y] := by rw [List.take_add_one, List.getElem?_eq_getElem hji, ey]; rfl
      refine wpAny_pure ⟨rfl, H', st1, kA.push (Value.int y tk2), c2, ⟨I3, p.ws, J.sl.ext (p.ext.more J.ws.sub) J.ws.fl, J.ext.trans p.ext, nA2, nK2, nF2, hc2, (s1.2 a hka.symm).trans gA2, (s1.2 f hfK).trans gF2, ?_, g2⟩⟩
      rw [ek, Array.toList_push]
      exact PySem.W.each_snoc (R := fun (v : Value) (n : Int) => ∃ t, v = Value.int n t) ⟨tk2, rfl⟩ J.ks
  case done =>
    rintro s' ⟨Hn, stn, kA, e, J⟩
    simp only [Nat.zero_add] at J
    have go := J.go
    rw [List.drop_of_length_le (by omega), List.drop_of_length_le (by omega)] at go
    have go : stn = st2 := go
    subst go
    have ks := J.ks
    rw [List.take_of_length_le (by omega)] at ks
    have hks : PySem.W.EachIs (fun v d => ∃ as, Reads s'.heap v d as) kA.toList ((xs.zip is).map fun b => PyData.int b.2) := by
      rw [zip_snd_ints hlk]
      refine PySem.W.each_map (R := fun v d => ∃ as, Reads s'.heap v d as) PyData.int (ks.mono fun v n ⟨t, e⟩ => ?_)
      subst e
      exact ⟨[], .int _ _⟩
    have hal : PySem.W.AllAlike ((xs.zip is).map fun b => PyData.int b.2) := PySem.W.AllAlike.of fun _ _ => by simp [PySem.W.alike]
    have hsk' : PySem.W.Sortable ((xs.zip is).map fun b => PyData.int b.2) := PySem.W.Sortable.others fun b => ⟨by simp, fun _ => by simp⟩
    have hsz2 : kA.size = us.length := by
      have h1 := ks.length
      rw [Array.length_toList] at h1
      omega
    try dsimp only
    refine wpAny_bind (listItems_at J.gK rfl ?_)
    obtain ⟨G1, g1, g2⟩ := restrict s'.heap fun b => decide (b ≠ kS)
    obtain ⟨G2, g3, g4⟩ := restrict s'.heap fun b => decide (b ≠ kS ∧ b ≠ a)
    refine PySem.W.keyH_end (κ := PySem.W.dataKind s'.heap ((xs.zip is).map fun b => PyData.int b.2)) (h₁ := G1) (fun b o hb e => ?_) (g2 kS (by simp)) J.gK J.gA hka
      (PySem.W.SortsAt.data hks hal hsk' fun d hd => ?_) hsz2 hZ fun h3 tk3 c k3 n3 => ?_
    · by_cases hbk : b = kS
      · rw [hbk, g2 kS (by simp)] at e; cases e
      · rw [g1 b (by simp [hbk])] at e; exact e
    · obtain ⟨b, _, rfl⟩ := List.mem_map.mp hd
      have := hroom.un
      show X.A.units + 2 + (PyData.int b.2).depth < _
      simp only [PyData.depth]
      omega
    · have eo := PySem.W.sortVals_each (κ := PySem.W.dataKind s'.heap ((xs.zip is).map fun b => PyData.int b.2)) (rev := rev) (fun b : D × Int => PySem.W.keyToks (.int b.2)) (each_vals _ _ _ _ rv (rd.ext (J.ext.more ws.sub) ws.fl) hlk)
        (PySem.W.each_of_map (fun b : D × Int => PyData.int b.2) (PySem.W.each_keys hal hks))
      have ed : PySem.W.sortLe (PySem.W.dataKind s'.heap ((xs.zip is).map fun b => PyData.int b.2)).toKeyOrd rev (fun b : D × Int => PySem.W.keyToks (.int b.2)) = leK rev := le_data rev
      rw [ed, sortK_eq] at eo
      obtain ⟨outV, ov, od⟩ := vals_each eo
      have IG : Inv X pins σ Hn { s' with heap := G2 } := J.I.turnedL (t' := s'.toks) (ch := [kS, a]) (fun b o hb e => by rw [g3 b (by simpa using hb)]; exact e) (fun b hb => by
        rcases List.mem_cons.mp hb with z | z
        · rw [z]; exact fpK J.nK
        · rw [List.mem_singleton.mp z]; exact fpA J.nA)
      have k23 : ∀ b o, G2.get? b = some o → h3.get? b = some o := fun b o e => by
        by_cases hb : b ≠ kS ∧ b ≠ a
        · rw [g3 b (by simpa using hb)] at e
          exact k3 b o hb.2 (by rw [g1 b (by simpa using hb.1)]; exact e)
        · rw [g4 b (by simpa using hb)] at e; cases e
      have hlo : outV.length ≤ sizeLine := by
        rw [od.length, List.length_map, ← sortK_eq, List.length_mergeSort, List.length_zip, sizeLine_eq]
        omega
      refine ⟨rfl, .ref a, upd Hn a (.lst outV), IG.laidN (t' := tk3) k23 (g4 a (by simp)) J.nA ⟨hlo, _, c, ov, n3⟩, rfl, ?_⟩
      exact hQ a _ ((Post.lst J.ws J.sl J.nA od).pre J.ext)
end
end Ev
set_option linter.all false
set_option maxRecDepth 100000
set_option maxHeartbeats 4000000
/-! Ev10: statements: what they work out to, and their readings. -/
namespace Ev
open PySem PySem.Spec L2
variable {K : PySem.W.Frag} {T : List (Addr × Str)} {X : Cx} {G : Pk} {cl : Str → List SV → Sto → Option (ER × Sto)}

/-- name = ..: a list just made comes to stand in the store, if its name is one whose list is changed -/
def stoE (mu : List Nat) (i : Nat) (r : ER) (env : Env) (st : Sto) : Env × Sto :=
  match r, mu.contains i with
  | .dat (.list ds) true, true => (env.set i (some (.loc st.length)), st ++ [ds])
  | r, _ => (env.set i (some (svE r)), st)
def keepFl (kp : List (Nat × List D)) : Fl → Bool
  | .nx _ st => keptL st kp
  | .ct _ st => keptL st kp
  | _ => true
/-- x += y, x -= y, of numbers -/
def augI : Operator → Option (Int → Int → Int)
  | .Add => some fun a b => a + b
  | .Sub => some fun a b => a - b
  | _ => none
section
variable (G : Pk) (cl : Str → List SV → Sto → Option (ER × Sto)) (mu : List Nat)
/-- a, b = x, y: the values, one after another -/
def evP : List (Nat × IE) → Env → Sto → Option (List (Nat × SV) × Sto)
  | [], _, st => some ([], st)
  | (i, e) :: r, env, st => match evE G cl e env st with
    | some (.dat (.list ds) true, st1) => match mu.contains i with
      | true => match evP r env (st1 ++ [ds]) with
        | some (ss, st2) => some ((i, .loc st1.length) :: ss, st2)
        | none => none
      | false => match evP r env st1 with
        | some (ss, st2) => some ((i, .dat (.list ds)) :: ss, st2)
        | none => none
    | some (x, st1) => match evP r env st1 with
      | some (ss, st2) => some ((i, svE x) :: ss, st2)
      | none => none
    | none => none
def setAll : List (Nat × SV) → Env → Env
  | [], env => env
  | (i, s) :: r, env => setAll r (env.set i (some s))
mutual
def evS : IS → Env → Sto → Option Fl
  | .asg (.nm i) e, env, st => match evE G cl e env st with
    | some (r, st1) => let p := stoE mu i r env st1; some (.nx p.1 p.2)
    | none => none
  | .asg (.tp ts) e, env, st => match evE G cl e env st with
    | some (.dat d _, st1) => match bindT (.tp ts) d env with
      | some env1 => some (.nx env1 st1)
      | none => none
    | _ => none
  | .par is es, env, st => match evP G cl mu (is.zip es) env st with
    | some (ss, st1) => some (.nx (setAll ss env) st1)
    | none => none
  | .seti i a e, env, st => match evE G cl e env st with
    | some (.dat d _, st1) => match env[i]? with
      | some (some (.loc n)) => match evE G cl a env st1 with
        | some (.dat (.int k) _, st2) => match st2[n]? with
          | some xs => match ixN xs.length k with
            | some j => some (.nx env (st2.set n (xs.set j d)))
            | none => none
          | none => none
        | _ => none
      | _ => none
    | _ => none
  | .app i e, env, st => match env[i]? with
    | some (some (.loc n)) => match evE G cl e env st with
      | some (.dat d _, st1) => match st1[n]? with
        | some xs => if xs.length < sizeLine then some (.nx env (st1.set n (xs ++ [d]))) else none
        | none => none
      | _ => none
    | _ => none
  | .ext i e, env, st => match env[i]? with
    | some (some (.loc n)) => match evE G cl e env st with
      | some (.dat (.list ys) _, st1) => match st1[n]? with
        | some xs => if xs.length + ys.length ≤ sizeLine then some (.nx env (st1.set n (xs ++ ys))) else none
        | none => none
      | _ => none
    | _ => none
  | .ins i a e, env, st => match env[i]? with
    | some (some (.loc n)) => match evE G cl a env st with
      | some (.dat (.int k) _, st0) => match evE G cl e env st0 with
        | some (.dat d _, st1) => match st1[n]? with
          | some xs => if xs.length < sizeLine ∧ 0 ≤ k ∧ k < 2 ^ 63 then some (.nx env (st1.set n (xs.take k.toNat ++ d :: xs.drop k.toNat))) else none
          | none => none
        | _ => none
      | _ => none
    | _ => none
  | .aug i o e, env, st => match env[i]? with
    | some (some (.dat (.int a))) => match evE G cl e env st with
      | some (.dat (.int b) _, st1) => match augI o with
        | some f => some (.nx (env.set i (some (.dat (.int (f a b))))) st1)
        | none => none
      | _ => none
    | _ => none
  | .exp e, env, st => match evE G cl e env st with
    | some (_, st1) => some (.nx env st1)
    | none => none
  | .ite c a b, env, st => match tstE (evE G cl c env st) with
    | some (true, st1) => evSs a env st1
    | some (false, st1) => evSs b env st1
    | none => none
  | .loop t it b, env, st => match evI G cl it env st with
    | some (xs, kp, st1) => forL (fun d env s => match bindT t d env with
        | some env1 => match evSs b env1 s with
          | some f => if keepFl kp f then some f else none
          | none => none
        | none => none) xs env st1
    | none => none
  | .whl c b, env, st => whlL (fun env st => tstE (evE G cl c env st)) (fun env st => evSs b env st) G.wf env st
  | .ret none, env, st => some (.rt (.dat .none false) st)
  | .ret (some e), env, st => match evE G cl e env st with
    | some (r, st1) => some (.rt r st1)
    | none => none
  | .nev, _, _ => none
  | .pas, env, st => some (.nx env st)
  | .brk, env, st => some (.bk env st)
  | .cnt, env, st => some (.ct env st)
def evSs : List IS → Env → Sto → Option Fl
  | [], env, st => some (.nx env st)
  | s :: ss, env, st => match evS s env st with
    | some (.nx env1 st1) => evSs ss env1 st1
    | r => r
end
end

/-! ### readings -/
/-- the heap and the store go on -/
structure Gs (φ ρ : List Addr) (H : Hp) (φ' ρ' : List Addr) (H' : Hp) : Prop where
  ext : Ext ρ H H'
  pre : ∃ more, φ' = φ ++ more ∧ ρ' = ρ ++ more ∧ ∀ a ∈ more, H a = none
theorem Gs.refl (φ ρ : List Addr) (H : Hp) : Gs φ ρ H φ ρ H := ⟨.refl _ _, [], by simp, by simp, by simp⟩
theorem Gs.of {φ ρ : List Addr} {H H' : Hp} (x : Ext ρ H H') : Gs φ ρ H φ ρ H' := ⟨x, [], by simp, by simp, by simp⟩
theorem Gs.trans {φ ρ φ1 ρ1 φ2 ρ2 : List Addr} {H H1 H2 : Hp} (a : Gs φ ρ H φ1 ρ1 H1) (b : Gs φ1 ρ1 H1 φ2 ρ2 H2) : Gs φ ρ H φ2 ρ2 H2 := by
  obtain ⟨x, m1, rfl, rfl, h1⟩ := a
  obtain ⟨y, m2, rfl, rfl, h2⟩ := b
  refine ⟨⟨fun c o e n t => y.keep c o (x.keep c o e n t) (fun z => ?_) t, fun c e => x.dom c (y.dom c e)⟩, m1 ++ m2, by rw [List.append_assoc], by rw [List.append_assoc], fun c hc => ?_⟩
  · rcases List.mem_append.mp z with z | z
    · exact n z
    · rw [h1 c z] at e; cases e
  · rcases List.mem_append.mp hc with h | h
    · exact h1 c h
    · exact x.dom c (h2 c h)
theorem Gs.gr {φ ρ φ' ρ' : List Addr} {H H' : Hp} (g : Gs φ ρ H φ' ρ' H') (sub : ∀ a ∈ ρ, a ∈ φ) : Gr φ φ' H H' := by
  obtain ⟨x, m, rfl, rfl, h⟩ := g
  exact ⟨x.more sub, m, rfl, h⟩
structure NxP (K : PySem.W.Frag) (T : List (Addr × Str)) (φ ρ : List Addr) (H : Hp) (env' : Env) (st' : Sto) (φ' ρ' : List Addr) (σ' : L2.St) (H' : Hp) : Prop where
  ws : Ws K T φ' ρ' H' st'
  sl : Sl K φ' ρ' H' env' σ'
  gs : Gs φ ρ H φ' ρ' H'
structure RtP (K : PySem.W.Frag) (T : List (Addr × Str)) (φ ρ : List Addr) (H : Hp) (r : ER) (st' : Sto) (φ' ρ' : List Addr) (v : V) (H' : Hp) : Prop where
  post : Post K T φ' ρ' H H' [] [] st' r v
  gs : Gs φ ρ H φ' ρ' H'
def EndOk (K : PySem.W.Frag) (T : List (Addr × Str)) (φ ρ : List Addr) (H : Hp) (D : Ends) : Fl → Prop
  | .nx env' st' => ∀ φ' ρ' σ' H', NxP K T φ ρ H env' st' φ' ρ' σ' H' → D.nx σ' H'
  | .bk env' st' => ∀ φ' ρ' σ' H', NxP K T φ ρ H env' st' φ' ρ' σ' H' → D.bk σ' H'
  | .ct env' st' => ∀ φ' ρ' σ' H', NxP K T φ ρ H env' st' φ' ρ' σ' H' → D.ct σ' H'
  | .rt r st' => ∀ φ' ρ' v H', RtP K T φ ρ H r st' φ' ρ' v H' → D.rt v H'
def tS (K : PySem.W.Frag) (T : List (Addr × Str)) (F : Env → Sto → Option Fl) : TS := fun D σ H =>
  ∃ φ ρ env st f, Ws K T φ ρ H st ∧ Sl K φ ρ H env σ ∧ F env st = some f ∧ EndOk K T φ ρ H D f
theorem impS {s : Stmt} {t t' : TS} (h : PS X s t) (k : ∀ D σ H, t' D σ H → t D σ H) : PS X s t' := ⟨fun pins s σ H D I q => h.run pins s σ H D I (k D σ H q)⟩
theorem impSs {s : List Stmt} {t t' : TS} (h : PSs X s t) (k : ∀ D σ H, t' D σ H → t D σ H) : PSs X s t' := ⟨fun pins s σ H D I q => h.run pins s σ H D I (k D σ H q)⟩
theorem EndOk.pre {φ ρ φ1 ρ1 : List Addr} {H H1 : Hp} {D : Ends} {f : Fl} (g : Gs φ ρ H φ1 ρ1 H1) (h : EndOk K T φ ρ H D f) : EndOk K T φ1 ρ1 H1 D f := by
  cases f with
  | nx e s => exact fun φ' ρ' σ' H' p => h φ' ρ' σ' H' ⟨p.ws, p.sl, g.trans p.gs⟩
  | bk e s => exact fun φ' ρ' σ' H' p => h φ' ρ' σ' H' ⟨p.ws, p.sl, g.trans p.gs⟩
  | ct e s => exact fun φ' ρ' σ' H' p => h φ' ρ' σ' H' ⟨p.ws, p.sl, g.trans p.gs⟩
  | rt r s =>
    refine fun φ' ρ' v H' p => h φ' ρ' v H' ⟨?_, g.trans p.gs⟩
    have q := g.trans p.gs
    refine Post.mk p.post.ws p.post.sl (q.ext.more fun a ha => ?_) p.post.rr fun d e => ?_
    · obtain ⟨_, m, _, e, _⟩ := q
      rw [e]; exact List.mem_append_left _ ha
    · obtain ⟨pp, xs, ds, h1, h2, h3, h4⟩ := p.post.fr d e
      exact ⟨pp, xs, ds, h1, h2, g.ext.dom _ h3, h4⟩
/-- a list just made comes into the store -/
theorem alloc {φ ρ : List Addr} {H H' : Hp} {env : Env} {σ : L2.St} {st' : Sto} {ds : List D} {v : V} (sub : ∀ a ∈ ρ, a ∈ φ) (p : Post K T φ ρ H H' env σ st' (.dat (.list ds) true) v) :
    ∃ q, v = .ref q ∧ Ws K T (φ ++ [q]) (ρ ++ [q]) H' (st' ++ [ds]) ∧ Sl K (φ ++ [q]) (ρ ++ [q]) H' env σ ∧ Gs φ ρ H (φ ++ [q]) (ρ ++ [q]) H' ∧ RS K (φ ++ [q]) (ρ ++ [q]) H' (.loc st'.length) v := by
  obtain ⟨q, xs, ds', e1, rfl, h1, h2, h3, h4, h5⟩ := p.fr _ rfl
  cases e1
  have nq : q ∉ φ := fun z => by
    obtain ⟨ys, e, _⟩ := p.ws.fx q z
    cases p.rr with
    | lst n _ _ => exact n z
  refine ⟨q, rfl, ⟨?_, fun n ds' e => ?_, ?_, fun a ha => ?_, h4.fx, h4.tab⟩, ⟨h5.len, fun i s e => ?_⟩, ⟨p.ext, [q], rfl, rfl, fun a ha => by rw [List.mem_singleton.mp ha]; exact h1⟩, q, ?_, rfl⟩
  · rw [List.length_append, List.length_append, p.ws.len]; rfl
  · by_cases hn : n < st'.length
    · rw [List.getElem?_append_left hn] at e
      obtain ⟨a, ys, a1, a2, a3⟩ := h4.sto n ds' e
      exact ⟨a, ys, by rw [List.getElem?_append_left (by rw [p.ws.len]; exact hn)]; exact a1, a2, a3⟩
    · have en : n = st'.length := by
        have := (List.getElem?_eq_some_iff.mp e).1
        rw [List.length_append] at this
        simp at this; omega
      subst en
      rw [List.getElem?_append_right (Nat.le_refl _), Nat.sub_self] at e
      cases e
      exact ⟨q, xs, by rw [List.getElem?_append_right (by rw [p.ws.len]; exact Nat.le_refl _), p.ws.len, Nat.sub_self]; rfl, h2, h3⟩
  · rw [List.nodup_append]
    exact ⟨p.ws.nd, by simp, fun a ha b hb => by rw [List.mem_singleton.mp hb]; exact fun z => nq (sub q (z ▸ ha))⟩
  · rcases List.mem_append.mp ha with h | h
    · exact List.mem_append_left _ (sub a h)
    · exact List.mem_append_right _ h
  · obtain ⟨u, a1, a2⟩ := h5.get i s e
    refine ⟨u, a1, ?_⟩
    cases s with
    | dat d => exact a2
    | loc n =>
      obtain ⟨a, b1, b2⟩ := a2
      exact ⟨a, by rw [List.getElem?_append_left (List.getElem?_eq_some_iff.mp b1).1]; exact b1, b2⟩
    | scr ns => exact a2
  · rw [List.getElem?_append_right (by rw [p.ws.len]; exact Nat.le_refl _), p.ws.len, Nat.sub_self]; rfl
end Ev
set_option linter.all false
set_option maxRecDepth 100000
set_option maxHeartbeats 8000000
/-! Ev11: each statement's rule. -/
namespace Ev
open PySem PySem.Spec L2
variable {K : PySem.W.Frag} {T : List (Addr × Str)} {X : Cx} {G : Pk} {cl : Str → List SV → Sto → Option (ER × Sto)} {mu : List Nat}

section
variable {φ ρ : List Addr} {H H' : Hp} {st : Sto} {n : Nat} {a : Addr} {ds : List D} {ys : List V}
/-- a list of the store is changed -/
theorem Ws.setN (w : Ws K T φ ρ H st) (ha : ρ[n]? = some a) (r : RDs K φ H ys ds) : Ws K T φ ρ (upd H a (.lst ys)) (st.set n ds) := by
  have am : a ∈ ρ := List.mem_of_getElem? ha
  have x : Ext φ H (upd H a (.lst ys)) := .at (w.sub a am)
  obtain ⟨zs, ez⟩ := w.rho a am
  have nl : n < st.length := by rw [← w.len]; exact (List.getElem?_eq_some_iff.mp ha).1
  refine ⟨by rw [List.length_set]; exact w.len, fun m es e => ?_, w.nd, w.sub, fun b hb => ?_, Tabs_ext (φ := φ) w.tab (.inr ⟨zs, ez⟩)⟩
  · by_cases h : m = n
    · subst h
      rw [List.getElem?_set_self nl] at e
      cases e
      exact ⟨a, ys, ha, upd_same, r.ext x w.fl⟩
    · rw [List.getElem?_set_ne (Ne.symm h)] at e
      obtain ⟨b, us, h1, h2, h3⟩ := w.sto m es e
      have nb : b ≠ a := fun z => h ((List.getElem_inj w.nd).mp ((List.getElem?_eq_some_iff.mp h1).2.trans (z.trans (List.getElem?_eq_some_iff.mp ha).2.symm)))
      exact ⟨b, us, h1, (upd_ne nb).trans h2, h3.ext x w.fl⟩
  · by_cases e : b = a
    · rw [e]; exact ⟨_, upd_same, True.intro⟩
    · obtain ⟨us, h3, m⟩ := w.fx b hb
      exact ⟨us, (upd_ne e).trans h3, m⟩
end
theorem wipe0 : True := True.intro
section
variable {φ ρ : List Addr} {H H1 : Hp} {env : Env} {σ : L2.St} {st st1 : Sto} {D : Ends} {f : Fl}
theorem nx_of {env' : Env} {σ' : L2.St} (w : Ws K T φ ρ H1 st1) (s : Sl K φ ρ H1 env' σ') (x : Ext ρ H H1) : NxP K T φ ρ H env' st1 φ ρ σ' H1 := ⟨w, s, .of x⟩
end
theorem okSs_nil : PSs X [] (tS X.K T (fun env st => evSs G cl mu [] env st)) := by
  refine impSs pss_nil fun D σ H q => ?_
  obtain ⟨φ, ρ, env, st, f, ws, sl, he, k⟩ := q
  simp only [evSs] at he
  cases he
  exact k φ ρ σ H ⟨ws, sl, .refl _ _ _⟩
theorem okSs_cons {s : Stmt} {ss : List Stmt} {s' : IS} {ss' : List IS} (h1 : PS X s (tS X.K T (fun env st => evS G cl mu s' env st))) (h2 : PSs X ss (tS X.K T (fun env st => evSs G cl mu ss' env st))) : PSs X (s :: ss) (tS X.K T (fun env st => evSs G cl mu (s' :: ss') env st)) := by
  refine impSs (pss_cons h1 h2) fun D σ H q => ?_
  obtain ⟨φ, ρ, env, st, f, ws, sl, he, k⟩ := q
  simp only [evSs] at he
  split at he
  · rename_i env1 st1 h3
    exact ⟨φ, ρ, env, st, _, ws, sl, h3, fun φ' ρ' σ' H' p => ⟨φ', ρ', env1, st1, f, p.ws, p.sl, he, k.pre p.gs⟩⟩
  · rename_i h3
    refine ⟨φ, ρ, env, st, f, ws, sl, he, ?_⟩
    cases f with
    | nx e s => exact absurd he (h3 e s)
    | bk e s => exact k
    | ct e s => exact k
    | rt r s => exact k
theorem okS_nev {s : Stmt} : PS X s (tS X.K T (fun env st => evS G cl mu .nev env st)) := by
  refine impS ps_never fun D σ H q => ?_
  obtain ⟨φ, ρ, env, st, f, ws, sl, he, k⟩ := q
  simp only [evS] at he
  cases he
theorem okS_pas {pos : Pos} : PS X (.Pass pos) (tS X.K T (fun env st => evS G cl mu .pas env st)) := by
  refine impS ps_pass fun D σ H q => ?_
  obtain ⟨φ, ρ, env, st, f, ws, sl, he, k⟩ := q
  simp only [evS] at he
  cases he
  exact k φ ρ σ H ⟨ws, sl, .refl _ _ _⟩
theorem okS_brk {pos : Pos} : PS X (.Break pos) (tS X.K T (fun env st => evS G cl mu .brk env st)) := by
  refine impS ps_break fun D σ H q => ?_
  obtain ⟨φ, ρ, env, st, f, ws, sl, he, k⟩ := q
  simp only [evS] at he
  cases he
  exact k φ ρ σ H ⟨ws, sl, .refl _ _ _⟩
theorem okS_cnt {pos : Pos} : PS X (.Continue pos) (tS X.K T (fun env st => evS G cl mu .cnt env st)) := by
  refine impS ps_continue fun D σ H q => ?_
  obtain ⟨φ, ρ, env, st, f, ws, sl, he, k⟩ := q
  simp only [evS] at he
  cases he
  exact k φ ρ σ H ⟨ws, sl, .refl _ _ _⟩
theorem okS_retN {pos : Pos} : PS X (.Return none pos) (tS X.K T (fun env st => evS G cl mu (.ret none) env st)) := by
  refine impS ps_retN fun D σ H q => ?_
  obtain ⟨φ, ρ, env, st, f, ws, sl, he, k⟩ := q
  simp only [evS] at he
  cases he
  exact k φ ρ _ H ⟨.at ws ⟨rfl, fun i s e => by simp at e⟩ .non (fun d e => by cases e), .refl _ _ _⟩
theorem Post.noSl {φ ρ : List Addr} {H H' : Hp} {env : Env} {σ : L2.St} {st' : Sto} {r : ER} {v : V} (p : Post K T φ ρ H H' env σ st' r v) : Post K T φ ρ H H' [] [] st' r v :=
  ⟨p.ws, ⟨rfl, fun i s e => by simp at e⟩, p.ext, p.rr, fun d e => let ⟨q, xs, ds, h1, h2, h3, h4, h5, h6, _⟩ := p.fr d e; ⟨q, xs, ds, h1, h2, h3, h4, h5, h6, rfl, fun i s e => by simp at e⟩⟩
theorem okS_ret {e : Expr} {e' : IE} {pos : Pos} (he : PE X e (tF X.K T (evE G cl e'))) : PS X (.Return (some e) pos) (tS X.K T (fun env st => evS G cl mu (.ret (some e')) env st)) := by
  refine impS (ps_ret he) fun D σ H q => ?_
  obtain ⟨φ, ρ, env, st, f, ws, sl, h, k⟩ := q
  simp only [evS] at h
  split at h
  · rename_i r st1 h1
    cases h
    exact ⟨φ, ρ, env, st, r, st1, ws, sl, h1, fun v H' p => k φ ρ v H' ⟨p.noSl, .of p.ext⟩⟩
  · cases h
theorem okS_exp {e : Expr} {e' : IE} {pos : Pos} (he : PE X e (tF X.K T (evE G cl e'))) (hs : swapsWith e none pos.line X.env = pure false) : PS X (.Expr e pos) (tS X.K T (fun env st => evS G cl mu (.exp e') env st)) := by
  refine impS (ps_expr he hs) fun D σ H q => ?_
  obtain ⟨φ, ρ, env, st, f, ws, sl, h, k⟩ := q
  simp only [evS] at h
  split at h
  · rename_i r st1 h1
    cases h
    exact seq1 ws sl h1 fun u H1 w1 s1 e1 r1 => k φ ρ σ H1 ⟨w1, s1, .of e1⟩
  · cases h
theorem okS_ite {c : Expr} {a b : List Stmt} {c' : IE} {a' b' : List IS} {pos : Pos} (hc : PT X c (tT X.K T (evE G cl c'))) (ha : PSs X a (tS X.K T (fun env st => evSs G cl mu a' env st))) (hb : PSs X b (tS X.K T (fun env st => evSs G cl mu b' env st))) :
    PS X (.If c a b pos) (tS X.K T (fun env st => evS G cl mu (.ite c' a' b') env st)) := by
  refine impS (ps_if hc ha hb) fun D σ H q => ?_
  obtain ⟨φ, ρ, env, st, f, ws, sl, h, k⟩ := q
  simp only [evS] at h
  split at h
  · rename_i st1 h1
    exact seqT ws sl h1 fun H1 w1 s1 e1 => iteT ⟨φ, ρ, env, st1, f, w1, s1, h, k.pre (.of e1)⟩
  · rename_i st1 h1
    exact seqT ws sl h1 fun H1 w1 s1 e1 => iteF ⟨φ, ρ, env, st1, f, w1, s1, h, k.pre (.of e1)⟩
  · cases h

/-! ### assignments -/
theorem okS_asg {i : Nat} {x : Str} {e : Expr} {e' : IE} {p' pos : Pos} (h : PS X (.Assign [.Name x p'] e pos) (tAsg (tF X.K T (evE G cl e')) (gName i))) : PS X (.Assign [.Name x p'] e pos) (tS X.K T (fun env st => evS G cl mu (.asg (.nm i) e') env st)) := by
  refine impS h fun D σ H q => ?_
  obtain ⟨φ, ρ, env, st, f, ws, sl, h, k⟩ := q
  simp only [evS] at h
  split at h
  · rename_i r st1 h1
    cases h
    refine ⟨φ, ρ, env, st, r, st1, ws, sl, h1, fun v H' p => ?_⟩
    unfold stoE at k
    split at k
    · rename_i ds hm
      obtain ⟨q, rfl, w, s, g, rs⟩ := alloc ws.sub p
      exact k _ _ _ _ ⟨w, s.set rs, g⟩
    · exact k _ _ _ _ ⟨p.ws, p.sl.set p.rr, .of p.ext⟩
  · cases h
theorem pip_aug {o : Operator} {f : Int → Int → Int} (h : augI o = some f) : PIp X o (ipI f) := by
  cases o <;> simp only [augI] at h <;> cases h
  · exact ip_add
  · exact ip_sub
theorem okS_aug {i : Nat} {o : Operator} {f : Int → Int → Int} {x : Str} {e : Expr} {e' : IE} {p' pos : Pos} (hf : augI o = some f) (h : PS X (.AugAssign (.Name x p') o e pos) (tAug i (tF X.K T (evE G cl e')) (ipI f))) : PS X (.AugAssign (.Name x p') o e pos) (tS X.K T (fun env st => evS G cl mu (.aug i o e') env st)) := by
  refine impS h fun D σ H q => ?_
  obtain ⟨φ, ρ, env, st, fl, ws, sl, h, k⟩ := q
  simp only [evS] at h
  split at h
  · rename_i a hn
    split at h
    · rename_i b fr st1 h1
      rw [hf] at h
      cases h
      obtain ⟨v, hv, rv⟩ := sl.get i _ hn
      cases (show RD X.K φ H v (.int a) from rv)
      refine ⟨.int a, hv, seq1 ws sl h1 fun u H1 w1 s1 e1 r1 => ?_⟩
      cases (show RD X.K φ H1 u (.int b) from r1)
      exact ⟨a, b, rfl, rfl, k _ _ _ _ ⟨w1, s1.set (s := .dat (.int (f a b))) (show RD X.K φ H1 (.int (f a b)) (.int (f a b)) from .int _), .of e1⟩⟩
    · cases h
  · cases h
theorem okS_asgT {ts : List IT} {tg e : Expr} {e' : IE} {pos : Pos} (he : PE X e (tF X.K T (evE G cl e'))) (hg : PG X tg (tG X.K T (.tp ts))) (hs : swapsWithSole [tg] e pos.line X.env = pure false) (hw : swappedStores [tg] e X.env = pure none) (h1 : (assignEach [tg] X.env).map (·.2) = [assign tg X.env]) :
    PS X (.Assign [tg] e pos) (tS X.K T (fun env st => evS G cl mu (.asg (.tp ts) e') env st)) := by
  refine impS (ps_asg he hg hs hw h1) fun D σ H q => ?_
  obtain ⟨φ, ρ, env, st, f, ws, sl, h, k⟩ := q
  simp only [evS] at h
  split at h
  · rename_i d fr st1 h2
    split at h
    · rename_i env1 h3
      cases h
      exact seq1 ws sl h2 fun u H1 w1 s1 e1 r1 => ⟨φ, ρ, env, st1, d, env1, w1, s1, r1, h3, fun σ' sl' _ => k _ _ _ _ ⟨w1, sl', .of e1⟩⟩
    · cases h
  · cases h
/-- the values of a, b = x, y -/
def tP (K : PySem.W.Frag) (T : List (Addr × Str)) (F : Env → Sto → Option (List (Nat × SV) × Sto)) : TA := fun σ H Q =>
  ∃ φ ρ env st ss st', Ws K T φ ρ H st ∧ Sl K φ ρ H env σ ∧ F env st = some (ss, st') ∧
    ∀ vs φ' ρ' H', Ws K T φ' ρ' H' st' → Sl K φ' ρ' H' env σ → Gs φ ρ H φ' ρ' H' → Paired (fun (s : Nat × SV) v => RS K φ' ρ' H' s.2 v) ss vs → Q vs H'
theorem RS.gs {φ ρ φ' ρ' : List Addr} {H H' : Hp} {s : SV} {v : V} (g : Gs φ ρ H φ' ρ' H') (sub : ∀ a ∈ ρ, a ∈ φ) (f : Lst φ H) (r : RS K φ ρ H s v) : RS K φ' ρ' H' s v := by
  have gr := g.gr sub
  cases s with
  | dat d => exact gr.rd f r
  | loc n =>
    obtain ⟨a, h1, h2⟩ := r
    obtain ⟨x, m, rfl, rfl, h⟩ := g
    exact ⟨a, by rw [List.getElem?_append_left (List.getElem?_eq_some_iff.mp h1).1]; exact h1, h2⟩
  | scr ns =>
    obtain ⟨a, e, h⟩ := RS.ext (ρ := ρ) gr.ext f r
    exact ⟨a, e, h⟩
theorem Sl.gs {φ ρ φ' ρ' : List Addr} {H H' : Hp} {env : Env} {σ : L2.St} (g : Gs φ ρ H φ' ρ' H') (sub : ∀ a ∈ ρ, a ∈ φ) (f : Lst φ H) (s : Sl K φ ρ H env σ) : Sl K φ' ρ' H' env σ :=
  ⟨s.len, fun i t e => let ⟨v, h1, h2⟩ := s.get i t e; ⟨v, h1, h2.gs g sub f⟩⟩
theorem okp_nil : PA X [] (tP X.K T (evP G cl mu [])) := by
  refine impA pa_nil fun σ H Q q => ?_
  obtain ⟨φ, ρ, env, st, ss, st', ws, sl, he, k⟩ := q
  simp only [evP] at he
  cases he
  exact k [] φ ρ H ws sl (.refl _ _ _) .nil
theorem okp_cons {i : Nat} {r : List (Nat × IE)} {e : Expr} {es : List Expr} {e' : IE} (hp : pln e = true) (he : PE X e (tF X.K T (evE G cl e'))) (hes : PA X es (tP X.K T (evP G cl mu r))) : PA X (e :: es) (tP X.K T (evP G cl mu ((i, e') :: r))) := by
  refine impA (pa_cons he hes (pln_star hp es _)) fun σ H Q q => ?_
  obtain ⟨φ, ρ, env, st, ss, st', ws, sl, h, k⟩ := q
  simp only [evP] at h
  split at h
  · rename_i ds st1 h1
    split at h
    · split at h
      · rename_i ss2 st2 h2
        cases h
        refine ⟨φ, ρ, env, st, _, st1, ws, sl, h1, fun v H1 p => ?_⟩
        obtain ⟨q, rfl, w, s, g, rs⟩ := alloc ws.sub p
        exact ⟨_, _, env, _, ss2, _, w, s, h2, fun vs φ' ρ' H' w2 s2 g2 pr => k _ φ' ρ' H' w2 s2 (g.trans g2) (.cons (rs.gs g2 w.sub w.fl) pr)⟩
      · cases h
    · split at h
      · rename_i ss2 st2 h2
        cases h
        refine ⟨φ, ρ, env, st, _, st1, ws, sl, h1, fun v H1 p => ?_⟩
        exact ⟨_, _, env, _, ss2, _, p.ws, p.sl, h2, fun vs φ' ρ' H' w2 s2 g2 pr => k _ φ' ρ' H' w2 s2 ((Gs.of p.ext).trans g2) (.cons (RS.gs g2 p.ws.sub p.ws.fl p.rr) pr)⟩
      · cases h
  · rename_i x st1 _ h1
    split at h
    · rename_i ss2 st2 h2
      cases h
      refine ⟨φ, ρ, env, st, _, st1, ws, sl, h1, fun v H1 p => ?_⟩
      exact ⟨_, _, env, _, ss2, _, p.ws, p.sl, h2, fun vs φ' ρ' H' w2 s2 g2 pr => k _ φ' ρ' H' w2 s2 ((Gs.of p.ext).trans g2) (.cons (RS.gs g2 p.ws.sub p.ws.fl p.rr) pr)⟩
    · cases h
  · cases h
theorem evP_keys : ∀ {l : List (Nat × IE)} {env : Env} {st : Sto} {ss : List (Nat × SV)} {st' : Sto}, evP G cl mu l env st = some (ss, st') → ss.map (·.1) = l.map (·.1)
  | [], env, st, ss, st', h => by simp only [evP] at h; cases h; rfl
  | (i, e) :: r, env, st, ss, st', h => by
    simp only [evP] at h
    split at h
    · split at h
      · split at h
        · rename_i h2; cases h; exact congrArg (i :: ·) (evP_keys h2)
        · cases h
      · split at h
        · rename_i h2; cases h; exact congrArg (i :: ·) (evP_keys h2)
        · cases h
    · split at h
      · rename_i h2; cases h; exact congrArg (i :: ·) (evP_keys h2)
      · cases h
    · cases h
theorem okS_par3 {i j l : Nat} {a' b' c' : IE} {st : Stmt} (h : PS X st (tPar3 i j l (tP X.K T (evP G cl mu [(i, a'), (j, b'), (l, c')])))) : PS X st (tS X.K T (fun env st => evS G cl mu (.par [i, j, l] [a', b', c']) env st)) := by
  refine impS h fun D σ H q => ?_
  obtain ⟨φ, ρ, env, st, f, ws, sl, h, k⟩ := q
  simp only [evS] at h
  split at h
  · rename_i ss st1 h1
    cases h
    have h1' : evP G cl mu [(i, a'), (j, b'), (l, c')] env st = some (ss, st1) := h1
    refine ⟨φ, ρ, env, st, ss, st1, ws, sl, h1', fun vs φ' ρ' H' w s g pr => ?_⟩
    obtain ⟨s1, s2, s3, rfl⟩ : ∃ s1 s2 s3, ss = [(i, s1), (j, s2), (l, s3)] := by
      have q := evP_keys h1'
      match ss, q with
      | [(i', s1), (j', s2), (l', s3)], q =>
        simp only [List.map_cons, List.map_nil, List.cons.injEq, and_true] at q
        exact ⟨s1, s2, s3, by rw [q.1, q.2.1, q.2.2]⟩
    cases pr with
    | cons r1 pr =>
      cases pr with
      | cons r2 pr =>
        cases pr with
        | cons r3 pr =>
          cases pr
          exact ⟨_, _, _, rfl, k φ' ρ' _ H' ⟨w, ((s.set r1).set r2).set r3, g⟩⟩
  · cases h
theorem okS_par2 {i j : Nat} {a' b' : IE} {st : Stmt} (h : PS X st (tPar i j (tP X.K T (evP G cl mu [(i, a'), (j, b')])))) : PS X st (tS X.K T (fun env st => evS G cl mu (.par [i, j] [a', b']) env st)) := by
  refine impS h fun D σ H q => ?_
  obtain ⟨φ, ρ, env, st, f, ws, sl, h, k⟩ := q
  simp only [evS] at h
  split at h
  · rename_i ss st1 h1
    cases h
    have h1' : evP G cl mu [(i, a'), (j, b')] env st = some (ss, st1) := h1
    refine ⟨φ, ρ, env, st, ss, st1, ws, sl, h1', fun vs φ' ρ' H' w s g pr => ?_⟩
    obtain ⟨s1, s2, rfl⟩ : ∃ s1 s2, ss = [(i, s1), (j, s2)] := by
      have q := evP_keys h1'
      match ss, q with
      | [(i', s1), (j', s2)], q =>
        simp only [List.map_cons, List.map_nil, List.cons.injEq, and_true] at q
        exact ⟨s1, s2, by rw [q.1, q.2]⟩
    cases pr with
    | cons r1 pr =>
      cases pr with
      | cons r2 pr =>
        cases pr
        exact ⟨_, _, rfl, k φ' ρ' _ H' ⟨w, (s.set r1).set r2, g⟩⟩
  · cases h

/-! ### lists of the store -/
theorem okS_seti {i : Nat} {x : Str} {a e : Expr} {a' e' : IE} {p p2 pos : Pos} (hx : PE X (.Name x p) (tVar i)) (ha : PE X a (tF X.K T (evE G cl a'))) (he : PE X e (tF X.K T (evE G cl e'))) (hs : swapsWithSole [.Subscript (.Name x p) a p2] e pos.line X.env = pure false) (hw : swappedStores [.Subscript (.Name x p) a p2] e X.env = pure none)
    (hass : ∀ v, assign (.Subscript (.Name x p) a p2) X.env v = (do
      let ov ← holding [v] (eval (.Name x p) X.env)
      let iv ← holding [v, ov] (eval a X.env)
      standAt p2
      holding [v, ov, iv] (setItem ov iv v)
      release [v, ov, iv] [])) :
    PS X (.Assign [.Subscript (.Name x p) a p2] e pos) (tS X.K T (fun env st => evS G cl mu (.seti i a' e') env st)) := by
  refine impS (ps_asg he (pg_sub hx ha set_list hass) hs hw rfl) fun D σ H q => ?_
  obtain ⟨φ, ρ, env, st, f, ws, sl, h, k⟩ := q
  simp only [evS] at h
  split at h
  · rename_i d fr st1 h1
    split at h
    · rename_i n hn
      split at h
      · rename_i kk fr2 st2 h2
        split at h
        · rename_i xs h3
          split at h
          · rename_i j h4
            cases h
            refine seq1 ws sl h1 fun u H1 w1 s1 e1 r1 => ?_
            obtain ⟨v, hv, ad, had, rfl⟩ := s1.get i _ hn
            refine ⟨.ref ad, hv, seq1 w1 s1 h2 fun u2 H2 w2 s2 e2 r2 => ?_⟩
            cases (show RD X.K φ H2 u2 (.int kk) from r2)
            obtain ⟨ad', ys, h5, h6, h7⟩ := w2.sto n xs h3
            rw [had] at h5; cases h5
            have am : ad ∈ ρ := List.mem_of_getElem? had
            have ru : RD X.K φ H2 u d := RD.ext (e2.more w1.sub) w1.fl r1
            refine ⟨ad, ys, kk, j, rfl, rfl, h6, by rw [h7.length]; exact h4, k φ ρ σ _ ⟨w2.setN had (h7.set ru j), s2.ext (.at (w2.sub _ am)) w2.fl, .of ((e1.trans e2).trans (.at am))⟩⟩
          · cases h
        · cases h
      · cases h
    · cases h
  · cases h
theorem loc_push {i : Nat} {n : Nat} {φ ρ : List Addr} {H : Hp} {env : Env} {σ : L2.St} {st : Sto} (ws : Ws K T φ ρ H st) (sl : Sl K φ ρ H env σ) (hn : env[i]? = some (some (.loc n))) : ∃ ad, σ[i]? = some (some (.ref ad)) ∧ ρ[n]? = some ad := by
  obtain ⟨v, hv, ad, had, rfl⟩ := sl.get i _ hn
  exact ⟨ad, hv, had⟩
theorem okS_app {i : Nat} {x : Str} {e : Expr} {e' : IE} {p apos cpos pos : Pos} (hx : PE X (.Name x p) (tVar i)) (he : PE X e (tF X.K T (evE G cl e'))) (hp : pln e = true) (hl : (apos.endLine == cpos.line) = true) :
    PS X (.Expr (.Call (.Attribute (.Name x p) "append" apos) [e] [] cpos) pos) (tS X.K T (fun env st => evS G cl mu (.app i e') env st)) := by
  refine impS (ps_expr (pe_bm PySem.F.plainAttrs_list PySem.F.slot_list_append PySem.F.type_list_append mt_append hx (pa_cons he pa_nil (pln_star hp _ _)) (by rfl) (by rw [pln_star hp]; rfl) hl (pln_star hp _ _) (by rfl)) (by rfl)) fun D σ H q => ?_
  obtain ⟨φ, ρ, env, st, f, ws, sl, h, k⟩ := q
  simp only [evS] at h
  split at h
  · rename_i n hn
    split at h
    · rename_i d fr st1 h1
      split at h
      · rename_i xs h3
        split at h
        · rename_i hlen
          cases h
          obtain ⟨ad, hv, had⟩ := loc_push ws sl hn
          obtain ⟨ys0, hys0⟩ := ws.rho ad (List.mem_of_getElem? had)
          refine ⟨.ref ad, hv, .inl ⟨rfl, ys0, .inl (.inl hys0)⟩, seq1 ws sl h1 fun u H1 w1 s1 e1 r1 => ?_⟩
          obtain ⟨ad', ys, h5, h6, h7⟩ := w1.sto n xs h3
          rw [had] at h5; cases h5
          have am : ad ∈ ρ := List.mem_of_getElem? had
          exact ⟨ad, ys, u, rfl, rfl, h6, by rw [h7.length]; exact hlen, k φ ρ σ _ ⟨w1.setN had (h7.append (.cons r1 .nil)), s1.ext (.at (w1.sub _ am)) w1.fl, .of (e1.trans (.at am))⟩⟩
        · cases h
      · cases h
    · cases h
  · cases h
theorem okS_ins {i : Nat} {x : Str} {a e : Expr} {a' e' : IE} {p apos cpos pos : Pos} (hx : PE X (.Name x p) (tVar i)) (ha : PE X a (tF X.K T (evE G cl a'))) (he : PE X e (tF X.K T (evE G cl e'))) (hp1 : pln a = true) (hp : pln e = true) (hl : (apos.endLine == cpos.line) = true) :
    PS X (.Expr (.Call (.Attribute (.Name x p) "insert" apos) [a, e] [] cpos) pos) (tS X.K T (fun env st => evS G cl mu (.ins i a' e') env st)) := by
  refine impS (ps_expr (pe_bm PySem.F.plainAttrs_list PySem.F.slot_list_insert PySem.F.type_list_insert mt_insert hx (pa_cons ha (pa_cons he pa_nil (pln_star hp _ _)) (pln_star hp1 _ _)) (by rfl) (by rw [pln_star hp1, pln_star hp]; rfl) hl (pln_star hp1 _ _) (by rw [pln_star hp]; rfl)) (by rfl)) fun D σ H q => ?_
  obtain ⟨φ, ρ, env, st, f, ws, sl, h, k⟩ := q
  simp only [evS] at h
  split at h
  · rename_i n hn
    split at h
    · rename_i kk fr0 st0 h0
      split at h
      · rename_i d fr st1 h1
        split at h
        · rename_i xs h3
          split at h
          · rename_i hlen
            cases h
            obtain ⟨ad, hv, had⟩ := loc_push ws sl hn
            obtain ⟨ys0, hys0⟩ := ws.rho ad (List.mem_of_getElem? had)
            refine ⟨.ref ad, hv, .inl ⟨rfl, ys0, .inl (.inl hys0)⟩, seq2 ws sl h0 h1 fun u0 u H1 w1 s1 e1 r0 r1 => ?_⟩
            cases (show RD X.K φ H1 u0 (.int kk) from r0)
            obtain ⟨ad', ys, h5, h6, h7⟩ := w1.sto n xs h3
            rw [had] at h5; cases h5
            have am : ad ∈ ρ := List.mem_of_getElem? had
            have rr : RDs X.K φ H1 (ys.take kk.toNat ++ [u] ++ ys.drop kk.toNat) (xs.take kk.toNat ++ d :: xs.drop kk.toNat) := by
              rw [List.append_assoc]
              exact (h7.take _).append (.cons r1 (h7.drop _))
            exact ⟨ad, ys, kk, u, rfl, rfl, h6, by rw [h7.length]; exact hlen.1, hlen.2.1, hlen.2.2, k φ ρ σ _ ⟨w1.setN had rr, s1.ext (.at (w1.sub _ am)) w1.fl, .of (e1.trans (.at am))⟩⟩
          · cases h
        · cases h
      · cases h
    · cases h
  · cases h

theorem set_same {σ : L2.St} {i : Nat} {v : V} (h : σ[i]? = some (some v)) : σ.set i (some v) = σ := by
  refine List.ext_getElem? fun j => ?_
  by_cases e : j = i
  · subst e
    rw [List.getElem?_set_self (List.getElem?_eq_some_iff.mp h).1, h]
  · rw [List.getElem?_set_ne (Ne.symm e)]
theorem okS_ext {i : Nat} {x : Str} {e : Expr} {e' : IE} {p' pos : Pos} (h : PS X (.AugAssign (.Name x p') .Add e pos) (tAug i (tF X.K T (evE G cl e')) rExt2)) : PS X (.AugAssign (.Name x p') .Add e pos) (tS X.K T (fun env st => evS G cl mu (.ext i e') env st)) := by
  refine impS h fun D σ H q => ?_
  obtain ⟨φ, ρ, env, st, fl, ws, sl, h, k⟩ := q
  simp only [evS] at h
  split at h
  · rename_i n hn
    split at h
    · rename_i ys fr st1 h1
      split at h
      · rename_i xs h3
        split at h
        · rename_i hlen
          cases h
          obtain ⟨ad, hv, had⟩ := loc_push ws sl hn
          refine ⟨.ref ad, hv, seq1 ws sl h1 fun u H1 w1 s1 e1 r1 => ?_⟩
          cases (show RD X.K φ H1 u (.list ys) from r1) with
          | lst nb hb rs =>
            obtain ⟨ad', zs, h5, h6, h7⟩ := w1.sto n xs h3
            rw [had] at h5; cases h5
            have am : ad ∈ ρ := List.mem_of_getElem? had
            refine ⟨ad, _, zs, _, rfl, rfl, h6, hb, by rw [h7.length, rs.length]; exact hlen, ?_⟩
            show D.nx (σ.set i (some (.ref ad))) _
            rw [set_same hv]
            exact k φ ρ σ _ ⟨w1.setN had (h7.append rs), s1.ext (.at (w1.sub _ am)) w1.fl, .of (e1.trans (.at am))⟩
        · cases h
      · cases h
    · cases h
  · cases h

/-! ### loops -/
theorem okS_loop {tg iter : Expr} {body : List Stmt} {t : IT} {it : II} {b' : List IS} {pos : Pos} (hp : PassesOwn (model X.prog X.w) X.A X.env X.xe) (hc : X.calm = true) (hi : PI X tg iter (tI X.K T (evI G cl it))) (hg : PG X tg (tG X.K T t)) (hb : PSs X body (tS X.K T (fun env st => evSs G cl mu b' env st))) (hs : pln iter = true) :
    PS X (.For tg iter body [] pos) (tS X.K T (fun env st => evS G cl mu (.loop t it b') env st)) := by
  refine impS (ps_for hp hc hi hg hb (fun x => pln_fold hs _ x)) fun D σ H q => ?_
  obtain ⟨φ, ρ, env, st, f, ws, sl, h, k⟩ := q
  simp only [evS] at h
  split at h
  · rename_i xs kp st1 h1
    generalize hF : (fun (d : Ev.D) (env : Env) (s : Sto) => match bindT t d env with
        | some env1 => match evSs G cl mu b' env1 s with
          | some f => if keepFl kp f then some f else none
          | none => none
        | none => none) = F at h
    refine ⟨φ, ρ, env, st, xs, kp, st1, ws, sl, h1, fun J H1 p kk walk => ?_⟩
    have k1 : EndOk X.K T φ ρ H1 D f := k.pre (.of p.ext)
    have sub := p.ws.sub
    refine ⟨fun i m σ' Hh => m = xs.length - i ∧ i ≤ xs.length ∧ ∃ φ' ρ' env' st', Ws X.K T φ' ρ' Hh st' ∧ Sl X.K φ' ρ' Hh env' σ' ∧ Gs φ ρ H1 φ' ρ' Hh ∧ keptL st' kp = true ∧ forL F (xs.drop i) env' st' = some f,
      ⟨xs.length, by simp, Nat.zero_le _, φ, ρ, env, st1, p.ws, p.sl, .refl _ _ _, kk, h⟩, ?_⟩
    rintro i m σ' Hh ⟨rfl, hi, φ', ρ', env', st', w', s', g', kc, hf⟩
    have lt : Lt X.K T φ ρ H1 kp φ' ρ' Hh st' := ⟨w', kc, g'.gr sub, by obtain ⟨_, m, _, e, _⟩ := g'; exact ⟨m, e⟩⟩
    by_cases hlt : i < xs.length
    · refine .inr ⟨walk.goes i _ _ _ _ hlt lt, ?_⟩
      rw [show xs.drop i = xs[i] :: xs.drop (i + 1) from List.drop_eq_getElem_cons hlt] at hf
      simp only [forL] at hf
      refine ⟨fun σ2 H2 => ∃ e s, (F xs[i] env' st' = some (.nx e s) ∨ F xs[i] env' st' = some (.ct e s)) ∧ ∃ φ2 ρ2, Ws X.K T φ2 ρ2 H2 s ∧ Sl X.K φ2 ρ2 H2 e σ2 ∧ Gs φ ρ H1 φ2 ρ2 H2 ∧ keptL s kp = true, fun σ2 H2 hN => ?_, fun u Hy hy => ?_⟩
      · obtain ⟨e, s, he, φ2, ρ2, w2, s2, g2, k2⟩ := hN
        refine ⟨xs.length - (i + 1), by omega, rfl, hlt, φ2, ρ2, e, s, w2, s2, g2, k2, ?_⟩
        rcases he with he | he <;> (rw [he] at hf; exact hf)
      · obtain ⟨⟨d0, hd0, rd0⟩, hch⟩ := walk.yields i _ _ _ _ u Hy hlt lt hy
        have ed : d0 = xs[i] := by rw [List.getElem?_eq_getElem hlt] at hd0; exact (Option.some.inj hd0).symm
        subst ed
        obtain ⟨wy, sy, gy⟩ : Ws X.K T φ' ρ' Hy st' ∧ Sl X.K φ' ρ' Hy env' σ' ∧ Gs φ ρ H1 φ' ρ' Hy := by
          rcases hch with rfl | ⟨pp, oo, hp0, hoo, rfl⟩
          · exact ⟨w', s', g'⟩
          · exact ⟨w'.new hp0 hoo, s'.ext (.new hp0) w'.fl, g'.trans (.of (.new hp0))⟩
        have key : ∀ {r : Option Fl}, F xs[i] env' st' = r → r ≠ none := fun {r} e z => by rw [e, z] at hf; cases hf
        have hFx := (congrFun (congrFun (congrFun hF xs[i]) env') st').symm
        split at hFx
        · rename_i env1 hb1
          split at hFx
          · rename_i f0 hf0
            split at hFx
            · rename_i hk0
              refine ⟨φ', ρ', env', st', xs[i], env1, wy, sy, rd0, hb1, fun σ2 sl2 _ => ⟨φ', ρ', env1, st', f0, wy, sl2, hf0, ?_⟩⟩
              cases f0 with
              | nx e s => exact fun φ2 ρ2 σ3 H3 q => ⟨e, s, .inl hFx, φ2, ρ2, q.ws, q.sl, gy.trans q.gs, hk0⟩
              | ct e s => exact fun φ2 ρ2 σ3 H3 q => ⟨e, s, .inr hFx, φ2, ρ2, q.ws, q.sl, gy.trans q.gs, hk0⟩
              | bk e s =>
                rw [hFx] at hf
                cases hf
                exact fun φ2 ρ2 σ3 H3 q => k1 φ2 ρ2 σ3 H3 ⟨q.ws, q.sl, gy.trans q.gs⟩
              | rt r s =>
                rw [hFx] at hf
                cases hf
                exact k1.pre gy
            · exact absurd rfl (key hFx)
          · exact absurd rfl (key hFx)
        · exact absurd rfl (key hFx)
    · have e : i = xs.length := by omega
      subst e
      refine .inl ⟨walk.stops _ _ _ _ lt, ?_⟩
      rw [List.drop_length] at hf
      simp only [forL] at hf
      cases hf
      exact k1 φ' ρ' σ' Hh ⟨w', s', g'⟩
  · cases h
theorem okS_whl {c : Expr} {body : List Stmt} {c' : IE} {b' : List IS} {pos : Pos} (hp : PassesOwn (model X.prog X.w) X.A X.env X.xe) (hc : PT X c (tT X.K T (evE G cl c'))) (hb : PSs X body (tS X.K T (fun env st => evSs G cl mu b' env st))) :
    PS X (.While c body [] pos) (tS X.K T (fun env st => evS G cl mu (.whl c' b') env st)) := by
  refine impS (ps_while hp hc hb) fun D σ H q => ?_
  obtain ⟨φ, ρ, env, st, f, ws, sl, h, k⟩ := q
  simp only [evS] at h
  refine ⟨fun m σ' Hh => ∃ φ' ρ' env' st', Ws X.K T φ' ρ' Hh st' ∧ Sl X.K φ' ρ' Hh env' σ' ∧ Gs φ ρ H φ' ρ' Hh ∧ whlL (fun env st => tstE (evE G cl c' env st)) (fun env st => evSs G cl mu b' env st) m env' st' = some f,
    ⟨G.wf, φ, ρ, env, st, ws, sl, .refl _ _ _, h⟩, ?_⟩
  rintro m σ' Hh ⟨φ', ρ', env', st', w', s', g', hf⟩
  cases m with
  | zero => simp only [whlL] at hf; cases hf
  | succ m =>
    simp only [whlL] at hf
    split at hf
    · rename_i st1 h1
      refine seqT w' s' h1 fun H1 w1 s1 e1 => iteT ⟨fun σ2 H2 => ∃ e s, (evSs G cl mu b' env' st1 = some (.nx e s) ∨ evSs G cl mu b' env' st1 = some (.ct e s)) ∧ ∃ φ2 ρ2, Ws X.K T φ2 ρ2 H2 s ∧ Sl X.K φ2 ρ2 H2 e σ2 ∧ Gs φ ρ H φ2 ρ2 H2, fun σ2 H2 hN => ?_, ?_⟩
      · obtain ⟨e, s, he, φ2, ρ2, w2, s2, g2⟩ := hN
        refine ⟨m, Nat.lt_succ_self m, φ2, ρ2, e, s, w2, s2, g2, ?_⟩
        rcases he with he | he <;> (rw [he] at hf; exact hf)
      · have g1 := g'.trans (Gs.of e1)
        cases hbd : evSs G cl mu b' env' st1 with
        | none => rw [hbd] at hf; cases hf
        | some f0 =>
          refine ⟨φ', ρ', env', st1, f0, w1, s1, hbd, ?_⟩
          cases f0 with
          | nx e s => exact fun φ2 ρ2 σ3 H3 q => ⟨e, s, .inl rfl, φ2, ρ2, q.ws, q.sl, g1.trans q.gs⟩
          | ct e s => exact fun φ2 ρ2 σ3 H3 q => ⟨e, s, .inr rfl, φ2, ρ2, q.ws, q.sl, g1.trans q.gs⟩
          | bk e s =>
            rw [hbd] at hf
            cases hf
            exact fun φ2 ρ2 σ3 H3 q => k φ2 ρ2 σ3 H3 ⟨q.ws, q.sl, g1.trans q.gs⟩
          | rt r s =>
            rw [hbd] at hf
            cases hf
            exact k.pre g1
    · rename_i st1 h1
      cases hf
      exact seqT w' s' h1 fun H1 w1 s1 e1 => iteF (k φ' ρ' σ' H1 ⟨w1, s1, g'.trans (.of e1)⟩)
    · cases hf
end Ev
set_option linter.all false
set_option maxRecDepth 100000
set_option maxHeartbeats 4000000
/-! EvM: a lambda is made; sorted, as a rule. -/
namespace Ev
open PySem PySem.Spec L2 PyProof.Rows
section
variable {X : Cx} {pins : List (Addr × Obj)} {σ : L2.St} {H : Hp} {s : Shared} {T : List (Addr × Str)}
/-- what the making of a lambda does to what is tracked -/
def MadeL (H H1 : Hp) (P c' : Addr) (q : Str) : Prop := H1 = H ∨ ∃ (tb more : Array Value), H P = some (.tbl tb) ∧ H c' = none ∧ H1 = upd (upd H P (.tbl (tb ++ more))) c' (LamX.CodeO c' q)
theorem lm_make {cd P : Addr} {params : Arguments} {body : Expr} {scope : Scope} {pos : Pos} {E : Value → Shared → Prop} {Q : Value → Shared → Prop} {q : Str} (hq : X.env.qual ++ "<lambda>" = q) (I : Inv X pins σ H s) (TB : LamX.TabB X.base X.mg cd P) (hcode : X.env.code = .ref cd)
    (hm : (P, q) ∈ T) (hu : ∀ p ∈ T, p.1 = P → p.2 = q) (hT : LamX.Tabs T H) (hdef : defaultsOf params X.env = ([], [])) (hfree : ∀ y ∈ scope.names, y.2 = .free → ∃ c, X.env.cells.lookup y.1 = some c)
    (h : ∀ (f c' : Addr) (pm ctv : Value) (H1 : Hp) (s' : Shared), Inv X pins σ H1 s' → MadeL H H1 P c' q → LamX.Tabs T H1 →
      s'.heap.get? f = some (PySem.W.kla_obj "<lambda>" q params body scope (cloFrom X.env.cells scope.names []) pm c' ctv) → H1 f = none → f ∉ frs X.stack → H1 c' = some (LamX.CodeO c' q) → s'.heap.objs.size = f + 1 → Q (.ref f) s') :
    wpAny (model X.prog X.w) X.A (eval (.Lambda params body scope pos) X.env) Q E s := by
  subst hq
  obtain ⟨tb, tP, tOk, tIn⟩ := hT _ hm
  have gP : s.heap.get? P = some { cls := .none, data := .fields tb } := I.hok P _ tP
  have bP : s.heap.BuiltinsAt X.mg P := TB.bm.keeps I.bk
  have out : ∀ f, s.heap.objs.size ≤ f → f ∉ frs X.stack := fun f hf z => by
    rcases List.mem_cons.mp (I.stkSub _ z) with e | e
    · have lt := I.lt
      rw [← e] at lt
      exact absurd (Nat.lt_of_lt_of_le lt hf) (Nat.lt_irrefl _)
    · exact I.nofs hf e
  refine PySem.W.kla_eval hdef ?_
  cases hca : codeAmong pos tb.toList with
  | some cv =>
    obtain ⟨c', rfl, at'⟩ := tIn pos cv hca
    refine PySem.W.kla_makeFunctionHit (mg := X.mg) (c := cd) (P := P) (ps := tb) (closure_ok hfree) I.ok.glob (I.mod.glob.keeps I.bk) hcode (TB.code.keeps I.bk) gP tOk hca bP fun ctv h' tk hx hsz => ?_
    exact h h'.objs.size c' _ ctv H _ (I.kept (t' := tk) fun b o e => Heap.get?_push_of_some _ (hx b o e)) (.inl rfl) hT (Heap.get?_push_size _ rfl) (I.hok.fresh hsz) (out _ hsz) at' (Heap.size_push ..)
  | none =>
    refine PySem.W.kla_makeFunction (mg := X.mg) (c := cd) (P := P) (ps := tb) (closure_ok hfree) I.ok.glob (I.mod.glob.keeps I.bk) hcode (TB.code.keeps I.bk) gP tOk hca TB.gP bP fun c' ctv h' tk hx hge hlt hrec htb => ?_
    obtain ⟨c2, oc, vs, t, e2, hoc, hd, hv⟩ := hrec
    cases e2
    have nc : H c' = none := I.hok.fresh hge
    have hsz : s.heap.objs.size ≤ h'.objs.size := Nat.le_trans hge (Nat.le_of_lt hlt)
    have made : MadeL H (upd (upd H P (.tbl (tb ++ #[rawInt pos.line, rawInt pos.col, .ref c']))) c' (LamX.CodeO c' (X.env.qual ++ "<lambda>"))) P c' (X.env.qual ++ "<lambda>") := .inr ⟨tb, _, tP, nc, rfl⟩
    have I1 := LamX.inv_table (t' := tk) (more := #[rawInt pos.line, rawInt pos.col, .ref c']) (h' := h'.push (PySem.W.kla_obj "<lambda>" (X.env.qual ++ "<lambda>") params body scope (cloFrom X.env.cells scope.names []) ((X.mg "__name__").getD .none) c' ctv)) I tP
      (fun b o hb e => Heap.get?_push_of_some _ (hx b o hb e)) (Heap.get?_push_of_some _ htb) hge ⟨oc, vs, t, Heap.get?_push_of_some _ hoc, hd, hv⟩
    have same : ∀ b o, H b = some o → (∀ ps, o ≠ .tbl ps) → upd (upd H P (.tbl (tb ++ #[rawInt pos.line, rawInt pos.col, .ref c']))) c' (LamX.CodeO c' (X.env.qual ++ "<lambda>")) b = some o := fun b o e n => by
      have hb : b ≠ P := fun z => by rw [z, tP] at e; exact n _ (Option.some.inj e).symm
      rw [upd_ne (ne_of_none e nc), upd_ne hb]
      exact e
    have lst : (tb ++ #[rawInt pos.line, rawInt pos.col, .ref c']).toList = tb.toList ++ [rawInt pos.line, rawInt pos.col, .ref c'] := by simp
    refine h h'.objs.size c' _ ctv _ _ I1 made (fun p hp => ?_) (Heap.get?_push_size _ rfl) ?_ (out _ hsz) upd_same (Heap.size_push ..)
    · by_cases hb : p.1 = P
      · refine ⟨tb ++ #[rawInt pos.line, rawInt pos.col, .ref c'], by rw [hb, upd_ne (ne_of_none tP nc), upd_same], by rw [lst]; exact PySem.TriplesOk_snoc _ _ _ _ tOk, fun p' cv hcv => ?_⟩
        rw [hu p hp hb]
        rw [lst] at hcv
        rcases LamX.among_app _ tOk hcv with z | z
        · obtain ⟨c0, k1, k2⟩ := tIn p' cv z
          exact ⟨c0, k1, same _ _ k2 (LamX.codeO_ne)⟩
        · exact ⟨c', z, upd_same⟩
      · obtain ⟨t2, k1, k2, k3⟩ := hT p hp
        refine ⟨t2, by rw [upd_ne (ne_of_none k1 nc), upd_ne hb]; exact k1, k2, fun p' cv hcv => ?_⟩
        obtain ⟨c0, k4, k5⟩ := k3 p' cv hcv
        exact ⟨c0, k4, same _ _ k5 (LamX.codeO_ne)⟩
    · rw [upd_ne (Nat.ne_of_gt hlt), upd_ne (Nat.ne_of_gt (Nat.lt_of_lt_of_le (Heap.lt_size gP) hsz))]
      exact I.hok.fresh hsz
theorem MadeL.ext {H1 : Hp} {P c' : Addr} {q : Str} {ρ : List Addr} (m : MadeL H H1 P c' q) : Ext ρ H H1 := by
  rcases m with rfl | ⟨tb, more, h1, h2, rfl⟩
  · exact .refl _ _
  · refine ⟨fun b o e _ n => ?_, fun b e => ?_⟩
    · have hb : b ≠ P := fun z => by rw [z, h1] at e; exact n _ (Option.some.inj e).symm
      rw [upd_ne (ne_of_none e h2), upd_ne hb]
      exact e
    · by_cases z : b = c'
      · rw [z]; exact h2
      · rw [upd_ne z] at e
        by_cases z2 : b = P
        · rw [z2, upd_same] at e; cases e
        · rw [upd_ne z2] at e; exact e
theorem MadeL.ws {K : PySem.W.Frag} {H1 : Hp} {P c' : Addr} {q : Str} {φ ρ : List Addr} {st : Sto} (m : MadeL H H1 P c' q) (t : LamX.Tabs T H1) (w : Ws K T φ ρ H st) : Ws K T φ ρ H1 st := by
  have x : Ext φ H H1 := m.ext
  refine ⟨w.len, fun n ds e => ?_, w.nd, w.sub, fun a ha => ?_, t, fun a ps e => ?_⟩
  · obtain ⟨a, xs, h1, h2, h3⟩ := w.sto n ds e
    exact ⟨a, xs, h1, (m.ext (ρ := [])).keep _ _ h2 (by simp) (fun _ z => by cases z), h3.ext x w.fl⟩
  · obtain ⟨u, e, mu⟩ := w.fx a ha
    exact ⟨u, (m.ext (ρ := [])).keep _ _ e (by simp) (fun _ z => by subst z; exact mu), mu⟩
  · rcases m with rfl | ⟨tb, more, h1, h2, rfl⟩
    · exact w.tab.2 a ps e
    · by_cases z : a = c'
      · rw [z, upd_same] at e
        exact absurd (Option.some.inj e) (LamX.codeO_ne ps)
      · rw [upd_ne z] at e
        by_cases z2 : a = P
        · rw [z2]; exact w.tab.2 P tb h1
        · rw [upd_ne z2] at e; exact w.tab.2 a ps e
end
theorem sortE_some {F : D → Sto → Option (ER × Sto)} {rev : Bool} {xs : List D} {st st2 : Sto} {r : ER} (h : sortE F rev xs st = some (r, st2)) : ∃ is, KeysR F xs st is st2 ∧ xs.length ≤ 1000 ∧ r = .dat (.list ((sortK rev (xs.zip is)).map (·.1))) true := by
  unfold sortE at h
  split at h
  · rename_i ks st2 h1
    split at h
    · rename_i is h2
      split at h
      · rename_i hl
        cases h
        exact ⟨is, keysR_of F _ _ _ _ _ h1 h2, hl, rfl⟩
      · cases h
    · cases h
  · cases h
/-- where lambdas may be made -/
structure LamI (X : Cx) (T : List (Addr × Str)) (q : Str) : Prop where
  ex : ∃ c P, X.env.code = .ref c ∧ LamX.TabB X.base X.mg c P ∧ (P, q) ∈ T ∧ ∀ p ∈ T, p.1 = P → p.2 = q
  q : X.env.qual ++ "<lambda>" = q
/-- a lambda of one parameter, plainly -/
def lamP (x : Str) (p : Arguments) : Bool := match p with
  | ⟨[], [⟨y, _, _⟩], none, [], [], none, []⟩ => decide (x = y)
  | _ => false
theorem lamP_bind {x : Str} {params : Arguments} {body : Expr} {scope : Scope} (h : lamP x params = true) (q : Str) (cl : List (Str × Addr)) (pm cv ctv : Value) (u : Value) : bindArgs (PySem.W.kla_fn "<lambda>" q params body scope cl pm cv ctv) ⟨[u], []⟩ = pure [(x, u)] := by
  unfold lamP at h
  split at h
  · have h := of_decide_eq_true h
    subst h
    have hx : (x == x) = true := beq_self_eq_true x
    unfold bindArgs
    simp [PySem.W.kla_fn, seqItems?, List.lookup]
    rfl
  · cases h
theorem lamP_dflt {x : Str} {params : Arguments} {env : PySem.Env} (h : lamP x params = true) : defaultsOf params env = ([], []) := by
  unfold lamP at h
  split at h
  · rfl
  · cases h
/-- the keywords of the sort -/
def kwS (rev : Bool) (kws : List Keyword) (params : Arguments) (body : Expr) (scope : Scope) : Prop :=
  (∃ lp kp, kws = [⟨some (Str.ofString "key"), .Lambda params body scope lp, kp⟩] ∧ rev = false) ∨
  (∃ lp kp b j bp kp2, kws = [⟨some (Str.ofString "key"), .Lambda params body scope lp, kp⟩, ⟨some (Str.ofString "reverse"), .Constant (.bool b) j bp, kp2⟩] ∧ rev = b)
section
variable {X : Cx} {G : Pk} {cl : Str → List SV → Sto → Option (ER × Sto)} {T : List (Addr × Str)} {q x : Str} {params : Arguments} {body : Expr} {scope : Scope} {kws : List Keyword} {rev : Bool} {i : Nat} {k' a' : IE}
/-- the keywords evaluated: the lambda f, and what is handed on -/
theorem kws_run {pins : List (Addr × Obj)} {σ : L2.St} {H : Hp} {s : Shared} {pos : Pos} {R : List Value → Shared → Prop} (hk : kwS rev kws params body scope) (I : Inv X pins σ H s) (lam : LamI X T q) (L : Lm X.env.scope scope x) (hp : lamP x params = true) (hT : LamX.Tabs T H)
    (h : ∀ (f c' P : Addr) (pm ctv : Value) (H1 : Hp) (s' : Shared) (kvs : List Value), Inv X pins σ H1 s' → MadeL H H1 P c' q → LamX.Tabs T H1 →
      s'.heap.get? f = some (PySem.W.kla_obj "<lambda>" (X.env.qual ++ "<lambda>") params body scope (cloFrom X.env.cells scope.names []) pm c' ctv) → H1 f = none → f ∉ frs X.stack → H1 c' = some (LamX.CodeO c' (X.env.qual ++ "<lambda>")) → s'.heap.objs.size = f + 1 →
      (∀ (src : Value), argsOk "sorted" ⟨[src], ((backToKw pos (keywordEach kws X.env)).filterMap (·.1)).zip kvs⟩) → (∀ (src : Value), argsOk "list.sort" ⟨[src], ((backToKw pos (keywordEach kws X.env)).filterMap (·.1)).zip kvs⟩) →
      (∀ a, Builtin.«list.sort» ⟨[.ref a], ((backToKw pos (keywordEach kws X.env)).filterMap (·.1)).zip kvs⟩ = ksk_tree a (.ref f) rev) → R kvs s') :
    wpAny (model X.prog X.w) X.A (evalAll ((backToKw pos (keywordEach kws X.env)).map (·.2))) R X.xe s := by
  obtain ⟨cd, P, hcode, TB, hm, hu⟩ := lam.ex
  have hq := lam.q
  rcases hk with ⟨lp, kp, rfl, rfl⟩ | ⟨lp, kp, b, j, bp, kp2, rfl, rfl⟩
  · show wpAny _ _ (evalAll [(do let v ← eval (.Lambda params body scope lp) X.env; standAt pos; pure v)]) _ _ s
    refine wpAny_evalAll_cons (wpAny_bind (lm_make hq I TB hcode hm hu hT (lamP_dflt hp) (L.has I.ok) fun f c' pm ctv H1 s' I1 m t hf hn hfr hc hsf => wpAny_bind (wpAny_standAt (wpAny_pure (wpAny_evalAll_nil ?_)))))
    exact h f c' P pm ctv H1 s' _ I1 m t (by rw [hq]; exact hf) hn hfr (by rw [hq]; exact hc) hsf (fun src => ksk_s1 _ _) (fun src => ksk_l1 _ _) fun a => ksk_t1 _ _
  · show wpAny _ _ (evalAll [(do let v ← eval (.Lambda params body scope lp) X.env; standAt pos; pure v), (do let v ← eval (.Constant (.bool rev) j bp) X.env; standAt pos; pure v)]) _ _ s
    refine wpAny_evalAll_cons (wpAny_bind (lm_make hq I TB hcode hm hu hT (lamP_dflt hp) (L.has I.ok) fun f c' pm ctv H1 s' I1 m t hf hn hfr hc hsf => wpAny_bind (wpAny_standAt (wpAny_pure ?_))))
    refine wpAny_evalAll_cons (wpAny_bind (Constant_bool (wpAny_bind (wpAny_standAt (wpAny_pure (wpAny_evalAll_nil ?_))))))
    exact h f c' P pm ctv H1 s' _ I1 m t (by rw [hq]; exact hf) hn hfr (by rw [hq]; exact hc) hsf (fun src => ksk_s2 _ _ _) (fun src => ksk_l2 _ _ _) fun a => ksk_t2 _ _ _
theorem kws_flat (hk : kwS rev kws params body scope) (pos : Pos) (env : PySem.Env) : (backToKw pos (keywordEach kws env)).all (·.1.isSome) = true ∧ (backToKw pos (keywordEach kws env)).any (·.1.isNone) = false := by
  rcases hk with ⟨lp, kp, rfl, rfl⟩ | ⟨lp, kp, b, j, bp, kp2, rfl, rfl⟩ <;> exact ⟨rfl, rfl⟩
theorem ok_sortl {a : Expr} {p pos : Pos} (hk : kwS rev kws params body scope) (lam : LamI X T q) (L : Lm X.env.scope scope x) (hp : lamP x params = true) (hg : Gl X "sorted") (hm : X.mg "sorted" = none) (hroom : Room 0 X.A) (hi : X.N[i]? = some x) (hN : X.N.Nodup)
    (ha : PE X a (tF X.K T (evE G cl a'))) (hpl : pln a = true)
    (hbody : ∀ (s : Shared) (H : Hp) (f c' : Addr), PE (lmCx X X.A.in1.in1 s H scope f c' x) body (tF X.K T (evE G cl k'))) :
    PE X (.Call (.Name "sorted" p) [a] kws pos) (tF X.K T (evE G cl (.sortl a' i k' rev))) := by
  refine ⟨fun pins s σ H Q I qq => ?_⟩
  obtain ⟨φ, ρ, env, st, x0, st', ws, sl, he, k⟩ := qq
  simp only [evE] at he
  split at he
  · rename_i xr st1 h1
    split at he
    · rename_i xs h2
      obtain ⟨is, hkeys, hlen, rfl⟩ := sortE_some he
      refine wpAny_Call_Name_kw (ld_blt I hg hm boot_sorted ?_ (by decide) (by decide))
      have hargs := pa_cons (es := []) ha pa_nil (pln_star hpl _ _)
      refine PyProof.Rows.callWith_kw (thn (hargs.run pos pins s σ H (fun vs H1 => ∃ v, vs = [v] ∧ PostB X.K T φ ρ H H1 env σ st1 ∧ RR X.K φ ρ H1 xr v) I (seq1 ws sl h1 fun u H1 w1 s1 e1 r1 => ⟨u, rfl, ⟨w1, s1, e1⟩, r1⟩)) fun us s1 q1 => ?_) (by rw [pln_star hpl]; rfl) (by rw [pln_star hpl]; rfl) (kws_flat hk pos _).1 (kws_flat hk pos _).2
      obtain ⟨vs, H1, I1, rvs, v, rfl, pb, rr⟩ := q1
      cases rvs with
      | cons r0 rn =>
        cases rn
        refine kws_run hk I1 lam L hp pb.ws.tab.1 fun f c' P pm ctv H2 s2 kvs I2 made tabs hf hfn hfr hc hsf ao1 ao2 ht => ?_
        have w2 := made.ws tabs pb.ws
        have x2 : Ext φ H1 H2 := made.ext
        have rr2 := RS.ext x2 pb.ws.fl rr
        obtain ⟨l, vsV, rfl, hsq, rds⟩ := rd_view w2 rr2 h2
        obtain rfl : _ = Value.ref l := r0
        obtain ⟨its, rvl, hl, hz⟩ := I2.list (.inl (.inl hsq))
        refine sorted_shell (Pu := fun us h' => us = its ∧ s2.heap.objs.size ≤ h'.objs.size) (ao1 _) (fun x => ao2 _) (fun A' E' Q' _ hq => col_list hl.isList (by rw [← rvl.length]; exact hz) A' E' Q' hq) (fun us h' hu => by rw [hu.1, ← rvl.length]; exact hz) (fun us h' tk kp hu E' => ?_)
        obtain ⟨rfl, hsz⟩ := hu
        rw [ht]
        exact ksk_core I2 w2 (pb.sl.ext x2 pb.ws.fl) L hroom hi hN hf hfn hfr (lamP_bind hp) hc (fun s H => hbody s H f c') rvl rds hlen hkeys kp hsz fun p H' pp => k _ _ (pp.pre (pb.ext.trans made.ext))
    · cases he
  · cases he
theorem vals_nats : ∀ (l : List Value) (off : Nat), (∀ (j : Nat) v, l[j]? = some v → ∃ t, v = Value.int ((off + j : Nat) : Int) t) → Vals ((List.range' off l.length).map fun k => V.int ((k : Nat) : Int)) l
  | [], _, _ => .nil
  | v :: l, off, h => by
    have h0 := h 0 v rfl
    rw [List.length_cons, List.range'_succ, List.map_cons]
    refine .cons h0 (vals_nats l (off + 1) fun j u hu => ?_)
    have := h (j + 1) u (by simpa using hu)
    rw [show off + 1 + j = off + (j + 1) by omega]
    exact this
theorem rds_nats {K : PySem.W.Frag} {φ : List Addr} {H : Hp} : ∀ (l : List Nat), RDs K φ H (l.map fun k => V.int ((k : Nat) : Int)) (l.map fun k => PyData.int (0 + ((k : Nat) : Int)))
  | [] => .nil
  | k :: l => by
    refine .cons ?_ (rds_nats l)
    show RD K φ H (V.int ((k : Nat) : Int)) (PyData.int (0 + ((k : Nat) : Int)))
    rw [Int.zero_add]
    exact .int _
theorem ok_sortr {a : Expr} {p p2 pos2 pos : Pos} (hk : kwS rev kws params body scope) (lam : LamI X T q) (L : Lm X.env.scope scope x) (hp : lamP x params = true) (hg : Gl X "sorted") (hm : X.mg "sorted" = none) (hgr : Gl X "range") (hmr : X.mg "range" = none) (hroom : Room 0 X.A) (hi : X.N[i]? = some x) (hN : X.N.Nodup)
    (ha : PE X a (tF X.K T (evE G cl a'))) (hpl : pln a = true)
    (hbody : ∀ (s : Shared) (H : Hp) (f c' : Addr), PE (lmCx X X.A.in1.in1 s H scope f c' x) body (tF X.K T (evE G cl k'))) :
    PE X (.Call (.Name "sorted" p) [.Call (.Name "range" p2) [a] [] pos2] kws pos) (tF X.K T (evE G cl (.sortr a' i k' rev))) := by
  refine ⟨fun pins s σ H Q I qq => ?_⟩
  obtain ⟨φ, ρ, env, st, x0, st', ws, sl, he, k⟩ := qq
  simp only [evE] at he
  split at he
  · rename_i n fr st1 h1
    split at he
    · rename_i hn
      obtain ⟨is, hkeys, hlen, rfl⟩ := sortE_some he
      refine wpAny_Call_Name_kw (ld_blt I hg hm boot_sorted ?_ (by decide) (by decide))
      have hargs := pa_cons (es := []) ha pa_nil (pln_star hpl _ _)
      refine PyProof.Rows.callWith_kw ?_ rfl rfl (kws_flat hk pos _).1 (kws_flat hk pos _).2
      show wpAny _ _ (spliced ((false, eval (.Call (.Name "range" p2) [a] [] pos2) X.env) :: backTo pos (starEach [] X.env))) _ _ s
      refine Calls.spliced_cons (Call_ (ld_blt I hgr hmr boot_range (PyProof.Rows.callWith_type1 (thn (hargs.run pos2 pins s σ H (fun vs H1 => vs = [V.int n] ∧ PostB X.K T φ ρ H H1 env σ st1) I (seq1 ws sl h1 fun u H1 w1 s1 e1 r1 => ⟨by cases (show RD X.K φ H1 u (.int n) from r1); rfl, ⟨w1, s1, e1⟩⟩)) fun us s1 q1 => ?_) (pln_star hpl _ _) rfl)))
      obtain ⟨vs, H1, I1, rvs, rfl, pb⟩ := q1
      cases rvs with
      | cons r0 rn =>
        cases rn
        obtain ⟨t, rfl⟩ := r0
        refine call_range_1 ?_
        refine Calls.spliced_nil ?_
        -- the range stands, pinned
        have kp0 : ∀ b o, s1.heap.get? b = some o → (s1.heap.push { cls := .type "range", data := .fields #[.int 0 s1.toks, .int n t, .int 1 (s1.toks + 1)] }).get? b = some o := fun b o e => Heap.get?_push_of_some _ e
        have I1' : Inv X pins σ H1 { s1 with heap := s1.heap.push { cls := .type "range", data := .fields #[.int 0 s1.toks, .int n t, .int 1 (s1.toks + 1)] }, toks := s1.toks + 1 + 1 } := I1.kept kp0
        have I1p : Inv X ((s1.heap.objs.size, { cls := .type "range", data := .fields #[.int 0 s1.toks, .int n t, .int 1 (s1.toks + 1)] }) :: pins) σ H1 { s1 with heap := s1.heap.push { cls := .type "range", data := .fields #[.int 0 s1.toks, .int n t, .int 1 (s1.toks + 1)] }, toks := s1.toks + 1 + 1 } := by
          refine I1'.pins_of fun pp hpp => ?_
          rcases List.mem_cons.mp hpp with rfl | hpp
          · exact ⟨Heap.get?_push_size _ rfl, I1.hok.fresh (Nat.le_refl _), Nat.ne_of_gt I1.lt, I1.nofs (Nat.le_refl _), fun v z => by cases z⟩
          · exact I1'.pin pp (List.mem_append_right _ hpp)
        refine kws_run hk I1p lam L hp pb.ws.tab.1 fun f c' P pm ctv H2 s2 kvs I2 made tabs hf hfn hfr hc hsf ao1 ao2 ht => ?_
        have w2 := made.ws tabs pb.ws
        have x2 : Ext φ H1 H2 := made.ext
        have hr := (I2.pin (s1.heap.objs.size, { cls := .type "range", data := .fields #[.int 0 s1.toks, .int n t, .int 1 (s1.toks + 1)] }) (List.mem_append_right _ (List.mem_cons_self ..))).1
        have hr : IsRange s2.heap s1.heap.objs.size 0 n 1 s1.toks t (s1.toks + 1) := hr
        have hsm : Builtin.Range.small 0 n 1 = true := small_one (by omega) (by omega) (by omega) (by omega)
        have hrs : Builtin.Range.rangeSize 0 n 1 = (n.toNat : Nat) := by rw [rangeSize_one]; split <;> omega
        refine wpAny_mono (Q := EP X ((s1.heap.objs.size, { cls := .type "range", data := .fields #[.int 0 s1.toks, .int n t, .int 1 (s1.toks + 1)] }) :: pins) σ Q) ?_ (fun v s' hv => ?_) (fun _ _ z => z)
        · refine sorted_shell (Pu := fun us h' => Vals ((List.range' 0 n.toNat).map fun k => V.int ((k : Nat) : Int)) us ∧ s2.heap.objs.size ≤ h'.objs.size) (ao1 _) (fun x => ao2 _) (fun A' E' Q' hA hq => ?_) (fun us h' hu => ?_) (fun us h' tk kp hu E' => ?_)
          · refine collect_range (hA.trans hroom.hd) hr hsm hrs (by omega) fun h' tk acc kp hacc => hq _ _ _ kp ⟨?_, ?_⟩
            · have hz : acc.toList.length = n.toNat := by rw [Array.length_toList]; exact hacc.1
              rw [← hz]
              refine vals_nats acc.toList 0 fun j v hv => ?_
              obtain ⟨t', e⟩ := hacc.2 j v (by simpa using hv)
              refine ⟨t', ?_⟩
              rw [e]
              congr 1
              omega
            · rw [hsf]
              exact Heap.lt_size (kp f _ hf)
          · rw [← hu.1.length, List.length_map, List.length_range', sizeLine_eq]
            omega
          · rw [ht]
            refine ksk_core I2 w2 (pb.sl.ext x2 pb.ws.fl) L hroom hi hN hf hfn hfr (lamP_bind hp) hc (fun s H => hbody s H f c') hu.1 (xs := rngD 0 n) ?_ hlen hkeys kp hu.2 fun p H' pp => k _ _ (pp.pre (pb.ext.trans made.ext))
            unfold rngD
            rw [Int.sub_zero, List.range_eq_range']
            exact rds_nats _
        · obtain ⟨w', H', I', r', q'⟩ := hv
          exact ⟨w', H', I'.pins_of fun p hp => I'.pin p (List.mem_append_right _ (List.mem_cons_of_mem _ hp)), r', q'⟩
    · cases he
  · cases he
end
end Ev
set_option linter.all false
set_option maxRecDepth 100000
set_option maxHeartbeats 8000000
/-! EvQ: rows sorted; how many a set holds, as an expression. -/
namespace Ev
open PySem PySem.Spec L2
variable {K : PySem.W.Frag} {T : List (Addr × Str)} {X : Cx} {G : Pk} {cl : Str → List SV → Sto → Option (ER × Sto)}
/-! ### the order -/
theorem leD_sort (rev : Bool) : leD rev = W.sortLe (PyProof.Rows.listOrd PyProof.Rows.itemOrd) rev (fun d : D => W.keyToks d) := rfl
theorem leD_trans (rev : Bool) (a b c : D) (h1 : leD rev a b = true) (h2 : leD rev b c = true) : leD rev a c = true := by
  rw [leD_sort] at *
  exact (W.sortLe_total _ rev _).trans a b c h1 h2
theorem leD_total (rev : Bool) (a b : D) : (leD rev a b || leD rev b a) = true := by
  rw [leD_sort, Bool.or_eq_true]
  exact (W.sortLe_total _ rev _).total a b
theorem insD_eq (rev : Bool) (x : D) : ∀ l₁ l₂ : List D, (∀ b ∈ l₁, leD rev x b = false) → (∀ b ∈ l₂, leD rev x b = true) → insD rev x (l₁ ++ l₂) = l₁ ++ x :: l₂
  | [], [], _, _ => rfl
  | [], y :: l, _, h => by
    show (if leD rev x y = true then x :: y :: l else y :: insD rev x l) = _
    rw [if_pos (h y (List.mem_cons_self ..))]
    rfl
  | y :: l₁, l₂, h, h2 => by
    show (if leD rev x y = true then x :: y :: (l₁ ++ l₂) else y :: insD rev x (l₁ ++ l₂)) = _
    rw [if_neg (by rw [h y (List.mem_cons_self ..)]; exact Bool.false_ne_true), insD_eq rev x l₁ l₂ (fun b hb => h b (List.mem_cons_of_mem _ hb)) h2]
    rfl
theorem srtD_eq (rev : Bool) : ∀ l : List D, l.mergeSort (leD rev) = srtD rev l
  | [] => List.mergeSort_nil
  | x :: l => by
    obtain ⟨l₁, l₂, e1, e2, h⟩ := List.mergeSort_cons (leD_trans rev) (leD_total rev) x l
    have hp := List.pairwise_mergeSort (leD_trans rev) (leD_total rev) (x :: l)
    rw [e1] at hp
    rw [e1]
    show _ = insD rev x (srtD rev l)
    rw [← srtD_eq rev l, e2, insD_eq rev x l₁ l₂ (fun b hb => by simpa using h b hb) fun b hb => ?_]
    exact (List.pairwise_cons.mp (List.pairwise_append.mp hp).2.1).1 b hb
theorem depth_all : ∀ {xs : List D} {d : D}, d ∈ xs → d.depth ≤ PyData.depthAll xs
  | x :: xs, d, h => by
    simp only [PyData.depthAll]
    rcases List.mem_cons.mp h with e | e
    · rw [e]; exact Nat.le_max_left _ _
    · exact Nat.le_trans (depth_all e) (Nat.le_max_right _ _)
/-! ### the values -/
abbrev Rv (K : PySem.W.Frag) (φ : List Addr) (H : Hp) (u : Value) (d : D) : Prop := ∃ v, RelV v u ∧ RD K φ H v d
theorem each_rd {φ : List Addr} {H : Hp} : ∀ {vs : List V} {us : List Value} {ds : List D}, Vals vs us → RDs K φ H vs ds → W.EachIs (Rv K φ H) us ds
  | [], [], [], .nil, .nil => .nil
  | v :: vs, u :: us, d :: ds, .cons a b, .cons c e => .cons ⟨v, a, c⟩ (each_rd b e)
theorem rd_each {φ : List Addr} {H : Hp} : ∀ {us : List Value} {ds : List D}, W.EachIs (Rv K φ H) us ds → ∃ vs, Vals vs us ∧ RDs K φ H vs ds
  | _, _, .nil => ⟨[], .nil, .nil⟩
  | _, _, .cons ⟨v, a, c⟩ t => by
    obtain ⟨vs, b, e⟩ := rd_each t
    exact ⟨v :: vs, .cons a b, .cons c e⟩
theorem each_read {φ : List Addr} {H : Hp} {pins : List (Addr × Obj)} {σ : L2.St} {s : Shared} (I : Inv X pins σ H s) : ∀ {us : List Value} {ds : List D}, PyData.canLayAll0 ds = true → W.EachIs (Rv X.K φ H) us ds → W.EachIs (fun v b => ∃ as, Reads s.heap v ((fun d : D => d) b) as) us ds
  | _, _, _, .nil => .nil
  | _, _, c, .cons ⟨v, a, r⟩ t => by
    simp only [PyData.canLayAll0, Bool.and_eq_true] at c
    exact .cons (Dp.reads I _ v _ (r.dp c.1) a) (each_read I c.2 t)
/-- sorted, upwards or downwards -/
theorem srt_run {pins : List (Addr × Obj)} {s : Shared} {σ : L2.St} {H : Hp} {a : Addr} {ys : List V} {ds : List D} {φ : List Addr} {Q : VK} {rev : Bool} {kw : List (Str × Value)} (hu : X.A.units + 65 < cLine) (I : Inv X pins σ H s) (hp : H a = some (.lst ys)) (rd : RDs X.K φ H ys ds) (al : alkB ds = true) (hl : ds.length ≤ 1000)
    (hk : (rev = false ∧ kw = []) ∨ kw = [(Str.ofString "reverse", .bool rev)])
    (q : ∀ p zs, RDs X.K φ H zs (srtD rev ds) → H p = none → Q (.ref p) (upd H p (.lst zs))) : wpAny (model X.prog X.w) X.A (call (.builtin "sorted") [.ref a] kw) (EP X pins σ Q) X.xe s := by
  obtain ⟨h1, h2, h3, h4⟩ := alk_out al
  obtain ⟨its, rv, pl, hz⟩ := I.list (.inl (.inl hp))
  have e := each_rd rv rd
  have er := each_read I (alk_shAll h1) e
  have hal : W.AllAlike (ds.map fun d => d) := by
    rw [List.map_id']
    exact fun x hx y hy => h3 x hx y hy
  have hsk : W.Sortable (ds.map fun d => d) := by
    rw [List.map_id']
    exact .inl h2
  have hL : ds.length ≤ sizeLine := by rw [sizeLine_eq]; omega
  have hd : ∀ b, b ∈ ds → X.A.units + 2 + b.depth < cLine := fun b hb => by have := depth_all hb; omega
  have fin : ∀ out : List Value, out.length = ds.length → W.EachIs (Rv X.K φ H) out (ds.mergeSort (W.dataLe rev fun d => d)) → EP X pins σ Q (.ref (s.heap.objs.size + 1)) { s with heap := PyProof.Rows.sortedAll s.heap its (List.toArray out) } := fun out ho eo => by
    have ed : W.dataLe rev (fun d : D => d) = leD rev := rfl
    rw [ed, srtD_eq] at eo
    obtain ⟨zs, z1, z2⟩ := rd_each eo
    obtain ⟨ep, he'⟩ := PyProof.Rows.sortedAll_at s.heap its (List.toArray out)
    have hlen : zs.length ≤ sizeLine := by rw [z1.length, ho]; exact hL
    exact ⟨.ref _, upd H (s.heap.objs.size + 1) (.lst zs), I.laid (t' := s.toks) (fun _ _ => PyProof.Rows.sortedAll_old) (Nat.le_succ _) ⟨hlen, out, ep, z1, he'⟩, rfl, q _ zs z2 (I.hok.fresh (Nat.le_succ _))⟩
  rcases hk with ⟨rfl, rfl⟩ | rfl
  · exact W.sorted_data pl.isList e er hal hsk hL hd fin
  · exact W.sorted_rev_data pl.isList e er hal hsk hL hd fin
def rSrt (K : PySem.W.Frag) (rev : Bool) (vs : List V) (H : Hp) (Q : VK) : Prop :=
  ∃ a ys ds φ, vs = [.ref a] ∧ H a = some (.lst ys) ∧ RDs K φ H ys ds ∧ alkB ds = true ∧ ds.length ≤ 1000 ∧ ∀ p zs, RDs K φ H zs (srtD rev ds) → H p = none → Q (.ref p) (upd H p (.lst zs))
theorem cr_srt (hu : X.A.units + 65 < cLine) : CallR X (.builtin "sorted") (rSrt X.K false) := by
  intro pins s σ H vs us Q I r q
  obtain ⟨a, ys, ds, φ, rfl, hp, rd, al, hl, q⟩ := q
  obtain rfl := Vals.ref1 r
  exact srt_run hu I hp rd al hl (.inl ⟨rfl, rfl⟩) q
theorem cr_srtR {rev : Bool} (hu : X.A.units + 65 < cLine) : CallRK X (.builtin "sorted") [Str.ofString "reverse"] (fun vs zs H Q => zs = [.bl rev] ∧ rSrt X.K rev vs H Q) := by
  intro pins s σ H vs zs us ws Q I r rz q
  obtain ⟨rfl, a, ys, ds, φ, rfl, hp, rd, al, hl, q⟩ := q
  obtain rfl := Vals.ref1 r
  obtain ⟨w1, rfl, e1⟩ := vals1 rz
  obtain rfl : w1 = Value.bool rev := e1
  exact srt_run hu I hp rd al hl (.inr rfl) q
theorem srt_read {a' : IE} {rev : Bool} {σ : L2.St} {H : Hp} {Q : VK} (q : tF K T (evE G cl (.srt a' rev)) σ H Q) : tF K T (evE G cl a') σ H fun v H1 => rSrt K rev [v] H1 Q := by
  obtain ⟨φ, ρ, env, st, x, st', ws, sl, he, k⟩ := q
  simp only [evE] at he
  split at he
  · rename_i x1 st1 h1
    split at he
    · rename_i xs h2
      split at he
      · rename_i hc
        cases he
        simp only [Bool.and_eq_true, decide_eq_true_eq] at hc
        refine seq1 ws sl h1 fun u H1 w1 sl1 e1 r1 => ?_
        obtain ⟨p, ys, rfl, hp, rd⟩ := rd_view w1 r1 h2
        exact ⟨p, ys, xs, φ, rfl, hp, rd, hc.1, hc.2, fun p' zs rz hn => k _ _ ((Post.lst w1 sl1 hn rz).pre e1)⟩
      · cases he
    · cases he
  · cases he
theorem ok_srt {a : Expr} {a' : IE} {p pos : Pos} (hu : X.A.units + 65 < cLine) (hg : Gl X "sorted") (hm : X.mg "sorted" = none) (ha : PE X a (tF X.K T (evE G cl a'))) (hp : pln a = true) :
    PE X (.Call (.Name "sorted" p) [a] [] pos) (tF X.K T (evE G cl (.srt a' false))) :=
  imp (pe_callB (cr_srt hu) hg hm PyProof.Rows.boot_sorted (pa_cons ha pa_nil (pln_star hp _ _)) (he := pln_star hp _ _) (hpl := by rfl)) fun σ H Q q => srt_read q
theorem ok_srtR {a : Expr} {a' : IE} {p pos p1 p2 : Pos} {k : Nat} {rev : Bool} (hu : X.A.units + 65 < cLine) (hg : Gl X "sorted") (hm : X.mg "sorted" = none) (ha : PE X a (tF X.K T (evE G cl a'))) (hp : pln a = true) :
    PE X (.Call (.Name "sorted" p) [a] [⟨some (Str.ofString "reverse"), .Constant (.bool rev) k p1, p2⟩] pos) (tF X.K T (evE G cl (.srt a' rev))) :=
  imp (pe_callBK (cr_srtR hu) hg hm PyProof.Rows.boot_sorted (pa_cons ha pa_nil (pln_star hp _ _)) (pk_cons pe_bl pk_nil) (he := by rw [pln_star hp]; rfl) (hpl := by rw [pln_star hp]; rfl)) fun σ H Q q => by
    obtain ⟨φ, ρ, env, st, x, st', ws, sl, he, k⟩ := srt_read q
    exact ⟨φ, ρ, env, st, x, st', ws, sl, he, fun v H1 p => ⟨rfl, k v H1 p⟩⟩
/-! ### how many a set holds -/
theorem ok_card {elt tg iter tg1 iter1 : Expr} {ifs ifs1 : List Expr} {scope : Scope} {own : List (Str × Nat)} {vs1 : List Nat} {pos p cpos : Pos} {t t1 : IT} {it it1 : II} {cs cs1 : List IE} {e : IE} (hgl : Gl X "len") (hml : X.mg "len" = none) (hc : X.calm = true) (hN : X.N.Nodup) (hi : PI X tg iter (tI X.K T (evI G cl it))) (ok : BlkOk X.N X.env.scope scope own)
    (hv : ∀ i ∈ vs1, i ∈ own.map (·.2))
    (hg : ∀ (s : Shared) (H : Hp) (C : Addr) (cl : List (Str × Addr)) (fp : List Addr), PG (X.blk s H scope (compEnvC scope cl C X.env) fp) tg (tG X.K T t))
    (ht : ∀ (s : Shared) (H : Hp) (C : Addr) (cc : List (Str × Addr)) (fp : List Addr), PTs (X.blk s H scope (compEnvC scope cc C X.env) fp) ifs (tCs X.K T (evCs G cl cs)))
    (hi1 : ∀ (s : Shared) (H : Hp) (C : Addr) (cc : List (Str × Addr)) (fp : List Addr), PI (X.blk s H scope (compEnvC scope cc C X.env) fp) tg1 iter1 (tI X.K T (evI G cl it1)))
    (hg1 : ∀ (s : Shared) (H : Hp) (C : Addr) (cl : List (Str × Addr)) (fp : List Addr), PG (X.blk s H scope (compEnvC scope cl C X.env) fp) tg1 (tG X.K T t1))
    (ht1 : ∀ (s : Shared) (H : Hp) (C : Addr) (cc : List (Str × Addr)) (fp : List Addr), PTs (X.blk s H scope (compEnvC scope cc C X.env) fp) ifs1 (tCs X.K T (evCs G cl cs1)))
    (he : ∀ (s : Shared) (H : Hp) (C : Addr) (cc : List (Str × Addr)) (fp : List Addr), PE (X.blk s H scope (compEnvC scope cc C X.env) fp) elt (tF X.K T (evE G cl e)))
    (hs : pln iter = true) (hs1 : pln iter1 = true) (hown : ∀ i ∈ slT t, i ∈ own.map (·.2)) (hown1 : ∀ i ∈ slT t1, i ∈ vs1) :
    PE X (.Call (.Name "len" p) [scx elt tg iter tg1 iter1 ifs ifs1 scope pos] [] cpos) (tF X.K T (evE G cl (.card own vs1 t it cs t1 it1 cs1 e))) :=
  imp (pe_callB cr_lenN hgl hml boot_len (pa_cons (pe_sc2 hc hN hi ok hv ⟨fun s H C cl fp => hg s H C cl fp, fun s H C cl fp => ht s H C cl fp, fun s H C cl fp => hi1 s H C cl fp, fun s H C cl fp => hg1 s H C cl fp, fun s H C cl fp => ht1 s H C cl fp, fun s H C cl fp => he s H C cl fp⟩ (fun x => pln_fold hs _ x) (fun env x => pln_fold hs1 _ x)) pa_nil)) fun σ H Q q => card_read hown hown1 σ H Q q
end Ev
set_option linter.all false
set_option maxRecDepth 100000
set_option maxHeartbeats 8000000
/-! Ev12: a function's text held against its program in the small language: expressions. -/
namespace Ev
open PySem PySem.Spec L2

structure Sx where
  N : List Str
  sc : Scope
  tg : Str → Bool
  q : Option Str
def visB (sc : Scope) (x : Str) : Bool := match sc.names.lookup x with
  | some .local => true
  | some .cell => true
  | some .free => true
  | _ => false
def gloB (sc : Scope) (x : Str) : Bool := match sc.names.lookup x with
  | some .globalImplicit => true
  | _ => false
def ownB (sc : Scope) (x : Str) : Bool := match sc.names.lookup x with
  | some .local => true
  | some .cell => true
  | _ => false
def nmB (x : Str) : Bool := !(x == ("__debug__" : Str)) && !(x == ("__classdict__" : Str))
def tyB (t : String) : Bool := ["int", "bool", "tuple", "str", "list", "dict"].contains t
def Sx.blk (s : Sx) (scope : Scope) : Sx := ⟨s.N, relS scope s.sc, ownB scope, none⟩
/-- a lambda's names -/
def Sx.lam (s : Sx) (scope : Scope) : Sx := ⟨s.N, scope, fun _ => false, none⟩
mutual
def chT : IT → Sx → Expr → Bool
  | .nm i, s, e => match e with
    | .Name x _ => decide (s.N[i]? = some x) && s.tg x
    | _ => false
  | .tp ts, s, e => match e with
    | .Tuple es _ _ => decide (es.length = ts.length) && chTs ts s es
    | _ => false
def chTs : List IT → Sx → List Expr → Bool
  | [], _, es => match es with
    | [] => true
    | _ => false
  | t :: ts, s, es => match es with
    | e :: es => plnT e && chT t s e && chTs ts s es
    | [] => false
end
section
variable (fs : List (Str × List Str)) (bl : List Str) (G : Pk)
def glB (s : Sx) (x : Str) : Bool := gloB s.sc x && nmB x
def blB (s : Sx) (x : Str) : Bool := gloB s.sc x && nmB x && bl.contains x
mutual
def chE : IE → Sx → Expr → Bool
  | .int i, _, e => match e with
    | .Constant (.int j) _ _ => decide (i = j)
    | _ => false
  | .str x, _, e => match e with
    | .Constant (.str y) _ _ => decide (x = y)
    | _ => false
  | .bl b, _, e => match e with
    | .Constant (.bool c) _ _ => b == c
    | _ => false
  | .non, _, e => match e with
    | .Constant .none _ _ => true
    | _ => false
  | .slot i, s, e => match e with
    | .Name x _ => decide (s.N[i]? = some x) && visB s.sc x && nmB x
    | _ => false
  | .con y, s, e => match e with
    | .Name x _ => decide (x = y) && glB s x && (G.con y).isSome
    | _ => false
  | .tup es, s, e => match e with
    | .Tuple l _ _ => chEs es s l
    | _ => false
  | .lst es, s, e => match e with
    | .List l _ => chEs es s l
    | _ => false
  | .bin o a b, s, e => match e with
    | .BinOp l op r _ => decide (o = op) && chE a s l && chE b s r
    | _ => false
  | .neg a, s, e => match e with
    | .UnaryOp .USub l _ => chE a s l
    | _ => false
  | .no a, s, e => match e with
    | .UnaryOp .Not l _ => chE a s l
    | _ => false
  | .land a b, s, e => match e with
    | .BoolOp .And [l, r] _ => chE a s l && chE b s r
    | .BoolOp .And (l :: r :: q :: rest) p => chE a s l && chE b s (.BoolOp .And (r :: q :: rest) p)
    | _ => false
  | .lor a b, s, e => match e with
    | .BoolOp .Or [l, r] _ => chE a s l && chE b s r
    | .BoolOp .Or (l :: r :: q :: rest) p => chE a s l && chE b s (.BoolOp .Or (r :: q :: rest) p)
    | _ => false
  | .cmp o a b, s, e => match e with
    | .Compare l [op] [r] _ => decide (o = op) && pln r && chE a s l && chE b s r
    | _ => false
  | .cmp2 o p a b c, s, e => match e with
    | .Compare l [op, oq] [m, r] _ => decide (o = op) && decide (p = oq) && pln r && chE a s l && chE b s m && chE c s r
    | _ => false
  | .ite c a b, s, e => match e with
    | .IfExp t x y _ => chE c s t && chE a s x && chE b s y
    | _ => false
  | .call f es, s, e => match e with
    | .Call (.Name g _) (l :: ls) [] _ => decide (f = g) && glB s f && decide ((fs.lookup f).map List.length = some es.length) && (l :: ls).all pln && chEs es s (l :: ls)
    | .Call (.Name g _) [] [] _ => decide (f = g) && glB s f && decide (fs.lookup f = some []) && es.isEmpty
    | _ => false
  | .blt f es, s, e => match e with
    | .Call (.Name g _) (l :: ls) [] _ => decide (g = f.nm) && blB bl s g && (l :: ls).all pln && chEs es s (l :: ls)
    | _ => false
  | .isi a t, s, e => match e with
    | .Call (.Name g _) [l, .Name h _] [] _ => decide (g = "isinstance") && blB bl s g && decide (h = Str.ofString t) && blB bl s h && tyB t && pln l && chE a s l
    | _ => false
  | .idx a b, s, e => match e with
    | .Subscript l r _ => pln r && chE a s l && chE b s r
    | _ => false
  | .cut a lo hi, s, e => match e with
    | .Subscript l (.Slice x y none _) _ => chE a s l && chO lo s x && chO hi s y
    | _ => false
  | .rev _, _, _ => false
  | .look g a, s, e => match e with
    | .Subscript (.Name h _) r _ => decide (g = h) && glB s h && (G.dic g).isSome && pln r && chE a s r
    | _ => false
  | .mth m a es, s, e => match e with
    | .Call (.Attribute (.Name x p) n ap) (l :: ls) [] cp => decide (m = n) && (ap.endLine == cp.line) && decide ((l :: ls).length < 29) && (l :: ls).all pln && chE a s (.Name x p) && chEs es s (l :: ls)
    | _ => false
  | .fld a f, s, e => match e with
    | .Attribute (.Name x p) n _ => decide (f = n) && chE a s (.Name x p)
    | _ => false
  | .new f es, s, e => match e with
    | .Call (.Name g _) (l :: ls) [] _ => decide (f = g) && glB s f && decide ((G.nws.lookup f).map List.length = some es.length) && (l :: ls).all pln && chEs es s (l :: ls)
    | _ => false
  | .indx3 a b c, s, e => match e with
    | .Call (.Attribute (.Attribute (.Name x p) f fp) m ap) [r, q] [] cp => decide (m = "index") && pln r && pln q && (ap.endLine == cp.line) && chE a s (.Attribute (.Name x p) f fp) && chE b s r && chE c s q
    | _ => false
  | .callk f ks es ix, s, e => match e with
    | .Call (.Name g _) [] kws _ => decide (f = g) && glB s f && decide ((f, ks, ix) ∈ G.kc) && decide (kws.map (·.arg) = ks.map some) && decide (es.length = ks.length) && chKs es s kws
    | _ => false
  | .lc own t it cs e', s, e => match e with
    | .ListComp elt [⟨tg, iter, ifs, 0⟩] scope _ => blkC s.N s.sc scope own && pln iter && (slT t).all (own.map (·.2)).contains && chI it s tg iter && chT t (s.blk scope) tg && chCs cs (s.blk scope) ifs && chE e' (s.blk scope) elt
    | _ => false
  | .dc own t it cs k e', s, e => match e with
    | .DictComp kx vx [⟨tg, iter, ifs, 0⟩] scope _ => blkC s.N s.sc scope own && pln iter && (slT t).all (own.map (·.2)).contains && chI it s tg iter && chT t (s.blk scope) tg && chCs cs (s.blk scope) ifs && chE k (s.blk scope) kx && chE e' (s.blk scope) vx
    | _ => false
  | .lc2 own vs1 t it cs t1 it1 cs1 e', s, e => match e with
    | .ListComp elt [⟨tg, iter, ifs, 0⟩, ⟨tg1, iter1, ifs1, 0⟩] scope _ => blkC s.N s.sc scope own && pln iter && pln iter1 && (slT t).all (own.map (·.2)).contains && vs1.all (own.map (·.2)).contains && (slT t1).all vs1.contains &&
        chI it s tg iter && chT t (s.blk scope) tg && chCs cs (s.blk scope) ifs && chI it1 (s.blk scope) tg1 iter1 && chT t1 (s.blk scope) tg1 && chCs cs1 (s.blk scope) ifs1 && chE e' (s.blk scope) elt
    | _ => false
  | .sortl a i k rev, s, e => match e with
    | .Call (.Name g _) [l] [⟨some kn, .Lambda params body scope _, _⟩] _ => decide (g = "sorted") && blB bl s g && pln l && s.q.isSome && chE a s l && decide (kn = Str.ofString "key") && !rev &&
        lamP ((s.N[i]?).getD "") params && lmB s.sc scope ((s.N[i]?).getD "") && (s.N[i]?).isSome && chE k (s.lam scope) body
    | .Call (.Name g _) [l] [⟨some kn, .Lambda params body scope _, _⟩, ⟨some rn, .Constant (.bool b) _ _, _⟩] _ => decide (g = "sorted") && blB bl s g && pln l && s.q.isSome && chE a s l && decide (kn = Str.ofString "key") && (rev == b) &&
        lamP ((s.N[i]?).getD "") params && lmB s.sc scope ((s.N[i]?).getD "") && (s.N[i]?).isSome && chE k (s.lam scope) body && decide (rn = Str.ofString "reverse")
    | _ => false
  | .sortr a i k rev, s, e => match e with
    | .Call (.Name g _) [.Call (.Name h _) [l] [] _] [⟨some kn, .Lambda params body scope _, _⟩] _ => decide (g = "sorted") && blB bl s g && decide (h = "range") && blB bl s h && pln l && s.q.isSome && chE a s l && decide (kn = Str.ofString "key") && !rev &&
        lamP ((s.N[i]?).getD "") params && lmB s.sc scope ((s.N[i]?).getD "") && (s.N[i]?).isSome && chE k (s.lam scope) body
    | .Call (.Name g _) [.Call (.Name h _) [l] [] _] [⟨some kn, .Lambda params body scope _, _⟩, ⟨some rn, .Constant (.bool b) _ _, _⟩] _ => decide (g = "sorted") && blB bl s g && decide (h = "range") && blB bl s h && pln l && s.q.isSome && chE a s l && decide (kn = Str.ofString "key") && (rev == b) &&
        lamP ((s.N[i]?).getD "") params && lmB s.sc scope ((s.N[i]?).getD "") && (s.N[i]?).isSome && chE k (s.lam scope) body && decide (rn = Str.ofString "reverse")
    | _ => false
  | .indx a b, s, e => match e with
    | .Call (.Attribute (.Name x p) m ap) [r] [] cp => decide (m = "index") && pln r && (ap.endLine == cp.line) && chE a s (.Name x p) && chE b s r
    | _ => false
  | .card own vs1 t it cs t1 it1 cs1 e', s, e => match e with
    | .Call (.Name g _) [.SetComp elt [⟨tg, iter, ifs, 0⟩, ⟨tg1, iter1, ifs1, 0⟩] scope _] [] _ => decide (g = "len") && blB bl s g && (blkC s.N s.sc scope own && pln iter && pln iter1 && (slT t).all (own.map (·.2)).contains && vs1.all (own.map (·.2)).contains && (slT t1).all vs1.contains &&
        chI it s tg iter && chT t (s.blk scope) tg && chCs cs (s.blk scope) ifs && chI it1 (s.blk scope) tg1 iter1 && chT t1 (s.blk scope) tg1 && chCs cs1 (s.blk scope) ifs1 && chE e' (s.blk scope) elt)
    | _ => false
  | .srt a rev, s, e => match e with
    | .Call (.Name g _) [l] [] _ => decide (g = "sorted") && blB bl s g && pln l && !rev && chE a s l
    | .Call (.Name g _) [l] [⟨some rn, .Constant (.bool b) _ _, _⟩] _ => decide (g = "sorted") && blB bl s g && pln l && decide (rn = Str.ofString "reverse") && (rev == b) && chE a s l
    | _ => false
  | .slen i, s, e => match e with
    | .Call (.Name g _) [.Name x _] [] _ => decide (g = "len") && blB bl s g && decide (s.N[i]? = some x) && visB s.sc x && nmB x
    | _ => false
  | .sidx i a, s, e => match e with
    | .Subscript (.Name x _) r _ => decide (s.N[i]? = some x) && visB s.sc x && nmB x && pln r && chE a s r
    | _ => false
def chEs : List IE → Sx → List Expr → Bool
  | [], _, es => match es with
    | [] => true
    | _ => false
  | a :: as, s, es => match es with
    | e :: es => pln e && chE a s e && chEs as s es
    | [] => false
def chKs : List IE → Sx → List Keyword → Bool
  | [], _, es => match es with
    | [] => true
    | _ => false
  | a :: as, s, es => match es with
    | ⟨_, e, _⟩ :: es => chE a s e && chKs as s es
    | [] => false
def chO : Option IE → Sx → Option Expr → Bool
  | none, _, x => match x with
    | none => true
    | _ => false
  | some a, s, x => match x with
    | some e => chE a s e
    | none => false
def chCs : List IE → Sx → List Expr → Bool
  | [], _, es => match es with
    | [] => true
    | _ => false
  | [c], s, es => match es with
    | [e] => chE c s e
    | _ => false
  | _, _, _ => false
def chI : II → Sx → Expr → Expr → Bool
  | .of a, s, _, e => chE a s e
  | .rng es, s, _, e => match e with
    | .Call (.Name g _) [x] [] _ => decide (g = "range") && blB bl s g && decide (es.length = 1) && chEs es s [x]
    | .Call (.Name g _) [x, y] [] _ => decide (g = "range") && blB bl s g && decide (es.length = 2) && chEs es s [x, y]
    | _ => false
  | .enm a, s, tg, e => match tg with
    | .Tuple .. => match e with
      | .Call (.Name g _) [x] [] _ => decide (g = "enumerate") && blB bl s g && pln x && chE a s x
      | _ => false
    | _ => false
  | .zip a b, s, tg, e => match tg with
    | .Tuple .. => match e with
      | .Call (.Name g _) [x, y] [] _ => decide (g = "zip") && blB bl s g && pln x && pln y && chE a s x && chE b s y
      | _ => false
    | _ => false
end
end

structure Gd (fs : List (Str × List Str)) (bl : List Str) (G : Pk) (T : List (Addr × Str)) (n : Nat) (cl : Str → List SV → Sto → Option (ER × Sto)) (s : Sx) (X : Cx) : Prop where
  N : X.N = s.N
  sc : X.env.scope = s.sc
  nd : X.N.Nodup
  tg : ∀ x, s.tg x = true → Loc X.env.scope x ∧ (X.fn x = true ∨ X.env.scope.names.lookup x = some .local)
  calm : X.calm = true
  room : Room n X.A
  gu : X.A.guards = some []
  ck : ClOk X.prog X.w X.K X.mg X.base T n cl fs G
  fl : FlOk X.K G.fl
  bl : ∀ x ∈ bl, X.mg x = none
  con : ∀ x d, G.con x = some d → ∃ u v, X.mg x = some u ∧ RelV v u ∧ ∀ φ H, RD X.K φ H v d
  dic : ∀ g kvs, G.dic g = some kvs → ∃ p, X.mg g = some (.ref p) ∧ ∀ k d, kvs.lookup k = some d → ∃ v, KDct X.K X.w p k v ∧ ∀ φ H, RD X.K φ H v d
  lam : ∀ q, s.q = some q → LamI X T q ∧ Room (n + 1) X.A
section
variable {fs : List (Str × List Str)} {bl : List Str} {G : Pk} {T : List (Addr × Str)} {n : Nat} {cl : Str → List SV → Sto → Option (ER × Sto)} {s : Sx} {X : Cx}
theorem Gd.vis (g : Gd fs bl G T n cl s X) {x : Str} (h : visB s.sc x = true) : Vis X.env.scope x := by
  unfold visB at h
  rw [← g.sc] at h
  split at h
  · exact .inl (by assumption)
  · exact .inr (.inl (by assumption))
  · exact .inr (.inr (by assumption))
  · cases h
theorem nm1 {x : Str} (h : nmB x = true) : (x == ("__debug__" : Str)) = false := by
  simp only [nmB, Bool.and_eq_true, Bool.not_eq_true'] at h; exact h.1
theorem nm2 {x : Str} (h : nmB x = true) : (x == ("__classdict__" : Str)) = false := by
  simp only [nmB, Bool.and_eq_true, Bool.not_eq_true'] at h; exact h.2
theorem Gd.gl (g : Gd fs bl G T n cl s X) {x : Str} (h : gloB s.sc x = true) : Gl X x := by
  unfold gloB at h
  rw [← g.sc] at h
  split at h
  · assumption
  · cases h
theorem Gd.bt (g : Gd fs bl G T n cl s X) {x : Str} (h : blB bl s x = true) : Gl X x ∧ X.mg x = none := by
  simp only [blB, Bool.and_eq_true] at h
  exact ⟨g.gl h.1.1, g.bl x (by simpa using h.2)⟩
theorem Gd.var (g : Gd fs bl G T n cl s X) {x : Str} {i : Nat} {pos : Pos} (h1 : s.N[i]? = some x) (h2 : visB s.sc x = true) (h3 : nmB x = true) : PE X (.Name x pos) (tVar i) :=
  pe_var (by rw [g.N]; exact h1) (g.vis h2) (nm1 h3) (nm2 h3)
theorem Gd.u (g : Gd fs bl G T n cl s X) : X.A.units + 65 < cLine := by have := g.room.un; omega
/-- a comprehension's block -/
theorem Gd.blk (g : Gd fs bl G T n cl s X) {scope : Scope} (st : Shared) (H : Hp) (C : Addr) (cc : List (Str × Addr)) (fp : List Addr) : Gd fs bl G T n cl (s.blk scope) (X.blk st H scope (compEnvC scope cc C X.env) fp) := by
  have hsc : (compEnvC scope cc C X.env).scope = relS scope s.sc := by rw [← g.sc]; rfl
  refine ⟨g.N, hsc, g.nd, fun x h => ?_, g.calm, g.room, g.gu, g.ck, g.fl, g.bl, g.con, g.dic, fun q z => by cases z⟩
  have h : ownB scope x = true := h
  show Loc (compEnvC scope cc C X.env).scope x ∧ ((scope.names.lookup x == some .cell) = true ∨ (compEnvC scope cc C X.env).scope.names.lookup x = some .local)
  rw [hsc]
  unfold ownB at h
  split at h
  · rename_i hl
    have e := lookup_relS_keep (sc := s.sc) (k := .local) (by decide) hl
    exact ⟨.inl e, .inr e⟩
  · rename_i hl
    have e := lookup_relS_keep (sc := s.sc) (k := .cell) (by decide) hl
    exact ⟨.inr e, .inl (by rw [hl]; rfl)⟩
  · cases h
/-- a lambda's body -/
theorem Gd.lm (g : Gd fs bl G T n cl s X) {scope : Scope} (hr : Room (n + 1) X.A) (st : Shared) (H : Hp) (f c' : Addr) (x : Str) : Gd fs bl G T n cl (s.lam scope) (lmCx X X.A.in1.in1 st H scope f c' x) :=
  ⟨g.N, rfl, g.nd, (fun x h => by cases h), rfl, ⟨hr.hd, by have := hr.dp; show X.A.depth + 1 + 3 * n + 5 < _; omega, by have := hr.un; show X.A.units + 1 + 1 + 3 + 16 * n + 200 < _; omega⟩, g.gu, g.ck, g.fl, g.bl, g.con, g.dic, fun q z => by cases z⟩
mutual
theorem sndT : ∀ (t : IT) (s : Sx) (X : Cx) (e : Expr), Gd fs bl G T n cl s X → chT t s e = true → PG X e (tG X.K T t)
  | .nm i, s, X, e, g, h => by
    simp only [chT] at h
    split at h
    · simp only [Bool.and_eq_true, decide_eq_true_eq] at h
      obtain ⟨h1, h2⟩ := g.tg _ h.2
      exact okg_nm g.nd (by rw [g.N]; exact h.1) h1 h2
    · cases h
  | .tp ts, s, X, e, g, h => by
    simp only [chT] at h
    split at h
    · simp only [Bool.and_eq_true, decide_eq_true_eq] at h
      obtain ⟨h1, h2⟩ := sndTs ts s X _ g h.2
      exact okg_tp g.calm h1 h.1 h2
    · cases h
theorem sndTs : ∀ (ts : List IT) (s : Sx) (X : Cx) (es : List Expr), Gd fs bl G T n cl s X → chTs ts s es = true → es.all plnT = true ∧ PGs X es (tGs X.K T ts)
  | [], s, X, es, g, h => by
    simp only [chTs] at h
    split at h
    · exact ⟨rfl, okgs_nil⟩
    · cases h
  | t :: ts, s, X, es, g, h => by
    simp only [chTs] at h
    split at h
    · simp only [Bool.and_eq_true] at h
      obtain ⟨h1, h2⟩ := sndTs ts s X _ g h.2
      exact ⟨by rw [List.all_cons, h.1.1, h1]; rfl, okgs_cons h.1.1 (sndT t s X _ g h.1.2) h2⟩
    · cases h
end
end
end Ev
set_option linter.all false
set_option maxRecDepth 100000
set_option maxHeartbeats 8000000
/-! Ev13: what the static check is good for: expressions. -/
namespace Ev
open PySem PySem.Spec L2
def isBO : Expr → Bool
  | .BoolOp .. => true
  | _ => false
structure Ok (T : List (Addr × Str)) (F : Env → Sto → Option (ER × Sto)) (X : Cx) (e : Expr) : Prop where
  pe : PE X e (tF X.K T F)
  pt : PT X e (tT X.K T F)
  pw : isBO e = true → PW X e (tT X.K T F)
theorem Ok.pl {T : List (Addr × Str)} {F : Env → Sto → Option (ER × Sto)} {X : Cx} {e : Expr} (he : PE X e (tF X.K T F)) (h : ∀ whole, isTrue e X.env whole = (do let v ← whole; standAt e.pos; holding [v] (truthy v))) (hb : isBO e = false) : Ok T F X e :=
  ⟨he, pt_plain he h, fun z => by rw [hb] at z; cases z⟩
theorem Ok.tt {T : List (Addr × Str)} {F : Env → Sto → Option (ER × Sto)} {X : Cx} {e : Expr} (he : PE X e (tF X.K T F)) (h : PT X e (tT X.K T F)) (hb : isBO e = false) : Ok T F X e :=
  ⟨he, h, fun z => by rw [hb] at z; cases z⟩
variable {fs : List (Str × List Str)} {bl : List Str} {G : Pk} {T : List (Addr × Str)} {n : Nat} {cl : Str → List SV → Sto → Option (ER × Sto)}
theorem ty_facts {t : String} (h : tyB t = true) : bootBuiltins (Str.ofString t) = some (.type t) ∧ Str.ofString t ≠ "__name__" ∧ (Str.ofString t == ("__debug__" : Str)) = false := by
  simp only [tyB, List.contains_eq_mem, List.mem_cons, List.not_mem_nil, or_false, decide_eq_true_eq] at h
  rcases h with rfl | rfl | rfl | rfl | rfl | rfl <;> decide +kernel
theorem all_mem {xs ys : List Nat} (h : xs.all ys.contains = true) : ∀ i ∈ xs, i ∈ ys := fun i hi => by
  have := List.all_eq_true.mp h i hi
  simpa using this
mutual
theorem snd : ∀ (c : IE) (s : Sx) (X : Cx) (e : Expr), Gd fs bl G T n cl s X → chE fs bl G c s e = true → Ok T (evE G cl c) X e
  | .int i, s, X, e, g, h => by
    simp only [chE] at h
    split at h
    · simp only [decide_eq_true_eq] at h
      subst h
      exact .pl (ok_const pe_int (fun env st => by simp only [evE]) fun φ H => .int _) (by intro _; rfl) rfl
    · cases h
  | .str x, s, X, e, g, h => by
    simp only [chE] at h
    split at h
    · simp only [decide_eq_true_eq] at h
      subst h
      exact .pl (ok_const pe_str (fun env st => by simp only [evE]) fun φ H => .str _) (by intro _; rfl) rfl
    · cases h
  | .bl b, s, X, e, g, h => by
    simp only [chE] at h
    split at h
    · have h := eq_of_beq h
      subst h
      exact .pl (ok_const pe_bl (fun env st => by simp only [evE]) fun φ H => .bl _) (by intro _; rfl) rfl
    · cases h
  | .non, s, X, e, g, h => by
    simp only [chE] at h
    split at h
    · exact .pl (ok_const pe_non (fun env st => by simp only [evE]) fun φ H => .non) (by intro _; rfl) rfl
    · cases h
  | .slot i, s, X, e, g, h => by
    simp only [chE] at h
    split at h
    · simp only [Bool.and_eq_true, decide_eq_true_eq] at h
      exact .pl (ok_slot (g.var h.1.1 h.1.2 h.2)) (by intro _; rfl) rfl
    · cases h
  | .con y, s, X, e, g, h => by
    simp only [chE] at h
    split at h
    · simp only [Bool.and_eq_true, decide_eq_true_eq, glB] at h
      obtain ⟨⟨rfl, h1, h2⟩, h3⟩ := h
      obtain ⟨d, hd⟩ := Option.isSome_iff_exists.mp h3
      obtain ⟨u, v, hu, r, rd⟩ := g.con _ d hd
      exact .pl (ok_con (pe_glob (g.gl h1) hu r (nm1 h2)) hd rd) (by intro _; rfl) rfl
    · cases h
  | .tup es, s, X, e, g, h => by
    simp only [chE] at h
    split at h
    · exact .pl (ok_tup (sndEs es s X _ g h).2.2) (by intro _; rfl) rfl
    · cases h
  | .lst es, s, X, e, g, h => by
    simp only [chE] at h
    split at h
    · exact .pl (ok_lst (sndEs es s X _ g h).2.2) (by intro _; rfl) rfl
    · cases h
  | .bin o a b, s, X, e, g, h => by
    simp only [chE] at h
    split at h
    · simp only [Bool.and_eq_true, decide_eq_true_eq] at h
      obtain ⟨⟨rfl, h1⟩, h2⟩ := h
      exact .pl (ok_bin (snd a s X _ g h1).pe (snd b s X _ g h2).pe) (by intro _; rfl) rfl
    · cases h
  | .neg a, s, X, e, g, h => by
    simp only [chE] at h
    split at h
    · exact .pl (ok_neg (snd a s X _ g h).pe) (by intro _; rfl) rfl
    · cases h
  | .no a, s, X, e, g, h => by
    simp only [chE] at h
    split at h
    · have i := snd a s X _ g h
      exact .tt (ok_no i.pe) (okT_no i.pt) rfl
    · cases h
  | .land a b, s, X, e, g, h => by
    simp only [chE] at h
    split at h
    · simp only [Bool.and_eq_true] at h
      have i := snd a s X _ g h.1
      have j := snd b s X _ g h.2
      exact ⟨ok_land i.pe (pe_one j.pe), (okW_land (rest := []) i.pt (pw_and1 j.pt)).pt, fun _ => okW_land (rest := []) i.pt (pw_and1 j.pt)⟩
    · simp only [Bool.and_eq_true] at h
      have i := snd a s X _ g h.1
      have j := snd b s X _ g h.2
      have w := okW_land i.pt (j.pw rfl)
      exact ⟨ok_land i.pe j.pe, w.pt, fun _ => w⟩
    · cases h
  | .lor a b, s, X, e, g, h => by
    simp only [chE] at h
    split at h
    · simp only [Bool.and_eq_true] at h
      have i := snd a s X _ g h.1
      have j := snd b s X _ g h.2
      exact ⟨ok_lor i.pe (pe_one j.pe), (okW_lor (rest := []) i.pt (pw_or1 j.pt)).pt, fun _ => okW_lor (rest := []) i.pt (pw_or1 j.pt)⟩
    · simp only [Bool.and_eq_true] at h
      have i := snd a s X _ g h.1
      have j := snd b s X _ g h.2
      have w := okW_lor i.pt (j.pw rfl)
      exact ⟨ok_lor i.pe j.pe, w.pt, fun _ => w⟩
    · cases h
  | .cmp o a b, s, X, e, g, h => by
    simp only [chE] at h
    split at h
    · simp only [Bool.and_eq_true, decide_eq_true_eq] at h
      obtain ⟨⟨⟨rfl, h1⟩, h2⟩, h3⟩ := h
      have i := snd a s X _ g h2
      have j := snd b s X _ g h3
      exact .tt (ok_cmp g.u i.pe j.pe h1) (okT_cmp g.u i.pe j.pe h1) rfl
    · cases h
  | .cmp2 o p a b c, s, X, e, g, h => by
    simp only [chE] at h
    split at h
    · simp only [Bool.and_eq_true, decide_eq_true_eq] at h
      obtain ⟨⟨⟨⟨⟨rfl, rfl⟩, h1⟩, h2⟩, h3⟩, h4⟩ := h
      have i := snd a s X _ g h2
      have j := snd b s X _ g h3
      have l := snd c s X _ g h4
      exact .tt (ok_cmp2 g.u i.pe j.pe l.pe h1) (okT_cmp2 g.u i.pe j.pe l.pe h1) rfl
    · cases h
  | .ite c a b, s, X, e, g, h => by
    simp only [chE] at h
    split at h
    · simp only [Bool.and_eq_true] at h
      have i := snd c s X _ g h.1.1
      have j := snd a s X _ g h.1.2
      have l := snd b s X _ g h.2
      exact .tt (ok_ite i.pt j.pe l.pe) (okT_ite i.pt j.pt l.pt) rfl
    · cases h
  | .call f es, s, X, e, g, h => by
    simp only [chE] at h
    split at h
    · simp only [Bool.and_eq_true, decide_eq_true_eq, glB] at h
      obtain ⟨⟨⟨⟨rfl, h1, h2⟩, h3⟩, h4⟩, h5⟩ := h
      cases hf : fs.lookup f with
      | none => rw [hf] at h3; cases h3
      | some ps =>
        rw [hf] at h3
        have hl : ps.length = es.length := by simpa using h3
        exact .pl (ok_call g.ck hf g.room g.gu (g.gl h1) (nm1 h2) hl (sndEs es s X _ g h5).2.1 h4) (by intro _; rfl) rfl
    · simp only [Bool.and_eq_true, decide_eq_true_eq, glB] at h
      obtain ⟨⟨⟨rfl, h1, h2⟩, h3⟩, h4⟩ := h
      cases es with
      | nil => exact .pl (ok_call0 g.ck h3 g.room g.gu (g.gl h1) (nm1 h2)) (by intro _; rfl) rfl
      | cons _ _ => cases h4
    · cases h
  | .blt f es, s, X, e, g, h => by
    simp only [chE] at h
    split at h
    · simp only [Bool.and_eq_true, decide_eq_true_eq] at h
      obtain ⟨⟨⟨rfl, h1⟩, h4⟩, h5⟩ := h
      exact .pl (ok_blt g.calm g.gu g.u (g.bt h1).1 (g.bt h1).2 (sndEs es s X _ g h5).2.1 h4) (by intro _; rfl) rfl
    · cases h
  | .isi a t, s, X, e, g, h => by
    simp only [chE] at h
    split at h
    · simp only [Bool.and_eq_true, decide_eq_true_eq] at h
      obtain ⟨⟨⟨⟨⟨⟨rfl, h1⟩, rfl⟩, h2⟩, h3⟩, h4⟩, h5⟩ := h
      obtain ⟨f1, f2, f3⟩ := ty_facts h3
      exact .pl (ok_isi (g.bt h1).1 (g.bt h1).2 (g.bt h2).1 (g.bt h2).2 f1 f2 f3 (snd a s X _ g h5).pe h4) (by intro _; rfl) rfl
    · cases h
  | .idx a b, s, X, e, g, h => by
    simp only [chE] at h
    split at h
    · simp only [Bool.and_eq_true] at h
      exact .pl (ok_idx g.u (snd a s X _ g h.1.2).pe (snd b s X _ g h.2).pe h.1.1) (by intro _; rfl) rfl
    · cases h
  | .cut a lo hi, s, X, e, g, h => by
    simp only [chE] at h
    split at h
    · simp only [Bool.and_eq_true] at h
      exact .pl (ok_cut (snd a s X _ g h.1.1).pe (sndO lo s X _ g h.1.2) (sndO hi s X _ g h.2)) (by intro _; rfl) rfl
    · cases h
  | .rev a, s, X, e, g, h => by simp only [chE] at h; cases h
  | .look gg a, s, X, e, g, h => by
    simp only [chE] at h
    split at h
    · simp only [Bool.and_eq_true, decide_eq_true_eq, glB] at h
      obtain ⟨⟨⟨⟨rfl, h1, h2⟩, h3⟩, h4⟩, h5⟩ := h
      obtain ⟨kvs, hd⟩ := Option.isSome_iff_exists.mp h3
      obtain ⟨p, hp, hv⟩ := g.dic _ kvs hd
      exact .pl (ok_look (p2 := default) (g.gl h1) hp (nm1 h2) hd hv (snd a s X _ g h5).pe h4) (by intro _; rfl) rfl
    · cases h
  | .mth m a es, s, X, e, g, h => by
    simp only [chE] at h
    split at h
    · simp only [Bool.and_eq_true, decide_eq_true_eq] at h
      obtain ⟨⟨⟨⟨⟨rfl, h1⟩, h2⟩, h3⟩, h4⟩, h5⟩ := h
      exact .pl (ok_mth g.ck g.room g.gu (snd a s X _ g h4).pe (sndEs es s X _ g h5).2.1 h3 h1 h2) (by intro _; rfl) rfl
    · cases h
  | .fld a f, s, X, e, g, h => by
    simp only [chE] at h
    split at h
    · simp only [Bool.and_eq_true, decide_eq_true_eq] at h
      obtain ⟨rfl, h1⟩ := h
      exact .pl (ok_fld g.fl (snd a s X _ g h1).pe) (by intro _; rfl) rfl
    · cases h
  | .new f es, s, X, e, g, h => by
    simp only [chE] at h
    split at h
    · simp only [Bool.and_eq_true, decide_eq_true_eq, glB] at h
      obtain ⟨⟨⟨⟨rfl, h1, h2⟩, h3⟩, h4⟩, h5⟩ := h
      cases hf : G.nws.lookup f with
      | none => rw [hf] at h3; cases h3
      | some ps =>
        rw [hf] at h3
        have hl : ps.length = es.length := by simpa using h3
        exact .pl (ok_new g.ck hf g.room g.gu (g.gl h1) (nm1 h2) hl (sndEs es s X _ g h5).2.1 h4) (by intro _; rfl) rfl
    · cases h
  | .indx3 a b c, s, X, e, g, h => by
    simp only [chE] at h
    split at h
    · simp only [Bool.and_eq_true, decide_eq_true_eq] at h
      obtain ⟨⟨⟨⟨⟨⟨rfl, h1⟩, h2⟩, h3⟩, h4⟩, h5⟩, h6⟩ := h
      exact .pl (ok_indx3 g.u (snd a s X _ g h4).pe (snd b s X _ g h5).pe (snd c s X _ g h6).pe h1 h2 h3) (by intro _; rfl) rfl
    · cases h
  | .callk f ks es ix, s, X, e, g, h => by
    simp only [chE] at h
    split at h
    · simp only [Bool.and_eq_true, decide_eq_true_eq, glB] at h
      obtain ⟨⟨⟨⟨⟨rfl, h1, h2⟩, h3⟩, h4⟩, h5⟩, h6⟩ := h
      exact .pl (ok_callk g.ck h3 g.room g.gu (g.gl h1) (nm1 h2) h4 h5 (sndKs es s X _ g h6)) (by intro _; rfl) rfl
    · cases h
  | .lc own t it cs e', s, X, e, g, h => by
    simp only [chE] at h
    split at h
    · simp only [Bool.and_eq_true] at h
      obtain ⟨⟨⟨⟨⟨⟨h1, h2⟩, h3⟩, h4⟩, h5⟩, h6⟩, h7⟩ := h
      refine .pl (ok_lc g.calm g.nd (sndI it s X _ _ g h4) (blkOk_by (by rw [g.N, g.sc]; exact h1)) (fun st H C cc fp => sndT t _ _ _ (g.blk st H C cc fp) h5)
        (fun st H C cc fp => sndCs cs _ _ _ (g.blk st H C cc fp) h6) (fun st H C cc fp => (snd e' _ _ _ (g.blk st H C cc fp) h7).pe) h2 (all_mem h3)) (by intro _; rfl) rfl
    · cases h
  | .dc own t it cs k e', s, X, e, g, h => by
    simp only [chE] at h
    split at h
    · simp only [Bool.and_eq_true] at h
      obtain ⟨⟨⟨⟨⟨⟨⟨h1, h2⟩, h3⟩, h4⟩, h5⟩, h6⟩, h7⟩, h8⟩ := h
      refine .pl (ok_dc g.calm g.nd (sndI it s X _ _ g h4) (blkOk_by (by rw [g.N, g.sc]; exact h1)) (fun st H C cc fp => sndT t _ _ _ (g.blk st H C cc fp) h5)
        (fun st H C cc fp => sndCs cs _ _ _ (g.blk st H C cc fp) h6) (fun st H C cc fp => (snd k _ _ _ (g.blk st H C cc fp) h7).pe) (fun st H C cc fp => (snd e' _ _ _ (g.blk st H C cc fp) h8).pe) h2 (all_mem h3)) (by intro _; rfl) rfl
    · cases h
  | .lc2 own vs1 t it cs t1 it1 cs1 e', s, X, e, g, h => by
    simp only [chE] at h
    split at h
    · simp only [Bool.and_eq_true] at h
      obtain ⟨⟨⟨⟨⟨⟨⟨⟨⟨⟨⟨⟨h1, h2⟩, h3⟩, h4⟩, h5⟩, h6⟩, h7⟩, h8⟩, h9⟩, ha⟩, hb⟩, hc⟩, hd⟩ := h
      refine .pl (ok_lc2 g.calm g.nd (sndI it s X _ _ g h7) (blkOk_by (by rw [g.N, g.sc]; exact h1)) (all_mem h5) (fun st H C cc fp => sndT t _ _ _ (g.blk st H C cc fp) h8)
        (fun st H C cc fp => sndCs cs _ _ _ (g.blk st H C cc fp) h9) (fun st H C cc fp => sndI it1 _ _ _ _ (g.blk st H C cc fp) ha) (fun st H C cc fp => sndT t1 _ _ _ (g.blk st H C cc fp) hb)
        (fun st H C cc fp => sndCs cs1 _ _ _ (g.blk st H C cc fp) hc) (fun st H C cc fp => (snd e' _ _ _ (g.blk st H C cc fp) hd).pe) h2 h3 (all_mem h4) (all_mem h6)) (by intro _; rfl) rfl
    · cases h
  | .sortl a i k rev, s, X, e, g, h => by
    simp only [chE] at h
    split at h
    · simp only [Bool.and_eq_true, decide_eq_true_eq, Bool.not_eq_true'] at h
      obtain ⟨⟨⟨⟨⟨⟨⟨⟨⟨⟨rfl, h1⟩, h3⟩, h4⟩, h5⟩, rfl⟩, h7⟩, h8⟩, h9⟩, ha⟩, hb⟩ := h
      obtain ⟨x, hx⟩ := Option.isSome_iff_exists.mp ha
      rw [hx] at h8 h9
      obtain ⟨q, hq⟩ := Option.isSome_iff_exists.mp h4
      obtain ⟨lam, hr⟩ := g.lam q hq
      exact .pl (ok_sortl (.inl ⟨_, _, rfl, h7⟩) lam (lm_by (by rw [g.sc]; exact h9)) h8 (g.bt h1).1 (g.bt h1).2 (g.room.mono (Nat.zero_le _)) (by rw [g.N]; exact hx) g.nd (snd a s X _ g h5).pe h3 (fun st H f c' => (snd k _ _ _ (g.lm hr st H f c' x) hb).pe)) (by intro _; rfl) rfl
    · simp only [Bool.and_eq_true, decide_eq_true_eq, Bool.not_eq_true'] at h
      obtain ⟨⟨⟨⟨⟨⟨⟨⟨⟨⟨⟨rfl, h1⟩, h3⟩, h4⟩, h5⟩, rfl⟩, h7⟩, h8⟩, h9⟩, ha⟩, hb⟩, rfl⟩ := h
      obtain ⟨x, hx⟩ := Option.isSome_iff_exists.mp ha
      rw [hx] at h8 h9
      obtain ⟨q, hq⟩ := Option.isSome_iff_exists.mp h4
      obtain ⟨lam, hr⟩ := g.lam q hq
      exact .pl (ok_sortl (.inr ⟨_, _, _, _, _, _, rfl, eq_of_beq h7⟩) lam (lm_by (by rw [g.sc]; exact h9)) h8 (g.bt h1).1 (g.bt h1).2 (g.room.mono (Nat.zero_le _)) (by rw [g.N]; exact hx) g.nd (snd a s X _ g h5).pe h3 (fun st H f c' => (snd k _ _ _ (g.lm hr st H f c' x) hb).pe)) (by intro _; rfl) rfl
    · cases h
  | .sortr a i k rev, s, X, e, g, h => by
    simp only [chE] at h
    split at h
    · simp only [Bool.and_eq_true, decide_eq_true_eq, Bool.not_eq_true'] at h
      obtain ⟨⟨⟨⟨⟨⟨⟨⟨⟨⟨⟨⟨rfl, h1⟩, rfl⟩, h2⟩, h3⟩, h4⟩, h5⟩, rfl⟩, h7⟩, h8⟩, h9⟩, ha⟩, hb⟩ := h
      obtain ⟨x, hx⟩ := Option.isSome_iff_exists.mp ha
      rw [hx] at h8 h9
      obtain ⟨q, hq⟩ := Option.isSome_iff_exists.mp h4
      obtain ⟨lam, hr⟩ := g.lam q hq
      exact .pl (ok_sortr (.inl ⟨_, _, rfl, h7⟩) lam (lm_by (by rw [g.sc]; exact h9)) h8 (g.bt h1).1 (g.bt h1).2 (g.bt h2).1 (g.bt h2).2 (g.room.mono (Nat.zero_le _)) (by rw [g.N]; exact hx) g.nd (snd a s X _ g h5).pe h3 (fun st H f c' => (snd k _ _ _ (g.lm hr st H f c' x) hb).pe)) (by intro _; rfl) rfl
    · simp only [Bool.and_eq_true, decide_eq_true_eq, Bool.not_eq_true'] at h
      obtain ⟨⟨⟨⟨⟨⟨⟨⟨⟨⟨⟨⟨⟨rfl, h1⟩, rfl⟩, h2⟩, h3⟩, h4⟩, h5⟩, rfl⟩, h7⟩, h8⟩, h9⟩, ha⟩, hb⟩, rfl⟩ := h
      obtain ⟨x, hx⟩ := Option.isSome_iff_exists.mp ha
      rw [hx] at h8 h9
      obtain ⟨q, hq⟩ := Option.isSome_iff_exists.mp h4
      obtain ⟨lam, hr⟩ := g.lam q hq
      exact .pl (ok_sortr (.inr ⟨_, _, _, _, _, _, rfl, eq_of_beq h7⟩) lam (lm_by (by rw [g.sc]; exact h9)) h8 (g.bt h1).1 (g.bt h1).2 (g.bt h2).1 (g.bt h2).2 (g.room.mono (Nat.zero_le _)) (by rw [g.N]; exact hx) g.nd (snd a s X _ g h5).pe h3 (fun st H f c' => (snd k _ _ _ (g.lm hr st H f c' x) hb).pe)) (by intro _; rfl) rfl
    · cases h
  | .indx a b, s, X, e, g, h => by
    simp only [chE] at h
    split at h
    · simp only [Bool.and_eq_true, decide_eq_true_eq] at h
      obtain ⟨⟨⟨⟨rfl, h1⟩, h2⟩, h3⟩, h4⟩ := h
      exact .pl (ok_indx g.u (snd a s X _ g h3).pe (snd b s X _ g h4).pe h1 h2) (by intro _; rfl) rfl
    · cases h
  | .card own vs1 t it cs t1 it1 cs1 e', s, X, e, g, h => by
    simp only [chE] at h
    split at h
    · rw [Bool.and_eq_true, Bool.and_eq_true] at h
      obtain ⟨⟨h0, hb0⟩, h⟩ := h
      simp only [decide_eq_true_eq] at h0
      subst h0
      simp only [Bool.and_eq_true] at h
      obtain ⟨⟨⟨⟨⟨⟨⟨⟨⟨⟨⟨⟨h1, h2⟩, h3⟩, h4⟩, h5⟩, h6⟩, h7⟩, h8⟩, h9⟩, ha⟩, hb⟩, hc⟩, hd⟩ := h
      refine .pl (ok_card (g.bt hb0).1 (g.bt hb0).2 g.calm g.nd (sndI it s X _ _ g h7) (blkOk_by (by rw [g.N, g.sc]; exact h1)) (all_mem h5) (fun st H C cc fp => sndT t _ _ _ (g.blk st H C cc fp) h8)
        (fun st H C cc fp => sndCs cs _ _ _ (g.blk st H C cc fp) h9) (fun st H C cc fp => sndI it1 _ _ _ _ (g.blk st H C cc fp) ha) (fun st H C cc fp => sndT t1 _ _ _ (g.blk st H C cc fp) hb)
        (fun st H C cc fp => sndCs cs1 _ _ _ (g.blk st H C cc fp) hc) (fun st H C cc fp => (snd e' _ _ _ (g.blk st H C cc fp) hd).pe) h2 h3 (all_mem h4) (all_mem h6)) (by intro _; rfl) rfl
    · cases h
  | .srt a rev, s, X, e, g, h => by
    simp only [chE] at h
    split at h
    · simp only [Bool.and_eq_true, decide_eq_true_eq, Bool.not_eq_true'] at h
      obtain ⟨⟨⟨⟨rfl, h1⟩, h2⟩, rfl⟩, h3⟩ := h
      exact .pl (ok_srt g.u (g.bt h1).1 (g.bt h1).2 (snd a s X _ g h3).pe h2) (by intro _; rfl) rfl
    · simp only [Bool.and_eq_true, decide_eq_true_eq] at h
      obtain ⟨⟨⟨⟨⟨rfl, h1⟩, h2⟩, rfl⟩, h4⟩, h3⟩ := h
      rw [eq_of_beq h4]
      exact .pl (ok_srtR g.u (g.bt h1).1 (g.bt h1).2 (snd a s X _ g h3).pe h2) (by intro _; rfl) rfl
    · cases h
  | .slen i, s, X, e, g, h => by
    simp only [chE] at h
    split at h
    · simp only [Bool.and_eq_true, decide_eq_true_eq] at h
      obtain ⟨⟨⟨⟨rfl, h1⟩, h2⟩, h3⟩, h4⟩ := h
      exact .pl (ok_slen (g.bt h1).1 (g.bt h1).2 (g.var h2 h3 h4) rfl) (by intro _; rfl) rfl
    · cases h
  | .sidx i a, s, X, e, g, h => by
    simp only [chE] at h
    split at h
    · simp only [Bool.and_eq_true, decide_eq_true_eq] at h
      obtain ⟨⟨⟨⟨h1, h2⟩, h3⟩, h4⟩, h5⟩ := h
      exact .pl (ok_sidx (g.var h1 h2 h3) (snd a s X _ g h5).pe h4) (by intro _; rfl) rfl
    · cases h
theorem sndEs : ∀ (cs : List IE) (s : Sx) (X : Cx) (es : List Expr), Gd fs bl G T n cl s X → chEs fs bl G cs s es = true → es.all pln = true ∧ PA X es (tFs X.K T (evEs G cl cs)) ∧ PA X es (tDs X.K T (evDs G cl cs))
  | [], s, X, es, g, h => by
    simp only [chEs] at h
    split at h
    · exact ⟨rfl, oks_nil, okd_nil⟩
    · cases h
  | a :: as, s, X, es, g, h => by
    simp only [chEs] at h
    split at h
    · simp only [Bool.and_eq_true] at h
      have i := snd a s X _ g h.1.2
      obtain ⟨j1, j2, j3⟩ := sndEs as s X _ g h.2
      exact ⟨by rw [List.all_cons, h.1.1, j1]; rfl, oks_cons h.1.1 i.pe j2, okd_cons h.1.1 i.pe j3⟩
    · cases h
theorem sndKs : ∀ (cs : List IE) (s : Sx) (X : Cx) (es : List Keyword), Gd fs bl G T n cl s X → chKs fs bl G cs s es = true → PK X es (tFs X.K T (evEs G cl cs))
  | [], s, X, es, g, h => by
    simp only [chKs] at h
    split at h
    · exact okk_nil
    · cases h
  | a :: as, s, X, es, g, h => by
    simp only [chKs] at h
    split at h
    · simp only [Bool.and_eq_true] at h
      exact okk_cons (snd a s X _ g h.1).pe (sndKs as s X _ g h.2)
    · cases h
theorem sndO : ∀ (c : Option IE) (s : Sx) (X : Cx) (e : Option Expr), Gd fs bl G T n cl s X → chO fs bl G c s e = true → PO X e (tOO X.K T (evO G cl c))
  | none, s, X, e, g, h => by
    simp only [chO] at h
    split at h
    · exact oko_none
    · cases h
  | some a, s, X, e, g, h => by
    simp only [chO] at h
    split at h
    · exact oko_some (snd a s X _ g h).pe
    · cases h
theorem sndCs : ∀ (cs : List IE) (s : Sx) (X : Cx) (es : List Expr), Gd fs bl G T n cl s X → chCs fs bl G cs s es = true → PTs X es (tCs X.K T (evCs G cl cs))
  | [], s, X, es, g, h => by
    simp only [chCs] at h
    split at h
    · exact okc_nil
    · cases h
  | [c], s, X, es, g, h => by
    simp only [chCs] at h
    split at h
    · exact okc_one (snd c s X _ g h).pt
    · cases h
  | _ :: _ :: _, s, X, es, g, h => by simp only [chCs] at h; cases h
theorem sndI : ∀ (c : II) (s : Sx) (X : Cx) (tg e : Expr), Gd fs bl G T n cl s X → chI fs bl G c s tg e = true → PI X tg e (tI X.K T (evI G cl c))
  | .of a, s, X, tg, e, g, h => by
    simp only [chI] at h
    exact oki_of (snd a s X _ g h).pe
  | .rng es, s, X, tg, e, g, h => by
    simp only [chI] at h
    split at h
    · simp only [Bool.and_eq_true, decide_eq_true_eq] at h
      obtain ⟨⟨⟨rfl, h1⟩, h2⟩, h3⟩ := h
      obtain ⟨j1, j2, j3⟩ := sndEs es s X _ g h3
      simp only [List.all_cons, List.all_nil, Bool.and_true] at j1
      exact oki_rng1 (g.bt h1).1 (g.bt h1).2 j3 h2 j1
    · simp only [Bool.and_eq_true, decide_eq_true_eq] at h
      obtain ⟨⟨⟨rfl, h1⟩, h2⟩, h3⟩ := h
      obtain ⟨j1, j2, j3⟩ := sndEs es s X _ g h3
      simp only [List.all_cons, List.all_nil, Bool.and_true, Bool.and_eq_true] at j1
      exact oki_rng2 (g.bt h1).1 (g.bt h1).2 j3 h2 j1.1 j1.2
    · cases h
  | .enm a, s, X, tg, e, g, h => by
    simp only [chI] at h
    split at h
    · split at h
      · simp only [Bool.and_eq_true, decide_eq_true_eq] at h
        obtain ⟨⟨⟨rfl, h1⟩, h2⟩, h3⟩ := h
        exact oki_enm (g.bt h1).1 (g.bt h1).2 (snd a s X _ g h3).pe h2
      · cases h
    · cases h
  | .zip a b, s, X, tg, e, g, h => by
    simp only [chI] at h
    split at h
    · split at h
      · simp only [Bool.and_eq_true, decide_eq_true_eq] at h
        obtain ⟨⟨⟨⟨⟨rfl, h1⟩, h2⟩, h3⟩, h4⟩, h5⟩ := h
        exact oki_zip (g.bt h1).1 (g.bt h1).2 (snd a s X _ g h4).pe (snd b s X _ g h5).pe h2 h3
      · cases h
    · cases h
end
end Ev
set_option linter.all false
set_option maxRecDepth 100000
set_option maxHeartbeats 8000000
/-! Ev14: the check of statements, and what it is good for. -/
namespace Ev
open PySem PySem.Spec L2
def isCp : Expr → Bool
  | .ListComp .. => true
  | .SetComp .. => true
  | .DictComp .. => true
  | _ => false
def isTp : Expr → Bool
  | .Tuple .. => true
  | _ => false
def locB (sc : Scope) (x : Str) : Bool := match sc.names.lookup x with
  | some .local => true
  | _ => false
/-- does the comprehension hand its list over to the name? -/
def swB (sc : Scope) (y : Str) (py : Pos) (scope : Scope) (pos : Pos) : Bool :=
  locB sc y && (py.line == pos.line) && !(scope.names.any fun (n, k) => n == y && (k == .local || k == .cell))
theorem sw_no {e : Expr} {t : Option Expr} {l : Nat} {env : PySem.Env} (h : isCp e = false) : swapsWith e t l env = pure false := by
  cases e <;> first | rfl | cases h
theorem sw_nm {y : Str} {py : Pos} {l : Nat} {env : PySem.Env} (hk : env.scope.kind = .function) {elt : Expr} {gs : List Comprehension} {scope : Scope} {pos : Pos} (h : swB env.scope y py scope pos = false) :
    swapsWith (.ListComp elt gs scope pos) (some (.Name y py)) l env = pure false := by
  have hb : env.blockKind = .function := by unfold Env.blockKind; rw [hk]; rfl
  unfold swB locB at h
  unfold swapsWith
  simp only [hb, Expr.pos]
  cases e : env.scope.names.lookup y with
  | none =>
    have ky : env.kindOf y = none := e
    simp only [ky]
    rfl
  | some k =>
    have ky : env.kindOf y = some k := e
    rw [e] at h
    simp only [ky]
    cases k with
    | «local» =>
      simp only [Bool.true_and] at h
      show pure (true && true && _ && _) = _
      rw [Bool.true_and, Bool.true_and, h]
    | _ => rfl
theorem sw_nmD {y : Str} {py : Pos} {l : Nat} {env : PySem.Env} (hk : env.scope.kind = .function) {kx vx : Expr} {gs : List Comprehension} {scope : Scope} {pos : Pos} (h : swB env.scope y py scope pos = false) :
    swapsWith (.DictComp kx vx gs scope pos) (some (.Name y py)) l env = pure false := by
  have hb : env.blockKind = .function := by unfold Env.blockKind; rw [hk]; rfl
  unfold swB locB at h
  unfold swapsWith
  simp only [hb, Expr.pos]
  cases e : env.scope.names.lookup y with
  | none =>
    have ky : env.kindOf y = none := e
    simp only [ky]
    rfl
  | some k =>
    have ky : env.kindOf y = some k := e
    rw [e] at h
    simp only [ky]
    cases k with
    | «local» =>
      simp only [Bool.true_and] at h
      show pure (true && true && _ && _) = _
      rw [Bool.true_and, Bool.true_and, h]
    | _ => rfl
theorem sw_trueD {kx vx : Expr} {gs : List Comprehension} {scope : Scope} {pos py : Pos} {y : Str} {l : Nat} {env : PySem.Env} (hk : env.scope.kind = .function) (hy : env.scope.names.lookup y = some .local) (hl : (py.line == pos.line) = true)
    (ha : (scope.names.any fun (n, k) => n == y && (k == .local || k == .cell)) = false) : swapsWith (.DictComp kx vx gs scope pos) (some (.Name y py)) l env = pure true := by
  have ky : env.kindOf y = some .local := hy
  have hb : env.blockKind = .function := by unfold Env.blockKind; rw [hk]; rfl
  unfold swapsWith
  simp only [hb, ky, ha, Expr.pos, hl]
  rfl
theorem sw_sole {tg e : Expr} {l : Nat} {env : PySem.Env} (h : ∀ x p, tg ≠ .Name x p) : swapsWithSole [tg] e l env = pure false := by
  show swapsWith e (some tg) l env = pure false
  by_cases hc : isCp e = false
  · exact sw_no hc
  · cases e <;> first | (exact absurd rfl hc) | skip
    all_goals (cases tg <;> first | rfl | exact absurd rfl (h _ _))
theorem swp_no {tg e : Expr} {env : PySem.Env} (h : isTp e = false) : swappedStores [tg] e env = pure none := by
  cases tg <;> cases e <;> first | rfl | cases h
/-- a tuple of constants, folded into one -/
def fcT : Expr → Bool
  | .Tuple vs _ _ => vs.all (foldedForSure 8)
  | _ => false
theorem swp_cst {tg e : Expr} {env : PySem.Env} (h : fcT e = true) : swappedStores [tg] e env = pure none := by
  cases e <;> try (exact absurd h Bool.false_ne_true)
  rename_i vs c p
  have h : vs.all (foldedForSure 8) = true := h
  cases tg <;> try rfl
  all_goals
    simp only [swappedStores, h]
    split
    · rfl
    · split
      · rfl
      · split
        · rfl
        · rfl
/-- a, b = .. -/
def parB (sc : Scope) (ts vs : List Expr) (line : Nat) : Bool :=
  (ts.all fun t => match t with
    | .Name id pos => locB sc id && (pos.line == line)
    | _ => false) && vs.all pln && !(vs.all (foldedForSure 8)) && !(vs.all (constantsAlone 8))
theorem loc_of {sc : Scope} {x : Str} (h : locB sc x = true) : sc.names.lookup x = some .local := by
  unfold locB at h
  split at h
  · assumption
  · cases h
theorem any_star {vs : List Expr} (h : vs.all pln = true) : (vs.any fun | .Starred .. => true | _ => false) = false := by
  induction vs with
  | nil => rfl
  | cons v vs ih =>
    rw [List.all_cons, Bool.and_eq_true] at h
    rw [List.any_cons, ih h.2]
    cases v <;> first | rfl | (exact absurd h.1 Bool.false_ne_true)
section
variable (fs : List (Str × List Str)) (bl : List Str) (G : Pk)
mutual
def chS : IS → Sx → Stmt → Bool
  | .asg (.nm i) e, s, st => match st with
    | .Assign [.Name x p] v pos => decide (s.N[i]? = some x) && s.tg x && chE fs bl G e s v && (match v with
      | .ListComp elt gs scope lp => !swB s.sc x p scope lp || (match e with
        | .lc .. => true
        | .lc2 .. => true
        | _ => false)
      | .DictComp _ _ _ _ _ => (match e with
        | .dc .. => true
        | _ => false)
      | _ => !isCp v)
    | _ => false
  | .asg (.tp ts) e, s, st => match st with
    | .Assign [tg] v pos => isTp tg && (!isTp v || fcT v) && chT (.tp ts) s tg && chE fs bl G e s v
    | _ => false
  | .par is es, s, st => match st with
    | .Assign [.Tuple [.Name x px, .Name y py] _ _] (.Tuple [a, b] _ _) _ => decide (is.map (s.N[·]?) = [some x, some y]) && is.Nodup && decide (x ≠ y) && parB s.sc [.Name x px, .Name y py] [a, b] px.line && decide (es.length = 2) && chEs fs bl G es s [a, b]
    | .Assign [.Tuple [.Name x px, .Name y py, .Name z pz] _ _] (.Tuple [a, b, c] _ _) _ => decide (is.map (s.N[·]?) = [some x, some y, some z]) && is.Nodup && decide ([x, y, z].Nodup) && parB s.sc [.Name x px, .Name y py, .Name z pz] [a, b, c] px.line && decide (es.length = 3) && chEs fs bl G es s [a, b, c]
    | _ => false
  | .seti i a e, s, st => match st with
    | .Assign [.Subscript (.Name x p) l _] v _ => decide (s.N[i]? = some x) && visB s.sc x && nmB x && pln l && chE fs bl G a s l && chE fs bl G e s v
    | _ => false
  | .app i e, s, st => match st with
    | .Expr (.Call (.Attribute (.Name x p) m ap) [v] [] cp) _ => decide (m = "append") && decide (s.N[i]? = some x) && visB s.sc x && nmB x && pln v && (ap.endLine == cp.line) && chE fs bl G e s v
    | _ => false
  | .ins i a e, s, st => match st with
    | .Expr (.Call (.Attribute (.Name x p) m ap) [u, v] [] cp) _ => decide (m = "insert") && decide (s.N[i]? = some x) && visB s.sc x && nmB x && pln u && pln v && (ap.endLine == cp.line) && chE fs bl G a s u && chE fs bl G e s v
    | _ => false
  | .aug i o e, s, st => match st with
    | .AugAssign (.Name x p) op v pos => decide (op = o) && decide (s.N[i]? = some x) && s.tg x && (augI o).isSome && chE fs bl G e s v
    | _ => false
  | .ext i e, s, st => match st with
    | .AugAssign (.Name x p) op v pos => decide (op = .Add) && decide (s.N[i]? = some x) && s.tg x && chE fs bl G e s v
    | _ => false
  | .exp e, s, st => match st with
    | .Expr v _ => !isCp v && chE fs bl G e s v
    | _ => false
  | .ite c a b, s, st => match st with
    | .If t x y _ => chE fs bl G c s t && chSs a s x && chSs b s y
    | _ => false
  | .loop t it b, s, st => match st with
    | .For tg iter body [] _ => pln iter && chT t s tg && chI fs bl G it s tg iter && chSs b s body
    | _ => false
  | .whl c b, s, st => match st with
    | .While t body [] _ => chE fs bl G c s t && chSs b s body
    | _ => false
  | .ret none, s, st => match st with
    | .Return none _ => true
    | _ => false
  | .ret (some e), s, st => match st with
    | .Return (some v) _ => chE fs bl G e s v
    | _ => false
  | .pas, _, st => match st with
    | .Pass _ => true
    | _ => false
  | .brk, _, st => match st with
    | .Break _ => true
    | _ => false
  | .cnt, _, st => match st with
    | .Continue _ => true
    | _ => false
  | .nev, _, _ => true
def chSs : List IS → Sx → List Stmt → Bool
  | [], _, sts => match sts with
    | [] => true
    | _ => false
  | a :: as, s, sts => match sts with
    | st :: sts => chS a s st && chSs as s sts
    | [] => false
end
end
section
variable {fs : List (Str × List Str)} {bl : List Str} {G : Pk} {T : List (Addr × Str)} {n : Nat} {cl : Str → List SV → Sto → Option (ER × Sto)} {mu : List Nat} {s : Sx} {X : Cx}
theorem pairs_of {sc : Scope} {env : PySem.Env} (hs : env.scope = sc) (hk : sc.kind = .function) {x y : Str} {px py pt : Pos} {a b : Expr} {kt k2 : Nat} {pt2 : Pos} (hxy : x ≠ y) (h : parB sc [.Name x px, .Name y py] [a, b] px.line = true) :
    swappedStores [.Tuple [.Name x px, .Name y py] kt pt] (.Tuple [a, b] k2 pt2) env = pure (some [x, y]) := by
  have hb : env.blockKind = .function := by unfold Env.blockKind; rw [hs, hk]; rfl
  simp only [parB, List.all_cons, List.all_nil, Bool.and_true, Bool.and_eq_true, Bool.not_eq_true'] at h
  obtain ⟨⟨⟨⟨⟨h1, h2⟩, h3, h4⟩, h5⟩, h6⟩, h7⟩ := h
  have kx : env.kindOf x = some .local := by show env.scope.names.lookup x = _; rw [hs]; exact loc_of h1
  have ky : env.kindOf y = some .local := by show env.scope.names.lookup y = _; rw [hs]; exact loc_of h3
  have st : ([a, b].any fun | .Starred .. => true | _ => false) = false := any_star (by simp only [List.all_cons, List.all_nil, Bool.and_true, Bool.and_eq_true]; exact h5)
  have f1 : [a, b].all (foldedForSure 8) = false := by simp only [List.all_cons, List.all_nil, Bool.and_true]; exact h6
  have f2 : [a, b].all (constantsAlone 8) = false := by simp only [List.all_cons, List.all_nil, Bool.and_true]; exact h7
  have ed : [x, y].eraseDups.length = 2 := by
    rw [List.eraseDups_cons, List.filter_cons, if_pos (by simp only [Bool.not_eq_true', beq_eq_false_iff_ne]; exact fun e => hxy e.symm)]
    rfl
  unfold swappedStores
  simp only [hb, st, f1, f2, List.filterMap_cons, List.filterMap_nil, kx, ky, h4, h2, ed, List.head?_cons, Option.map_some, Option.getD_some, Expr.pos, beq_self_eq_true, Bool.and_self, Bool.true_and, if_true]
  refine (if_neg (by simp)).trans ?_
  refine (if_neg fun z => ?_).trans rfl
  exact Bool.false_ne_true (st.symm.trans z)
theorem threes_of {sc : Scope} {env : PySem.Env} (hs : env.scope = sc) (hk : sc.kind = .function) {x y z : Str} {px py pz pt : Pos} {a b c : Expr} {kt k2 : Nat} {pt2 : Pos} (hn : [x, y, z].Nodup) (h : parB sc [.Name x px, .Name y py, .Name z pz] [a, b, c] px.line = true) :
    swappedStores [.Tuple [.Name x px, .Name y py, .Name z pz] kt pt] (.Tuple [a, b, c] k2 pt2) env = pure (some [x, y, z]) := by
  have hb : env.blockKind = .function := by unfold Env.blockKind; rw [hs, hk]; rfl
  simp only [parB, List.all_cons, List.all_nil, Bool.and_true, Bool.and_eq_true, Bool.not_eq_true'] at h
  obtain ⟨⟨⟨⟨⟨h1, h2⟩, ⟨h3, h4⟩, h8, h9⟩, h5⟩, h6⟩, h7⟩ := h
  have kx : env.kindOf x = some .local := by show env.scope.names.lookup x = _; rw [hs]; exact loc_of h1
  have ky : env.kindOf y = some .local := by show env.scope.names.lookup y = _; rw [hs]; exact loc_of h3
  have kz : env.kindOf z = some .local := by show env.scope.names.lookup z = _; rw [hs]; exact loc_of h8
  have st : ([a, b, c].any fun | .Starred .. => true | _ => false) = false := any_star (by simp only [List.all_cons, List.all_nil, Bool.and_true, Bool.and_eq_true]; exact h5)
  have f1 : [a, b, c].all (foldedForSure 8) = false := by simp only [List.all_cons, List.all_nil, Bool.and_true]; exact h6
  have f2 : [a, b, c].all (constantsAlone 8) = false := by simp only [List.all_cons, List.all_nil, Bool.and_true]; exact h7
  simp only [List.nodup_cons, List.mem_cons, List.not_mem_nil, or_false, not_or, not_false_eq_true, List.nodup_nil, and_true] at hn
  have ed : [x, y, z].eraseDups.length = 3 := by
    rw [List.eraseDups_cons, List.filter_cons, if_pos (by simp only [Bool.not_eq_true', beq_eq_false_iff_ne]; exact fun e => hn.1.1 e.symm), List.filter_cons, if_pos (by simp only [Bool.not_eq_true', beq_eq_false_iff_ne]; exact fun e => hn.1.2 e.symm),
      List.filter_nil, List.eraseDups_cons, List.filter_cons, if_pos (by simp only [Bool.not_eq_true', beq_eq_false_iff_ne]; exact fun e => hn.2 e.symm)]
    rfl
  unfold swappedStores
  simp only [hb, st, f1, f2, List.filterMap_cons, List.filterMap_nil, kx, ky, kz, h4, h2, h9, ed, List.head?_cons, Option.map_some, Option.getD_some, Expr.pos, beq_self_eq_true, Bool.and_self, Bool.true_and, if_true]
  refine (if_neg (by simp)).trans ?_
  refine (if_neg fun z => ?_).trans rfl
  exact Bool.false_ne_true (st.symm.trans z)
theorem assign_sub {x : Str} {p p2 : Pos} {a : Expr} {env : PySem.Env} (hp : pln a = true) (v : Value) : assign (.Subscript (.Name x p) a p2) env v = (do
      let ov ← holding [v] (eval (.Name x p) env)
      let iv ← holding [v, ov] (eval a env)
      standAt p2
      holding [v, ov, iv] (setItem ov iv v)
      release [v, ov, iv] []) := by
  cases a <;> first | rfl | (exact absurd (show false = true from hp) Bool.false_ne_true)
theorem map_two {N : List Str} {is : List Nat} {x y : Str} (h : is.map (N[·]?) = [some x, some y]) : ∃ i j, is = [i, j] ∧ N[i]? = some x ∧ N[j]? = some y := by
  match is, h with
  | [i, j], h =>
    simp only [List.map_cons, List.map_nil, List.cons.injEq, and_true] at h
    exact ⟨i, j, rfl, h.1, h.2⟩
  | [], h => simp at h
  | [_], h => simp at h
  | _ :: _ :: _ :: _, h => simp at h
theorem map_three {N : List Str} {is : List Nat} {x y z : Str} (h : is.map (N[·]?) = [some x, some y, some z]) : ∃ i j l, is = [i, j, l] ∧ N[i]? = some x ∧ N[j]? = some y ∧ N[l]? = some z := by
  match is, h with
  | [i, j, l], h =>
    simp only [List.map_cons, List.map_nil, List.cons.injEq, and_true] at h
    exact ⟨i, j, l, rfl, h.1, h.2.1, h.2.2⟩
  | [], h => simp at h
  | [_], h => simp at h
  | [_, _], h => simp at h
  | _ :: _ :: _ :: _ :: _, h => simp at h
theorem sndPar2 {i j : Nat} {es : List IE} {a b : Expr} (g : Gd fs bl G T n cl s X) (hl : es.length = 2) (h : chEs fs bl G es s [a, b] = true) :
    ∃ a' b', es = [a', b'] ∧ PA X [a, b] (tP X.K T (evP G cl mu [(i, a'), (j, b')])) := by
  match es, hl with
  | [a', b'], _ =>
    simp only [chEs, Bool.and_eq_true, and_true] at h
    exact ⟨a', b', rfl, okp_cons h.1.1 (snd a' s X _ g h.1.2).pe (okp_cons h.2.1 (snd b' s X _ g h.2.2).pe okp_nil)⟩
theorem sndPar3 {i j l : Nat} {es : List IE} {a b c : Expr} (g : Gd fs bl G T n cl s X) (hl : es.length = 3) (h : chEs fs bl G es s [a, b, c] = true) :
    ∃ a' b' c', es = [a', b', c'] ∧ PA X [a, b, c] (tP X.K T (evP G cl mu [(i, a'), (j, b'), (l, c')])) := by
  match es, hl with
  | [a', b', c'], _ =>
    simp only [chEs, Bool.and_eq_true, and_true] at h
    exact ⟨a', b', c', rfl, okp_cons h.1.1 (snd a' s X _ g h.1.2).pe (okp_cons h.2.1.1 (snd b' s X _ g h.2.1.2).pe (okp_cons h.2.2.1 (snd c' s X _ g h.2.2.2).pe okp_nil))⟩
theorem asg_lc {i : Nat} {y : Str} {py : Pos} {e' : IE} {elt : Expr} {gs : List Comprehension} {scope : Scope} {pos spos : Pos} (g : Gd fs bl G T n cl s X) (hk : s.sc.kind = .function) (hi : s.N[i]? = some y) (hsw : swB s.sc y py scope pos = true)
    (hlc : (match e' with | .lc .. => true | .lc2 .. => true | _ => false) = true) (h : chE fs bl G e' s (.ListComp elt gs scope pos) = true) :
    PS X (.Assign [.Name y py] (.ListComp elt gs scope pos) spos) (tAsg (tF X.K T (evE G cl e')) (gName i)) := by
  simp only [swB, Bool.and_eq_true, Bool.not_eq_true'] at hsw
  have hyl : X.env.scope.names.lookup y = some .local := by rw [g.sc]; exact loc_of hsw.1.1
  have sw := sw_true (elt := elt) (gs := gs) (l := spos.line) (by rw [g.sc]; exact hk) hyl hsw.1.2 hsw.2
  have hi : X.N[i]? = some y := by rw [g.N]; exact hi
  cases e' with
  | lc own t it cs e1 =>
    simp only [chE] at h
    split at h
    · rename_i heq
      cases heq
      simp only [Bool.and_eq_true] at h
      obtain ⟨⟨⟨⟨⟨⟨h1, h2⟩, h3⟩, h4⟩, h5⟩, h6⟩, h7⟩ := h
      exact impS (ps_setLc g.calm g.nd hi hyl sw (sndI it s X _ _ g h4) (blkOk_by (by rw [g.N, g.sc]; exact h1)) (fun st H C cc fp => sndT t _ _ _ (g.blk st H C cc fp) h5)
        (fun st H C cc fp => sndCs cs _ _ _ (g.blk st H C cc fp) h6) (fun st H C cc fp => (snd e1 _ _ _ (g.blk st H C cc fp) h7).pe) (fun x => pln_fold h2 _ x)) fun D σ H q => lc_read (all_mem h3) σ H _ q
    · cases h
  | lc2 own vs1 t it cs t1 it1 cs1 e1 =>
    simp only [chE] at h
    split at h
    · rename_i heq
      cases heq
      simp only [Bool.and_eq_true] at h
      obtain ⟨⟨⟨⟨⟨⟨⟨⟨⟨⟨⟨⟨h1, h2⟩, h3⟩, h4⟩, h5⟩, h6⟩, h7⟩, h8⟩, h9⟩, ha⟩, hb⟩, hc⟩, hd⟩ := h
      exact impS (ps_setLc2 g.calm g.nd hi hyl sw (sndI it s X _ _ g h7) (blkOk_by (by rw [g.N, g.sc]; exact h1)) (all_mem h5) (fun st H C cc fp => sndT t _ _ _ (g.blk st H C cc fp) h8)
        (fun st H C cc fp => sndCs cs _ _ _ (g.blk st H C cc fp) h9) (fun st H C cc fp => sndI it1 _ _ _ _ (g.blk st H C cc fp) ha) (fun st H C cc fp => sndT t1 _ _ _ (g.blk st H C cc fp) hb)
        (fun st H C cc fp => sndCs cs1 _ _ _ (g.blk st H C cc fp) hc) (fun st H C cc fp => (snd e1 _ _ _ (g.blk st H C cc fp) hd).pe) (fun x => pln_fold h2 _ x) (fun env x => pln_fold h3 _ x)) fun D σ H q => lc2_read (all_mem h4) (all_mem h6) σ H _ q
    · cases h
  | _ => cases hlc
theorem asg_dc {i : Nat} {y : Str} {py : Pos} {e' : IE} {kx vx : Expr} {gs : List Comprehension} {scope : Scope} {pos spos : Pos} (g : Gd fs bl G T n cl s X) (hk : s.sc.kind = .function) (hi : s.N[i]? = some y) (htg : s.tg y = true)
    (hlc : (match e' with
      | .dc .. => true
      | _ => false) = true) (h : chE fs bl G e' s (.DictComp kx vx gs scope pos) = true) :
    PS X (.Assign [.Name y py] (.DictComp kx vx gs scope pos) spos) (tAsg (tF X.K T (evE G cl e')) (gName i)) := by
  obtain ⟨t1, t2⟩ := g.tg _ htg
  cases hsw : swB s.sc y py scope pos with
  | false => exact ps_set g.nd (by rw [g.N]; exact hi) t1 (snd e' s X _ g h).pe (sw_nmD (by rw [g.sc]; exact hk) (by rw [g.sc]; exact hsw)) t2
  | true =>
    simp only [swB, Bool.and_eq_true, Bool.not_eq_true'] at hsw
    obtain ⟨⟨w1, w2⟩, w3⟩ := hsw
    have hyl : X.env.scope.names.lookup y = some .local := by rw [g.sc]; exact loc_of w1
    have sw := sw_trueD (kx := kx) (vx := vx) (gs := gs) (l := spos.line) (env := X.env) (by rw [g.sc]; exact hk) hyl w2 w3
    have hi : X.N[i]? = some y := by rw [g.N]; exact hi
    cases e' with
    | dc own t it cs k e1 =>
      simp only [chE] at h
      split at h
      · rename_i heq
        cases heq
        simp only [Bool.and_eq_true] at h
        obtain ⟨⟨⟨⟨⟨⟨⟨h1, h2⟩, h3⟩, h4⟩, h5⟩, h6⟩, h7⟩, h8⟩ := h
        exact impS (ps_setDc g.calm g.nd hi hyl sw (sndI it s X _ _ g h4) (blkOk_by (by rw [g.N, g.sc]; exact h1)) (fun st H C cc fp => sndT t _ _ _ (g.blk st H C cc fp) h5)
          (fun st H C cc fp => sndCs cs _ _ _ (g.blk st H C cc fp) h6) (fun st H C cc fp => (snd k _ _ _ (g.blk st H C cc fp) h7).pe) (fun st H C cc fp => (snd e1 _ _ _ (g.blk st H C cc fp) h8).pe) (fun x => pln_fold h2 _ x)) fun D σ H q => dc_read (all_mem h3) σ H _ q
      · cases h
    | _ => cases hlc
mutual
theorem sndS : ∀ (c : IS) (s : Sx) (X : Cx) (st : Stmt), Gd fs bl G T n cl s X → s.sc.kind = .function → X.xe = (fun _ _ => False) → chS fs bl G c s st = true → PS X st (tS X.K T (fun env st => evS G cl mu c env st))
  | .asg (.nm i) e, s, X, st, g, hk, hx, h => by
    simp only [chS] at h
    split at h
    · simp only [Bool.and_eq_true, decide_eq_true_eq] at h
      obtain ⟨⟨⟨h1, h2⟩, h3⟩, h4⟩ := h
      obtain ⟨t1, t2⟩ := g.tg _ h2
      refine okS_asg ?_
      split at h4
      · rename_i elt gs scope lp
        rw [Bool.or_eq_true, Bool.not_eq_true'] at h4
        cases hsw : swB s.sc _ _ scope lp with
        | false => exact ps_set g.nd (by rw [g.N]; exact h1) t1 (snd e s X _ g h3).pe (sw_nm (by rw [g.sc]; exact hk) (by rw [g.sc]; exact hsw)) t2
        | true =>
          rw [hsw] at h4
          exact asg_lc g hk h1 hsw (h4.resolve_left (fun z => Bool.noConfusion z)) h3
      · exact asg_dc g hk h1 h2 h4 h3
      · exact ps_set g.nd (by rw [g.N]; exact h1) t1 (snd e s X _ g h3).pe (sw_no (by simpa using h4)) t2
    · cases h
  | .asg (.tp ts) e, s, X, st, g, hk, hx, h => by
    simp only [chS] at h
    split at h
    · rename_i tg v pos
      simp only [Bool.and_eq_true] at h
      obtain ⟨⟨⟨h1, h2⟩, h3⟩, h4⟩ := h
      have hn : ∀ x p, tg ≠ .Name x p := fun x p z => by rw [z] at h1; cases h1
      have ha : (assignEach [tg] X.env).map (·.2) = [assign tg X.env] := by cases tg <;> first | rfl | cases h1
      rw [Bool.or_eq_true, Bool.not_eq_true'] at h2
      exact okS_asgT (snd e s X _ g h4).pe (sndT _ s X _ g h3) (sw_sole hn) (h2.elim swp_no swp_cst) ha
    · cases h
  | .par is es, s, X, st, g, hk, hx, h => by
    simp only [chS] at h
    split at h
    · rename_i x px y py kt pt a b k2 pt2 pos
      simp only [Bool.and_eq_true, decide_eq_true_eq] at h
      obtain ⟨⟨⟨⟨⟨h1, h2⟩, h3⟩, h4⟩, h5⟩, h6⟩ := h
      obtain ⟨i, j, rfl, hi, hj⟩ := map_two h1
      obtain ⟨a', b', rfl, ha⟩ := sndPar2 (i := i) (j := j) (mu := mu) g h5 h6
      have h4' := h4
      simp only [parB, List.all_cons, List.all_nil, Bool.and_true, Bool.and_eq_true] at h4'
      have hij : i ≠ j := by simpa using h2
      exact okS_par2 (ps_par g.calm g.nd (by rw [g.N]; exact hi) (by rw [g.N]; exact hj) hij (by rw [g.sc]; exact loc_of h4'.1.1.1.1.1) (by rw [g.sc]; exact loc_of h4'.1.1.1.2.1) ha (pairs_of g.sc hk h3 h4))
    · rename_i x px y py z pz kt pt a b c k2 pt2 pos
      simp only [Bool.and_eq_true, decide_eq_true_eq] at h
      obtain ⟨⟨⟨⟨⟨h1, h2⟩, h3⟩, h4⟩, h5⟩, h6⟩ := h
      obtain ⟨i, j, l, rfl, hi, hj, hl⟩ := map_three h1
      obtain ⟨a', b', c', rfl, ha⟩ := sndPar3 (i := i) (j := j) (l := l) (mu := mu) g h5 h6
      have h4' := h4
      simp only [parB, List.all_cons, List.all_nil, Bool.and_true, Bool.and_eq_true] at h4'
      have hij : (i ≠ j ∧ i ≠ l) ∧ j ≠ l := by simpa using h2
      exact okS_par3 (ps_par3 g.calm g.nd (by rw [g.N]; exact hi) (by rw [g.N]; exact hj) (by rw [g.N]; exact hl) hij.1.1 hij.1.2 hij.2 (by rw [g.sc]; exact loc_of h4'.1.1.1.1.1) (by rw [g.sc]; exact loc_of h4'.1.1.1.2.1.1) (by rw [g.sc]; exact loc_of h4'.1.1.1.2.2.1) ha (threes_of g.sc hk h3 h4))
    · cases h
  | .seti i a e, s, X, st, g, hk, hx, h => by
    simp only [chS] at h
    split at h
    · simp only [Bool.and_eq_true, decide_eq_true_eq] at h
      obtain ⟨⟨⟨⟨⟨h1, h2⟩, h3⟩, h4⟩, h5⟩, h6⟩ := h
      exact okS_seti (g.var h1 h2 h3) (snd a s X _ g h5).pe (snd e s X _ g h6).pe (sw_sole (fun _ _ => Expr.noConfusion)) rfl (fun v => assign_sub h4 v)
    · cases h
  | .app i e, s, X, st, g, hk, hx, h => by
    simp only [chS] at h
    split at h
    · simp only [Bool.and_eq_true, decide_eq_true_eq] at h
      obtain ⟨⟨⟨⟨⟨⟨rfl, h1⟩, h2⟩, h3⟩, h4⟩, h5⟩, h6⟩ := h
      exact okS_app (g.var h1 h2 h3) (snd e s X _ g h6).pe h4 h5
    · cases h
  | .ins i a e, s, X, st, g, hk, hx, h => by
    simp only [chS] at h
    split at h
    · simp only [Bool.and_eq_true, decide_eq_true_eq] at h
      obtain ⟨⟨⟨⟨⟨⟨⟨⟨rfl, h1⟩, h2⟩, h3⟩, h4⟩, h5⟩, h6⟩, h7⟩, h8⟩ := h
      exact okS_ins (g.var h1 h2 h3) (snd a s X _ g h7).pe (snd e s X _ g h8).pe h4 h5 h6
    · cases h
  | .aug i o e, s, X, st, g, hk, hx, h => by
    simp only [chS] at h
    split at h
    · simp only [Bool.and_eq_true, decide_eq_true_eq] at h
      obtain ⟨⟨⟨⟨rfl, h1⟩, h2⟩, h3⟩, h4⟩ := h
      obtain ⟨t1, t2⟩ := g.tg _ h2
      obtain ⟨f, hf⟩ := Option.isSome_iff_exists.mp h3
      exact okS_aug hf (ps_aug g.nd (by rw [g.N]; exact h1) t1 (snd e s X _ g h4).pe (pip_aug hf) t2)
    · cases h
  | .ext i e, s, X, st, g, hk, hx, h => by
    simp only [chS] at h
    split at h
    · simp only [Bool.and_eq_true, decide_eq_true_eq] at h
      obtain ⟨⟨⟨rfl, h1⟩, h2⟩, h4⟩ := h
      obtain ⟨t1, t2⟩ := g.tg _ h2
      exact okS_ext (ps_aug g.nd (by rw [g.N]; exact h1) t1 (snd e s X _ g h4).pe iop_ext t2)
    · cases h
  | .exp e, s, X, st, g, hk, hx, h => by
    simp only [chS] at h
    split at h
    · simp only [Bool.and_eq_true, Bool.not_eq_true'] at h
      exact okS_exp (snd e s X _ g h.2).pe (sw_no h.1)
    · cases h
  | .ite c a b, s, X, st, g, hk, hx, h => by
    simp only [chS] at h
    split at h
    · simp only [Bool.and_eq_true] at h
      exact okS_ite (snd c s X _ g h.1.1).pt (sndSs a s X _ g hk hx h.1.2) (sndSs b s X _ g hk hx h.2)
    · cases h
  | .loop t it b, s, X, st, g, hk, hx, h => by
    simp only [chS] at h
    split at h
    · simp only [Bool.and_eq_true] at h
      exact okS_loop (by rw [hx]; exact .never) g.calm (sndI it s X _ _ g h.1.2) (sndT t s X _ g h.1.1.2) (sndSs b s X _ g hk hx h.2) h.1.1.1
    · cases h
  | .whl c b, s, X, st, g, hk, hx, h => by
    simp only [chS] at h
    split at h
    · simp only [Bool.and_eq_true] at h
      exact okS_whl (by rw [hx]; exact .never) (snd c s X _ g h.1).pt (sndSs b s X _ g hk hx h.2)
    · cases h
  | .ret none, s, X, st, g, hk, hx, h => by
    simp only [chS] at h
    split at h
    · exact okS_retN
    · cases h
  | .ret (some e), s, X, st, g, hk, hx, h => by
    simp only [chS] at h
    split at h
    · exact okS_ret (snd e s X _ g h).pe
    · cases h
  | .pas, s, X, st, g, hk, hx, h => by
    simp only [chS] at h
    split at h
    · exact okS_pas
    · cases h
  | .brk, s, X, st, g, hk, hx, h => by
    simp only [chS] at h
    split at h
    · exact okS_brk
    · cases h
  | .cnt, s, X, st, g, hk, hx, h => by
    simp only [chS] at h
    split at h
    · exact okS_cnt
    · cases h
  | .nev, s, X, st, g, hk, hx, h => okS_nev
theorem sndSs : ∀ (cs : List IS) (s : Sx) (X : Cx) (sts : List Stmt), Gd fs bl G T n cl s X → s.sc.kind = .function → X.xe = (fun _ _ => False) → chSs fs bl G cs s sts = true → PSs X sts (tS X.K T (fun env st => evSs G cl mu cs env st))
  | [], s, X, sts, g, hk, hx, h => by
    simp only [chSs] at h
    split at h
    · exact okSs_nil
    · cases h
  | a :: as, s, X, sts, g, hk, hx, h => by
    simp only [chSs] at h
    split at h
    · simp only [Bool.and_eq_true] at h
      exact okSs_cons (sndS a s X _ g hk hx h.1) (sndSs as s X _ g hk hx h.2)
    · cases h
end
end
end Ev
set_option linter.all false
set_option maxRecDepth 100000
set_option maxHeartbeats 4000000
/-! Ev15: functions: what they work out to, and that they keep it. -/
namespace Ev
open PySem PySem.Spec L2
/-- what a call leaves: the store as far as the caller knows it -/
def finR (base : Nat) : ER → Sto → Option (ER × Sto)
  | .dat d fr, st => some (.dat d fr, st.take base)
  | .loc n, st => if n < base then some (.loc n, st.take base) else
    match st[n]? with
    | some ds => some (.dat (.list ds) true, st.take base)
    | none => none
  | .scr ns, st => some (.scr ns, st.take base)
def finF (base : Nat) : Option Fl → Option (ER × Sto)
  | some (.nx _ st) => some (.dat .none false, st.take base)
  | some (.rt r st) => finR base r st
  | _ => none
def evF (G : Pk) : Nat → Str → List SV → Sto → Option (ER × Sto)
  | 0, _, _, _ => none
  | n + 1, f, args, st => match G.fn f with
    | some F => if args.length = F.ps then finF st.length (evSs G (evF G n) F.mu F.body (args.map some ++ List.replicate (F.len - F.ps) none) st) else none
    | none => match G.nw f with
      | some N => match n with
        | m + 2 => N (evF G m) (evF G (m + 1)) args st
        | _ => none
      | none => none
section
variable {K : PySem.W.Frag} {T : List (Addr × Str)} {φ ρ φ' ρ' : List Addr} {H H' : Hp} {st st' : Sto}
theorem Gs.fxs (g : Gs φ ρ H φ' ρ' H') : ∀ a ∈ φ, a ∈ φ' := fun a ha => by
  obtain ⟨_, m, rfl, _⟩ := g
  exact List.mem_append_left _ ha
theorem Ws.back {m : List Addr} (w : Ws K T (φ ++ m) (ρ ++ m) H' st') (sub : ∀ a ∈ ρ, a ∈ φ) : Ws K T φ ρ H' (st'.take ρ.length) := by
  have hl : ρ.length ≤ st'.length := by rw [← w.len, List.length_append]; omega
  refine ⟨by rw [List.length_take, Nat.min_eq_left hl], fun n ds e => ?_, (List.nodup_append.mp w.nd).1, sub, fun a ha => w.fx a (List.mem_append_left _ ha), w.tab⟩
  have hn : n < ρ.length := by
    have := (List.getElem?_eq_some_iff.mp e).1
    rw [List.length_take] at this
    omega
  rw [List.getElem?_take_of_lt hn] at e
  obtain ⟨a, xs, h1, h2, h3⟩ := w.sto n ds e
  rw [List.getElem?_append_left hn] at h1
  exact ⟨a, xs, h1, h2, h3.weak fun a ha => List.mem_append_left _ ha⟩
theorem Post.back {m : List Addr} {x : ER} {v : V} {r : ER} {st1 : Sto} (g : Gs φ ρ H (φ ++ m) (ρ ++ m) H') (hm : ∀ a ∈ m, H a = none) (sub : ∀ a ∈ ρ, a ∈ φ) (fx : ∀ a ∈ φ, ∃ o, H a = some o ∧ Mo o) (p : Post K T (φ ++ m) (ρ ++ m) H H' [] [] st' x v) (h : finR ρ.length x st' = some (r, st1)) : Post K T φ ρ H H' [] [] st1 r v := by
  have wk : ∀ a ∈ φ, a ∈ φ ++ m := fun a ha => List.mem_append_left _ ha
  have sl0 : ∀ ψ, Sl K ψ ρ H' [] [] := fun ψ => ⟨rfl, fun i s e => by simp at e⟩
  have wb := p.ws.back sub
  cases x with
  | dat d fr =>
    simp only [finR] at h
    cases h
    refine ⟨wb, sl0 _, g.ext, p.rr.weak wk, fun d' e => ?_⟩
    cases e
    obtain ⟨q, xs, ds, h1, h2, h3, h4, h5, h6, h7⟩ := p.fr _ rfl
    have wk2 : ∀ a ∈ φ ++ [q], a ∈ φ ++ m ++ [q] := fun a ha => by
      rcases List.mem_append.mp ha with h | h
      · exact List.mem_append_left _ (wk a h)
      · exact List.mem_append_right _ h
    refine ⟨q, xs, ds, h1, h2, h3, h4, h5.weak wk2, ⟨wb.len, fun n es e => ?_, wb.nd, fun a ha => List.mem_append_left _ (sub a ha), fun a ha => h6.fx a (wk2 a ha), wb.tab⟩, sl0 _⟩
    have hl : ρ.length ≤ st'.length := by rw [← p.ws.len, List.length_append]; omega
    have hn : n < ρ.length := by
      have := (List.getElem?_eq_some_iff.mp e).1
      rw [List.length_take] at this
      omega
    rw [List.getElem?_take_of_lt hn] at e
    obtain ⟨a, xs, k1, k2, k3⟩ := h6.sto n es e
    rw [List.getElem?_append_left hn] at k1
    exact ⟨a, xs, k1, k2, k3.weak wk2⟩
  | loc n =>
    simp only [finR] at h
    split at h
    · rename_i hn
      cases h
      refine ⟨wb, sl0 _, g.ext, ?_, fun d e => by cases e⟩
      obtain ⟨a, h1, h2⟩ := p.rr
      rw [List.getElem?_append_left hn] at h1
      exact ⟨a, h1, h2⟩
    · rename_i hn
      split at h
      · rename_i ds e
        cases h
        obtain ⟨a, h1, h2⟩ := p.rr
        obtain ⟨b, xs, k1, k2, k3⟩ := p.ws.sto n ds e
        rw [h1] at k1
        cases k1
        have hb : a ∈ m := by
          rw [List.getElem?_append_right (by omega)] at h1
          exact List.mem_of_getElem? h1
        have nb := hm a hb
        have nphi : a ∉ φ := fun z => by
          obtain ⟨ys, e, _⟩ := fx a z
          rw [nb] at e; cases e
        have wk2 : ∀ c ∈ φ ++ [a], c ∈ φ ++ m := fun c hc => by
          rcases List.mem_append.mp hc with h | h
          · exact wk c h
          · rw [List.mem_singleton.mp h]; exact List.mem_append_right _ hb
        have w2 : Ws K T (φ ++ [a]) ρ H' (st'.take ρ.length) := by
          refine ⟨wb.len, fun n es e => ?_, wb.nd, fun a ha => List.mem_append_left _ (sub a ha), fun c hc => p.ws.fx c (wk2 c hc), wb.tab⟩
          have hl : ρ.length ≤ st'.length := by rw [← p.ws.len, List.length_append]; omega
          have hn : n < ρ.length := by
            have := (List.getElem?_eq_some_iff.mp e).1
            rw [List.length_take] at this
            omega
          rw [List.getElem?_take_of_lt hn] at e
          obtain ⟨a, xs, k1, k2, k3⟩ := p.ws.sto n es e
          rw [List.getElem?_append_left hn] at k1
          exact ⟨a, xs, k1, k2, k3.weak wk2⟩
        refine ⟨wb, sl0 _, g.ext, ?_, fun d e => ?_⟩
        · rw [h2]
          exact .lst nphi k2 (k3.weak wk)
        · cases e
          exact ⟨a, xs, ds, rfl, h2, nb, k2, k3.weak wk2, w2, sl0 _⟩
      · cases h
  | scr ns =>
    simp only [finR] at h
    cases h
    exact ⟨wb, sl0 _, g.ext, p.rr, fun d e => by cases e⟩
end
/-- the name of a function's lambdas -/
def lamQ (f : Str) : Str := f ++ ".<locals>." ++ "<lambda>"
/-- what is known of the module's functions; cs: code objects with their tables, T: the tables with the names -/
structure FnM (K : PySem.W.Frag) (G : Pk) (fs : List (Str × List Str)) (bl : List Str) (cs : List (Addr × Addr)) (T : List (Addr × Str)) (x f : Str) (ps : List Str) (fd : FuncData) (a : Addr) : Prop where
  ok : ∃ (st : Stmt) (F : FnD) (N : List Str) (oc : Value) (od : Option Addr) (kV doc pm : Value) (an : Option Addr) (cdv ct : Value) (osl : Array (Option Value)),
    fd = PySem.W.fnOf x f (defArgs st) (defBody st) (defScope st) .none kV doc pm an cdv ct ∧ K.lookup a = some ⟨oc, od, .func fd, osl⟩ ∧ PySem.W.codeIn K cdv f = true ∧
    FnScope N ps (defScope st) ∧ G.fn f = some F ∧ F.ps = ps.length ∧ F.len = N.length ∧ ps.length ≤ N.length ∧
    chSs fs bl G F.body ⟨N, defScope st, ownB (defScope st), if F.lam = true then some (lamQ f) else none⟩ (defBody st) = true ∧
    (F.lam = true → ∃ c P, cdv = .ref c ∧ (c, P) ∈ cs ∧ (P, lamQ f) ∈ T ∧ ∀ p ∈ T, p.1 = P → p.2 = lamQ f)
/-- what is known of the module -/
structure MdB (K : PySem.W.Frag) (w : World) (mg : Str → Option Value) (G : Pk) (bl : List Str) : Prop where
  bl : ∀ x ∈ bl, mg x = none
  fl : FlOk K G.fl
  con : ∀ x d, G.con x = some d → ∃ u v, mg x = some u ∧ RelV v u ∧ ∀ φ H, RD K φ H v d
  dic : ∀ g kvs, G.dic g = some kvs → ∃ p, mg g = some (.ref p) ∧ ∀ k d, kvs.lookup k = some d → ∃ v, KDct K w p k v ∧ ∀ φ H, RD K φ H v d
structure MdK (w : World) (K : PySem.W.Frag) (mg : Str → Option Value) (G : Pk) (fs : List (Str × List Str)) (bl : List Str) (cs : List (Addr × Addr)) (T : List (Addr × Str)) : Prop where
  b : MdB K w mg G bl
  fn : ∀ f ps, fs.lookup f = some ps → ∃ a fd, mg f = some (.ref a) ∧ PySem.W.keepIn K (.ref a) = true ∧ Binds K fd ps [] ∧ FnM K G fs bl cs T f f ps fd a
  kw : ∀ f ks ix, (f, ks, ix) ∈ G.kc → ∃ ps a fd, mg f = some (.ref a) ∧ PySem.W.keepIn K (.ref a) = true ∧ ix.length = ps.length ∧ (∀ i ∈ ix, i < ks.length) ∧
    (∀ (s : Shared) (ws : List Value), ws.length = ks.length → BindsTo s fd ⟨[], ks.zip ws⟩ (ps.zip (pick ix ws))) ∧ FnM K G fs bl cs T f f ps fd a
  mt : ∀ c m ps, G.ms.lookup (c, m) = some ps → ∃ C a fd, PySem.W.nsIn K mainGlobals c = some (some (.ref C)) ∧ Cls K C ∧ Meth K C m a ∧ Binds K fd ps [] ∧ FnM K G fs bl cs T m (c ++ ("." : Str) ++ m) ps fd a
  nw : ∀ f ps, G.nws.lookup f = some ps → G.fn f = none ∧ ∃ C a fd, mg f = some (.ref C) ∧ Mk K C a ∧ Binds K fd (("self" : Str) :: ps) [] ∧ ∀ (P : Program) (base : Heap) (n : Nat), ClOk P w K mg base T (2 * n) (evF G n) fs G → ClOk P w K mg base T (2 * (n + 1)) (evF G (n + 1)) fs G →
    FnE P w K mg base (2 * n + 4) a fd (("self" : Str) :: ps) (spN K T (evF G (n + 3)) f ps.length C)
section
variable {P : Program} {w : World} {K : PySem.W.Frag} {mg : Str → Option Value} {base : Heap} {T : List (Addr × Str)} {G : Pk} {fs : List (Str × List Str)} {bl : List Str} {x f : Str} {ps : List Str} {fd : FuncData} {a : Addr} {cs : List (Addr × Addr)}
theorem rrs_slots {φ ρ : List Addr} {H : Hp} (m : Nat) : ∀ {rs : List ER} {vs : List V}, RRs K φ ρ H rs vs → Sl K φ ρ H ((rs.map svE).map some ++ List.replicate m none) (vs.map some ++ List.replicate m none) := by
  intro rs vs r
  refine ⟨by simp only [List.length_append, List.length_map, List.length_replicate]; rw [r.length], fun i s e => ?_⟩
  by_cases hi : i < vs.length
  · have hr : i < rs.length := by rw [r.length]; exact hi
    rw [List.getElem?_append_left (by simpa using hr)] at e
    obtain ⟨x, hx, rr⟩ := RRs.get _ _ _ _ r (List.getElem?_eq_getElem hi)
    rw [List.getElem?_map, List.getElem?_map, hx] at e
    cases e
    refine ⟨vs[i], ?_, ?_⟩
    · rw [List.getElem?_append_left (by simpa using hi), List.getElem?_map, List.getElem?_eq_getElem hi]; rfl
    · cases x <;> exact rr
  · rw [List.getElem?_append_right (by simp only [List.length_map]; rw [r.length]; omega), List.getElem?_replicate] at e
    split at e <;> cases e
theorem run_fn {n : Nat} (mb : MdB K w mg G bl) (tb : ∀ p ∈ cs, LamX.TabB base mg p.1 p.2) (m : FnM K G fs bl cs T x f ps fd a) (ck : ClOk P w K mg base T (2 * n) (evF G n) fs G) : FnE P w K mg base (2 * n + 2) a fd ps (spC K T (evF G (n + 1)) f ps.length) := by
  obtain ⟨st, F, N, oc, od, kV, doc, pm, an, cdv, ct, osl, rfl, lk, hcd, S, hF, hps, hlen, hle, hch, hlam⟩ := m.ok
  refine ⟨fun A outer s H us vs Q hr hgu e0 rv hsp args hb => ?_⟩
  obtain ⟨hl, φ, ρ, rs, st0, r, st1, ws, rr, he, k⟩ := hsp
  refine LamX.run_ofS (N := N) lk hcd S hr e0 hb rv hl fun hr' => ?_
  have g : Gd fs bl G T (2 * n) (evF G n) ⟨N, defScope st, ownB (defScope st), if F.lam = true then some (lamQ f) else none⟩ (cxOf CX0 P w K mg base N f (defScope st) a cdv A outer s H E0).nox := by
    refine ⟨rfl, rfl, S.nd, fun x hx => ⟨?_, .inl rfl⟩, rfl, hr'.mono (Nat.le_succ _), hgu, ck, mb.fl, mb.bl, mb.con, mb.dic, fun q hq => ⟨?_, hr'⟩⟩
    rotate_left
    · have hq : (if F.lam = true then some (lamQ f) else none) = some q := hq
      split at hq
      · rename_i hl
        cases hq
        obtain ⟨c, P, rfl, h1, h2, h3⟩ := hlam hl
        exact ⟨⟨c, P, rfl, tb _ h1, h2, h3⟩, rfl⟩
      · cases hq
    have hx : ownB (defScope st) x = true := hx
    unfold ownB at hx
    split at hx
    · exact .inl (by assumption)
    · exact .inr (by assumption)
    · cases hx
  have body := sndSs (mu := F.mu) F.body _ _ _ g S.kind rfl hch
  refine ⟨_, body.nox, φ, ρ, (rs.map svE).map some ++ List.replicate (F.len - F.ps) none, st0, ?_⟩
  simp only [evF, hF] at he
  have hlr : rs.length = ps.length := by rw [rr.length, hl]
  rw [if_pos (by rw [List.length_map, hlr, hps])] at he
  have hst : L2.start N vs = vs.map some ++ List.replicate (F.len - F.ps) none := by
    unfold L2.start
    rw [hlen, hps, hl]
  cases hfl : evSs G (evF G n) F.mu F.body ((rs.map svE).map some ++ List.replicate (F.len - F.ps) none) st0 with
  | none => rw [hfl] at he; cases he
  | some fl =>
    rw [hfl] at he
    refine ⟨fl, ws, by rw [hst]; exact rrs_slots _ rr, hfl, ?_⟩
    cases fl with
    | nx env' st' =>
      intro φ' ρ' σ' H' p
      simp only [finF] at he
      cases he
      obtain ⟨x, mr, rfl, rfl, hm⟩ := p.gs
      refine k .non H' (Post.back (x := .dat .none false) ⟨x, mr, rfl, rfl, hm⟩ hm ws.sub ws.fx (.mk p.ws ⟨rfl, fun i s e => by simp at e⟩ (x.more fun a ha => List.mem_append_left _ ha) RD.non fun d e => by cases e) ?_)
      rw [ws.len]
      rfl
    | rt x' st' =>
      intro φ' ρ' v H' p
      simp only [finF] at he
      obtain ⟨x, mr, rfl, rfl, hm⟩ := p.gs
      exact k v H' (Post.back ⟨x, mr, rfl, rfl, hm⟩ hm ws.sub ws.fx p.post (by rw [ws.len]; exact he))
    | bk env' st' => cases he
    | ct env' st' => cases he
theorem cl_nil {k : Nat} {sp : Sp} (h : ∀ vs H Q, ¬ sp vs H Q E0) : FnE P w K mg base k a fd ps sp := ⟨fun A outer s H us vs Q hr hgu e0 rv hsp args hb => (h _ _ _ hsp).elim⟩
structure ClF (P : Program) (w : World) (K : PySem.W.Frag) (mg : Str → Option Value) (base : Heap) (T : List (Addr × Str)) (k : Nat) (cl : Str → List SV → Sto → Option (ER × Sto)) (fs : List (Str × List Str)) (G : Pk) : Prop where
  mget : ∀ c m ps, G.ms.lookup (c, m) = some ps → ∃ C a fd, PySem.W.nsIn K mainGlobals c = some (some (.ref C)) ∧ Cls K C ∧ Meth K C m a ∧ Binds K fd ps [] ∧ FnE P w K mg base k a fd ps (spC K T cl (c ++ ("." : Str) ++ m) ps.length)
  kget : ∀ f ks ix, (f, ks, ix) ∈ G.kc → ∃ ps a fd, mg f = some (.ref a) ∧ PySem.W.keepIn K (.ref a) = true ∧ ix.length = ps.length ∧ (∀ i ∈ ix, i < ks.length) ∧ (∀ (s : Shared) (ws : List Value), ws.length = ks.length → BindsTo s fd ⟨[], ks.zip ws⟩ (ps.zip (pick ix ws))) ∧ FnE P w K mg base k a fd ps (spC K T cl f ps.length)
  get : ∀ f ps, fs.lookup f = some ps → ∃ a fd, mg f = some (.ref a) ∧ PySem.W.keepIn K (.ref a) = true ∧ Binds K fd ps [] ∧ FnE P w K mg base k a fd ps (spC K T cl f ps.length)
theorem clF0 (m : MdK w K mg G fs bl cs T) : ClF P w K mg base T (2 * 0) (evF G 0) fs G := by
  have no : ∀ {f : Str} {n : Nat} (vs : List V) (H : Hp) (Q : VK), ¬ spC K T (evF G 0) f n vs H Q E0 := fun vs H Q hsp => by
    obtain ⟨hl, φ, ρ, rs, st0, r, st1, ws, rr, he, k⟩ := hsp
    cases he
  refine ⟨fun c q ps h => ?_, fun f ks ix h => ?_, fun f ps h => ?_⟩
  · obtain ⟨C, a, fd, h1, h2, h3, h4, h5⟩ := m.mt c q ps h
    exact ⟨C, a, fd, h1, h2, h3, h4, cl_nil no⟩
  · obtain ⟨ps, a, fd, h1, h2, h3, h4, h5, h6⟩ := m.kw f ks ix h
    exact ⟨ps, a, fd, h1, h2, h3, h4, h5, cl_nil no⟩
  · obtain ⟨a, fd, h1, h2, h3, h4⟩ := m.fn f ps h
    exact ⟨a, fd, h1, h2, h3, cl_nil no⟩
theorem clFs {n : Nat} (m : MdK w K mg G fs bl cs T) (tb : ∀ p ∈ cs, LamX.TabB base mg p.1 p.2) (ih : ClOk P w K mg base T (2 * n) (evF G n) fs G) : ClF P w K mg base T (2 * (n + 1)) (evF G (n + 1)) fs G := by
  refine ⟨fun c q ps h => ?_, fun f ks ix h => ?_, fun f ps h => ?_⟩
  · obtain ⟨C, a, fd, h1, h2, h3, h4, h5⟩ := m.mt c q ps h
    exact ⟨C, a, fd, h1, h2, h3, h4, run_fn m.b tb h5 ih⟩
  · obtain ⟨ps, a, fd, h1, h2, h3, h4, h5, h6⟩ := m.kw f ks ix h
    exact ⟨ps, a, fd, h1, h2, h3, h4, h5, run_fn m.b tb h6 ih⟩
  · obtain ⟨a, fd, h1, h2, h3, h4⟩ := m.fn f ps h
    exact ⟨a, fd, h1, h2, h3, run_fn m.b tb h4 ih⟩
theorem evF_no {n : Nat} (h : G.fn f = none) (hn : n < 3) (args : List SV) (st : Sto) : evF G n f args st = none := by
  match n, hn with
  | 0, _ => rfl
  | 1, _ =>
    simp only [evF, h]
    cases G.nw f <;> rfl
  | 2, _ =>
    simp only [evF, h]
    cases G.nw f <;> rfl
theorem clN {n : Nat} (m : MdK w K mg G fs bl cs T) (ih : ∀ j, j < n → ClOk P w K mg base T (2 * j) (evF G j) fs G) : ∀ f ps, G.nws.lookup f = some ps → ∃ C, mg f = some (.ref C) ∧ NewE P w K mg base T (2 * n) (evF G n) f ps C := fun f ps h => by
  obtain ⟨hf, C, a, fd, h1, h2, h3, h4⟩ := m.nw f ps h
  refine ⟨C, h1, ⟨?_⟩⟩
  by_cases hn : n < 3
  · exact .inl fun svs st => evF_no hf hn svs st
  · obtain ⟨j, rfl⟩ : ∃ j, n = j + 3 := ⟨n - 3, by omega⟩
    exact .inr ⟨a, fd, 2 * j + 4, by omega, h2, h3, h4 P base j (ih j (by omega)) (ih (j + 1) (by omega))⟩
theorem cl_upto (m : MdK w K mg G fs bl cs T) (tb : ∀ p ∈ cs, LamX.TabB base mg p.1 p.2) : ∀ n j, j < n → ClOk P w K mg base T (2 * j) (evF G j) fs G
  | 0, _, h => by omega
  | n + 1, j, h => by
    by_cases hj : j < n
    · exact cl_upto m tb n j hj
    · obtain rfl : j = n := by omega
      have ih := cl_upto m tb j
      have q : ClF P w K mg base T (2 * j) (evF G j) fs G := by
        cases j with
        | zero => exact clF0 m
        | succ i => exact clFs m tb (ih i (by omega))
      exact ⟨clN m ih, q.mget, q.kget, q.get⟩
theorem cl_ok (m : MdK w K mg G fs bl cs T) (tb : ∀ p ∈ cs, LamX.TabB base mg p.1 p.2) (n : Nat) : ClOk P w K mg base T (2 * n) (evF G n) fs G := cl_upto m tb (n + 1) n (Nat.lt_succ_self n)
end
end Ev
set_option linter.all false
set_option maxRecDepth 100000
set_option maxHeartbeats 4000000
/-! Ev16: a law's row from its function's evaluation. -/
namespace Ev
open PySem PySem.Spec PyProof.Rows L2
section
variable {P : Program} {w : World} {K : PySem.W.Frag} {h : Heap} {a : Addr} {cs : List (Addr × Addr)} {items : List Value} {ns : List Int}
/-- what is tracked as the law begins: the tables, and the script (where it is no written object) -/
structure Beg (P : Program) (w : World) (K : PySem.W.Frag) (h : Heap) (cs : List (Addr × Addr)) (a : Addr) (items : List Value) (ns : List Int) (H : Hp) : Prop where
  tab : ∀ p ∈ cs, H p.2 = some (.tbl #[])
  only : ∀ b, b ∉ cs.map (·.2) → H b = none ∨ (b = a ∧ K.lookup a = none ∧ ∃ o, H b = some (.frz o (.lst (ns.map V.int))))
  scr : ScR K H a ns
  ok : HOk P w H h
theorem beg_of (KX : K.In h) (hT : ∀ p ∈ cs, h.get? p.2 = some { cls := .none, data := .fields #[] }) (ha : h.get? a = some { cls := .type "list", data := .seq items.toArray }) (hi : IntsAre items ns) (hl : ns.length ≤ sizeLine) : ∃ H, Beg P w K h cs a items ns H := by
  have tabAt : ∀ b, b ∈ cs.map (·.2) → h.get? b = some { cls := .none, data := .fields #[] } := by
    intro b hb
    obtain ⟨p, hp, rfl⟩ := List.mem_map.mp hb
    exact hT p hp
  have notTab : a ∉ cs.map (·.2) := by
    intro z
    have q := (tabAt a z).symm.trans ha
    injection q with q
    injection q with _ _ q
    cases q
  have rel := vals_ints hi
  let sh : Option HO := if K.lookup a = none then some (.frz { cls := .type "list", data := .seq items.toArray } (.lst (ns.map V.int))) else none
  refine ⟨fun b => if b ∈ cs.map (·.2) then some (.tbl #[]) else if b = a then sh else none, fun p hp => if_pos (List.mem_map.mpr ⟨p, hp, rfl⟩), fun b hb => ?_, ?_, fun b u e => ?_⟩
  · show (if b ∈ cs.map (·.2) then _ else _) = _ ∨ (_ ∧ _ ∧ ∃ o, (if b ∈ cs.map (·.2) then _ else _) = _)
    rw [if_neg hb]
    by_cases hba : b = a
    · rw [if_pos hba]
      by_cases hk : K.lookup a = none
      · exact .inr ⟨hba, hk, _, if_pos hk⟩
      · exact .inl (if_neg hk)
    · rw [if_neg hba]
      exact .inl rfl
  · cases hk : K.lookup a with
    | none =>
      refine .inl ⟨{ cls := .type "list", data := .seq items.toArray }, ?_⟩
      show (if a ∈ cs.map (·.2) then _ else if a = a then sh else none) = _
      rw [if_neg notTab, if_pos rfl]
      exact if_pos hk
    | some o =>
      have e := KX a o hk
      rw [ha] at e
      cases e
      exact .inr ⟨_, items.toArray, _, hk, rfl, rfl, rfl, by rw [List.size_toArray, hi.length]; exact hl, by simpa using rel⟩
  · have e : (if b ∈ cs.map (·.2) then some (HO.tbl #[]) else if b = a then sh else none) = some u := e
    split at e
    · rename_i hb
      cases e
      exact tabAt b hb
    · split at e
      · rename_i hba
        have e : (if K.lookup a = none then some (HO.frz { cls := .type "list", data := .seq items.toArray } (.lst (ns.map V.int))) else none) = some u := e
        split at e
        · cases e
          rw [hba]
          exact ⟨ha, by rw [List.length_map]; exact hl, items, _, rel, ha⟩
        · cases e
      · cases e
theorem law_run {k : Nat} {mg mb : Str → Option Value} {fa : Addr} {fd : FuncData} {x : Str} {sp : Sp} {s₁ : Shared} {T : List (Addr × Str)}
    (KX : K.In s₁.heap) (nsG : s₁.heap.Ns mainGlobals mg) (nsB : s₁.heap.Ns builtinsNs mb) (bb : ∀ x : Str, x ≠ "__name__" → mb x = bootBuiltins x) (lim : s₁.heap.NoLimit) (g0 : s₁.gens = #[])
    (hT : ∀ p ∈ cs, s₁.heap.get? p.2 = some { cls := .none, data := .fields #[] }) (nT : ∀ p ∈ cs, K.lookup p.2 = none) (C : ∀ p ∈ cs, PySem.W.CodeHd s₁.heap p.1 p.2)
    (bm : ∃ (b : Addr) (ob : Obj), mg "__builtins__" = some (.ref b) ∧ b ≠ builtinsNs ∧ s₁.heap.get? b = some ob ∧ ob.cls = .type "module" ∧ ob.dict = some builtinsNs ∧ ob.data = .plain)
    (ha : s₁.heap.get? a = some { cls := .type "list", data := .seq items.toArray }) (hi : IntsAre items ns) (hl : ns.length ≤ sizeLine) (hr : Room k callerA)
    (F : ∀ base : Heap, K.In base → base.Ns mainGlobals mg → (∀ p ∈ cs, LamX.TabB base mg p.1 p.2) → FnE P w K mg base k fa fd [x] sp) (bind : ∀ u : Value, BindsTo s₁ fd ⟨[u], []⟩ [(x, u)])
    (hsp : ∀ H : Hp, Beg P w K s₁.heap cs a items ns H → sp [.ref a] H (fun v _ => v = .bl true) E0) :
    codeAny (model P w) callerA (.call (.ref fa) ⟨[.ref a], []⟩) (fun r s' => r = .ok (.ret (.bool true)) ∧ OldK s₁.heap s'.heap ∧ s'.os = s₁.os ∧ AllBare s'.gens) s₁ := by
  obtain ⟨H, B⟩ := beg_of (P := P) (w := w) KX hT ha hi hl
  -- what isn't tracked stands in the base
  have shown : ∀ {b : Addr} {o : Obj}, s₁.heap.get? b = some o → H b = none → (hidT s₁.heap H).get? b = some o := fun e n => hidT_get e n
  have plain : ∀ {b : Addr} {o : Obj}, s₁.heap.get? b = some o → (∀ xs n, o.data ≠ .seq xs n) → o.data ≠ .fields #[] → H b = none := by
    intro b o e n1 n2
    by_cases hb : b ∈ cs.map (·.2)
    · obtain ⟨p, hp, rfl⟩ := List.mem_map.mp hb
      have q := e.symm.trans (hT p hp)
      injection q with q
      exact absurd (by rw [q]) n2
    · rcases B.only b hb with z | ⟨rfl, _⟩
      · exact z
      · have q := e.symm.trans ha
        injection q with q
        exact absurd (by rw [q]) (n1 items.toArray 0)
  have ofDict : ∀ {b : Addr} {o : Obj} {es : Array DictEntry} {ep : Nat}, s₁.heap.get? b = some o → o.data = .dict es ep → H b = none := fun e d =>
    plain e (fun xs n z => by rw [d] at z; cases z) (fun z => by rw [d] at z; cases z)
  have nsH : ∀ {b : Addr} {m : Str → Option Value}, s₁.heap.Ns b m → (hidT s₁.heap H).Ns b m := fun q => by
    obtain ⟨o, es, ep, e, d, rest⟩ := q
    exact ⟨o, es, ep, shown e (ofDict e d), d, rest⟩
  have inH : K.In (hidT s₁.heap H) := fun b o e => by
    refine shown (KX b o e) ?_
    by_cases hb : b ∈ cs.map (·.2)
    · obtain ⟨p, hp, rfl⟩ := List.mem_map.mp hb
      rw [nT p hp] at e; cases e
    · rcases B.only b hb with z | ⟨rfl, n, _⟩
      · exact z
      · rw [n] at e; cases e
  have notG : ∀ {b : Addr} {o : Obj}, s₁.heap.get? b = some o → (∀ es ep, o.data ≠ .dict es ep) → b ≠ mainGlobals := by
    intro b o e n z
    obtain ⟨og, es, ep, eg, dg, _⟩ := nsG
    rw [z, eg] at e
    injection e with e
    exact n es ep (e ▸ dg)
  have TB : ∀ p ∈ cs, LamX.TabB (hidT s₁.heap H) mg p.1 p.2 := by
    intro p hp
    refine ⟨?_, ?_, fun z => notG (hT p hp) (fun es ep q => by cases q) z.symm⟩
    · obtain ⟨o, us, file, tf, flags, tg, inF, text, tt, e1, r1, r2, r3, rest⟩ := C p hp
      refine ⟨o, us, file, tf, flags, tg, inF, text, tt, shown e1 (plain e1 (fun xs n z => by rw [r2] at z; cases z) fun z => ?_), r1, r2, r3, rest⟩
      rw [r2] at z
      injection z with z
      rw [z] at r3
      simp at r3
    · obtain ⟨b, ob, b1, b2, b3, b4, b5, b6⟩ := bm
      have dp : ∀ {d : Data}, d = ob.data → d = .plain := fun e => e.trans b6
      refine ⟨b, ob, b1, b2, notG b3 (fun es ep q => by rw [b6] at q; cases q), fun z => ?_, shown b3 (plain b3 (fun xs n z => by rw [b6] at z; cases z) fun z => by rw [b6] at z; cases z), b4, b5, b6⟩
      have q := b3.symm.trans (z ▸ hT p hp)
      injection q with q
      rw [q] at b6
      cases b6
  have md : L2.Mod K mg (hidT s₁.heap H) := by
    obtain ⟨mc, l1, l2⟩ := lim
    exact ⟨inH, nsH nsG, ⟨mb, nsH nsB, bb⟩, mc, nsH l1, l2⟩
  have env : Env0 P w K mg (hidT s₁.heap H) callerA [] s₁ H := { frames := rfl, mod := md, bs := fun b o e => of_hidT e, bsz := Nat.le_of_eq (hidT_size _ _), funs := trivial, frf := fun b hb => absurd (show b ∈ ([] : List Addr) from hb) (by simp), hok := B.ok, bare := .of_eq g0 }
  have run := (F _ inH (nsH nsG) TB).run callerA [] s₁ H [.ref a] [.ref a] (fun v _ => v = .bl true) hr rfl env (.cons rfl .nil) (hsp H B) ⟨[.ref a], []⟩ (bind (.ref a))
  refine codeAny_mono run fun r s' hq => ?_
  match r, hq with
  | .ok (.ret u), ⟨v, H', os, bare, un, hok', rel, q⟩ =>
    have q : v = .bl true := q
    subst q
    obtain rfl : u = Value.bool true := rel
    have stays : ∀ b o, b ∉ cs.map (·.2) → s₁.heap.get? b = some o → s'.heap.get? b = some o := by
      intro b o nb e
      rcases B.only b nb with z | ⟨_, _, ob, z⟩
      · exact un.keep b o e z (fun q => nomatch (show b ∈ ([] : List Addr) from q)) (by simp)
      · have k1 := (B.ok b _ z).1
        rw [e] at k1
        cases k1
        exact (hok' b _ (un.frzs b _ _ z)).1
    have grows : ∀ b, b ∈ cs.map (·.2) → ∃ p ∈ cs, p.2 = b ∧ ∃ more : Array Value, s'.heap.get? b = some { cls := .none, data := .fields more } := by
      intro b hb
      obtain ⟨p, hp, rfl⟩ := List.mem_map.mp hb
      obtain ⟨more, z⟩ := un.tbls p.2 #[] (B.tab p hp)
      exact ⟨p, hp, rfl, _, hok' p.2 _ z⟩
    refine ⟨rfl, ⟨fun b o e => ?_, fun b o e => ?_⟩, os, bare⟩
    · by_cases hb : b ∈ cs.map (·.2)
      · obtain ⟨p, hp, rfl, more, hm⟩ := grows b hb
        rw [hT p hp] at e
        cases e
        exact .inr (.inl ⟨((C p hp).tab (hT p hp)).isCodeTable, rfl, #[], more, rfl, by rw [Array.empty_append]; exact hm⟩)
      · exact .inl (stays b o hb e)
    · by_cases hb : b ∈ cs.map (·.2)
      · obtain ⟨p, hp, rfl, more, hm⟩ := grows b hb
        exact ⟨_, hm⟩
      · exact ⟨o, stays b o hb e⟩
/-- what a law's row asks of the evaluation -/
structure LawE (w : World) (K : PySem.W.Frag) (mg : Str → Option Value) (h : Heap) (k n : Nat) (f x : Str) : Prop where
  ex : ∃ (G : Pk) (fs : List (Str × List Str)) (bl : List Str) (cs : List (Addr × Addr)) (T : List (Addr × Str)),
    (∀ p ∈ cs, h.get? p.2 = some { cls := .none, data := .fields #[] }) ∧ (∀ p ∈ cs, K.lookup p.2 = none) ∧ (∀ p ∈ cs, PySem.W.CodeHd h p.1 p.2) ∧ T.map (·.1) = cs.map (·.2) ∧
    MdK w K mg G fs bl cs T ∧ fs.lookup f = some [x] ∧
    ∀ ns : List Int, ns.length ≤ n → (∀ z ∈ ns, Builtin.Int.intBits z ≤ 1048576) → ∃ fr st', evF G (k + 1) f [.scr ns] [] = some (.dat (.bool true) fr, st')
theorem walk_law {l : PySem.W.OpenLaw} {n k : Nat} {q : Program} {loose : List Str} {XP : (Str → Option Value) → Heap → Prop} {YP : World → Heap → Prop} {d : DefRec} {K : Params → PySem.W.Frag} {x : Str}
    (hn : l.most = some n) (hn2 : n ≤ sizeLine) (hdf : d.params.defaults = []) (hr : Room (2 * k + 2) callerA) (hY : ∀ (w : World) (h : Heap), YP w h → (K w.params).In h)
    (F : ∀ (w : World) (mg : Str → Option Value) (h : Heap), YP w h → (K w.params).In h → h.Ns mainGlobals mg →
      (∀ (f : Str) (a : Addr), ((recsOf q).any fun e => e.name == f) = true → mg f = some (.ref a) → LamX.OwnTab (K w.params) a h) → LawE w (K w.params) mg h k n d.name x) :
    PySem.W.WalkO q loose XP YP l.row.toRowW d [] (fun f vs => PySem.call f vs) := by
  refine Att.attach_callB hn hdf fun w s₀ s₁ mg mb fa o pm cd doc a vs ns G Y ho hd hcd hmg hobj hints hlen hbits hg => ?_
  have KX := hY w _ Y
  have own : ∀ (f : Str) (a : Addr), ((recsOf q).any fun e => e.name == f) = true → mg f = some (.ref a) → LamX.OwnTab (K w.params) a s₁.heap := by
    intro f a hf hma c P o1 fd1 e dd us sl k1 k2 k3 k4 k5
    obtain ⟨dr, hdr, hname⟩ := List.any_eq_true.mp hf
    obtain ⟨a2, o2, fd2, c2, P2, m1, m2, m3, m4, m5, m6⟩ := G.T.tab dr hdr
    rw [beq_iff_eq.mp hname, hma] at m1
    cases m1
    have z1 := m2.symm.trans (KX _ _ k1)
    cases z1
    have z2 := m3.symm.trans k2
    cases z2
    have z3 := m4.symm.trans k3
    cases z3
    obtain ⟨⟨oc, vc, n1, n2, n3, n4⟩, hP⟩ := m6
    have z4 := n1.symm.trans (KX _ _ k4)
    cases z4
    cases n3
    have z5 := n4.symm.trans k5
    cases z5
    exact hP
  obtain ⟨Gp, fs, bl, cs, T, hT, nT, C, hTc, m, hfs, hev⟩ := (F w mg _ Y KX G.T.g own).ex
  obtain ⟨a', fd, e1, e2, hb, hm⟩ := m.fn d.name [x] hfs
  rw [hmg] at e1
  cases e1
  obtain ⟨fr, st', he⟩ := hev ns hlen hbits
  refine law_run (k := 2 * k + 2) (T := T) (sp := spC (K w.params) T (evF Gp (k + 1)) d.name 1) KX G.T.g G.T.b G.T.builtins G.T.nolimit hg hT nT C G.T.bmain hobj hints (Nat.le_trans hlen hn2) hr (fun base inB nsB tb => run_fn m.b tb hm (cl_ok m tb k)) (fun u => hb _ [u] KX rfl) fun H B => ?_
  refine ⟨rfl, [], [], [.scr ns], [], _, _, ⟨rfl, (fun n ds e => by simp at e), List.nodup_nil, (fun a ha => by cases ha), (fun a ha => by cases ha), fun p hp => ?_, fun a ps e => ?_⟩, ⟨⟨a, rfl, B.scr⟩, True.intro⟩, he, fun v H' p => ?_⟩
  · have : p.1 ∈ cs.map (·.2) := by rw [← hTc]; exact List.mem_map.mpr ⟨p, hp, rfl⟩
    obtain ⟨c, hc, e⟩ := List.mem_map.mp this
    exact LamX.TabS.nil (by rw [← e]; exact B.tab c hc)
  · rw [hTc]
    refine Decidable.byContradiction fun hn => ?_
    rcases B.only a hn with z | ⟨_, _, o, z⟩ <;> rw [z] at e <;> cases e
  · cases (show RD (K w.params) [] H' v (.bool true) from p.rr)
    rfl
end
end Ev
set_option linter.all false
set_option maxRecDepth 100000
set_option maxHeartbeats 4000000
namespace Ev
open PySem PySem.Spec L2 PyProof.Rows
/-- a def of the module, as the top wrote it -/
structure FF (K : PySem.W.Frag) (f : Str) (st : Stmt) : Prop where
  ex : ∃ (a : Addr) (oc : Value) (od : Option Addr) (kV doc pm : Value) (an : Option Addr) (cdv ct : Value) (osl : Array (Option Value)),
    PySem.W.nsIn K mainGlobals f = some (some (.ref a)) ∧ K.lookup a = some ⟨oc, od, .func (PySem.W.fnOf f f (defArgs st) (defBody st) (defScope st) .none kV doc pm an cdv ct), osl⟩ ∧ PySem.W.codeIn K cdv f = true ∧ PySem.W.keepIn K (.ref a) = true
theorem ff_mk {K : PySem.W.Frag} {f : Str} {st : Stmt} {a : Addr} {oc : Value} {od : Option Addr} {kV doc pm : Value} {an : Option Addr} {cdv ct : Value} {osl : Array (Option Value)}
    (h1 : PySem.W.nsIn K mainGlobals f = some (some (.ref a))) (h2 : K.lookup a = some ⟨oc, od, .func (PySem.W.fnOf f f (defArgs st) (defBody st) (defScope st) .none kV doc pm an cdv ct), osl⟩) (h3 : PySem.W.codeIn K cdv f = true) (h4 : PySem.W.keepIn K (.ref a) = true) : FF K f st :=
  ⟨a, oc, od, kV, doc, pm, an, cdv, ct, osl, h1, h2, h3, h4⟩
/-- .. that makes lambdas: c its code object, P the table -/
structure FL (K : PySem.W.Frag) (f : Str) (st : Stmt) (c P : Addr) : Prop where
  ex : ∃ (a : Addr) (oc : Value) (od : Option Addr) (kV doc pm : Value) (an : Option Addr) (ct : Value) (osl : Array (Option Value)),
    PySem.W.nsIn K mainGlobals f = some (some (.ref a)) ∧ K.lookup a = some ⟨oc, od, .func (PySem.W.fnOf f f (defArgs st) (defBody st) (defScope st) .none kV doc pm an (.ref c) ct), osl⟩ ∧ PySem.W.codeIn K (.ref c) f = true ∧ PySem.W.keepIn K (.ref a) = true
  lc : ∃ e dd vs sl, K.lookup c = some ⟨e, dd, .fields vs, sl⟩ ∧ vs[11]? = some (.ref P)
  hd : PySem.W.codeHdIn K c P = true
  np : K.lookup P = none
theorem fl_mk {K : PySem.W.Frag} {f : Str} {st : Stmt} {a c P : Addr} {oc : Value} {od : Option Addr} {kV doc pm : Value} {an : Option Addr} {ct : Value} {osl : Array (Option Value)} {e : Value} {dd : Option Addr} {vs : Array Value} {sl : Array (Option Value)}
    (h1 : PySem.W.nsIn K mainGlobals f = some (some (.ref a))) (h2 : K.lookup a = some ⟨oc, od, .func (PySem.W.fnOf f f (defArgs st) (defBody st) (defScope st) .none kV doc pm an (.ref c) ct), osl⟩) (h3 : PySem.W.codeIn K (.ref c) f = true) (h4 : PySem.W.keepIn K (.ref a) = true)
    (h5 : K.lookup c = some ⟨e, dd, .fields vs, sl⟩) (h6 : vs[11]? = some (.ref P)) (h7 : PySem.W.codeHdIn K c P = true) (h8 : K.lookup P = none) : FL K f st c P :=
  ⟨⟨a, oc, od, kV, doc, pm, an, ct, osl, h1, h2, h3, h4⟩, ⟨e, dd, vs, sl, h5, h6⟩, h7, h8⟩
/-- a constant of the module -/
structure CF (K : PySem.W.Frag) (x : Str) (d : D) : Prop where
  ex : ∃ u v, PySem.W.nsIn K mainGlobals x = some (some u) ∧ RelV v u ∧ ∀ φ H, RD K φ H v d
theorem cf_int {K : PySem.W.Frag} {x : Str} {i : Int} {t : Tok} (h : PySem.W.nsIn K mainGlobals x = some (some (.int i t))) : CF K x (.int i) := ⟨_, .int i, h, ⟨t, rfl⟩, fun _ _ => .int i⟩
theorem cf_strs2 {K : PySem.W.Frag} {x a b : Str} {p : Addr} {s t : Tok} {dd : Option Addr} {n : Nat} {sl : Array (Option Value)} (h : PySem.W.nsIn K mainGlobals x = some (some (.ref p))) (h2 : K.lookup p = some ⟨.type "tuple", dd, .seq #[.str a s, .str b t] n, sl⟩) : CF K x (.tuple [.str a, .str b]) :=
  ⟨_, .ref p, h, rfl, fun φ H => .tup (xs := [.str a, .str b]) (.inr ⟨_, _, _, h2, rfl, rfl, (by show 2 ≤ sizeLine; decide), .cons ⟨s, rfl⟩ (.cons ⟨t, rfl⟩ .nil)⟩) (.cons (.str a) (.cons (.str b) .nil))⟩
theorem cf_ints2 {K : PySem.W.Frag} {x : Str} {a b : Int} {p : Addr} {s t : Tok} {dd : Option Addr} {n : Nat} {sl : Array (Option Value)} (h : PySem.W.nsIn K mainGlobals x = some (some (.ref p))) (h2 : K.lookup p = some ⟨.type "tuple", dd, .seq #[.int a s, .int b t] n, sl⟩) : CF K x (.tuple [.int a, .int b]) :=
  ⟨_, .ref p, h, rfl, fun φ H => .tup (xs := [.int a, .int b]) (.inr ⟨_, _, _, h2, rfl, rfl, (by show 2 ≤ sizeLine; decide), .cons ⟨s, rfl⟩ (.cons ⟨t, rfl⟩ .nil)⟩) (.cons (.int a) (.cons (.int b) .nil))⟩
/-- a dict of the module, of two texts to texts -/
structure DF (K : PySem.W.Frag) (w : World) (g : Str) (kvs : List (Str × D)) : Prop where
  ex : ∃ p, PySem.W.nsIn K mainGlobals g = some (some (.ref p)) ∧ ∀ k d, kvs.lookup k = some d → ∃ v, KDct K w p k v ∧ ∀ φ H, RD K φ H v d
theorem df_2 {K : PySem.W.Frag} {w : World} {g a b c d : Str} {p : Addr} {es : Array DictEntry} {n : Nat} {t u : Tok} (h : PySem.W.nsIn K mainGlobals g = some (some (.ref p))) (h2 : K.lookup p = some ⟨.type "dict", none, .dict es n, #[]⟩) (h3 : PySem.W.KeysLit w.params es.toList)
    (h4 : PySem.W.nsIn K p a = some (some (.str c t))) (h5 : PySem.W.nsIn K p b = some (some (.str d u))) : DF K w g [(a, .str c), (b, .str d)] := by
  refine ⟨p, h, fun k x hk => ?_⟩
  simp only [List.lookup] at hk
  split at hk
  · rename_i e
    cases hk
    rw [beq_iff_eq.mp e]
    exact ⟨.str c, ⟨es, n, _, h2, h3, h4, t, rfl⟩, fun _ _ => .str c⟩
  · split at hk
    · rename_i e
      cases hk
      rw [beq_iff_eq.mp e]
      exact ⟨.str d, ⟨es, n, _, h2, h3, h5, u, rfl⟩, fun _ _ => .str d⟩
    · cases hk
/-- what is known of a def's text -/
structure SI (G : Pk) (fs : List (Str × List Str)) (bl : List Str) (f : Str) (ps : List Str) (st : Stmt) (F : FnD) (N : List Str) : Prop where
  S : FnScope N ps (defScope st)
  fn : G.fn f = some F
  p : F.ps = ps.length
  l : F.len = N.length
  le : ps.length ≤ N.length
  ch : chSs fs bl G F.body ⟨N, defScope st, ownB (defScope st), if F.lam = true then some (lamQ f) else none⟩ (defBody st) = true
  b : ∀ (kV doc pm : Value) (an : Option Addr) (cdv ct : Value) (us : List Value), us.length = ps.length → bindArgs (PySem.W.fnOf f f (defArgs st) (defBody st) (defScope st) .none kV doc pm an cdv ct) ⟨us, []⟩ = pure (ps.zip us)
/-- .. and of a call of it by names -/
structure KB (f : Str) (ps : List Str) (st : Stmt) (ks : List Str) (ix : List Nat) : Prop where
  len : ix.length = ps.length
  lt : ∀ i ∈ ix, i < ks.length
  b : ∀ (kV doc pm : Value) (an : Option Addr) (cdv ct : Value) (ws : List Value), ws.length = ks.length → bindArgs (PySem.W.fnOf f f (defArgs st) (defBody st) (defScope st) .none kV doc pm an cdv ct) ⟨[], ks.zip ws⟩ = pure (ps.zip (pick ix ws))
/-- a def: its text and what the top wrote -/
inductive FI (K : PySem.W.Frag) (G : Pk) (fs : List (Str × List Str)) (bl : List Str) (cs : List (Addr × Addr)) (T : List (Addr × Str)) (f : Str) (ps : List Str) (st : Stmt) : Prop
  | plain {F : FnD} {N : List Str} (i : SI G fs bl f ps st F N) (k : FF K f st) (n : F.lam = false) : FI K G fs bl cs T f ps st
  | lam {F : FnD} {N : List Str} {c P : Addr} (i : SI G fs bl f ps st F N) (k : FL K f st c P) (h1 : (c, P) ∈ cs) (h2 : (P, lamQ f) ∈ T) (h3 : ∀ p ∈ T, p.1 = P → p.2 = lamQ f) : FI K G fs bl cs T f ps st
section
variable {w : World} {K : PySem.W.Frag} {mg : Str → Option Value} {h : Heap} {G : Pk} {fs : List (Str × List Str)} {bl : List Str} {cs : List (Addr × Addr)} {T : List (Addr × Str)} {f : Str} {ps : List Str} {st : Stmt}
theorem FI.get (X : K.In h) (G0 : h.Ns mainGlobals mg) (i : FI K G fs bl cs T f ps st) : ∃ (a : Addr) (kV doc pm : Value) (an : Option Addr) (cdv ct : Value), mg f = some (.ref a) ∧ PySem.W.keepIn K (.ref a) = true ∧
    (∀ us : List Value, us.length = ps.length → bindArgs (PySem.W.fnOf f f (defArgs st) (defBody st) (defScope st) .none kV doc pm an cdv ct) ⟨us, []⟩ = pure (ps.zip us)) ∧
    FnM K G fs bl cs T f f ps (PySem.W.fnOf f f (defArgs st) (defBody st) (defScope st) .none kV doc pm an cdv ct) a := by
  cases i with
  | plain i k n =>
    rename_i F N
    obtain ⟨a, oc, od, kV, doc, pm, an, cdv, ct, osl, h1, h2, h3, h4⟩ := k.ex
    exact ⟨a, kV, doc, pm, an, cdv, ct, PySem.W.mg_of X G0 h1, h4, i.b kV doc pm an cdv ct, ⟨st, F, N, oc, od, kV, doc, pm, an, cdv, ct, osl, rfl, h2, h3, i.S, i.fn, i.p, i.l, i.le, i.ch, fun z => by rw [n] at z; cases z⟩⟩
  | lam i k q1 q2 q3 =>
    rename_i F N c P
    obtain ⟨a, oc, od, kV, doc, pm, an, ct, osl, h1, h2, h3, h4⟩ := k.ex
    exact ⟨a, kV, doc, pm, an, .ref c, ct, PySem.W.mg_of X G0 h1, h4, i.b kV doc pm an (.ref c) ct, ⟨st, F, N, oc, od, kV, doc, pm, an, .ref c, ct, osl, rfl, h2, h3, i.S, i.fn, i.p, i.l, i.le, i.ch, fun _ => ⟨c, P, rfl, q1, q2, q3⟩⟩⟩
def AllF (K : PySem.W.Frag) (G : Pk) (fs : List (Str × List Str)) (bl : List Str) (cs : List (Addr × Addr)) (T : List (Addr × Str)) : List (Str × List Str) → Prop
  | [] => True
  | (f, ps) :: r => (∃ st, FI K G fs bl cs T f ps st) ∧ AllF K G fs bl cs T r
theorem AllF.get : ∀ {l : List (Str × List Str)}, AllF K G fs bl cs T l → l.lookup f = some ps → ∃ st, FI K G fs bl cs T f ps st
  | [], _, h => by cases h
  | (g, qs) :: r, a, h => by
    simp only [List.lookup] at h
    split at h
    · rename_i e
      cases h
      rw [beq_iff_eq.mp e]
      exact a.1
    · exact AllF.get a.2 h
def AllK (K : PySem.W.Frag) (G : Pk) (fs : List (Str × List Str)) (bl : List Str) (cs : List (Addr × Addr)) (T : List (Addr × Str)) : List (Str × List Str × List Nat) → Prop
  | [] => True
  | (f, ks, ix) :: r => (∃ ps st, FI K G fs bl cs T f ps st ∧ KB f ps st ks ix) ∧ AllK K G fs bl cs T r
theorem AllK.get {ks : List Str} {ix : List Nat} : ∀ {l : List (Str × List Str × List Nat)}, AllK K G fs bl cs T l → (f, ks, ix) ∈ l → ∃ ps st, FI K G fs bl cs T f ps st ∧ KB f ps st ks ix
  | [], _, h => by cases h
  | (g, qs, jx) :: r, a, h => by
    rcases List.mem_cons.mp h with e | h
    · cases e
      exact a.1
    · exact AllK.get a.2 h
def AllB (K : PySem.W.Frag) : List Str → Prop
  | [] => True
  | x :: r => PySem.W.nsIn K mainGlobals x = some none ∧ AllB K r
theorem AllB.get {x : Str} : ∀ {l : List Str}, AllB K l → x ∈ l → PySem.W.nsIn K mainGlobals x = some none
  | [], _, h => by cases h
  | y :: r, a, h => by
    rcases List.mem_cons.mp h with rfl | h
    · exact a.1
    · exact AllB.get a.2 h
def AllC (K : PySem.W.Frag) : List (Str × D) → Prop
  | [] => True
  | (x, d) :: r => CF K x d ∧ AllC K r
theorem AllC.get {x : Str} {d : D} : ∀ {l : List (Str × D)}, AllC K l → l.lookup x = some d → CF K x d
  | [], _, h => by cases h
  | (y, e) :: r, a, h => by
    simp only [List.lookup] at h
    split at h
    · rename_i q
      cases h
      rw [beq_iff_eq.mp q]
      exact a.1
    · exact AllC.get a.2 h
def AllD (K : PySem.W.Frag) (w : World) : List (Str × List (Str × D)) → Prop
  | [] => True
  | (x, d) :: r => DF K w x d ∧ AllD K w r
theorem AllD.get {x : Str} {d : List (Str × D)} : ∀ {l : List (Str × List (Str × D))}, AllD K w l → l.lookup x = some d → DF K w x d
  | [], _, h => by cases h
  | (y, e) :: r, a, h => by
    simp only [List.lookup] at h
    split at h
    · rename_i q
      cases h
      rw [beq_iff_eq.mp q]
      exact a.1
    · exact AllD.get a.2 h
/-- a class of the module -/
structure KC (K : PySem.W.Frag) (c : Str) (C : Addr) : Prop where
  at_ : PySem.W.nsIn K mainGlobals c = some (some (.ref C))
  cls : Cls K C
theorem kc_mk {c : Str} {C : Addr} (h : PySem.W.nsIn K mainGlobals c = some (some (.ref C))) (pg : PySem.W.plainGet K C Str.empty = true) (hd : PySem.W.hasDictIn K C = true) (po : PySem.W.plainOver K C = true) (sa : PySem.W.findIn K (.ref C) "__setattr__" = some (some (.builtin "object.__setattr__"))) : KC K c C := ⟨h, ⟨pg, hd, po, sa⟩⟩
def AllFl (K : PySem.W.Frag) : List (Str × Str) → Prop
  | [] => True
  | (c, x) :: r => (∃ C, KC K c C ∧ NoAttr K C x) ∧ AllFl K r
theorem flOk_of {K : PySem.W.Frag} : ∀ {l : List (Str × Str)}, AllFl K l → FlOk K l
  | [], _, c, x, h => by cases h
  | (c', x') :: r, a, c, x, h => by
    rcases List.mem_cons.mp h with e | h
    · cases e
      obtain ⟨C, kc, na⟩ := a.1
      exact ⟨C, kc.at_, kc.cls, na⟩
    · exact flOk_of a.2 c x h
/-- a method, as the top wrote it -/
structure KM (K : PySem.W.Frag) (C : Addr) (m q : Str) (st : Stmt) : Prop where
  ex : ∃ (a : Addr) (oc : Value) (od : Option Addr) (kV doc pm : Value) (an : Option Addr) (cdv ct : Value) (osl : Array (Option Value)),
    Meth K C m a ∧ K.lookup a = some ⟨oc, od, .func (PySem.W.fnOf m q (defArgs st) (defBody st) (defScope st) .none kV doc pm an cdv ct), osl⟩ ∧ PySem.W.codeIn K cdv q = true
theorem km_mk {C : Addr} {m q : Str} {st : Stmt} {a : Addr} {oc : Value} {od : Option Addr} {kV doc pm : Value} {an : Option Addr} {cdv ct : Value} {osl : Array (Option Value)} (h : PySem.W.findIn K (.ref C) m = some (some (.ref a))) (i : PySem.W.isFn K (.ref a) = true)
    (l : K.lookup a = some ⟨oc, od, .func (PySem.W.fnOf m q (defArgs st) (defBody st) (defScope st) .none kV doc pm an cdv ct), osl⟩) (c : PySem.W.codeIn K cdv q = true) (k : PySem.W.keepIn K (.ref a) = true) : KM K C m q st := ⟨a, oc, od, kV, doc, pm, an, cdv, ct, osl, ⟨h, i, k⟩, l, c⟩
/-- what is known of a method's text -/
structure SM (G : Pk) (fs : List (Str × List Str)) (bl : List Str) (m q : Str) (ps : List Str) (st : Stmt) (F : FnD) (N : List Str) : Prop where
  S : FnScope N ps (defScope st)
  fn : G.fn q = some F
  p : F.ps = ps.length
  l : F.len = N.length
  le : ps.length ≤ N.length
  lam : F.lam = false
  ch : chSs fs bl G F.body ⟨N, defScope st, ownB (defScope st), if F.lam = true then some (lamQ q) else none⟩ (defBody st) = true
  b : ∀ (kV doc pm : Value) (an : Option Addr) (cdv ct : Value) (us : List Value), us.length = ps.length → bindArgs (PySem.W.fnOf m q (defArgs st) (defBody st) (defScope st) .none kV doc pm an cdv ct) ⟨us, []⟩ = pure (ps.zip us)
def AllM (K : PySem.W.Frag) (G : Pk) (fs : List (Str × List Str)) (bl : List Str) : List ((Str × Str) × List Str) → Prop
  | [] => True
  | ((c, m), ps) :: r => (∃ C st q F N, KC K c C ∧ c ++ ("." : Str) ++ m = q ∧ SM G fs bl m q ps st F N ∧ KM K C m q st) ∧ AllM K G fs bl r
theorem AllM.get {c m : Str} : ∀ {l : List ((Str × Str) × List Str)}, AllM K G fs bl l → l.lookup (c, m) = some ps → ∃ C st q F N, KC K c C ∧ c ++ ("." : Str) ++ m = q ∧ SM G fs bl m q ps st F N ∧ KM K C m q st
  | [], _, h => by cases h
  | ((c', m'), qs) :: r, a, h => by
    simp only [List.lookup] at h
    split at h
    · rename_i e
      cases h
      have e := eq_of_beq e
      cases e
      exact a.1
    · exact AllM.get a.2 h
theorem AllM.mt {cs : List (Addr × Addr)} {T : List (Addr × Str)} (am : AllM K G fs bl G.ms) : ∀ c m ps, G.ms.lookup (c, m) = some ps → ∃ C a fd, PySem.W.nsIn K mainGlobals c = some (some (.ref C)) ∧ Cls K C ∧ Meth K C m a ∧ Binds K fd ps [] ∧ FnM K G fs bl cs T m (c ++ ("." : Str) ++ m) ps fd a := fun c m ps h => by
  obtain ⟨C, st, q, F, N, kc, rfl, sm, ⟨a, oc, od, kV, doc, pm, an, cdv, ct, osl, h1, h2, h3⟩⟩ := am.get h
  exact ⟨C, a, _, kc.at_, kc.cls, h1, .all (sm.b kV doc pm an cdv ct), ⟨st, F, N, oc, od, kV, doc, pm, an, cdv, ct, osl, rfl, h2, h3, sm.S, sm.fn, sm.p, sm.l, sm.le, sm.ch, fun z => by rw [sm.lam] at z; cases z⟩⟩
/-- what is made -/
def NwOk (w : World) (K : PySem.W.Frag) (mg : Str → Option Value) (G : Pk) (fs : List (Str × List Str)) (T : List (Addr × Str)) : Prop := ∀ f ps, G.nws.lookup f = some ps → G.fn f = none ∧ ∃ C a fd, mg f = some (.ref C) ∧ Mk K C a ∧ Binds K fd (("self" : Str) :: ps) [] ∧ ∀ (P : Program) (base : Heap) (n : Nat), ClOk P w K mg base T (2 * n) (evF G n) fs G → ClOk P w K mg base T (2 * (n + 1)) (evF G (n + 1)) fs G →
    FnE P w K mg base (2 * n + 4) a fd (("self" : Str) :: ps) (spN K T (evF G (n + 3)) f ps.length C)
theorem mdk_of {cons : List (Str × D)} {dics : List (Str × List (Str × D))} (X : K.In h) (G0 : h.Ns mainGlobals mg) (ec : ∀ x, G.con x = cons.lookup x) (ed : ∀ x, G.dic x = dics.lookup x) (af : AllF K G fs bl cs T fs) (ak : AllK K G fs bl cs T G.kc) (ab : AllB K bl) (ac : AllC K cons) (ad : AllD K w dics) (afl : FlOk K G.fl) (am : AllM K G fs bl G.ms) (an : MdB K w mg G bl → NwOk w K mg G fs T) :
    MdK w K mg G fs bl cs T := by
  have mb : MdB K w mg G bl := by
    refine ⟨fun x hx => PySem.W.mg_none_of X G0 (ab.get hx), afl, fun x d hd => ?_, fun g kvs hd => ?_⟩
    · rw [ec] at hd
      obtain ⟨u, v, h1, h2, h3⟩ := (ac.get hd).ex
      exact ⟨u, v, PySem.W.mg_of X G0 h1, h2, h3⟩
    · rw [ed] at hd
      obtain ⟨p, h1, h2⟩ := (ad.get hd).ex
      exact ⟨p, PySem.W.mg_of X G0 h1, h2⟩
  refine ⟨mb, fun f ps hf => ?_, fun f ks ix hk => ?_, am.mt, an mb⟩
  · obtain ⟨st, i⟩ := af.get hf
    obtain ⟨a, kV, doc, pm, an, cdv, ct, h1, h2, h3, h4⟩ := i.get X G0
    exact ⟨a, _, h1, h2, .all h3, h4⟩
  · obtain ⟨ps, st, i, kb⟩ := ak.get hk
    cases i with
    | plain i k n =>
      rename_i F N
      obtain ⟨a, oc, od, kV, doc, pm, an, cdv, ct, osl, h1, h2, h3, h4⟩ := k.ex
      exact ⟨ps, a, _, PySem.W.mg_of X G0 h1, h4, kb.len, kb.lt, fun s ws hw => .of_eq (kb.b kV doc pm an cdv ct ws hw), ⟨st, F, N, oc, od, kV, doc, pm, an, cdv, ct, osl, rfl, h2, h3, i.S, i.fn, i.p, i.l, i.le, i.ch, fun z => by rw [n] at z; cases z⟩⟩
    | lam i k q1 q2 q3 =>
      rename_i F N c P
      obtain ⟨a, oc, od, kV, doc, pm, an, ct, osl, h1, h2, h3, h4⟩ := k.ex
      exact ⟨ps, a, _, PySem.W.mg_of X G0 h1, h4, kb.len, kb.lt, fun s ws hw => .of_eq (kb.b kV doc pm an (.ref c) ct ws hw), ⟨st, F, N, oc, od, kV, doc, pm, an, .ref c, ct, osl, rfl, h2, h3, i.S, i.fn, i.p, i.l, i.le, i.ch, fun _ => ⟨c, P, rfl, q1, q2, q3⟩⟩⟩
end
end Ev
set_option linter.all false
set_option maxRecDepth 100000
set_option maxHeartbeats 8000000
/-! EvT1: what an object Turns holds; the function that returns two lists. -/
namespace Ev
open PySem PySem.Spec L2
abbrev Cl := Str → List SV → Sto → Option (ER × Sto)
def stepT (cl : Cl) (row l r : List D) (st : Sto) : Option (List D × List D × Sto) :=
  match cl ("next_along" : Str) [.dat (.list row), .dat (.str ("left" : Str))] st with
  | some (.dat (.list ys) _, st1) => if l.length + ys.length ≤ sizeLine then
      match cl ("next_along" : Str) [.dat (.list row), .dat (.str ("right" : Str))] st1 with
      | some (.dat (.list zs) _, st2) => if r.length + zs.length ≤ sizeLine then some (l ++ ys, r ++ zs, st2) else none
      | _ => none
    else none
  | _ => none
def rowT (as : List D) (W k : Nat) : List D := cutD as (some (((k : Nat) : Int) * ((W : Nat) : Int))) (some (((k : Nat) : Int) * ((W : Nat) : Int) + ((W : Nat) : Int)))
def loopT (cl : Cl) (as : List D) (W : Nat) (st : Sto) : Nat → Option (List D × List D × Sto)
  | 0 => some ([], [], st)
  | k + 1 => match loopT cl as W st k with
    | some (l, r, st1) => stepT cl (rowT as W k) l r st1
    | none => none
def crossT (G0 : Pk) (body : List IS) (len : Nat) (mu : List Nat) (a b : Nat) (cl : Cl) (bs : List D) (st : Sto) : Option (List D × List D × Sto) :=
  match evSs G0 cl mu body (some (.dat (.tuple bs)) :: List.replicate (len - 1) none) st with
  | some (.nx env st1) => match env[a]?, env[b]? with
    | some (some (.loc n)), some (some (.loc m)) => if st.length ≤ n ∧ st.length ≤ m then match st1[n]?, st1[m]? with
        | some ss, some as => some (ss, as, st1.take st.length)
        | _, _ => none
      else none
    | _, _ => none
  | _ => none
def fldsT (W : Nat) (ss as l r : List D) : List (D × D) := [(.str ("width" : Str), .int ((W : Nat) : Int)), (.str ("stands" : Str), .list ss), (.str ("across" : Str), .list as), (.str ("behind" : Str), .dict [(.str ("left" : Str), .list l), (.str ("right" : Str), .list r)])]
def turnsD (W : Nat) (ss as l r : List D) : D := .dict ((.none, .str ("Turns" : Str)) :: fldsT W ss as l r)
def nwT (G0 : Pk) (body : List IS) (len : Nat) (mu : List Nat) (a b : Nat) (cl0 cl1 : Cl) : List SV → Sto → Option (ER × Sto)
  | [.dat (.tuple bs)], st => match crossT G0 body len mu a b cl0 bs st with
    | some (ss, as, st1) => if 3 ≤ bs.length ∧ bs.length ≤ 8 ∧ ss.length = bs.length * (2 * bs.length - 2) then match loopT cl1 as (2 * bs.length - 2) st1 bs.length with
        | some (l, r, st2) => some (.dat (turnsD (2 * bs.length - 2) ss as l r) false, st2)
        | none => none
      else none
    | none => none
  | _, _ => none
section
variable {K : PySem.W.Frag} {T : List (Addr × Str)} {φ ρ : List Addr} {H : Hp} {st : Sto}
/-- a new object comes, which may change -/
theorem Ws.freshO {p : Addr} {o : HO} (w : Ws K T φ ρ H st) (h : H p = none) (m : Mo o) (ho : ∀ ps, o ≠ .tbl ps := by intro _ z; cases z) : Ws K T (φ ++ [p]) ρ (upd H p o) st := by
  have q := w.new (o := o) h ho
  have y : Ext (φ ++ [p]) H (upd H p o) := .new h
  have fl : Lst (φ ++ [p]) H := fun a ha o e => by
    rcases List.mem_append.mp ha with ha | ha
    · exact w.fl a ha o e
    · rw [List.mem_singleton.mp ha, h] at e; cases e
  refine ⟨q.len, fun n ds e => ?_, q.nd, fun a ha => List.mem_append_left _ (q.sub a ha), fun a ha => ?_, q.tab⟩
  · obtain ⟨a, ys, h1, h2, h3⟩ := w.sto n ds e
    exact ⟨a, ys, h1, (upd_ne (ne_of_none h2 h)).trans h2, (RDs.fresh h h3).ext y fl⟩
  · rcases List.mem_append.mp ha with ha | ha
    · exact q.fx a ha
    · rw [List.mem_singleton.mp ha]; exact ⟨_, upd_same, m⟩
theorem RD.freshO {p : Addr} {o : HO} {v : V} {d : D} (w : Ws K T φ ρ H st) (h : H p = none) (r : RD K φ H v d) : RD K (φ ++ [p]) (upd H p o) v d := by
  have y : Ext (φ ++ [p]) H (upd H p o) := .new h
  refine RD.ext y (fun a ha o e => ?_) (RD.fresh h r)
  rcases List.mem_append.mp ha with ha | ha
  · exact w.fl a ha o e
  · rw [List.mem_singleton.mp ha, h] at e; cases e
/-- an object that may change does -/
theorem Ws.updO {p : Addr} {o o' : HO} (w : Ws K T φ ρ H st) (hp : p ∈ φ) (hr : p ∉ ρ) (h : H p = some o) (m : Mo o') (ht : ∀ ps, o ≠ .tbl ps := by intro _ z; cases z) (hx : ∀ f, o ≠ .ext f := by intro _ z; cases z) (ht' : ∀ ps, o' ≠ .tbl ps := by intro _ z; cases z) : Ws K T φ ρ (upd H p o') st := by
  have x : Ext φ H (upd H p o') := .at hp
  refine ⟨w.len, fun n ds e => ?_, w.nd, w.sub, fun a ha => ?_, ⟨fun q hq => ?_, fun a ps e => ?_⟩⟩
  · obtain ⟨a, ys, h1, h2, h3⟩ := w.sto n ds e
    exact ⟨a, ys, h1, (upd_ne fun z => hr (by rw [← z]; exact List.mem_of_getElem? h1)).trans h2, h3.ext x w.fl⟩
  · by_cases z : a = p
    · rw [z]; exact ⟨_, upd_same, m⟩
    · obtain ⟨u, e, mo⟩ := w.fx a ha
      exact ⟨u, (upd_ne z).trans e, mo⟩
  · obtain ⟨ps, h1, h2, h3⟩ := w.tab.1 q hq
    refine ⟨ps, (upd_ne fun z => ?_).trans h1, h2, fun pos cv hcv => ?_⟩
    · rw [z, h] at h1; cases h1
      exact ht _ rfl
    · obtain ⟨c, e1, e2⟩ := h3 pos cv hcv
      refine ⟨c, e1, (upd_ne fun z => ?_).trans e2⟩
      rw [z, h] at e2
      have e2 := Option.some.inj e2
      unfold LamX.CodeO at e2
      exact hx _ e2
  · by_cases z : a = p
    · rw [z, upd_same] at e
      exact absurd (Option.some.inj e) (ht' ps)
    · rw [upd_ne z] at e
      exact w.tab.2 a ps e
end
/-! ### a function that ends in `return x, y`, two lists of its own -/
theorem dropLast_app {α : Type} : ∀ {l : List α} {a : α}, l.getLast? = some a → l.dropLast ++ [a] = l
  | [], _, h => by cases h
  | [b], a, h => by cases h; rfl
  | b :: c :: l, a, h => by
    have h2 : (c :: l).getLast? = some a := by rw [← h]; simp [List.getLast?_cons_cons]
    show b :: ((c :: l).dropLast ++ [a]) = _
    rw [dropLast_app h2]
def spX (K : PySem.W.Frag) (T : List (Addr × Str)) (G0 : Pk) (body : List IS) (len : Nat) (mu : List Nat) (a b : Nat) (cl : Cl) : Sp := fun vs H Q _ => ∃ φ ρ v bs st ss as st1, vs = [v] ∧ Ws K T φ ρ H st ∧ RD K φ H v (.tuple bs) ∧ crossT G0 body len mu a b cl bs st = some (ss, as, st1) ∧
  ∀ p la lb H', SqT K H' p [.ref la, .ref lb] → Ws K T φ ρ H' st1 → Ext ρ H H' → RD K φ H' (.ref la) (.list ss) → RD K φ H' (.ref lb) (.list as) → Q (.ref p) H'
def chX (fs : List (Str × List Str)) (bl : List Str) (G0 : Pk) (body : List IS) (a b : Nat) (s : Sx) (sts : List Stmt) : Bool := match sts.getLast? with
  | some (.Return (some (.Tuple [.Name x _, .Name y _] _ _)) _) => decide (s.N[a]? = some x) && visB s.sc x && nmB x && decide (s.N[b]? = some y) && visB s.sc y && nmB y && chSs fs bl G0 body s sts.dropLast
  | _ => false
def tSk (K : PySem.W.Frag) (T : List (Addr × Str)) (F : Env → Sto → Option Fl) (tt : TS) : TS := fun D σ H => ∃ φ ρ env st env1 st1, Ws K T φ ρ H st ∧ Sl K φ ρ H env σ ∧ F env st = some (.nx env1 st1) ∧ ∀ φ' ρ' σ' H', NxP K T φ ρ H env1 st1 φ' ρ' σ' H' → tt D σ' H'
section
variable {fs : List (Str × List Str)} {bl : List Str} {G : Pk} {T : List (Addr × Str)} {n : Nat} {cl : Cl} {mu : List Nat} {X : Cx}
theorem sndApp {s : Stmt} {tt : TS} (hs : PS X s tt) : ∀ (cs : List IS) (sx : Sx) (sts : List Stmt), Gd fs bl G T n cl sx X → sx.sc.kind = .function → X.xe = (fun _ _ => False) → chSs fs bl G cs sx sts = true → PSs X (sts ++ [s]) (tSk X.K T (fun env st => evSs G cl mu cs env st) tt)
  | [], sx, sts, g, hk, hx, h => by
    simp only [chSs] at h
    split at h
    · refine impSs (pss_one hs) fun D σ H q => ?_
      obtain ⟨φ, ρ, env, st, env1, st1, ws, sl, he, k⟩ := q
      simp only [evSs] at he
      cases he
      exact k φ ρ σ H ⟨ws, sl, .refl _ _ _⟩
    · cases h
  | c :: cs, sx, sts, g, hk, hx, h => by
    simp only [chSs] at h
    split at h
    · simp only [Bool.and_eq_true] at h
      refine impSs (pss_cons (sndS (mu := mu) c sx X _ g hk hx h.1) (sndApp hs cs sx _ g hk hx h.2)) fun D σ H q => ?_
      obtain ⟨φ, ρ, env, st, env1, st1, ws, sl, he, k⟩ := q
      simp only [evSs] at he
      split at he
      · rename_i e1 s1 h3
        exact ⟨φ, ρ, env, st, _, ws, sl, h3, fun φ' ρ' σ' H' p => ⟨φ', ρ', e1, s1, env1, st1, p.ws, p.sl, he, fun φ2 ρ2 σ2 H2 p2 => k φ2 ρ2 σ2 H2 ⟨p2.ws, p2.sl, p.gs.trans p2.gs⟩⟩⟩
      · rename_i h3
        exact absurd he (h3 _ _)
    · cases h
end
section
variable {P : Program} {w : World} {K : PySem.W.Frag} {mg : Str → Option Value} {base : Heap} {T : List (Addr × Str)} {G0 : Pk} {fs : List (Str × List Str)} {bl : List Str} {f : Str} {a : Addr}
theorem frozen_loc {φ ρ m : List Addr} {H H' : Hp} {st st1 : Sto} {i : Nat} {ds : List D} {la : Addr} (ws : Ws K T φ ρ H st) (w' : Ws K T (φ ++ m) (ρ ++ m) H' st1) (hm : ∀ a ∈ m, H a = none) (hi : st.length ≤ i) (h1 : (ρ ++ m)[i]? = some la) (h2 : st1[i]? = some ds) : RD K φ H' (.ref la) (.list ds) := by
  obtain ⟨a, xs, e1, e2, e3⟩ := w'.sto i ds h2
  rw [h1] at e1
  cases e1
  rw [List.getElem?_append_right (by rw [ws.len]; exact hi)] at h1
  have hla := hm la (List.mem_of_getElem? h1)
  refine .lst (fun z => ?_) e2 (e3.weak fun a ha => List.mem_append_left _ ha)
  obtain ⟨u, e, _⟩ := ws.fx la z
  rw [hla] at e; cases e
theorem run_cross {n : Nat} {body : List IS} {mu : List Nat} {len i j : Nat} {st : Stmt} {N : List Str} {oc : Value} {od : Option Addr} {kV doc pm : Value} {an : Option Addr} {cdv ct : Value} {osl : Array (Option Value)} (mb : MdB K w mg G0 bl)
    {cl : Cl} (ck2 : ClOk P w K mg base T (2 * n) cl fs G0) (lk : K.lookup a = some ⟨oc, od, .func (PySem.W.fnOf f f (defArgs st) (defBody st) (defScope st) .none kV doc pm an cdv ct), osl⟩) (hcd : PySem.W.codeIn K cdv f = true) (S : FnScope N [("board" : Str)] (defScope st)) (hl : len = N.length)
    (hch : chX fs bl G0 body i j ⟨N, defScope st, ownB (defScope st), none⟩ (defBody st) = true) :
    FnE P w K mg base (2 * n + 2) a (PySem.W.fnOf f f (defArgs st) (defBody st) (defScope st) .none kV doc pm an cdv ct) [("board" : Str)] (spX K T G0 body len mu i j cl) := by
  refine ⟨fun A outer s H us vs Q hr hgu e0 rv hsp args hb => ?_⟩
  obtain ⟨φ, ρ, v, bs, st0, ss, as, st1, rfl, ws, rd, he, k⟩ := hsp
  refine LamX.run_ofS (N := N) lk hcd S hr e0 hb rv rfl fun hr' => ?_
  have g : Gd fs bl G0 T (2 * n) cl ⟨N, defScope st, ownB (defScope st), none⟩ (cxOf CX0 P w K mg base N f (defScope st) a cdv A outer s H E0).nox := by
    refine ⟨rfl, rfl, S.nd, fun x hx => ⟨?_, .inl rfl⟩, rfl, hr'.mono (Nat.le_succ _), hgu, ck2, mb.fl, mb.bl, mb.con, mb.dic, fun q hq => by cases hq⟩
    have hx : ownB (defScope st) x = true := hx
    unfold ownB at hx
    split at hx
    · exact .inl (by assumption)
    · exact .inr (by assumption)
    · cases hx
  unfold chX at hch
  split at hch
  · rename_i x px y py kt pt pr hlast
    simp only [Bool.and_eq_true, decide_eq_true_eq] at hch
    obtain ⟨⟨⟨⟨⟨⟨c1, c2⟩, c3⟩, c4⟩, c5⟩, c6⟩, c7⟩ := hch
    obtain ⟨ini, hini, hdl⟩ : ∃ ini, defBody st = ini ++ [.Return (some (.Tuple [.Name x px, .Name y py] kt pt)) pr] ∧ (defBody st).dropLast = ini := ⟨_, (dropLast_app hlast).symm, rfl⟩
    rw [hdl] at c7
    have hs := ps_ret (pos := pr) (pe_tup (x1 := kt) (pos := pt) (pa_cons (g.var (pos := px) c1 c2 c3) (pa_cons (g.var (pos := py) c4 c5 c6) pa_nil)))
    have body := sndApp (mu := mu) hs body _ _ g S.kind rfl c7
    unfold crossT at he
    split at he
    · rename_i env st1' hev
      split at he
      · rename_i n1 n2 hn1 hn2
        split at he
        · rename_i hle
          split at he
          · rename_i ss' as' h1 h2
            cases he
            refine ⟨_, by rw [hini]; exact body.nox, ?_⟩
            refine ⟨φ, ρ, _, st0, env, st1', ws, ?_, hev, fun φ' ρ' σ' H' p => ?_⟩
            · have hst : L2.start N [v] = some v :: List.replicate (len - 1) none := by
                unfold L2.start
                rw [hl]
                rfl
              rw [hst]
              have := rrs_slots (K := K) (φ := φ) (ρ := ρ) (H := H) (len - 1) (rs := [.dat (.tuple bs) false]) (vs := [v]) ⟨rd, True.intro⟩
              exact this
            · obtain ⟨x', m, rfl, rfl, hm⟩ := p.gs
              obtain ⟨va, ha, la, hla, rfl⟩ := p.sl.get i _ hn1
              obtain ⟨vb, hb', lb, hlb, rfl⟩ := p.sl.get j _ hn2
              refine ⟨_, ha, _, hb', by show 2 ≤ sizeLine; decide, fun q hq => ?_⟩
              have wb := p.ws.back ws.sub
              have hlen : ρ.length = st0.length := ws.len
              rw [hlen] at wb
              have y : Ext φ H' (upd H' q (.tup [.ref la, .ref lb])) := .new hq
              have r1 := frozen_loc ws p.ws hm hle.1 hla h1
              have r2 := frozen_loc ws p.ws hm hle.2 hlb h2
              exact k q la lb _ (.inl (.inl upd_same)) (wb.new hq) (Ext.trans (x'.more fun a h => h) (.new hq)) (r1.ext y wb.fl) (r2.ext y wb.fl)
          · cases he
        · cases he
      · cases he
    · cases he
  · cases hch
end
end Ev
set_option linter.all false
set_option maxRecDepth 100000
set_option maxHeartbeats 16000000
/-! EvT2: what Turns.__init__ leaves. -/
namespace Ev
open PySem PySem.Spec L2
/-- f(e, ..), any promise -/
theorem pe_callE {X : Cx} {k : Nat} {f : Addr} {fd : FuncData} {ps : List Str} {sp : Sp} {x : Str} {e : Expr} {es : List Expr} {t : TA} {p pos : Pos} (F : FnE X.prog X.w X.K X.mg X.base k f fd ps sp) (hr : Room k X.A) (hgu : X.A.guards = some []) (hg : Gl X x) (hm : X.mg x = some (.ref f)) (hk : PySem.W.keepIn X.K (.ref f) = true) (hb : Binds X.K fd ps [])
    (ha : PA X (e :: es) t) (hp : (e :: es).all pln = true) (hd : (x == ("__debug__" : Str)) = false := by decide) : PE X (.Call (.Name x p) (e :: es) [] pos) (fun σ H Q => t σ H fun vs H1 => vs.length = ps.length ∧ sp vs H1 Q E0) := by
  have hp1 : pln e = true ∧ es.all pln = true := by rw [List.all_cons, Bool.and_eq_true] at hp; exact hp
  refine ⟨fun pins s σ H Q I q => ?_⟩
  refine wpAny_Call_Name_kw (ld_glob I hg hm ?_ hd)
  refine PySem.W.callWith_K (h₀ := X.base) I.ok.mod.kin hk (thn (ha.run pos pins s σ H _ I q) fun us s1 q => ?_) (pln_star hp1.1 _ _) (back_pln hp1.2 _ _)
  obtain ⟨vs, H1, I1, r1, hl, h⟩ := q
  exact ⟨I1.kIn, runE F hr hgu hb hl I1 r1 h⟩
def nmsT : List Str := [("self" : Str), ("board" : Str), ("stands" : Str), ("across" : Str), ("start" : Str), ("row" : Str), ("way" : Str)]
def ieW : IE := .bin .Sub (.bin .Mult (.int 2) (.blt .len [.slot 1])) (.int 2)
def ieL : IE := .blt .len [.slot 2]
def ieN : IE := .call ("next_along" : Str) [.slot 5, .slot 6]
/-- the text of __init__ -/
def chInit (fs : List (Str × List Str)) (bl : List Str) (G : Pk) (s : Sx) : List Stmt → Bool
  | [.Assign [.Tuple [.Name a1 _, .Name a2 _] _ _] (.Call (.Name f _) [.Name b0 _] [] _) _,
    .Assign [.Attribute (.Name s1 _) w1 _] e1 _,
    .Assign [.Attribute (.Name s2 _) w2 _] (.Name n2 _) _,
    .Assign [.Attribute (.Name s3 _) w3 _] (.Name n3 _) _,
    .Assign [.Attribute (.Name s4 _) w4 _] (.Dict [some (.Constant (.str k1) _ _), some (.Constant (.str k2) _ _)] [.List [] _, .List [] _] _) _,
    .For (.Name t1 _) (.Call (.Name rg _) [.Constant (.int z) _ _, ln, .Attribute (.Name s5 _) w5 _] [] _)
      [.Assign [.Name rw _] (.Subscript (.Name n6 _) (.Slice (some (.Name n7 _)) (some (.BinOp (.Name n8 _) .Add (.Attribute (.Name s6 _) w6 _) _)) none _) _) _,
       .For (.Name wy _) (.Name ws _) [.AugAssign (.Subscript (.Attribute (.Name s7 _) w7 _) (.Name wy2 _) _) .Add nx _] [] _] [] _] =>
    decide ([a1, a2, f, b0, s1, w1, s2, w2, n2, s3, w3, n3, s4, w4, k1, k2, t1, rg, s5, w5, rw, n6, n7, n8, s6, w6, wy, ws, s7, w7, wy2] =
      [("stands" : Str), ("across" : Str), ("crossings" : Str), ("board" : Str), ("self" : Str), ("width" : Str), ("self" : Str), ("stands" : Str), ("stands" : Str), ("self" : Str), ("across" : Str), ("across" : Str), ("self" : Str), ("behind" : Str), ("left" : Str), ("right" : Str), ("start" : Str), ("range" : Str), ("self" : Str), ("width" : Str),
        ("row" : Str), ("across" : Str), ("start" : Str), ("start" : Str), ("self" : Str), ("width" : Str), ("way" : Str), ("WAYS" : Str), ("self" : Str), ("behind" : Str), ("way" : Str)]) && decide (z = 0) &&
      !isCp e1 && pln ln && chE fs bl G ieW s e1 && chE fs bl G ieL s ln && chE fs bl G ieN s nx
  | _ => false
/-- .. and of its scope -/
def chInitS (bl : List Str) (s : Sx) : Bool := decide (s.N = nmsT) && s.N.all (fun x => visB s.sc x && nmB x) && (s.N.drop 2).all s.tg && gloB s.sc ("crossings" : Str) && gloB s.sc ("range" : Str) && gloB s.sc ("WAYS" : Str) && bl.contains ("range" : Str)
theorem ext_upd {ρ : List Addr} {H1 H : Hp} {p : Addr} {o : HO} (e : Ext ρ H1 H) (n : H1 p = none) : Ext ρ H1 (upd H p o) := by
  refine ⟨fun b u h nb t => ?_, fun b h => ?_⟩
  · exact (upd_ne (fun z => by rw [z, n] at h; cases h)).trans (e.keep b u h nb t)
  · by_cases z : b = p
    · rw [z]; exact n
    · exact e.dom b ((upd_ne z).symm.trans h)
section
variable {K : PySem.W.Frag} {T : List (Addr × Str)}
abbrev sgT (x la lb : Addr) (v : V) (s4 s5 s6 : Option V) : L2.St := [some (.ref x), some v, some (.ref la), some (.ref lb), s4, s5, s6]
abbrev flT (W : Nat) (la lb d : Addr) : List (Str × V) := [(("width" : Str), .int ((W : Nat) : Int)), (("stands" : Str), .ref la), (("across" : Str), .ref lb), (("behind" : Str), .ref d)]
abbrev dcT (q1 q2 : Addr) : List (Key × V) := [((Sum.inr ("left" : Str) : Key), .ref q1), ((Sum.inr ("right" : Str) : Key), .ref q2)]
/-- within the loops -/
structure TIv (K : PySem.W.Frag) (T : List (Addr × Str)) (φ ρ : List Addr) (H1 : Hp) (x C dx d q1 q2 la lb : Addr) (W : Nat) (ss as : List D) (H : Hp) (l r : List D) (st : Sto) : Prop where
  ws : Ws K T φ ρ H st
  ext : Ext ρ H1 H
  ob : H x = some (.ins C dx (flT W la lb d))
  dc : H d = some (.dK (dcT q1 q2))
  l1 : ∃ xs, H q1 = some (.lst xs) ∧ RDs K φ H xs l
  l2 : ∃ xs, H q2 = some (.lst xs) ∧ RDs K φ H xs r
  ra : RD K φ H (.ref la) (.list ss)
  rb : RD K φ H (.ref lb) (.list as)
/-- the addresses that are changed -/
structure TAd (φ ρ : List Addr) (H1 : Hp) (x d q1 q2 : Addr) : Prop where
  px : x ∈ φ
  pd : d ∈ φ
  p1 : q1 ∈ φ
  p2 : q2 ∈ φ
  nx : H1 x = none
  nd : H1 d = none
  n1 : H1 q1 = none
  n2 : H1 q2 = none
  rx : x ∉ ρ
  rd : d ∉ ρ
  r1 : q1 ∉ ρ
  r2 : q2 ∉ ρ
  d12 : q1 ≠ q2
section
variable {φ ρ : List Addr} {H1 H H' : Hp} {x C dx d q1 q2 la lb : Addr} {W : Nat} {ss as l r : List D} {st st' : Sto}
/-- all goes on, nothing of it is changed -/
theorem TIv.go (t : TIv K T φ ρ H1 x C dx d q1 q2 la lb W ss as H l r st) (a : TAd φ ρ H1 x d q1 q2) (w : Ws K T φ ρ H' st') (e : Ext ρ H H') : TIv K T φ ρ H1 x C dx d q1 q2 la lb W ss as H' l r st' := by
  have ef : Ext φ H H' := e.more t.ws.sub
  obtain ⟨xs, h1, g1⟩ := t.l1
  obtain ⟨ys, h2, g2⟩ := t.l2
  exact ⟨w, t.ext.trans e, e.keep _ _ t.ob a.rx (fun ps z => by cases z), e.keep _ _ t.dc a.rd (fun ps z => by cases z), ⟨xs, e.keep _ _ h1 a.r1 (fun ps z => by cases z), g1.ext ef t.ws.fl⟩, ⟨ys, e.keep _ _ h2 a.r2 (fun ps z => by cases z), g2.ext ef t.ws.fl⟩, t.ra.ext ef t.ws.fl, t.rb.ext ef t.ws.fl⟩
theorem TIv.put1 (t : TIv K T φ ρ H1 x C dx d q1 q2 la lb W ss as H l r st) (a : TAd φ ρ H1 x d q1 q2) {xs zs : List V} {ys : List D} (h : H q1 = some (.lst xs)) (g : RDs K φ H xs l) (g2 : RDs K φ H zs ys) : TIv K T φ ρ H1 x C dx d q1 q2 la lb W ss as (upd H q1 (.lst (xs ++ zs))) (l ++ ys) r st := by
  have ef : Ext φ H (upd H q1 (.lst (xs ++ zs))) := .at a.p1
  obtain ⟨ys', h2, k2⟩ := t.l2
  have n1 : x ≠ q1 := fun z => by rw [z] at t; have := t.ob; rw [h] at this; cases this
  have n2 : d ≠ q1 := fun z => by rw [z] at t; have := t.dc; rw [h] at this; cases this
  exact ⟨t.ws.updO a.p1 a.r1 h True.intro, ext_upd t.ext a.n1, (upd_ne n1).trans t.ob, (upd_ne n2).trans t.dc, ⟨_, upd_same, (g.append g2).ext ef t.ws.fl⟩, ⟨ys', (upd_ne a.d12.symm).trans h2, k2.ext ef t.ws.fl⟩, t.ra.ext ef t.ws.fl, t.rb.ext ef t.ws.fl⟩
theorem TIv.put2 (t : TIv K T φ ρ H1 x C dx d q1 q2 la lb W ss as H l r st) (a : TAd φ ρ H1 x d q1 q2) {xs zs : List V} {ys : List D} (h : H q2 = some (.lst xs)) (g : RDs K φ H xs r) (g2 : RDs K φ H zs ys) : TIv K T φ ρ H1 x C dx d q1 q2 la lb W ss as (upd H q2 (.lst (xs ++ zs))) l (r ++ ys) st := by
  have ef : Ext φ H (upd H q2 (.lst (xs ++ zs))) := .at a.p2
  obtain ⟨ys', h2, k2⟩ := t.l1
  have n1 : x ≠ q2 := fun z => by rw [z] at t; have := t.ob; rw [h] at this; cases this
  have n2 : d ≠ q2 := fun z => by rw [z] at t; have := t.dc; rw [h] at this; cases this
  exact ⟨t.ws.updO a.p2 a.r2 h True.intro, ext_upd t.ext a.n2, (upd_ne n1).trans t.ob, (upd_ne n2).trans t.dc, ⟨ys', (upd_ne a.d12).trans h2, k2.ext ef t.ws.fl⟩, ⟨_, upd_same, (g.append g2).ext ef t.ws.fl⟩, t.ra.ext ef t.ws.fl, t.rb.ext ef t.ws.fl⟩
/-- d[way] = the same -/
theorem TIv.same (t : TIv K T φ ρ H1 x C dx d q1 q2 la lb W ss as H l r st) (a : TAd φ ρ H1 x d q1 q2) : TIv K T φ ρ H1 x C dx d q1 q2 la lb W ss as (upd H d (.dK (dcT q1 q2))) l r st := by
  have : upd H d (.dK (dcT q1 q2)) = H := by
    funext b
    by_cases z : b = d
    · rw [z, upd_same, t.dc]
    · rw [upd_ne z]
  rw [this]
  exact t
end
end
end Ev
set_option linter.all false
set_option maxRecDepth 100000
set_option maxHeartbeats 16000000
/-! EvT3: Turns.__init__, walked. -/
namespace Ev
open PySem PySem.Spec L2
section
variable {P : Program} {w : World} {K : PySem.W.Frag} {mg : Str → Option Value} {base : Heap} {T : List (Addr × Str)} {G G0 : Pk} {fs : List (Str × List Str)} {bl : List Str} {f : Str} {a : Addr}
theorem rangeT {n W : Nat} (h3 : 3 ≤ n) (h8 : n ≤ 8) (hW : W = 2 * n - 2) : RgC 0 (((n * W : Nat)) : Int) ((W : Nat) : Int) n := by
  have : n = 3 ∨ n = 4 ∨ n = 5 ∨ n = 6 ∨ n = 7 ∨ n = 8 := by omega
  subst hW
  rcases this with rfl | rfl | rfl | rfl | rfl | rfl <;> exact ⟨by decide, by decide, by decide +kernel, by decide +kernel⟩
theorem put_dc1 (q1 q2 : Addr) : putK (dcT q1 q2) (Sum.inr ("left" : Str) : Key) (V.ref q1) = dcT q1 q2 := by
  have h1 : ¬ (Sum.inr ("right" : Str) : Key) = Sum.inr ("left" : Str) := by decide +kernel
  unfold putK
  rw [if_pos (by simp)]
  simp only [List.map_cons, List.map_nil, if_neg h1, if_true]
theorem put_dc2 (q1 q2 : Addr) : putK (dcT q1 q2) (Sum.inr ("right" : Str) : Key) (V.ref q2) = dcT q1 q2 := by
  have h1 : ¬ (Sum.inr ("left" : Str) : Key) = Sum.inr ("right" : Str) := by decide +kernel
  unfold putK
  rw [if_pos (by simp)]
  simp only [List.map_cons, List.map_nil, if_neg h1, if_true]
theorem val_dc1 (q1 q2 : Addr) : valV (dcT q1 q2) (Sum.inr ("left" : Str) : Key) = some (V.ref q1) := valV_pos rfl
theorem val_dc2 (q1 q2 : Addr) : valV (dcT q1 q2) (Sum.inr ("right" : Str) : Key) = some (V.ref q2) := (valV_neg (by show ¬ (Sum.inr ("left" : Str) : Key) = Sum.inr ("right" : Str); decide +kernel)).trans (valV_pos rfl)
theorem merge_dc (q1 q2 : Addr) : mergeK [] (dcT q1 q2) = dcT q1 q2 := by
  have h1 : ¬ (Sum.inr ("left" : Str) : Key) = Sum.inr ("right" : Str) := by decide +kernel
  unfold mergeK
  simp only [List.foldl_cons, List.foldl_nil, putK, List.any_nil, List.any_cons, Bool.or_false]
  rw [if_neg (by exact Bool.false_ne_true), List.nil_append]
  simp [h1]
theorem put_f1 (W : Nat) : putF ("width" : Str) (.int ((W : Nat) : Int)) [] = [(("width" : Str), V.int ((W : Nat) : Int))] := rfl
theorem put_f2 (W : Nat) (la : Addr) : putF ("stands" : Str) (.ref la) [(("width" : Str), V.int ((W : Nat) : Int))] = [(("width" : Str), V.int ((W : Nat) : Int)), (("stands" : Str), .ref la)] := by
  have h : ¬ ("width" : Str) = ("stands" : Str) := by decide +kernel
  simp [putF, h]
theorem put_f3 (W : Nat) (la lb : Addr) : putF ("across" : Str) (.ref lb) [(("width" : Str), V.int ((W : Nat) : Int)), (("stands" : Str), .ref la)] = [(("width" : Str), V.int ((W : Nat) : Int)), (("stands" : Str), .ref la), (("across" : Str), .ref lb)] := by
  have h : ¬ ("width" : Str) = ("across" : Str) := by decide +kernel
  have h2 : ¬ ("stands" : Str) = ("across" : Str) := by decide +kernel
  simp [putF, h, h2]
theorem put_f4 (W : Nat) (la lb d : Addr) : putF ("behind" : Str) (.ref d) [(("width" : Str), V.int ((W : Nat) : Int)), (("stands" : Str), .ref la), (("across" : Str), .ref lb)] = flT W la lb d := by
  have h : ¬ ("width" : Str) = ("behind" : Str) := by decide +kernel
  have h2 : ¬ ("stands" : Str) = ("behind" : Str) := by decide +kernel
  have h3 : ¬ ("across" : Str) = ("behind" : Str) := by decide +kernel
  simp [putF, h, h2, h3]
theorem look_w (W : Nat) (la lb d : Addr) : (flT W la lb d).lookup ("width" : Str) = some (.int ((W : Nat) : Int)) := by simp [List.lookup]
theorem look_b (W : Nat) (la lb d : Addr) : (flT W la lb d).lookup ("behind" : Str) = some (.ref d) := by
  have h : (("behind" : Str) == ("width" : Str)) = false := by decide +kernel
  have h2 : (("behind" : Str) == ("stands" : Str)) = false := by decide +kernel
  have h3 : (("behind" : Str) == ("across" : Str)) = false := by decide +kernel
  simp [List.lookup, h, h2, h3]
theorem sl_bs {φ ρ : List Addr} {H : Hp} {v : V} {bs ss : List D} {la : Addr} (h1 : RD K φ H v (.tuple bs)) (h2 : RD K φ H (.ref la) (.list ss)) (s0 s3 s4 s5 s6 : Option V) : Sl K φ ρ H [none, some (.dat (.tuple bs)), some (.dat (.list ss)), none, none, none, none] [s0, some v, some (.ref la), s3, s4, s5, s6] := by
  refine ⟨rfl, fun i s e => ?_⟩
  match i, e with
  | 0, e => simp at e
  | 1, e => simp at e; subst e; exact ⟨v, rfl, h1⟩
  | 2, e => simp at e; subst e; exact ⟨_, rfl, h2⟩
  | 3, e => simp at e
  | 4, e => simp at e
  | 5, e => simp at e
  | 6, e => simp at e
  | _ + 7, e => simp at e
theorem sl_rw {φ ρ : List Addr} {H : Hp} {row : List D} {p : Addr} {y : Str} (h1 : RD K φ H (.ref p) (.list row)) (s0 s1 s2 s3 s4 : Option V) : Sl K φ ρ H [none, none, none, none, none, some (.dat (.list row)), some (.dat (.str y))] [s0, s1, s2, s3, s4, some (.ref p), some (.str y)] := by
  refine ⟨rfl, fun i s e => ?_⟩
  match i, e with
  | 0, e => simp at e
  | 1, e => simp at e
  | 2, e => simp at e
  | 3, e => simp at e
  | 4, e => simp at e
  | 5, e => simp at e; subst e; exact ⟨_, rfl, h1⟩
  | 6, e => simp at e; subst e; exact ⟨_, rfl, .str y⟩
  | _ + 7, e => simp at e
theorem ev_w {cl : Cl} {bs ss : List D} {st : Sto} {W : Nat} (h3 : 3 ≤ bs.length) (hW : W = 2 * bs.length - 2) : evE G cl ieW [none, some (.dat (.tuple bs)), some (.dat (.list ss)), none, none, none, none] st = some (.dat (.int ((W : Nat) : Int)) false, st) := by
  have e : (2 : Int) * ((bs.length : Nat) : Int) - 2 = ((W : Nat) : Int) := by omega
  simp only [ieW, evE, evEs, List.getElem?_cons_succ, List.getElem?_cons_zero, erS, rdEs, rdE, bltD, binD]
  rw [if_pos (.inl (by decide))]
  simp only [rdE, binD]
  rw [e]
theorem ev_l {cl : Cl} {bs ss : List D} {st : Sto} {m : Nat} (h : ss.length = m) : evE G cl ieL [none, some (.dat (.tuple bs)), some (.dat (.list ss)), none, none, none, none] st = some (.dat (.int ((m : Nat) : Int)) false, st) := by
  subst h
  simp only [ieL, evE, evEs, List.getElem?_cons_succ, List.getElem?_cons_zero, erS, rdEs, rdE, bltD]
theorem ev_n {cl : Cl} {row : List D} {y : Str} {st : Sto} : evE G cl ieN [none, none, none, none, none, some (.dat (.list row)), some (.dat (.str y))] st = cl ("next_along" : Str) [.dat (.list row), .dat (.str y)] st := by
  simp only [ieN, evE, evEs, List.getElem?_cons_succ, List.getElem?_cons_zero, erS, svE, List.map_cons, List.map_nil]
theorem loop_some {cl : Cl} {as : List D} {W : Nat} {st : Sto} : ∀ {k i : Nat} {z : List D × List D × Sto}, loopT cl as W st k = some z → i ≤ k → ∃ z', loopT cl as W st i = some z'
  | 0, i, z, h, hi => by
    obtain rfl : i = 0 := by omega
    exact ⟨_, h⟩
  | k + 1, i, z, h, hi => by
    by_cases e : i = k + 1
    · rw [e]; exact ⟨_, h⟩
    · simp only [loopT] at h
      split at h
      · rename_i h2
        exact loop_some h2 (by omega)
      · cases h
theorem step_some {cl : Cl} {row l r : List D} {st : Sto} {z : List D × List D × Sto} (h : stepT cl row l r st = some z) : ∃ ys f1 sta zs f2 stb, cl ("next_along" : Str) [.dat (.list row), .dat (.str ("left" : Str))] st = some (.dat (.list ys) f1, sta) ∧ l.length + ys.length ≤ sizeLine ∧
    cl ("next_along" : Str) [.dat (.list row), .dat (.str ("right" : Str))] sta = some (.dat (.list zs) f2, stb) ∧ r.length + zs.length ≤ sizeLine ∧ z = (l ++ ys, r ++ zs, stb) := by
  unfold stepT at h
  split at h
  · rename_i ys f1 sta h1
    split at h
    · rename_i hl
      split at h
      · rename_i zs f2 stb h2
        split at h
        · rename_i hr
          cases h
          exact ⟨ys, f1, sta, zs, f2, stb, h1, hl, h2, hr, rfl⟩
        · cases h
      · cases h
    · cases h
  · cases h
set_option maxHeartbeats 64000000 in
theorem run_init {n : Nat} {body : List IS} {mu : List Nat} {len i j : Nat} {st : Stmt} {oc : Value} {od : Option Addr} {kV doc pm : Value} {an : Option Addr} {cdv ct : Value} {osl : Array (Option Value)} {C ax : Addr} {fdx : FuncData} {vw : V} {uw : Value}
    (lk : K.lookup a = some ⟨oc, od, .func (PySem.W.fnOf ("__init__" : Str) ("Turns.__init__" : Str) (defArgs st) (defBody st) (defScope st) .none kV doc pm an cdv ct), osl⟩) (hcd : PySem.W.codeIn K cdv ("Turns.__init__" : Str) = true) (S : FnScope nmsT [("self" : Str), ("board" : Str)] (defScope st))
    (mb : MdB K w mg G bl) (ck1 : ClOk P w K mg base T (2 * (n + 1)) (evF G (n + 1)) fs G)
    (hN : ∀ args st, evF G (n + 3) ("Turns" : Str) args st = nwT G0 body len mu i j (evF G n) (evF G (n + 1)) args st)
    (hs : chInitS bl ⟨nmsT, defScope st, ownB (defScope st), none⟩ = true) (hch : chInit fs bl G ⟨nmsT, defScope st, ownB (defScope st), none⟩ (defBody st) = true)
    (kc : KC K ("Turns" : Str) C) (na1 : NoAttr K C ("width" : Str)) (na2 : NoAttr K C ("stands" : Str)) (na3 : NoAttr K C ("across" : Str)) (na4 : NoAttr K C ("behind" : Str))
    (hx : mg ("crossings" : Str) = some (.ref ax)) (kx : PySem.W.keepIn K (.ref ax) = true) (bx : Binds K fdx [("board" : Str)] []) (Fx : FnE P w K mg base (2 * n + 2) ax fdx [("board" : Str)] (spX K T G0 body len mu i j (evF G n)))
    (hw1 : mg ("WAYS" : Str) = some uw) (hw2 : RelV vw uw) (hw3 : ∀ φ H, RD K φ H vw (.tuple [.str ("left" : Str), .str ("right" : Str)])) :
    FnE P w K mg base (2 * n + 4) a (PySem.W.fnOf ("__init__" : Str) ("Turns.__init__" : Str) (defArgs st) (defBody st) (defScope st) .none kV doc pm an cdv ct) [("self" : Str), ("board" : Str)] (spN K T (evF G (n + 3)) ("Turns" : Str) 1 C) := by
  refine ⟨fun A outer s H us vs Q hr hgu e0 rv hsp args hb => ?_⟩
  obtain ⟨x, dx, vs', H1, rfl, hlv, nx, ndx, hne, rfl, φ, ρ, rs, st0, r0, st2, ws, rr, he, k⟩ := hsp
  obtain ⟨v, rfl⟩ : ∃ v, vs' = [v] := by
    match vs', hlv with
    | [v], _ => exact ⟨v, rfl⟩
  rw [hN] at he
  obtain ⟨bs, hrs, rdv⟩ : ∃ bs, rs.map svE = [.dat (.tuple bs)] ∧ RD K φ H1 v (.tuple bs) := by
    match rs, rr with
    | [r], ⟨h, _⟩ =>
      cases r with
      | dat d fr =>
        cases d with
        | tuple bs => exact ⟨bs, rfl, h⟩
        | _ => cases he
      | loc n => cases he
      | scr ns => cases he
  rw [hrs] at he
  simp only [nwT] at he
  split at he
  case h_2 => cases he
  rename_i ss as st1 hcr
  split at he
  case isFalse => cases he
  rename_i hcond
  obtain ⟨h3, h8, hlen⟩ := hcond
  split at he
  case h_2 => cases he
  rename_i l r st2' hlp
  cases he
  obtain ⟨W, hW⟩ : ∃ W, W = 2 * bs.length - 2 := ⟨_, rfl⟩
  rw [← hW] at hlp hlen k
  refine LamX.run_ofS (N := nmsT) lk hcd S hr e0 hb rv rfl fun hr' => ?_
  have hr2 : Room (2 * n + 2) _ := hr'.mono (by omega)
  have g : Gd fs bl G T (2 * (n + 1)) (evF G (n + 1)) ⟨nmsT, defScope st, ownB (defScope st), none⟩ (cxOf CX0 P w K mg base nmsT ("Turns.__init__" : Str) (defScope st) a cdv A outer s (upd (upd H1 dx (.own x)) x (.ins C dx [])) E0).nox := by
    refine ⟨rfl, rfl, S.nd, fun x hx => ⟨?_, .inl rfl⟩, rfl, hr'.mono (by omega), hgu, ck1, mb.fl, mb.bl, mb.con, mb.dic, fun q hq => by cases hq⟩
    have hx : ownB (defScope st) x = true := hx
    unfold ownB at hx
    split at hx
    · exact .inl (by assumption)
    · exact .inr (by assumption)
    · cases hx
  simp only [chInitS, Bool.and_eq_true, List.all_eq_true] at hs
  obtain ⟨⟨⟨⟨⟨⟨_, hv⟩, htg⟩, g1⟩, g2⟩, g3⟩, g4⟩ := hs
  have hv0 := hv ("self" : Str) (by simp [nmsT])
  have hv1 := hv ("board" : Str) (by simp [nmsT])
  have hv2 := hv ("stands" : Str) (by simp [nmsT])
  have hv3 := hv ("across" : Str) (by simp [nmsT])
  have hv4 := hv ("start" : Str) (by simp [nmsT])
  have hv5 := hv ("row" : Str) (by simp [nmsT])
  have hv6 := hv ("way" : Str) (by simp [nmsT])
  have t2 := g.tg _ (htg ("stands" : Str) (by simp [nmsT]))
  have t3 := g.tg _ (htg ("across" : Str) (by simp [nmsT]))
  have t4 := g.tg _ (htg ("start" : Str) (by simp [nmsT]))
  have t5 := g.tg _ (htg ("row" : Str) (by simp [nmsT]))
  have t6 := g.tg _ (htg ("way" : Str) (by simp [nmsT]))
  have mrg : mg ("range" : Str) = none := mb.bl _ (by simpa using g4)
  generalize hbd : defBody st = bd at hch
  unfold chInit at hch
  split at hch
  case h_2 => cases hch
  simp only [Bool.and_eq_true, decide_eq_true_eq, List.cons.injEq, and_true, Bool.not_eq_true'] at hch
  obtain ⟨⟨⟨⟨⟨⟨hnm, rfl⟩, c1⟩, c2⟩, c3⟩, c4⟩, c5⟩ := hch
  obtain ⟨rfl, rfl, rfl, rfl, rfl, rfl, rfl, rfl, rfl, rfl, rfl, rfl, rfl, rfl, rfl, rfl, rfl, rfl, rfl, rfl, rfl, rfl, rfl, rfl, rfl, rfl, rfl, rfl, rfl, rfl, rfl⟩ := hnm
  have hu : A.units + 1 < cLine := by have := hr.un; omega
  have hu2 := g.u
  refine ⟨_, PSs.nox (pss_cons (ps_asg (pe_callE Fx hr2 g.gu (g.gl g1) hx kx bx (pa_cons (g.var (i := 1) rfl hv1.1 hv1.2) pa_nil) rfl) (pg_tup g.calm (pgs_cons (pg_name (i := 2) g.nd rfl t2.1 t2.2) (pgs_cons (pg_name (i := 3) g.nd rfl t3.1 t3.2) pgs_nil))))
    (pss_cons (ps_fld (g.var (i := 0) rfl hv0.1 hv0.2) (snd ieW _ _ _ g c3).pe (sw_no c1))
    (pss_cons (ps_fld (g.var (i := 0) rfl hv0.1 hv0.2) (g.var (i := 2) rfl hv2.1 hv2.2) rfl)
    (pss_cons (ps_fld (g.var (i := 0) rfl hv0.1 hv0.2) (g.var (i := 3) rfl hv3.1 hv3.2) rfl)
    (pss_cons (ps_fld (g.var (i := 0) rfl hv0.1 hv0.2) (pe_disp (pps_cons pe_str (pe_lst pa_nil) (pps_cons pe_str (pe_lst pa_nil) pps_nil)) rfl rfl (fun z => by cases z) (Nat.le_of_ble_eq_true rfl)) rfl)
    (pss_one (ps_for PassesOwn.never g.calm (pi_range3 (g.gl g2) mrg (pa_cons pe_int (pa_cons (snd ieL _ _ _ g c4).pe (pa_cons (pe_fld (g.var (i := 0) rfl hv0.1 hv0.2) rfl) pa_nil) (pln_star c2 _ _))) rfl (by rw [pln_star c2]; rfl)) (pg_name (i := 4) g.nd rfl t4.1 t4.2)
      (pss_cons (ps_set (i := 5) g.nd rfl t5.1 (pe_slice sl_list (g.var (i := 3) rfl hv3.1 hv3.2) (po_some (g.var (i := 4) rfl hv4.1 hv4.2)) (po_some (pe_op op_add (g.var (i := 4) rfl hv4.1 hv4.2) (pe_fld (g.var (i := 0) rfl hv0.1 hv0.2) rfl)))) rfl t5.2)
      (pss_one (ps_for PassesOwn.never g.calm (pi_tup (pe_glob (g.gl g3) hw1 hw2)) (pg_name (i := 6) g.nd rfl t6.1 t6.2)
        (pss_one (ps_daug (by omega) (pe_fld (g.var (i := 0) rfl hv0.1 hv0.2) rfl) (g.var (i := 6) rfl hv6.1 hv6.2) (snd ieN _ _ _ g c5).pe iop_ext (fun _ _ _ => rfl))))))))))))), ?_⟩
  have hxr : x ∉ ρ := fun z => by
    obtain ⟨u, e, _⟩ := ws.fx x (ws.sub x z)
    rw [nx] at e; cases e
  have wsA : Ws K T φ ρ (upd H1 dx (.own x)) st0 := ws.new ndx
  have nxA : upd H1 dx (.own x) x = none := (upd_ne (Ne.symm hne)).trans nx
  have wsB : Ws K T (φ ++ [x]) ρ (upd (upd H1 dx (.own x)) x (.ins C dx [])) st0 := wsA.freshO nxA True.intro
  have rdB : RD K (φ ++ [x]) (upd (upd H1 dx (.own x)) x (.ins C dx [])) v (.tuple bs) := RD.freshO wsA nxA (RD.ext (.new ndx) ws.fl rdv)
  have extB : Ext ρ H1 (upd (upd H1 dx (.own x)) x (.ins C dx [])) := ext_upd (ext_upd (.refl _ _) ndx) nx
  have hxp : x ∈ φ ++ [x] := by simp
  refine ⟨v, rfl, rfl, φ ++ [x], ρ, v, bs, st0, ss, as, st1, rfl, wsB, rdB, hcr, fun p la lb H2 hp w2 e2 ra rb => ?_⟩
  refine ⟨p, [.ref la, .ref lb], rfl, hp, rfl, .ref la, [.ref lb], rfl, .ref lb, [], rfl, rfl, ?_⟩
  have H2x : H2 x = some (.ins C dx []) := e2.keep x _ upd_same hxr (fun ps z => by cases z)
  have rd2 : RD K (φ ++ [x]) H2 v (.tuple bs) := RD.ext (e2.more wsB.sub) wsB.fl rdB
  refine ⟨φ ++ [x], ρ, _, st1, _, st1, w2, sl_bs rd2 ra _ _ _ _ _, ev_w h3 hW, fun u H3 p3 => ?_⟩
  cases (show RD K (φ ++ [x]) H3 u (.int ((W : Nat) : Int)) from p3.rr)
  have H3x : H3 x = some (.ins C dx []) := p3.ext.keep x _ H2x hxr (fun ps z => by cases z)
  refine ⟨.ref x, rfl, x, C, dx, [], rfl, H3x, kc.cls, na1, by decide, ?_⟩
  rw [put_f1]
  have e3 : Ext (φ ++ [x]) H2 H3 := p3.ext.more w2.sub
  have w4 := p3.ws.updO (o' := .ins C dx [(("width" : Str), V.int ((W : Nat) : Int))]) hxp hxr H3x True.intro
  refine ⟨.ref la, rfl, .ref x, rfl, x, C, dx, _, rfl, upd_same, kc.cls, na2, by show 1 < 1000; decide, ?_⟩
  rw [put_f2]
  have w5 := w4.updO (o' := .ins C dx [(("width" : Str), V.int ((W : Nat) : Int)), (("stands" : Str), .ref la)]) hxp hxr upd_same True.intro
  refine ⟨.ref lb, rfl, .ref x, rfl, x, C, dx, _, rfl, upd_same, kc.cls, na3, by show 2 < 1000; decide, ?_⟩
  rw [put_f3]
  have w6 := w5.updO (o' := .ins C dx [(("width" : Str), V.int ((W : Nat) : Int)), (("stands" : Str), .ref la), (("across" : Str), .ref lb)]) hxp hxr upd_same True.intro
  have carry : ∀ {u : V} {d : D}, RD K (φ ++ [x]) H2 u d → RD K (φ ++ [x]) (upd (upd (upd H3 x (.ins C dx [(("width" : Str), V.int ((W : Nat) : Int))])) x (.ins C dx [(("width" : Str), V.int ((W : Nat) : Int)), (("stands" : Str), .ref la)])) x (.ins C dx [(("width" : Str), V.int ((W : Nat) : Int)), (("stands" : Str), .ref la), (("across" : Str), .ref lb)])) u d := fun {u d} q =>
    ((((q.ext e3 w2.fl).ext (.at hxp) p3.ws.fl).ext (.at hxp) w4.fl).ext (.at hxp) w5.fl)
  have ra6 := carry ra
  have rb6 := carry rb
  have rd6 := carry rd2
  have ext6 : Ext ρ H1 (upd (upd (upd H3 x (.ins C dx [(("width" : Str), V.int ((W : Nat) : Int))])) x (.ins C dx [(("width" : Str), V.int ((W : Nat) : Int)), (("stands" : Str), .ref la)])) x (.ins C dx [(("width" : Str), V.int ((W : Nat) : Int)), (("stands" : Str), .ref la), (("across" : Str), .ref lb)])) :=
    ext_upd (ext_upd (ext_upd ((extB.trans e2).trans p3.ext) nx) nx) nx
  obtain ⟨H6, hH6⟩ : ∃ H6, H6 = (upd (upd (upd H3 x (.ins C dx [(("width" : Str), V.int ((W : Nat) : Int))])) x (.ins C dx [(("width" : Str), V.int ((W : Nat) : Int)), (("stands" : Str), .ref la)])) x (.ins C dx [(("width" : Str), V.int ((W : Nat) : Int)), (("stands" : Str), .ref la), (("across" : Str), .ref lb)])) := ⟨_, rfl⟩
  have H6x : H6 x = some (.ins C dx [(("width" : Str), V.int ((W : Nat) : Int)), (("stands" : Str), .ref la), (("across" : Str), .ref lb)]) := by rw [hH6]; exact upd_same
  rw [← hH6] at w6 ra6 rb6 rd6 ext6 ⊢
  intro d hd
  refine ⟨by decide, fun q1 hq1 => ⟨by decide, fun q2 hq2 => ?_⟩⟩
  have wd0 := w6.freshO (o := .dK []) hd True.intro
  have wd1 := wd0.freshO (o := .lst []) hq1 True.intro
  have wd2 := wd1.freshO (o := .lst []) hq2 True.intro
  have nd1 : d ≠ q1 := fun z => by rw [← z, upd_same] at hq1; cases hq1
  have nd2 : d ≠ q2 := fun z => by rw [← z, upd_ne nd1, upd_same] at hq2; cases hq2
  have n12 : q1 ≠ q2 := fun z => by rw [← z, upd_same] at hq2; cases hq2
  have hdd : upd (upd (upd H6 d (.dK [])) q1 (.lst [])) q2 (.lst []) d = some (.dK []) := by rw [upd_ne nd2, upd_ne nd1, upd_same]
  have hq1H : H6 q1 = none := (upd_ne nd1.symm).symm.trans hq1
  have hq2H : H6 q2 = none := by
    have z := (upd_ne n12.symm).symm.trans hq2
    exact (upd_ne nd2.symm).symm.trans z
  have hne6 : ∀ {b : Addr}, H6 b = none → x ≠ b := fun {b} e z => by rw [← z, H6x] at e; cases e
  have sub3 : ∀ b ∈ φ ++ [x], b ∈ φ ++ [x] ++ [d] ++ [q1] ++ [q2] := fun b hb => List.mem_append_left _ (List.mem_append_left _ (List.mem_append_left _ hb))
  have hr : ∀ {b : Addr}, H6 b = none → b ∉ ρ := fun {b} e z => by
    obtain ⟨u, e2, _⟩ := w6.fx b (w6.sub b z)
    rw [e] at e2; cases e2
  have ad : TAd (φ ++ [x] ++ [d] ++ [q1] ++ [q2]) ρ H1 x d q1 q2 := ⟨by simp, by simp, by simp, by simp, nx, ext6.dom _ hd, ext6.dom _ hq1H, ext6.dom _ hq2H, hxr, hr hd, hr hq1H, hr hq2H, n12⟩
  refine ⟨hdd, dcT q1 q2, rfl, by show 2 ≤ 15; decide, ?_⟩
  rw [merge_dc]
  have wd3 := wd2.updO (o' := .dK (dcT q1 q2)) ad.pd ad.rd hdd True.intro
  have Hdx : upd (upd (upd (upd H6 d (.dK [])) q1 (.lst [])) q2 (.lst [])) d (.dK (dcT q1 q2)) x = some (.ins C dx [(("width" : Str), V.int ((W : Nat) : Int)), (("stands" : Str), .ref la), (("across" : Str), .ref lb)]) := by
    rw [upd_ne (hne6 hd), upd_ne (hne6 hq2H), upd_ne (hne6 hq1H), upd_ne (hne6 hd)]
    exact H6x
  refine ⟨.ref x, rfl, x, C, dx, _, rfl, Hdx, kc.cls, na4, by show 3 < 1000; decide, ?_⟩
  rw [put_f4]
  have w7 := wd3.updO (o' := .ins C dx (flT W la lb d)) ad.px hxr Hdx True.intro
  have carry2 : ∀ {u : V} {e : D}, RD K (φ ++ [x]) H6 u e → RD K (φ ++ [x] ++ [d] ++ [q1] ++ [q2]) (upd (upd (upd (upd (upd H6 d (.dK [])) q1 (.lst [])) q2 (.lst [])) d (.dK (dcT q1 q2))) x (.ins C dx (flT W la lb d))) u e := fun {u e} q =>
    (((RD.freshO wd1 hq2 (RD.freshO wd0 hq1 (RD.freshO w6 hd q))).ext (.at ad.pd) wd2.fl).ext (.at ad.px) wd3.fl)
  have t0 : TIv K T (φ ++ [x] ++ [d] ++ [q1] ++ [q2]) ρ H1 x C dx d q1 q2 la lb W ss as (upd (upd (upd (upd (upd H6 d (.dK [])) q1 (.lst [])) q2 (.lst [])) d (.dK (dcT q1 q2))) x (.ins C dx (flT W la lb d))) [] [] st1 := by
    refine ⟨w7, ext_upd (ext_upd (ext_upd (ext_upd (ext_upd ext6 ad.nd) ad.n1) ad.n2) ad.nd) nx, upd_same, ?_, ⟨[], ?_, .nil⟩, ⟨[], ?_, .nil⟩, carry2 ra6, carry2 rb6⟩
    · rw [upd_ne (hne6 hd).symm, upd_same]
    · rw [upd_ne (hne6 hq1H).symm, upd_ne nd1.symm, upd_ne n12, upd_same]
    · rw [upd_ne (hne6 hq2H).symm, upd_ne nd2.symm, upd_same]
  have rd7 := carry2 rd6
  have hsq : ∃ aw, vw = .ref aw ∧ ∀ H, SqT K H aw [.str ("left" : Str), .str ("right" : Str)] := by
    have one : ∀ H, ∃ aw, vw = .ref aw ∧ SqT K H aw [.str ("left" : Str), .str ("right" : Str)] := fun H => by
      cases hw3 [] H with
      | tup h1 h2 =>
        cases h2 with
        | cons r1 r2 =>
          cases r1
          cases r2 with
          | cons r3 r4 =>
            cases r3
            cases r4
            exact ⟨_, rfl, h1⟩
    obtain ⟨aw, e, _⟩ := one H1
    refine ⟨aw, e, fun H => ?_⟩
    obtain ⟨aw', e', h⟩ := one H
    rw [e] at e'
    cases e'
    exact h
  obtain ⟨aw, rfl, hsq⟩ := hsq
  generalize (upd (upd (upd (upd (upd H6 d (.dK [])) q1 (.lst [])) q2 (.lst [])) d (.dK (dcT q1 q2))) x (.ins C dx (flT W la lb d))) = H7 at t0 rd7 ⊢
  clear wd0 wd1 wd2 wd3 w7 carry2 hdd Hdx w6 carry ra6 rb6 rd6 ext6
  generalize hφ : φ ++ [x] ++ [d] ++ [q1] ++ [q2] = φ2 at t0 rd7 ad
  refine ⟨φ2, ρ, _, st1, _, st1, t0.ws, sl_bs rd7 t0.ra _ _ _ _ _, ev_l hlen, fun u H8 p8 => ?_⟩
  cases (show RD K φ2 H8 u (.int ((bs.length * W : Nat) : Int)) from p8.rr)
  have t8 := t0.go ad p8.ws p8.ext
  refine ⟨.ref x, rfl, x, C, dx, _, .int ((W : Nat) : Int), rfl, t8.ob, kc.cls, na1, look_w W la lb d, ?_⟩
  refine ⟨0, _, _, bs.length, rfl, rangeT h3 h8 hW, for_rangeC (fun i σ H => ∃ l r sti s4 s5 s6, loopT (evF G (n + 1)) as W st1 i = some (l, r, sti) ∧ σ = sgT x la lb v s4 s5 s6 ∧ TIv K T φ2 ρ H1 x C dx d q1 q2 la lb W ss as H l r sti) ⟨[], [], st1, _, _, _, rfl, rfl, t8⟩ ?_ ?_⟩
  · rintro i σ H hi ⟨l', r', sti, s4, s5, s6, hli, rfl, t⟩
    obtain ⟨⟨l2, r2, stb'⟩, hnext⟩ := loop_some hlp (show i + 1 ≤ bs.length by omega)
    have hstep := hnext
    simp only [loopT, hli] at hstep
    obtain ⟨ys, f1, sta, zs, f2, stb, hl1, hl2, hr1, hr2', hz⟩ := step_some hstep
    cases hz
    refine ⟨.ref lb, rfl, _, rfl, _, rfl, _, rfl, .ref x, rfl, x, C, dx, _, .int ((W : Nat) : Int), rfl, t.ob, kc.cls, na1, look_w W la lb d, _, _, rfl, rfl, _, rfl, ?_⟩
    cases t.rb with
    | lst nlb elb rds =>
    rename_i xsb
    refine ⟨lb, xsb, rfl, .inl (.inl elb), fun p hp => ?_⟩
    have eR : Ext φ2 H (upd H p (.lst (cutV xsb (some (0 + ((i : Nat) : Int) * ((W : Nat) : Int))) (some (0 + ((i : Nat) : Int) * ((W : Nat) : Int) + ((W : Nat) : Int)))))) := .new hp
    have npφ : p ∉ φ2 := fun z => by
      obtain ⟨u, e, _⟩ := t.ws.fx p z
      rw [hp] at e; cases e
    have rdRow : RD K φ2 (upd H p (.lst (cutV xsb (some (0 + ((i : Nat) : Int) * ((W : Nat) : Int))) (some (0 + ((i : Nat) : Int) * ((W : Nat) : Int) + ((W : Nat) : Int)))))) (.ref p) (.list (rowT as W i)) := by
      refine .lst npφ upd_same ?_
      have q := (cut_rds (lo := some (0 + ((i : Nat) : Int) * ((W : Nat) : Int))) (hi := some (0 + ((i : Nat) : Int) * ((W : Nat) : Int) + ((W : Nat) : Int))) rds).ext eR t.ws.fl
      rw [show rowT as W i = cutD as (some (0 + ((i : Nat) : Int) * ((W : Nat) : Int))) (some (0 + ((i : Nat) : Int) * ((W : Nat) : Int) + ((W : Nat) : Int))) by unfold rowT; rw [Int.zero_add]]
      exact q
    have tR := t.go ad (t.ws.new (o := .lst (cutV xsb (some (0 + ((i : Nat) : Int) * ((W : Nat) : Int))) (some (0 + ((i : Nat) : Int) * ((W : Nat) : Int) + ((W : Nat) : Int))))) hp) (.new hp)
    generalize (upd H p (.lst (cutV xsb (some (0 + ((i : Nat) : Int) * ((W : Nat) : Int))) (some (0 + ((i : Nat) : Int) * ((W : Nat) : Int) + ((W : Nat) : Int)))))) = HR at rdRow tR eR ⊢
    refine ⟨aw, rfl, ⟨_, hsq _⟩, for_tup (xs := [.str ("left" : Str), .str ("right" : Str)]) (fun j σ H => ∃ s6, σ = sgT x la lb v (some (.int (0 + ((i : Nat) : Int) * ((W : Nat) : Int)))) (some (.ref p)) s6 ∧ RD K φ2 H (.ref p) (.list (rowT as W i)) ∧
      ((j = 0 ∧ TIv K T φ2 ρ H1 x C dx d q1 q2 la lb W ss as H l' r' sti) ∨ (j = 1 ∧ TIv K T φ2 ρ H1 x C dx d q1 q2 la lb W ss as H (l' ++ ys) r' sta) ∨ (j = 2 ∧ TIv K T φ2 ρ H1 x C dx d q1 q2 la lb W ss as H (l' ++ ys) (r' ++ zs) stb'))) ⟨s6, rfl, rdRow, .inl ⟨rfl, tR⟩⟩ (fun _ _ H _ _ => hsq H) ?_ ?_⟩
    · rintro j y σ H hj ⟨s6', rfl, rdR, hcase⟩
      rcases hcase with ⟨rfl, t⟩ | ⟨rfl, t⟩ | ⟨rfl, t⟩
      · cases hj
        have gd := DGet.k (k := (Sum.inr ("left" : Str) : Key)) t.dc
        rw [val_dc1] at gd
        refine ⟨.ref x, rfl, x, C, dx, _, .ref d, rfl, t.ob, kc.cls, na4, look_b W la lb d, .str ("left" : Str), rfl, d, .ref q1, rfl, gd, φ2, ρ, _, sti, _, sta, t.ws, sl_rw rdR _ _ _ _ _, ev_n.trans hl1, fun u H' p' => ?_⟩
        cases (show RD K φ2 H' u (.list ys) from p'.rr) with
        | lst nb hb rds2 =>
        have t' := t.go ad p'.ws p'.ext
        obtain ⟨xs1, e1, g1⟩ := t'.l1
        have t1 := t'.put1 ad e1 g1 rds2
        refine ⟨q1, _, xs1, _, rfl, rfl, e1, hb, by rw [g1.length, rds2.length]; exact hl2, _, DPut.k (k := (Sum.inr ("left" : Str) : Key)) t1.dc (by show 2 < sizeLine; decide), ?_⟩
        rw [put_dc1]
        refine ⟨_, rfl, ?_, .inr (.inl ⟨rfl, t1.same ad⟩)⟩
        exact ((rdR.ext (p'.ext.more t.ws.sub) t.ws.fl).ext (.at ad.p1) t'.ws.fl).ext (.at ad.pd) t1.ws.fl
      · cases hj
        have gd := DGet.k (k := (Sum.inr ("right" : Str) : Key)) t.dc
        rw [val_dc2] at gd
        refine ⟨.ref x, rfl, x, C, dx, _, .ref d, rfl, t.ob, kc.cls, na4, look_b W la lb d, .str ("right" : Str), rfl, d, .ref q2, rfl, gd, φ2, ρ, _, sta, _, stb', t.ws, sl_rw rdR _ _ _ _ _, ev_n.trans hr1, fun u H' p' => ?_⟩
        cases (show RD K φ2 H' u (.list zs) from p'.rr) with
        | lst nb hb rds2 =>
        have t' := t.go ad p'.ws p'.ext
        obtain ⟨xs1, e1, g1⟩ := t'.l2
        have t1 := t'.put2 ad e1 g1 rds2
        refine ⟨q2, _, xs1, _, rfl, rfl, e1, hb, by rw [g1.length, rds2.length]; exact hr2', _, DPut.k (k := (Sum.inr ("right" : Str) : Key)) t1.dc (by show 2 < sizeLine; decide), ?_⟩
        rw [put_dc2]
        refine ⟨_, rfl, ?_, .inr (.inr ⟨rfl, t1.same ad⟩)⟩
        exact ((rdR.ext (p'.ext.more t.ws.sub) t.ws.fl).ext (.at ad.p2) t'.ws.fl).ext (.at ad.pd) t1.ws.fl
      · cases hj
    · rintro σ H ⟨s6', rfl, rdR, hcase⟩
      rcases hcase with ⟨z, _⟩ | ⟨z, _⟩ | ⟨_, t⟩
      · cases z
      · cases z
      · exact ⟨_, _, _, _, _, _, hnext, rfl, t⟩
  · rintro σ H ⟨l', r', sti, s4, s5, s6, hli, rfl, t⟩
    rw [hlp] at hli
    cases hli
    have subφ : ∀ b ∈ φ, b ∈ φ2 := fun b hb => by rw [← hφ]; simp [hb]
    have h1 := t.l1
    have h2 := t.l2
    obtain ⟨xs1, e1, g1⟩ := h1
    obtain ⟨xs2, e2', g2⟩ := h2
    have hout : ∀ {b : Addr}, H1 b = none → b ∉ φ := fun {b} e z => by
      obtain ⟨u, e2, _⟩ := ws.fx b z
      rw [e] at e2; cases e2
    have wk : ∀ {b : V} {e : D}, RD K φ2 H b e → RD K φ H b e := fun {b e} q => q.weak subφ
    refine k H (Post.mk (t.ws.weak subφ ws.sub) ⟨rfl, fun i s e => by simp at e⟩ t.ext ?_ (fun d e => by cases e))
    refine RD.obj (hout nx) t.ob kc.at_ rfl ?_
    refine .cons (.int _) (.cons (wk t.ra) (.cons (wk t.rb) (.cons ?_ .nil)))
    exact .dct (hout ad.nd) t.dc rfl (.cons (.lst (hout ad.n1) e1 (g1.weak subφ)) (.cons (.lst (hout ad.n2) e2' (g2.weak subφ)) .nil))
end
end Ev
set_option linter.all false
set_option maxRecDepth 100000
set_option maxHeartbeats 16000000
/-! EvT4: Turns, as the top wrote it. -/
namespace Ev
open PySem PySem.Spec L2
/-- the texts: si of __init__, sx of crossings -/
structure TSt (G G0 : Pk) (fs : List (Str × List Str)) (bl : List Str) (si sx : Stmt) (Nx : List Str) (body : List IS) (len : Nat) (mu : List Nat) (i j : Nat) : Prop where
  nws : G.nws = [(("Turns" : Str), [("board" : Str)])]
  fn : G.fn ("Turns" : Str) = none
  nw : G.nw ("Turns" : Str) = some (nwT G0 body len mu i j)
  kc : G0.kc = G.kc
  z1 : G0.nws = []
  z2 : G0.ms = []
  z3 : G0.fl = []
  con : ∀ x, G0.con x = G.con x
  dic : ∀ x, G0.dic x = G.dic x
  Si : FnScope nmsT [("self" : Str), ("board" : Str)] (defScope si)
  ci : chInitS bl ⟨nmsT, defScope si, ownB (defScope si), none⟩ = true
  cb : chInit fs bl G ⟨nmsT, defScope si, ownB (defScope si), none⟩ (defBody si) = true
  bi : ∀ (kV doc pm : Value) (an : Option Addr) (cdv ct : Value) (us : List Value), us.length = 2 → bindArgs (PySem.W.fnOf ("__init__" : Str) ("Turns.__init__" : Str) (defArgs si) (defBody si) (defScope si) .none kV doc pm an cdv ct) ⟨us, []⟩ = pure ([("self" : Str), ("board" : Str)].zip us)
  Sx : FnScope Nx [("board" : Str)] (defScope sx)
  lx : len = Nx.length
  cx : chX fs bl G0 body i j ⟨Nx, defScope sx, ownB (defScope sx), none⟩ (defBody sx) = true
  bx : ∀ (kV doc pm : Value) (an : Option Addr) (cdv ct : Value) (us : List Value), us.length = 1 → bindArgs (PySem.W.fnOf ("crossings" : Str) ("crossings" : Str) (defArgs sx) (defBody sx) (defScope sx) .none kV doc pm an cdv ct) ⟨us, []⟩ = pure ([("board" : Str)].zip us)
/-- __init__, as the top wrote it -/
structure KI (K : PySem.W.Frag) (C : Addr) (si : Stmt) : Prop where
  ex : ∃ (a : Addr) (oc : Value) (od : Option Addr) (kV doc pm : Value) (an : Option Addr) (cdv ct : Value) (osl : Array (Option Value)),
    Mk K C a ∧ K.lookup a = some ⟨oc, od, .func (PySem.W.fnOf ("__init__" : Str) ("Turns.__init__" : Str) (defArgs si) (defBody si) (defScope si) .none kV doc pm an cdv ct), osl⟩ ∧ PySem.W.codeIn K cdv ("Turns.__init__" : Str) = true
theorem ki_mk {K : PySem.W.Frag} {C : Addr} {si : Stmt} {a : Addr} {oc : Value} {od : Option Addr} {kV doc pm : Value} {an : Option Addr} {cdv ct : Value} {osl : Array (Option Value)} (m : PySem.W.makesIn K C = true) (h : PySem.W.findIn K (.ref C) "__init__" = some (some (.ref a))) (i : PySem.W.isFn K (.ref a) = true) (kc : PySem.W.keepIn K (.ref C) = true)
    (l : K.lookup a = some ⟨oc, od, .func (PySem.W.fnOf ("__init__" : Str) ("Turns.__init__" : Str) (defArgs si) (defBody si) (defScope si) .none kV doc pm an cdv ct), osl⟩) (c : PySem.W.codeIn K cdv ("Turns.__init__" : Str) = true) : KI K C si := ⟨a, oc, od, kV, doc, pm, an, cdv, ct, osl, ⟨m, h, i, kc⟩, l, c⟩
theorem nw_of {w : World} {K : PySem.W.Frag} {mg : Str → Option Value} {h : Heap} {T : List (Addr × Str)} {G G0 : Pk} {fs : List (Str × List Str)} {bl : List Str} {si sx : Stmt} {Nx : List Str} {body : List IS} {len : Nat} {mu : List Nat} {i j : Nat} {C : Addr} (X : K.In h) (Gn : h.Ns mainGlobals mg)
    (s : TSt G G0 fs bl si sx Nx body len mu i j) (kc : KC K ("Turns" : Str) C) (ki : KI K C si) (na1 : NoAttr K C ("width" : Str)) (na2 : NoAttr K C ("stands" : Str)) (na3 : NoAttr K C ("across" : Str)) (na4 : NoAttr K C ("behind" : Str))
    (fx : FF K ("crossings" : Str) sx) (cw : CF K ("WAYS" : Str) (.tuple [.str ("left" : Str), .str ("right" : Str)])) (mb : MdB K w mg G bl) : NwOk w K mg G fs T := by
  intro f ps hf
  rw [s.nws] at hf
  simp only [List.lookup] at hf
  split at hf
  case h_2 => cases hf
  rename_i e
  obtain rfl := beq_iff_eq.mp e
  cases hf
  obtain ⟨a, oc, od, kV, doc, pm, an, cdv, ct, osl, mk, lk, hcd⟩ := ki.ex
  refine ⟨s.fn, C, a, _, PySem.W.mg_of X Gn kc.at_, mk, .all (ps := [("self" : Str), ("board" : Str)]) (s.bi kV doc pm an cdv ct), fun P base n ck0 ck1 => ?_⟩
  obtain ⟨ax, oc2, od2, kV2, doc2, pm2, an2, cdv2, ct2, osl2, x1, x2, x3, x4⟩ := fx.ex
  obtain ⟨uw, vw, w1, w2, w3⟩ := cw.ex
  have ckb : ClOk P w K mg base T (2 * n) (evF G n) fs G0 := ⟨fun f ps h => (by rw [s.z1] at h; cases h), fun c m ps h => (by rw [s.z2] at h; cases h), fun f ks ix h => ck0.kget f ks ix (by rw [← s.kc]; exact h), ck0.get⟩
  have mb0 : MdB K w mg G0 bl := ⟨mb.bl, fun c x h => (by rw [s.z3] at h; cases h), fun x d h => mb.con x d (by rw [← s.con]; exact h), fun g kvs h => mb.dic g kvs (by rw [← s.dic]; exact h)⟩
  have Fx := run_cross (P := P) (base := base) (n := n) (body := body) (mu := mu) (len := len) (i := i) (j := j) mb0 ckb x2 x3 s.Sx s.lx s.cx
  refine run_init lk hcd s.Si mb ck1 (fun args st => ?_) s.ci s.cb kc na1 na2 na3 na4 (PySem.W.mg_of X Gn x1) x4 (.all (s.bx kV2 doc2 pm2 an2 cdv2 ct2)) Fx (PySem.W.mg_of X Gn w1) w2 w3
  simp only [evF, s.fn, s.nw]
end Ev
set_option linter.all false
set_option maxRecDepth 100000
set_option maxHeartbeats 4000000
namespace K16
open PySem PySem.Spec L2 Ev
def top (i : Nat) : Stmt := PySem.Challenge.pw_waypins_k16_beats_by_hand_and_by_names.main.body.getD i (.Pass ⟨0, 0, 0, 0⟩)
def f_law : FnD := ⟨1, 5, [2], false,
  [(.loop (.nm 1) (.rng [(.blt .max [(.int 1), (.blt .min [(.slen 0), (.int 3)])])]) [(.asg (.nm 2) (.call ("_law_pen" : Str) [(.call ("_law_cell_at" : Str) [(.slot 0), (.slot 1)])])), (.par [3, 4] [(.call ("_law_draw" : Str) [(.slot 2), (.int 6)]), (.call ("_law_draw" : Str) [(.slot 2), (.bin .Pow (.int 10) (.int 11))])]), (.ite (.lor (.no (.call ("_law_left_right" : Str) [(.slot 3), (.slot 4)])) (.no (.call ("_law_mixed_right" : Str) [(.slot 3), (.slot 4)]))) [(.ret (some (.bl false)))] [])]), (.ret (some (.bl true)))]⟩
def f__law_pen : FnD := ⟨1, 1, [], false,
  [(.ret (some (.lst [(.blt .max [(.int 0), (.bin .Sub (.slot 0) (.bin .Pow (.int 10) (.int 18)))]), (.bin .Add (.bin .Mod (.slot 0) (.int 2147483629)) (.int 1)), (.int 0)])))]⟩
def f__law_cell_at : FnD := ⟨2, 2, [], false,
  [(.ite (.cmp .Lt (.slot 1) (.slen 0)) [(.ret (some (.sidx 0 (.slot 1))))] []), (.ret (some (.int 0)))]⟩
def f__law_draw : FnD := ⟨2, 4, [0], false,
  [(.ite (.cmp .Gt (.idx (.slot 0) (.int 0)) (.int 0)) [(.asg (.nm 3) (.bin .Mod (.idx (.slot 0) (.int 0)) (.slot 1))), (.seti 0 (.int 0) (.bin .FloorDiv (.idx (.slot 0) (.int 0)) (.slot 1))), (.ret (some (.slot 3)))] []), (.seti 0 (.int 2) (.bin .Add (.idx (.slot 0) (.int 2)) (.int 1))), (.seti 0 (.int 1) (.bin .Mod (.bin .Add (.bin .Add (.bin .Mult (.idx (.slot 0) (.int 1)) (.int 48271)) (.bin .Mult (.int 1009) (.idx (.slot 0) (.int 2)))) (.int 7)) (.int 2147483647))), (.asg (.nm 2) (.bin .Mod (.bin .Add (.bin .Add (.bin .Mult (.idx (.slot 0) (.int 1)) (.idx (.slot 0) (.int 1))) (.bin .Mult (.int 69621) (.idx (.slot 0) (.int 1)))) (.int 11)) (.int 2147483629))), (.asg (.nm 2) (.bin .Mod (.bin .Add (.bin .Mult (.slot 2) (.slot 2)) (.bin .Mult (.int 40014) (.slot 2))) (.int 2147483587))), (.ret (some (.bin .Mod (.bin .FloorDiv (.slot 2) (.int 16)) (.slot 1))))]⟩
def f__law_left_right : FnD := ⟨2, 12, [], false,
  [(.par [6, 2] [(.call ("_law_pins" : Str) [(.bin .Mult (.lst [(.str ("left" : Str))]) (.int 3))]), (.lst [(.tup [(.int 0), (.int 1), (.str ("ahead" : Str))]), (.tup [(.int 2), (.int 0), (.str ("behind" : Str))]), (.tup [(.int 1), (.int 2), (.str ("ahead" : Str))]), (.tup [(.int 0), (.int 1), (.str ("behind" : Str))])])]), (.asg (.nm 2) (.bin .Add (.slot 2) (.lst [(.tup [(.int 2), (.int 0), (.str ("ahead" : Str))]), (.tup [(.int 1), (.int 2), (.str ("behind" : Str))])]))), (.asg (.nm 3) (.lst [(.tup [(.slot 2), (.int 1)]), (.tup [(.lst [(.tup [(.int 0), (.int 2), (.str ("ahead" : Str))]), (.tup [(.int 1), (.int 0), (.str ("ahead" : Str))]), (.tup [(.int 2), (.int 1), (.str ("ahead" : Str))])]), (.int 0)])])), (.loop (.tp [(.nm 7), (.nm 8)]) (.of (.bin .Add (.slot 3) (.lst [(.tup [(.lst [(.tup [(.int 0), (.int 2), (.str ("behind" : Str))]), (.tup [(.int 1), (.int 0), (.str ("behind" : Str))]), (.tup [(.int 2), (.int 1), (.str ("behind" : Str))])]), (.int 2)])]))) [(.loop (.tp [(.nm 9), (.nm 10)]) (.enm (.slot 7)) [(.asg (.nm 11) (.idx (.slot 7) (.bin .Mod (.bin .Add (.slot 9) (.int 1)) (.blt .len [(.slot 7)])))), (.ite (.cmp .IsNot (.callk ("is_stand" : Str) [("thing" : Str), ("board" : Str)] [(.slot 10), (.slot 6)] [1, 0]) (.bl true)) [(.ret (some (.bl false)))] []), (.ite (.cmp .NotEq (.callk ("number_of" : Str) [("stand" : Str), ("board" : Str)] [(.slot 10), (.slot 6)] [1, 0]) (.slot 8)) [(.ret (some (.bl false)))] []), (.ite (.lor (.cmp .NotEq (.callk ("beat" : Str) [("stand" : Str), ("board" : Str)] [(.slot 10), (.slot 6)] [1, 0]) (.slot 11)) (.cmp .NotEq (.callk ("ahead" : Str) [("stand" : Str), ("board" : Str)] [(.slot 11), (.slot 6)] [1, 0]) (.slot 10))) [(.ret (some (.bl false)))] [])])]), (.ite (.cmp .NotEq (.callk ("after" : Str) [("many" : Str), ("stand" : Str), ("board" : Str)] [(.bin .Add (.bin .Mult (.int 6) (.slot 1)) (.slot 0)), (.idx (.slot 2) (.int 0)), (.slot 6)] [2, 1, 0]) (.idx (.slot 2) (.slot 0))) [(.ret (some (.bl false)))] []), (.ite (.cmp .NotEq (.call ("after" : Str) [(.slot 6), (.idx (.slot 2) (.int 0)), (.bin .Pow (.int 10) (.int 12))]) (.idx (.slot 2) (.int 4))) [(.ret (some (.bl false)))] []), (.asg (.nm 4) (.tup [(.tup [(.int 1), (.str ("ahead" : Str))]), (.tup [(.int 2), (.str ("ahead" : Str))]), (.tup [(.int 1), (.str ("behind" : Str))]), (.tup [(.int 2), (.str ("behind" : Str))])])), (.asg (.nm 5) (.tup [(.tup [(.int 0), (.str ("behind" : Str))]), (.tup [(.int 1), (.str ("behind" : Str))]), (.tup [(.int 0), (.str ("ahead" : Str))]), (.tup [(.int 1), (.str ("ahead" : Str))])])), (.ite (.lor (.cmp .NotEq (.callk ("meetings" : Str) [("pin" : Str), ("board" : Str)] [(.int 0), (.slot 6)] [1, 0]) (.slot 4)) (.cmp .NotEq (.call ("meetings" : Str) [(.slot 6), (.int 2)]) (.slot 5))) [(.ret (some (.bl false)))] []), (.ite (.cmp .NotEq (.callk ("first" : Str) [("look" : Str), ("pin" : Str), ("board" : Str)] [(.tup [(.int 1000), (.int 1)]), (.int 0), (.slot 6)] [2, 1, 0]) (.tup [(.int 1), (.int 0), (.str ("behind" : Str))])) [(.ret (some (.bl false)))] []), (.ret (some (.cmp .Eq (.call ("first" : Str) [(.slot 6), (.int 1), (.tup [(.int 0), (.int 1)])]) (.tup [(.int 2), (.int 1), (.str ("behind" : Str))]))))]⟩
def f__law_mixed_right : FnD := ⟨2, 6, [], false,
  [(.par [2, 3] [(.call ("_law_pins" : Str) [(.lst [(.str ("left" : Str)), (.str ("right" : Str)), (.str ("left" : Str))])]), (.lst [(.tup [(.int 0), (.int 1), (.str ("ahead" : Str))]), (.tup [(.int 2), (.int 0), (.str ("behind" : Str))]), (.tup [(.int 1), (.int 2), (.str ("ahead" : Str))])])]), (.loop (.tp [(.nm 4), (.nm 5)]) (.enm (.slot 3)) [(.ite (.lor (.cmp .NotEq (.call ("beat" : Str) [(.slot 2), (.slot 5)]) (.idx (.slot 3) (.bin .Mod (.bin .Add (.slot 4) (.int 1)) (.int 3)))) (.cmp .NotEq (.call ("number_of" : Str) [(.slot 2), (.slot 5)]) (.int 2))) [(.ret (some (.bl false)))] [])]), (.ite (.cmp .NotEq (.call ("first" : Str) [(.slot 2), (.int 1), (.tup [(.int 1000), (.int 1)])]) (.tup [(.int 2), (.int 1), (.str ("ahead" : Str))])) [(.ret (some (.bl false)))] []), (.ite (.cmp .NotEq (.callk ("first" : Str) [("look" : Str), ("pin" : Str), ("board" : Str)] [(.tup [(.int 0), (.int 1)]), (.int 1), (.slot 2)] [2, 1, 0]) (.tup [(.int 0), (.int 1), (.str ("ahead" : Str))])) [(.ret (some (.bl false)))] []), (.ret (some (.cmp .Eq (.call ("after" : Str) [(.slot 2), (.idx (.slot 3) (.int 0)), (.bin .Add (.bin .Mult (.int 3) (.slot 1)) (.bin .Mod (.slot 0) (.int 3)))]) (.idx (.slot 3) (.bin .Mod (.slot 0) (.int 3))))))]⟩
def f__law_pins : FnD := ⟨1, 1, [], false,
  [(.ret (some (.tup [(.tup [(.int 0), (.int 0), (.idx (.slot 0) (.int 0))]), (.tup [(.int 40), (.int 3), (.idx (.slot 0) (.int 1))]), (.tup [(.int 11), (.int 29), (.idx (.slot 0) (.int 2))])])))]⟩
def f_is_stand : FnD := ⟨2, 2, [], false,
  [(.exp (.call ("need_board" : Str) [(.slot 0)])), (.ret (some (.call ("stand_holds" : Str) [(.slot 0), (.slot 1)])))]⟩
def f_number_of : FnD := ⟨2, 2, [], false,
  [(.exp (.call ("need_board" : Str) [(.slot 0)])), (.exp (.call ("need_stand" : Str) [(.slot 0), (.slot 1)])), (.ret (some (.call ("line_number" : Str) [(.slot 0), (.slot 1)])))]⟩
def f_beat : FnD := ⟨2, 2, [], false,
  [(.exp (.call ("need_board" : Str) [(.slot 0)])), (.exp (.call ("need_stand" : Str) [(.slot 0), (.slot 1)])), (.ret (some (.call ("stand_met" : Str) [(.slot 0), (.idx (.slot 1) (.int 0)), (.call ("look_of" : Str) [(.slot 0), (.slot 1)])])))]⟩
def f_ahead : FnD := ⟨2, 5, [], false,
  [(.exp (.call ("need_board" : Str) [(.slot 0)])), (.exp (.call ("need_stand" : Str) [(.slot 0), (.slot 1)])), (.asg (.nm 2) (.idx (.slot 1) (.int 1))), (.asg (.tp [(.nm 3), (.nm 4)]) (.call ("first_met" : Str) [(.slot 0), (.slot 2), (.call ("look_of" : Str) [(.slot 0), (.slot 1)]), (.look ("OTHER_WAY" : Str) (.idx (.idx (.slot 0) (.slot 2)) (.int 2)))])), (.ret (some (.tup [(.slot 2), (.slot 3), (.slot 4)])))]⟩
def f_after : FnD := ⟨3, 4, [], false,
  [(.exp (.call ("need_board" : Str) [(.slot 0)])), (.exp (.call ("need_stand" : Str) [(.slot 0), (.slot 1)])), (.exp (.call ("need_beats" : Str) [(.slot 2)])), (.asg (.nm 3) (.call ("stands_from" : Str) [(.slot 0), (.slot 1)])), (.ret (some (.idx (.slot 3) (.bin .Mod (.slot 2) (.blt .len [(.slot 3)])))))]⟩
def f_meetings : FnD := ⟨2, 6, [], false,
  [(.exp (.call ("need_board" : Str) [(.slot 0)])), (.exp (.call ("need_pin" : Str) [(.slot 0), (.slot 1)])), (.asg (.nm 2) (.lc [(("one" : Str), 3), (("other" : Str), 4)] (.tp [(.nm 3), (.nm 4)]) (.of (.call ("turned_pairs" : Str) [(.slot 0)])) [(.cmp .In (.slot 1) (.tup [(.slot 3), (.slot 4)]))] (.ite (.cmp .Eq (.slot 3) (.slot 1)) (.tup [(.slot 4), (.str ("ahead" : Str))]) (.tup [(.slot 3), (.str ("behind" : Str))])))), (.ret (some (.blt .tup [(.bin .Add (.slot 2) (.lc [(("other" : Str), 4), (("word" : Str), 5)] (.tp [(.nm 4), (.nm 5)]) (.of (.slot 2)) [] (.tup [(.slot 4), (.look ("OTHER_WORD" : Str) (.slot 5))])))])))]⟩
def f_first : FnD := ⟨3, 3, [], false,
  [(.exp (.call ("need_board" : Str) [(.slot 0)])), (.exp (.call ("need_pin" : Str) [(.slot 0), (.slot 1)])), (.exp (.call ("need_look" : Str) [(.slot 0), (.slot 2)])), (.ret (some (.call ("stand_met" : Str) [(.slot 0), (.slot 1), (.slot 2)])))]⟩
def f_need_board : FnD := ⟨1, 1, [], false,
  [(.ite (.no (.call ("is_board" : Str) [(.slot 0)])) [.nev] [])]⟩
def f_stand_holds : FnD := ⟨2, 5, [], false,
  [(.ite (.no (.call ("is_tuple_of" : Str) [(.slot 1), (.int 3)])) [(.ret (some (.bl false)))] []), (.asg (.tp [(.nm 2), (.nm 3), (.nm 4)]) (.slot 1)), (.ite (.lor (.no (.call ("is_pin_number" : Str) [(.slot 0), (.slot 2)])) (.no (.call ("is_pin_number" : Str) [(.slot 0), (.slot 3)]))) [(.ret (some (.bl false)))] []), (.ret (some (.land (.cmp .NotEq (.slot 2) (.slot 3)) (.cmp .In (.slot 4) (.con ("WORDS" : Str))))))]⟩
def f_need_stand : FnD := ⟨2, 2, [], false,
  [(.ite (.no (.call ("stand_holds" : Str) [(.slot 0), (.slot 1)])) [.nev] [])]⟩
def f_line_number : FnD := ⟨2, 16, [], false,
  [(.asg (.tp [(.nm 4), (.nm 5), (.nm 6)]) (.slot 1)), (.asg (.tp [(.nm 7), (.nm 8)]) (.call ("look_of" : Str) [(.slot 0), (.slot 1)])), (.asg (.tp [(.nm 9), (.nm 10), (.nm 11)]) (.idx (.slot 0) (.slot 4))), (.asg (.nm 2) (.ite (.cmp .Eq (.cmp .Eq (.slot 6) (.str ("ahead" : Str))) (.cmp .Eq (.slot 11) (.str ("right" : Str)))) (.str ("left" : Str)) (.str ("right" : Str)))), (.asg (.nm 3) (.ite (.cmp .Eq (.idx (.idx (.slot 0) (.slot 5)) (.int 2)) (.slot 2)) (.int 1) (.int 0))), (.loop (.tp [(.nm 12), (.nm 13), (.nm 14)]) (.of (.slot 0)) [(.asg (.nm 15) (.bin .Sub (.bin .Mult (.slot 7) (.bin .Sub (.slot 13) (.slot 10))) (.bin .Mult (.slot 8) (.bin .Sub (.slot 12) (.slot 9))))), (.ite (.land (.cmp .NotEq (.slot 15) (.int 0)) (.cmp .Eq (.cmp .Gt (.slot 15) (.int 0)) (.cmp .Eq (.slot 14) (.str ("left" : Str))))) [(.aug 3 .Add (.int 1))] [])]), (.ret (some (.slot 3)))]⟩
def f_stand_met : FnD := ⟨3, 5, [], false,
  [(.asg (.tp [(.nm 3), (.nm 4)]) (.call ("first_met" : Str) [(.slot 0), (.slot 1), (.slot 2), (.idx (.idx (.slot 0) (.slot 1)) (.int 2))])), (.ret (some (.tup [(.slot 3), (.slot 1), (.look ("OTHER_WORD" : Str) (.slot 4))])))]⟩
def f_look_of : FnD := ⟨2, 5, [], false,
  [(.asg (.tp [(.nm 2), (.nm 3), (.nm 4)]) (.slot 1)), (.ite (.cmp .Eq (.slot 4) (.str ("ahead" : Str))) [(.ret (some (.call ("gap" : Str) [(.idx (.slot 0) (.slot 2)), (.idx (.slot 0) (.slot 3))])))] []), (.ret (some (.call ("gap" : Str) [(.idx (.slot 0) (.slot 3)), (.idx (.slot 0) (.slot 2))])))]⟩
def f_first_met : FnD := ⟨4, 17, [4], false,
  [(.asg (.tp [(.nm 5), (.nm 6)]) (.slot 2)), (.asg (.tp [(.nm 7), (.nm 8), (.nm 9)]) (.idx (.slot 0) (.slot 1))), (.asg (.nm 4) (.lst [])), (.loop (.tp [(.nm 10), (.tp [(.nm 15), (.nm 16), (.nm 9)])]) (.enm (.slot 0)) [(.asg (.nm 11) (.bin .Sub (.slot 15) (.slot 7))), (.asg (.nm 12) (.bin .Sub (.slot 16) (.slot 8))), (.asg (.nm 13) (.bin .Sub (.bin .Mult (.slot 5) (.slot 12)) (.bin .Mult (.slot 6) (.slot 11)))), (.ite (.cmp .NotEq (.slot 13) (.int 0)) [(.app 4 (.tup [(.bin .FloorDiv (.bin .Mult (.bin .Add (.bin .Mult (.slot 5) (.slot 11)) (.bin .Mult (.slot 6) (.slot 12))) (.con ("FINE" : Str))) (.slot 13)), (.slot 10), (.cmp .Gt (.slot 13) (.int 0))]))] [])]), (.asg (.tp [(.nm 9), (.nm 10), (.nm 14)]) (.ite (.cmp .Eq (.slot 3) (.str ("left" : Str))) (.blt .max [(.slot 4)]) (.blt .min [(.slot 4)]))), (.ret (some (.tup [(.slot 10), (.ite (.cmp .Eq (.slot 14) (.cmp .Eq (.slot 3) (.str ("left" : Str)))) (.str ("ahead" : Str)) (.str ("behind" : Str)))])))]⟩
def f_need_beats : FnD := ⟨1, 1, [], false,
  [(.exp (.call ("need_number" : Str) [(.slot 0)])), (.ite (.cmp .Gt (.slot 0) (.con ("MOST_BEATS" : Str))) [.nev] [])]⟩
def f_stands_from : FnD := ⟨2, 5, [], false,
  [(.asg (.nm 2) (.new ("Turns" : Str) [(.slot 0)])), (.asg (.nm 3) (.call ("trail" : Str) [(.mth ("steps" : Str) (.slot 2) [(.call ("ways_of" : Str) [(.slot 0)])]), (.mth ("slot" : Str) (.slot 2) [(.slot 1)])])), (.ret (some (.lc [(("slot" : Str), 4)] (.nm 4) (.of (.slot 3)) [] (.idx (.fld (.slot 2) ("stands" : Str)) (.slot 4)))))]⟩
def f_need_pin : FnD := ⟨2, 2, [], false,
  [(.ite (.no (.call ("is_pin_number" : Str) [(.slot 0), (.slot 1)])) [.nev] [])]⟩
def f_turned_pairs : FnD := ⟨1, 14, [], false,
  [(.asg (.nm 1) (.srt (.lc [(("pin" : Str), 9), (("x" : Str), 12), (("y" : Str), 13), (("_" : Str), 7)] (.tp [(.nm 9), (.tp [(.nm 12), (.nm 13), (.nm 7)])]) (.enm (.slot 0)) [] (.tup [(.bin .Sub (.bin .Mult (.con ("START_X" : Str)) (.slot 13)) (.bin .Mult (.con ("START_Y" : Str)) (.slot 12))), (.bin .Mult (.bin .Add (.bin .Mult (.con ("START_X" : Str)) (.slot 12)) (.bin .Mult (.con ("START_Y" : Str)) (.slot 13))) (.con ("FINE" : Str))), (.slot 9)])) false)), (.asg (.nm 2) (.lc2 [(("at" : Str), 3), (("left" : Str), 10), (("along" : Str), 11), (("other" : Str), 8), (("one_left" : Str), 4), (("one_along" : Str), 5), (("one" : Str), 6)] [4, 5, 6] (.tp [(.nm 3), (.tp [(.nm 10), (.nm 11), (.nm 8)])]) (.enm (.slot 1)) [] (.tp [(.nm 4), (.nm 5), (.nm 6)]) (.of (.cut (.slot 1) none (some (.slot 3)))) [] (.tup [(.bin .FloorDiv (.bin .Sub (.slot 11) (.slot 5)) (.bin .Sub (.slot 10) (.slot 4))), (.slot 6), (.slot 8)]))), (.ret (some (.lc [(("_" : Str), 7), (("one" : Str), 6), (("other" : Str), 8)] (.tp [(.nm 7), (.nm 6), (.nm 8)]) (.of (.srt (.slot 2) true)) [] (.tup [(.slot 6), (.slot 8)]))))]⟩
def f_need_look : FnD := ⟨2, 9, [], false,
  [(.ite (.lor (.no (.call ("is_tuple_of" : Str) [(.slot 1), (.int 2)])) (.lor (.no (.call ("is_whole" : Str) [(.idx (.slot 1) (.int 0))])) (.no (.call ("is_whole" : Str) [(.idx (.slot 1) (.int 1))])))) [.nev] []), (.asg (.tp [(.nm 3), (.nm 4)]) (.slot 1)), (.asg (.nm 2) (.dc [(("pin" : Str), 5), (("x" : Str), 6), (("y" : Str), 7), (("_" : Str), 8)] (.tp [(.nm 5), (.tp [(.nm 6), (.nm 7), (.nm 8)])]) (.enm (.slot 0)) [] (.bin .Sub (.bin .Mult (.slot 3) (.slot 7)) (.bin .Mult (.slot 4) (.slot 6))) (.slot 5))), (.ite (.cmp .Lt (.blt .len [(.slot 2)]) (.blt .len [(.slot 0)])) [.nev] []), (.ret (some (.slot 2)))]⟩
def f_is_board : FnD := ⟨1, 2, [], false,
  [(.ite (.lor (.no (.isi (.slot 0) "tuple")) (.no (.cmp2 .LtE .LtE (.con ("FEWEST_PINS" : Str)) (.blt .len [(.slot 0)]) (.con ("MOST_PINS" : Str))))) [(.ret (some (.bl false)))] []), (.loop (.nm 1) (.of (.slot 0)) [(.ite (.no (.call ("is_pin" : Str) [(.slot 1)])) [(.ret (some (.bl false)))] [])]), (.ret (some (.cmp .Eq (.call ("many_slopes" : Str) [(.slot 0)]) (.bin .FloorDiv (.bin .Mult (.blt .len [(.slot 0)]) (.bin .Sub (.blt .len [(.slot 0)]) (.int 1))) (.int 2)))))]⟩
def f_is_tuple_of : FnD := ⟨2, 2, [], false,
  [(.ret (some (.land (.isi (.slot 0) "tuple") (.cmp .Eq (.blt .len [(.slot 0)]) (.slot 1)))))]⟩
def f_is_pin_number : FnD := ⟨2, 2, [], false,
  [(.ret (some (.land (.call ("is_whole" : Str) [(.slot 1)]) (.cmp2 .LtE .Lt (.int 0) (.slot 1) (.blt .len [(.slot 0)])))))]⟩
def f_gap : FnD := ⟨2, 2, [], false,
  [(.ret (some (.tup [(.bin .Sub (.idx (.slot 1) (.int 0)) (.idx (.slot 0) (.int 0))), (.bin .Sub (.idx (.slot 1) (.int 1)) (.idx (.slot 0) (.int 1)))])))]⟩
def f_need_number : FnD := ⟨1, 1, [], false,
  [(.ite (.lor (.no (.call ("is_whole" : Str) [(.slot 0)])) (.cmp .Lt (.slot 0) (.int 0))) [.nev] [])]⟩
def f_trail : FnD := ⟨2, 4, [2], false,
  [(.asg (.nm 2) (.lst [(.slot 1)])), (.asg (.nm 3) (.idx (.slot 0) (.slot 1))), (.whl (.cmp .NotEq (.slot 3) (.slot 1)) [(.app 2 (.slot 3)), (.asg (.nm 3) (.idx (.slot 0) (.slot 3)))]), (.ret (some (.slot 2)))]⟩
def f_ways_of : FnD := ⟨1, 3, [], false,
  [(.ret (some (.lc [(("_" : Str), 1), (("way" : Str), 2)] (.tp [(.nm 1), (.nm 1), (.nm 2)]) (.of (.slot 0)) [] (.slot 2))))]⟩
def f_is_whole : FnD := ⟨1, 1, [], false,
  [(.ret (some (.land (.isi (.slot 0) "int") (.no (.isi (.slot 0) "bool")))))]⟩
def f_is_pin : FnD := ⟨1, 4, [], false,
  [(.ite (.lor (.no (.isi (.slot 0) "tuple")) (.cmp .NotEq (.blt .len [(.slot 0)]) (.int 3))) [(.ret (some (.bl false)))] []), (.asg (.tp [(.nm 1), (.nm 2), (.nm 3)]) (.slot 0)), (.ite (.lor (.no (.isi (.slot 1) "int")) (.lor (.no (.isi (.slot 2) "int")) (.lor (.cmp .Is (.slot 1) (.bl true)) (.lor (.cmp .Is (.slot 1) (.bl false)) (.lor (.cmp .Is (.slot 2) (.bl true)) (.cmp .Is (.slot 2) (.bl false))))))) [(.ret (some (.bl false)))] []), (.ret (some (.land (.cmp2 .LtE .LtE (.int 0) (.slot 1) (.con ("LAST_PLACE" : Str))) (.land (.cmp2 .LtE .LtE (.int 0) (.slot 2) (.con ("LAST_PLACE" : Str))) (.lor (.cmp .Eq (.slot 3) (.str ("left" : Str))) (.cmp .Eq (.slot 3) (.str ("right" : Str))))))))]⟩
def f_many_slopes : FnD := ⟨1, 7, [], false,
  [(.ret (some (.card [(("at" : Str), 1), (("x" : Str), 5), (("y" : Str), 6), (("_" : Str), 4), (("other_x" : Str), 2), (("other_y" : Str), 3)] [2, 3, 4] (.tp [(.nm 1), (.tp [(.nm 5), (.nm 6), (.nm 4)])]) (.enm (.slot 0)) [] (.tp [(.nm 2), (.nm 3), (.nm 4)]) (.of (.cut (.slot 0) none (some (.slot 1)))) [] (.ite (.cmp .NotEq (.slot 5) (.slot 2)) (.bin .FloorDiv (.bin .Mult (.bin .Sub (.slot 6) (.slot 3)) (.con ("FINE" : Str))) (.bin .Sub (.slot 5) (.slot 2))) .non))))]⟩
def f_next_along : FnD := ⟨2, 2, [], false,
  [(.ret (some (.ite (.cmp .Eq (.slot 1) (.str ("left" : Str))) (.bin .Add (.cut (.slot 0) (some (.int 1)) none) (.cut (.slot 0) none (some (.int 1)))) (.bin .Add (.cut (.slot 0) (some (.neg (.int 1))) none) (.cut (.slot 0) none (some (.neg (.int 1))))))))]⟩
def f_Turns_steps : FnD := ⟨2, 5, [2], false,
  [(.asg (.nm 2) (.lst [])), (.loop (.tp [(.nm 3), (.nm 4)]) (.enm (.slot 1)) [(.ext 2 (.cut (.idx (.fld (.slot 0) ("behind" : Str)) (.slot 4)) (some (.bin .Mult (.slot 3) (.fld (.slot 0) ("width" : Str)))) (some (.bin .Mult (.bin .Add (.slot 3) (.int 1)) (.fld (.slot 0) ("width" : Str))))))]), (.ret (some (.slot 2)))]⟩
def f_Turns_slot : FnD := ⟨2, 2, [], false,
  [(.ret (some (.indx3 (.fld (.slot 0) ("stands" : Str)) (.slot 1) (.bin .Mult (.idx (.slot 1) (.int 0)) (.fld (.slot 0) ("width" : Str))))))]⟩
def fns : List (Str × FnD) := [(("law" : Str), f_law), (("_law_pen" : Str), f__law_pen), (("_law_cell_at" : Str), f__law_cell_at), (("_law_draw" : Str), f__law_draw), (("_law_left_right" : Str), f__law_left_right), (("_law_mixed_right" : Str), f__law_mixed_right), (("_law_pins" : Str), f__law_pins), (("is_stand" : Str), f_is_stand), (("number_of" : Str), f_number_of), (("beat" : Str), f_beat), (("ahead" : Str), f_ahead), (("after" : Str), f_after), (("meetings" : Str), f_meetings), (("first" : Str), f_first), (("need_board" : Str), f_need_board), (("stand_holds" : Str), f_stand_holds), (("need_stand" : Str), f_need_stand), (("line_number" : Str), f_line_number), (("stand_met" : Str), f_stand_met), (("look_of" : Str), f_look_of), (("first_met" : Str), f_first_met), (("need_beats" : Str), f_need_beats), (("stands_from" : Str), f_stands_from), (("need_pin" : Str), f_need_pin), (("turned_pairs" : Str), f_turned_pairs), (("need_look" : Str), f_need_look), (("is_board" : Str), f_is_board), (("is_tuple_of" : Str), f_is_tuple_of), (("is_pin_number" : Str), f_is_pin_number), (("gap" : Str), f_gap), (("need_number" : Str), f_need_number), (("trail" : Str), f_trail), (("ways_of" : Str), f_ways_of), (("is_whole" : Str), f_is_whole), (("is_pin" : Str), f_is_pin), (("many_slopes" : Str), f_many_slopes), (("next_along" : Str), f_next_along), ("Turns.steps", f_Turns_steps), ("Turns.slot", f_Turns_slot)]
def cons : List (Str × D) := [(("FEWEST_PINS" : Str), (.int (3))), (("FINE" : Str), (.int (20000))), (("LAST_PLACE" : Str), (.int (99))), (("MOST_BEATS" : Str), (.int (1000000000000))), (("MOST_PINS" : Str), (.int (8))), (("START_X" : Str), (.int (100))), (("START_Y" : Str), (.int (1))), (("WAYS" : Str), (.tuple [(.str ("left" : Str)), (.str ("right" : Str))])), (("WORDS" : Str), (.tuple [(.str ("ahead" : Str)), (.str ("behind" : Str))]))]
def dics : List (Str × List (Str × D)) := [(("OTHER_WAY" : Str), [(("left" : Str), (.str ("right" : Str))), (("right" : Str), (.str ("left" : Str)))]), (("OTHER_WORD" : Str), [(("ahead" : Str), (.str ("behind" : Str))), (("behind" : Str), (.str ("ahead" : Str)))])]
def kcs : List (Str × List Str × List Nat) := [(("is_stand" : Str), [("thing" : Str), ("board" : Str)], [1, 0]), (("number_of" : Str), [("stand" : Str), ("board" : Str)], [1, 0]), (("beat" : Str), [("stand" : Str), ("board" : Str)], [1, 0]), (("ahead" : Str), [("stand" : Str), ("board" : Str)], [1, 0]), (("after" : Str), [("many" : Str), ("stand" : Str), ("board" : Str)], [2, 1, 0]), (("meetings" : Str), [("pin" : Str), ("board" : Str)], [1, 0]), (("first" : Str), [("look" : Str), ("pin" : Str), ("board" : Str)], [2, 1, 0])]
def G0 : Pk := ⟨fun f => fns.lookup f, fun x => cons.lookup x, fun g => dics.lookup g, kcs, 1000, fun _ => none, [], [], []⟩
def cx_body : List IS := [(.asg (.nm 1) (.blt .len [(.slot 0)])), (.asg (.nm 2) (.bin .Sub (.slot 1) (.int 1))), (.asg (.nm 3) (.bin .Mult (.lst [.non]) (.bin .Mult (.bin .Mult (.slot 1) (.slot 2)) (.int 2)))), (.asg (.nm 4) (.bin .Mult (.lst [(.int 0)]) (.bin .Mult (.bin .Mult (.slot 1) (.slot 2)) (.int 2)))), (.asg (.nm 5) (.lc [(("pin" : Str), 10)] (.nm 10) (.rng [(.slot 1)]) [] (.bin .Mult (.bin .Mult (.slot 10) (.slot 2)) (.int 2)))), (.loop (.tp [(.nm 6), (.nm 7)]) (.of (.call ("turned_pairs" : Str) [(.slot 0)])) [(.asg (.nm 8) (.idx (.slot 5) (.slot 6))), (.asg (.nm 9) (.idx (.slot 5) (.slot 7))), (.seti 5 (.slot 6) (.bin .Add (.slot 8) (.int 1))), (.seti 5 (.slot 7) (.bin .Add (.slot 9) (.int 1))), (.seti 3 (.slot 8) (.tup [(.slot 6), (.slot 7), (.str ("ahead" : Str))])), (.seti 3 (.slot 9) (.tup [(.slot 7), (.slot 6), (.str ("behind" : Str))])), (.seti 3 (.bin .Add (.slot 8) (.slot 2)) (.tup [(.slot 6), (.slot 7), (.str ("behind" : Str))])), (.seti 3 (.bin .Add (.slot 9) (.slot 2)) (.tup [(.slot 7), (.slot 6), (.str ("ahead" : Str))])), (.seti 4 (.slot 8) (.slot 9)), (.seti 4 (.slot 9) (.slot 8)), (.seti 4 (.bin .Add (.slot 8) (.slot 2)) (.bin .Add (.slot 9) (.slot 2))), (.seti 4 (.bin .Add (.slot 9) (.slot 2)) (.bin .Add (.slot 8) (.slot 2)))])]
def cx_mu : List Nat := [3, 4, 5]
def msT : List ((Str × Str) × List Str) := [((("Turns" : Str), ("steps" : Str)), [("self" : Str), ("ways" : Str)]), ((("Turns" : Str), ("slot" : Str)), [("self" : Str), ("stand" : Str)])]
def flT : List (Str × Str) := [(("Turns" : Str), ("across" : Str)), (("Turns" : Str), ("behind" : Str)), (("Turns" : Str), ("stands" : Str)), (("Turns" : Str), ("width" : Str))]
def G : Pk := ⟨fun f => fns.lookup f, fun x => cons.lookup x, fun g => dics.lookup g, kcs, 1000, fun f => if f = ("Turns" : Str) then some (nwT G0 cx_body 11 cx_mu 3 4) else none, [(("Turns" : Str), [("board" : Str)])], msT, flT⟩
def fs : List (Str × List Str) := [(("law" : Str), [("_law_script" : Str)]), (("_law_pen" : Str), [("_law_cell" : Str)]), (("_law_cell_at" : Str), [("_law_script" : Str), ("_law_k" : Str)]), (("_law_draw" : Str), [("_law_pen_here" : Str), ("_law_amount" : Str)]), (("_law_left_right" : Str), [("_law_at" : Str), ("_law_more" : Str)]), (("_law_mixed_right" : Str), [("_law_at" : Str), ("_law_more" : Str)]), (("_law_pins" : Str), [("_law_ways" : Str)]), (("is_stand" : Str), [("board" : Str), ("thing" : Str)]), (("number_of" : Str), [("board" : Str), ("stand" : Str)]), (("beat" : Str), [("board" : Str), ("stand" : Str)]), (("ahead" : Str), [("board" : Str), ("stand" : Str)]), (("after" : Str), [("board" : Str), ("stand" : Str), ("many" : Str)]), (("meetings" : Str), [("board" : Str), ("pin" : Str)]), (("first" : Str), [("board" : Str), ("pin" : Str), ("look" : Str)]), (("need_board" : Str), [("board" : Str)]), (("stand_holds" : Str), [("board" : Str), ("thing" : Str)]), (("need_stand" : Str), [("board" : Str), ("stand" : Str)]), (("line_number" : Str), [("board" : Str), ("stand" : Str)]), (("stand_met" : Str), [("board" : Str), ("pin" : Str), ("look" : Str)]), (("look_of" : Str), [("board" : Str), ("stand" : Str)]), (("first_met" : Str), [("board" : Str), ("pin" : Str), ("look" : Str), ("way" : Str)]), (("need_beats" : Str), [("many" : Str)]), (("stands_from" : Str), [("board" : Str), ("stand" : Str)]), (("need_pin" : Str), [("board" : Str), ("pin" : Str)]), (("turned_pairs" : Str), [("board" : Str)]), (("need_look" : Str), [("board" : Str), ("look" : Str)]), (("is_board" : Str), [("thing" : Str)]), (("is_tuple_of" : Str), [("thing" : Str), ("many" : Str)]), (("is_pin_number" : Str), [("board" : Str), ("thing" : Str)]), (("gap" : Str), [("one" : Str), ("other" : Str)]), (("need_number" : Str), [("number" : Str)]), (("trail" : Str), [("steps" : Str), ("start" : Str)]), (("ways_of" : Str), [("board" : Str)]), (("is_whole" : Str), [("thing" : Str)]), (("is_pin" : Str), [("thing" : Str)]), (("many_slopes" : Str), [("board" : Str)]), (("next_along" : Str), [("row" : Str), ("way" : Str)])]
def bl : List Str := [("bool" : Str), ("enumerate" : Str), ("int" : Str), ("isinstance" : Str), ("len" : Str), ("max" : Str), ("min" : Str), ("range" : Str), ("sorted" : Str), ("tuple" : Str)]
abbrev s_law : Stmt := top 62
def n_law : List Str := [("_law_script" : Str), ("_law_k" : Str), ("_law_pen_here" : Str), ("_law_at" : Str), ("_law_more" : Str)]
abbrev s__law_pen : Stmt := top 57
def n__law_pen : List Str := [("_law_cell" : Str)]
abbrev s__law_cell_at : Stmt := top 56
def n__law_cell_at : List Str := [("_law_script" : Str), ("_law_k" : Str)]
abbrev s__law_draw : Stmt := top 58
def n__law_draw : List Str := [("_law_pen_here" : Str), ("_law_amount" : Str), ("_law_mixed" : Str), ("_law_found" : Str)]
abbrev s__law_left_right : Stmt := top 60
def n__law_left_right : List Str := [("_law_at" : Str), ("_law_more" : Str), ("_law_long" : Str), ("_law_rows" : Str), ("_law_due" : Str), ("_law_its" : Str), ("_law_net" : Str), ("_law_row" : Str), ("_law_number" : Str), ("_law_here" : Str), ("_law_place" : Str), ("_law_later" : Str)]
abbrev s__law_mixed_right : Stmt := top 61
def n__law_mixed_right : List Str := [("_law_at" : Str), ("_law_more" : Str), ("_law_net" : Str), ("_law_row" : Str), ("_law_here" : Str), ("_law_place" : Str)]
abbrev s__law_pins : Stmt := top 59
def n__law_pins : List Str := [("_law_ways" : Str)]
abbrev s_is_stand : Stmt := top 48
def n_is_stand : List Str := [("board" : Str), ("thing" : Str)]
abbrev s_number_of : Stmt := top 49
def n_number_of : List Str := [("board" : Str), ("stand" : Str)]
abbrev s_beat : Stmt := top 50
def n_beat : List Str := [("board" : Str), ("stand" : Str)]
abbrev s_ahead : Stmt := top 51
def n_ahead : List Str := [("board" : Str), ("stand" : Str), ("last" : Str), ("other" : Str), ("word" : Str)]
abbrev s_after : Stmt := top 53
def n_after : List Str := [("board" : Str), ("stand" : Str), ("many" : Str), ("found" : Str)]
abbrev s_meetings : Stmt := top 54
def n_meetings : List Str := [("board" : Str), ("pin" : Str), ("half" : Str), ("one" : Str), ("other" : Str), ("word" : Str)]
abbrev s_first : Stmt := top 52
def n_first : List Str := [("board" : Str), ("pin" : Str), ("look" : Str)]
abbrev s_need_board : Stmt := top 22
def n_need_board : List Str := [("board" : Str)]
abbrev s_stand_holds : Stmt := top 41
def n_stand_holds : List Str := [("board" : Str), ("thing" : Str), ("own" : Str), ("last" : Str), ("word" : Str)]
abbrev s_need_stand : Stmt := top 42
def n_need_stand : List Str := [("board" : Str), ("stand" : Str)]
abbrev s_line_number : Stmt := top 46
def n_line_number : List Str := [("board" : Str), ("stand" : Str), ("last_way" : Str), ("many" : Str), ("own" : Str), ("last" : Str), ("word" : Str), ("look_x" : Str), ("look_y" : Str), ("x" : Str), ("y" : Str), ("own_way" : Str), ("other_x" : Str), ("other_y" : Str), ("way" : Str), ("left" : Str)]
abbrev s_stand_met : Stmt := top 45
def n_stand_met : List Str := [("board" : Str), ("pin" : Str), ("look" : Str), ("other" : Str), ("word" : Str)]
abbrev s_look_of : Stmt := top 44
def n_look_of : List Str := [("board" : Str), ("stand" : Str), ("own" : Str), ("last" : Str), ("word" : Str)]
abbrev s_first_met : Stmt := top 31
def n_first_met : List Str := [("board" : Str), ("pin" : Str), ("look" : Str), ("way" : Str), ("found" : Str), ("look_x" : Str), ("look_y" : Str), ("x" : Str), ("y" : Str), ("_" : Str), ("other" : Str), ("gap_x" : Str), ("gap_y" : Str), ("left" : Str), ("on_left" : Str), ("other_x" : Str), ("other_y" : Str)]
abbrev s_need_beats : Stmt := top 43
def n_need_beats : List Str := [("many" : Str)]
abbrev s_stands_from : Stmt := top 47
def n_stands_from : List Str := [("board" : Str), ("stand" : Str), ("turns" : Str), ("slots" : Str), ("slot" : Str)]
abbrev s_need_pin : Stmt := top 23
def n_need_pin : List Str := [("board" : Str), ("pin" : Str)]
abbrev s_turned_pairs : Stmt := top 32
def n_turned_pairs : List Str := [("board" : Str), ("spots" : Str), ("found" : Str), ("at" : Str), ("one_left" : Str), ("one_along" : Str), ("one" : Str), ("_" : Str), ("other" : Str), ("pin" : Str), ("left" : Str), ("along" : Str), ("x" : Str), ("y" : Str)]
abbrev s_need_look : Stmt := top 24
def n_need_look : List Str := [("board" : Str), ("look" : Str), ("found" : Str), ("look_x" : Str), ("look_y" : Str), ("pin" : Str), ("x" : Str), ("y" : Str), ("_" : Str)]
abbrev s_is_board : Stmt := top 20
def n_is_board : List Str := [("thing" : Str), ("part" : Str)]
abbrev s_is_tuple_of : Stmt := top 16
def n_is_tuple_of : List Str := [("thing" : Str), ("many" : Str)]
abbrev s_is_pin_number : Stmt := top 21
def n_is_pin_number : List Str := [("board" : Str), ("thing" : Str)]
abbrev s_gap : Stmt := top 18
def n_gap : List Str := [("one" : Str), ("other" : Str)]
abbrev s_need_number : Stmt := top 26
def n_need_number : List Str := [("number" : Str)]
abbrev s_trail : Stmt := top 37
def n_trail : List Str := [("steps" : Str), ("start" : Str), ("found" : Str), ("here" : Str)]
abbrev s_ways_of : Stmt := top 36
def n_ways_of : List Str := [("board" : Str), ("_" : Str), ("way" : Str)]
abbrev s_is_whole : Stmt := top 15
def n_is_whole : List Str := [("thing" : Str)]
abbrev s_is_pin : Stmt := top 17
def n_is_pin : List Str := [("thing" : Str), ("x" : Str), ("y" : Str), ("way" : Str)]
abbrev s_many_slopes : Stmt := top 19
def n_many_slopes : List Str := [("board" : Str), ("at" : Str), ("other_x" : Str), ("other_y" : Str), ("_" : Str), ("x" : Str), ("y" : Str)]
abbrev s_next_along : Stmt := top 34
def n_next_along : List Str := [("row" : Str), ("way" : Str)]
abbrev s_crossings : Stmt := top 33
def n_crossings : List Str := [("board" : Str), ("many" : Str), ("half" : Str), ("stands" : Str), ("across" : Str), ("free" : Str), ("one" : Str), ("other" : Str), ("at" : Str), ("to" : Str), ("pin" : Str)]
abbrev s_Turns_steps : Stmt := inClass (top 35) 4
def n_Turns_steps : List Str := [("self" : Str), ("ways" : Str), ("found" : Str), ("pin" : Str), ("way" : Str)]
abbrev s_Turns_slot : Stmt := inClass (top 35) 1
def n_Turns_slot : List Str := [("self" : Str), ("stand" : Str)]
abbrev s_Turns___init__ : Stmt := inClass (top 35) 0
def n_Turns___init__ : List Str := [("self" : Str), ("board" : Str), ("start" : Str), ("stands" : Str), ("across" : Str), ("row" : Str), ("way" : Str)]

def sx (n : Str) (N : List Str) (st : Stmt) (l : Bool) : Sx := ⟨N, defScope st, ownB (defScope st), if l = true then some (lamQ n) else none⟩
end K16
set_option maxRecDepth 1000000
set_option maxHeartbeats 4000000
set_option linter.all false
namespace K16
open PySem PySem.Spec L2 Ev
theorem evF_s {G : Pk} {n : Nat} {f : Str} {args : List SV} {st : Sto} {F : FnD} (hF : G.fn f = some F) (hl : args.length = F.ps) :
    evF G (n + 1) f args st = finF st.length (evSs G (evF G n) F.mu F.body (args.map some ++ List.replicate (F.len - F.ps) none) st) := by
  simp only [evF, hF, if_pos hl]
theorem evSs_nx {G : Pk} {cl : Str → List SV → Sto → Option (ER × Sto)} {mu : List Nat} {s : IS} {ss : List IS} {env e1 : Ev.Env} {st s1 : Sto} (h : evS G cl mu s env st = some (.nx e1 s1)) : evSs G cl mu (s :: ss) env st = evSs G cl mu ss e1 s1 := by
  simp only [evSs, h]
theorem evSs_rt {G : Pk} {cl : Str → List SV → Sto → Option (ER × Sto)} {mu : List Nat} {s : IS} {ss : List IS} {env : Ev.Env} {st s1 : Sto} {r : ER} (h : evS G cl mu s env st = some (.rt r s1)) : evSs G cl mu (s :: ss) env st = some (.rt r s1) := by
  simp only [evSs, h]
theorem fn_cell : G.fn "_law_cell_at" = some f__law_cell_at := by kernel_rfl
theorem fn_pen : G.fn "_law_pen" = some f__law_pen := by kernel_rfl
theorem fn_draw : G.fn "_law_draw" = some f__law_draw := by kernel_rfl
theorem fn_after : G.fn "after" = some f_after := by kernel_rfl
theorem fn_beats : G.fn "need_beats" = some f_need_beats := by kernel_rfl
theorem fn_number : G.fn "need_number" = some f_need_number := by kernel_rfl
theorem fn_whole : G.fn "is_whole" = some f_is_whole := by kernel_rfl
theorem cell_ok (n : Nat) (ns : List Int) (k : Nat) (st : Sto) : ∃ c : Int, evF G (n + 1) "_law_cell_at" [.scr ns, .dat (.int k)] st = some (.dat (.int c) false, st) := by
  rw [evF_s fn_cell rfl]
  by_cases h : k < ns.length
  · refine ⟨ns[k], ?_⟩
    have h2 : (k : Int) < (ns.length : Int) := by omega
    simp [f__law_cell_at, evSs, evS, evE, tstE, rdE, cmpD, truD, finF, finR, erS, h, h2, atI_nat]
  · refine ⟨0, ?_⟩
    have h2 : ¬ (k : Int) < (ns.length : Int) := by omega
    simp [f__law_cell_at, evSs, evS, evE, tstE, rdE, cmpD, truD, finF, finR, erS, h, h2]
theorem pen_ok (n : Nat) (c : Int) (st : Sto) : ∃ a b : Int, 0 ≤ a ∧ 0 ≤ b ∧ b < 2147483630 ∧ evF G (n + 1) "_law_pen" [.dat (.int c)] st = some (.dat (.list [.int a, .int b, .int 0]) true, st) := by
  refine ⟨if c - 10 ^ 18 > 0 then c - 10 ^ 18 else 0, c % 2147483629 + 1, by split <;> omega, by omega, by omega, ?_⟩
  rw [evF_s fn_pen rfl]
  simp [f__law_pen, evSs, evS, evE, evDs, evEs, rdEs, tstE, rdE, bltD, binD, truD, finF, finR, erS, sizeLine]
def drawB (b c am : Int) : Int :=
  let b1 := (b * 48271 + 1009 * c + 7) % 2147483647
  let m := (b1 * b1 + 69621 * b1 + 11) % 2147483629
  let m2 := (m * m + 40014 * m) % 2147483587
  m2 / 16 % am
theorem draw_ok (n : Nat) (st : Sto) (i : Nat) (a b c am : Int) (hi : st[i]? = some [.int a, .int b, .int c]) (ha : 0 ≤ a) (hb : 0 ≤ b) (hb2 : b < 2147483650) (hc : 0 ≤ c) (hc2 : c < 1000) (hm : 0 < am) (hm2 : am ≤ 10 ^ 11) :
    ∃ r a' b' c' : Int, 0 ≤ r ∧ r < am ∧ 0 ≤ a' ∧ 0 ≤ b' ∧ b' < 2147483650 ∧ 0 ≤ c' ∧ c' ≤ c + 1 ∧ evF G (n + 1) "_law_draw" [.loc i, .dat (.int am)] st = some (.dat (.int r) false, st.set i [.int a', .int b', .int c']) := by
  obtain ⟨hlt, hat⟩ := List.getElem?_eq_some_iff.mp hi
  rw [evF_s fn_draw rfl]
  by_cases h : 0 < a
  · refine ⟨a % am, a / am, b, c, Int.emod_nonneg _ (by omega), Int.emod_lt_of_pos _ hm, Int.ediv_nonneg ha (by omega), hb, hb2, hc, by omega, ?_⟩
    have hd : am < 1267650600228229401496703205376 := by omega
    simp [f__law_draw, evSs, evS, evE, tstE, rdE, cmpD, truD, finF, finR, erS, svE, binD, idxD, atI, ixN, stoE, hlt, hat, h, hm, hd]
    exact List.take_of_length_le (by simp)
  · have h0 : a = 0 := by omega
    subst h0
    clear hi
    refine ⟨drawB b (c + 1) am, 0, (b * 48271 + 1009 * (c + 1) + 7) % 2147483647, c + 1, Int.emod_nonneg _ (by omega), Int.emod_lt_of_pos _ hm, by omega, Int.emod_nonneg _ (by omega), by omega, by omega, by omega, ?_⟩
    have q1 : ∀ x : Int, -18446744073709551616 < x % 2147483647 := fun x => by omega
    have q2 : ∀ x : Int, x % 2147483647 < 18446744073709551616 := fun x => by omega
    have q3 : ∀ x : Int, -18446744073709551616 < x % 2147483629 := fun x => by omega
    have q4 : ∀ x : Int, x % 2147483629 < 18446744073709551616 := fun x => by omega
    have hl2 : ∀ (s : Sto) (j : Nat) (x : List D), List.take s.length (s.set j x) = s.set j x := fun s j x => List.take_of_length_le (by simp)
    simp [f__law_draw, evSs, evS, evE, tstE, rdE, cmpD, truD, finF, finR, erS, svE, binD, idxD, atI, ixN, stoE, hat, hm, drawB, hlt, q1, q2, q3, q4]
    exact List.take_of_length_le (by simp)
theorem kb1 : kitB "int" "int" = some true := by decide +kernel
theorem kb2 : kitB "int" "bool" = some false := by decide +kernel
theorem beats_ok (n : Nat) (m : Int) (h0 : 0 ≤ m) (h1 : m ≤ 1000000000000) (st : Sto) : evF G (n + 3) "need_beats" [.dat (.int m)] st = some (.dat .none false, st) := by
  have hw : evF G (n + 1) "is_whole" [.dat (.int m)] st = some (.dat (.bool true) false, st) := by
    rw [evF_s fn_whole rfl]
    simp [f_is_whole, evSs, evS, evE, tstE, rdE, truD, finF, finR, erS, isD, kb1, kb2]
  have hn : evF G (n + 2) "need_number" [.dat (.int m)] st = some (.dat .none false, st) := by
    rw [evF_s fn_number rfl]
    have h : ¬ m < 0 := by omega
    simp [f_need_number, evSs, evS, evE, evEs, tstE, rdE, truD, finF, finR, erS, svE, hw, cmpD, h]
  have hc : G.con "MOST_BEATS" = some (.int 1000000000000) := by kernel_rfl
  rw [evF_s fn_beats rfl]
  have h : ¬ 1000000000000 < m := by omega
  simp [f_need_beats, evSs, evS, evE, evEs, tstE, rdE, truD, finF, finR, erS, svE, hn, hc, cmpD, h]
theorem after_ok (n : Nat) (b s : D) (found : List D) (m : Int) (h0 : 0 ≤ m) (h1 : m ≤ 1000000000000) (st : Sto) (d : D) (hl : 0 < found.length) (hd : found[(m % found.length).toNat]? = some d)
    (c1 : evF G (n + 3) "need_board" [.dat b] st = some (.dat .none false, st)) (c2 : evF G (n + 3) "need_stand" [.dat b, .dat s] st = some (.dat .none false, st)) (c3 : evF G (n + 3) "stands_from" [.dat b, .dat s] st = some (.dat (.list found) true, st)) :
    evF G (n + 4) "after" [.dat b, .dat s, .dat (.int m)] st = some (.dat d false, st) := by
  rw [evF_s fn_after rfl]
  have hb := beats_ok n m h0 h1 st
  have p : (0 : Int) < (found.length : Int) := by omega
  have q : 0 ≤ m % (found.length : Int) := Int.emod_nonneg _ (by omega)
  have q2 : m % (found.length : Int) < (found.length : Int) := Int.emod_lt_of_pos _ p
  simp [f_after, evSs, evS, evE, evEs, rdEs, tstE, rdE, truD, finF, finR, erS, svE, hb, c1, c2, c3, stoE, bltD, binD, hl, p, idxD, atI, ixN, q, q2, hd]
  exact (List.getElem?_eq_some_iff.mp hd).2
end K16
set_option maxRecDepth 1000000
set_option maxHeartbeats 4000000
set_option linter.all false
namespace K16
open PySem PySem.Spec L2 Ev
def tr (a b : Int) (w : Str) : D := .tuple [.int a, .int b, .str w]
def bL : D := .tuple [tr 0 0 "left", tr 40 3 "left", tr 11 29 "left"]
def bM : D := .tuple [tr 0 0 "left", tr 40 3 "right", tr 11 29 "left"]
def lgL : List D := [tr 0 1 "ahead", tr 2 0 "behind", tr 1 2 "ahead", tr 0 1 "behind", tr 2 0 "ahead", tr 1 2 "behind"]
def lgM : List D := [tr 0 1 "ahead", tr 2 0 "behind", tr 1 2 "ahead"]
def rwA : List D := [tr 0 2 "ahead", tr 1 0 "ahead", tr 2 1 "ahead"]
def rwB : List D := [tr 0 2 "behind", tr 1 0 "behind", tr 2 1 "behind"]
def envL (a m : Int) : Ev.Env := [some (.dat (.int a)), some (.dat (.int m)), some (.dat (.list lgL)), some (.dat (.list [.tuple [.list lgL, .int 1], .tuple [.list rwA, .int 0]])), none, none, some (.dat bL),
  some (.dat (.list rwB)), some (.dat (.int 2)), some (.dat (.int 2)), some (.dat (tr 2 1 "behind")), some (.dat (tr 0 2 "behind"))]
def envM (a m : Int) : Ev.Env := [some (.dat (.int a)), some (.dat (.int m)), some (.dat bM), some (.dat (.list lgM)), some (.dat (.int 2)), some (.dat (tr 1 2 "ahead"))]
def s0 : D := tr 0 1 "ahead"
/-- what the kernel works out, over the store st -/
structure Kf (st : Sto) : Prop where
  nb1 : evF G 7 "need_board" [.dat bL] st = some (.dat .none false, st)
  ns1 : evF G 7 "need_stand" [.dat bL, .dat s0] st = some (.dat .none false, st)
  sf1 : evF G 7 "stands_from" [.dat bL, .dat s0] st = some (.dat (.list lgL) true, st)
  nb2 : evF G 7 "need_board" [.dat bM] st = some (.dat .none false, st)
  ns2 : evF G 7 "need_stand" [.dat bM, .dat s0] st = some (.dat .none false, st)
  sf2 : evF G 7 "stands_from" [.dat bM, .dat s0] st = some (.dat (.list lgM) true, st)
  preL : ∀ a m : Int, evSs G (evF G 8) [] (f__law_left_right.body.take 4) [some (.dat (.int a)), some (.dat (.int m)), none, none, none, none, none, none, none, none, none, none] st = some (.nx (envL a m) st)
  postL : ∀ a m : Int, evSs G (evF G 8) [] (f__law_left_right.body.drop 5) (envL a m) st = some (.rt (.dat (.bool true) false) st)
  preM : ∀ a m : Int, evSs G (evF G 8) [] (f__law_mixed_right.body.take 4) [some (.dat (.int a)), some (.dat (.int m)), none, none, none, none] st = some (.nx (envM a m) st)
theorem kf1 (x : List D) : Kf [x] := by constructor <;> intros <;> kernel_rfl
theorem kf2 (x y : List D) : Kf [x, y] := by constructor <;> intros <;> kernel_rfl
theorem kf3 (x y z : List D) : Kf [x, y, z] := by constructor <;> intros <;> kernel_rfl
end K16
set_option maxRecDepth 1000000
set_option maxHeartbeats 4000000
set_option linter.all false
namespace K16
open PySem PySem.Spec L2 Ev
theorem evSs_app {G : Pk} {cl : Str → List SV → Sto → Option (ER × Sto)} {mu : List Nat} : ∀ {xs ys : List IS} {env e1 : Ev.Env} {st s1 : Sto}, evSs G cl mu xs env st = some (.nx e1 s1) → evSs G cl mu (xs ++ ys) env st = evSs G cl mu ys e1 s1
  | [], ys, env, e1, st, s1, h => by
    simp only [evSs] at h
    cases h
    rfl
  | x :: xs, ys, env, e1, st, s1, h => by
    simp only [evSs] at h
    split at h
    · rename_i e2 s2 h2
      rw [List.cons_append, evSs_nx h2]
      exact evSs_app h
    · rename_i r hr
      exact absurd h (hr e1 s1)
theorem fn_left : G.fn "_law_left_right" = some f__law_left_right := by kernel_rfl
theorem fn_mixed : G.fn "_law_mixed_right" = some f__law_mixed_right := by kernel_rfl
def sL : IS := .ite (.cmp .NotEq (.callk ("after" : Str) [("many" : Str), ("stand" : Str), ("board" : Str)] [(.bin .Add (.bin .Mult (.int 6) (.slot 1)) (.slot 0)), (.idx (.slot 2) (.int 0)), (.slot 6)] [2, 1, 0]) (.idx (.slot 2) (.slot 0))) [(.ret (some (.bl false)))] []
def sM : IS := .ret (some (.cmp .Eq (.call ("after" : Str) [(.slot 2), (.idx (.slot 3) (.int 0)), (.bin .Add (.bin .Mult (.int 3) (.slot 1)) (.bin .Mod (.slot 0) (.int 3)))]) (.idx (.slot 3) (.bin .Mod (.slot 0) (.int 3)))))
theorem bodyL : f__law_left_right.body = f__law_left_right.body.take 4 ++ (sL :: f__law_left_right.body.drop 5) := by kernel_rfl
theorem bodyM : f__law_mixed_right.body = f__law_mixed_right.body.take 4 ++ [sM] := by kernel_rfl
theorem stepL {st : Sto} (K : Kf st) (a m : Int) (ha : 0 ≤ a) (ha2 : a < 6) (hm : 0 ≤ m) (hm2 : m < 10 ^ 11) : evS G (evF G 8) [] sL (envL a m) st = some (.nx (envL a m) st) := by
  have key : ∀ d, lgL[a.toNat]? = some d → cmpD .NotEq d d = some false → evS G (evF G 8) [] sL (envL a m) st = some (.nx (envL a m) st) := by
    intro d hd h1
    have e : (6 * m + a) % ((lgL.length : Nat) : Int) = a := by show (6 * m + a) % 6 = a; omega
    have af := after_ok 4 bL s0 lgL (6 * m + a) (by omega) (by omega) st d (by decide) (by rw [e]; exact hd) K.nb1 K.ns1 K.sf1
    have e1 : idxD (.list lgL) (.int a) = some d := by
      simp only [idxD, atI, ixN]
      rw [if_pos ha, if_pos (by show a < 6; omega)]
      exact hd
    have e2 : idxD (.list lgL) (.int 0) = some s0 := by kernel_rfl
    have e3 : binD .Mult (.int 6) (.int m) = some (.int (6 * m), false) := by simp [binD]
    have e4 : binD .Add (.int (6 * m)) (.int a) = some (.int (6 * m + a), false) := by simp [binD]
    simp [sL, evS, evE, evEs, evSs, tstE, rdE, erS, svE, envL, pick, e1, e2, e3, e4, af, h1, truD]
  have : a = 0 ∨ a = 1 ∨ a = 2 ∨ a = 3 ∨ a = 4 ∨ a = 5 := by omega
  rcases this with rfl | rfl | rfl | rfl | rfl | rfl <;> exact key _ rfl (by kernel_rfl)
theorem stepM {st : Sto} (K : Kf st) (a m : Int) (ha : 0 ≤ a) (ha2 : a < 6) (hm : 0 ≤ m) (hm2 : m < 10 ^ 11) : evS G (evF G 8) [] sM (envM a m) st = some (.rt (.dat (.bool true) false) st) := by
  have key : ∀ d, lgM[(a % 3).toNat]? = some d → cmpD .Eq d d = some true → evS G (evF G 8) [] sM (envM a m) st = some (.rt (.dat (.bool true) false) st) := by
    intro d hd h1
    have e : (3 * m + a % 3) % ((lgM.length : Nat) : Int) = a % 3 := by show (3 * m + a % 3) % 3 = a % 3; omega
    have af := after_ok 4 bM s0 lgM (3 * m + a % 3) (by omega) (by omega) st d (by decide) (by rw [e]; exact hd) K.nb2 K.ns2 K.sf2
    have e1 : idxD (.list lgM) (.int (a % 3)) = some d := by
      simp only [idxD, atI, ixN]
      rw [if_pos (by omega), if_pos (by show a % 3 < 3; omega)]
      exact hd
    have e2 : idxD (.list lgM) (.int 0) = some s0 := by kernel_rfl
    have e3 : binD .Mult (.int 3) (.int m) = some (.int (3 * m), false) := by simp [binD]
    have e5 : binD .Mod (.int a) (.int 3) = some (.int (a % 3), false) := by simp [binD]
    have e4 : binD .Add (.int (3 * m)) (.int (a % 3)) = some (.int (3 * m + a % 3), false) := by simp [binD]
    simp [sM, evS, evE, evEs, evSs, tstE, rdE, erS, svE, envM, e1, e2, e3, e4, e5, af, h1, truD]
  have : a % 3 = 0 ∨ a % 3 = 1 ∨ a % 3 = 2 := by omega
  rcases this with h | h | h <;> (rw [h] at key; exact key _ rfl (by kernel_rfl))
theorem left_ok {st : Sto} (K : Kf st) (a m : Int) (ha : 0 ≤ a) (ha2 : a < 6) (hm : 0 ≤ m) (hm2 : m < 10 ^ 11) : evF G 9 "_law_left_right" [.dat (.int a), .dat (.int m)] st = some (.dat (.bool true) false, st) := by
  rw [evF_s fn_left rfl, bodyL]
  have h : evSs G (evF G 8) [] (f__law_left_right.body.take 4 ++ (sL :: f__law_left_right.body.drop 5)) [some (.dat (.int a)), some (.dat (.int m)), none, none, none, none, none, none, none, none, none, none] st = some (.rt (.dat (.bool true) false) st) := by
    rw [evSs_app (K.preL a m), evSs_nx (stepL K a m ha ha2 hm hm2)]
    exact K.postL a m
  have e : finF st.length (some (.rt (.dat (.bool true) false) st)) = some (.dat (.bool true) false, st) := by simp [finF, finR]
  exact (congrArg (finF st.length) h).trans e
theorem mixed_ok {st : Sto} (K : Kf st) (a m : Int) (ha : 0 ≤ a) (ha2 : a < 6) (hm : 0 ≤ m) (hm2 : m < 10 ^ 11) : evF G 9 "_law_mixed_right" [.dat (.int a), .dat (.int m)] st = some (.dat (.bool true) false, st) := by
  rw [evF_s fn_mixed rfl, bodyM]
  have h : evSs G (evF G 8) [] (f__law_mixed_right.body.take 4 ++ [sM]) [some (.dat (.int a)), some (.dat (.int m)), none, none, none, none] st = some (.rt (.dat (.bool true) false) st) := by
    rw [evSs_app (K.preM a m), evSs_rt (stepM K a m ha ha2 hm hm2)]
  have e : finF st.length (some (.rt (.dat (.bool true) false) st)) = some (.dat (.bool true) false, st) := by simp [finF, finR]
  exact (congrArg (finF st.length) h).trans e
end K16
set_option maxRecDepth 1000000
set_option maxHeartbeats 4000000
set_option linter.all false
namespace K16
open PySem PySem.Spec L2 Ev
theorem fn_law : G.fn "law" = some f_law := by kernel_rfl
def lapB : List IS := [(.asg (.nm 2) (.call ("_law_pen" : Str) [(.call ("_law_cell_at" : Str) [(.slot 0), (.slot 1)])])), (.par [3, 4] [(.call ("_law_draw" : Str) [(.slot 2), (.int 6)]), (.call ("_law_draw" : Str) [(.slot 2), (.bin .Pow (.int 10) (.int 11))])]), (.ite (.lor (.no (.call ("_law_left_right" : Str) [(.slot 3), (.slot 4)])) (.no (.call ("_law_mixed_right" : Str) [(.slot 3), (.slot 4)]))) [(.ret (some (.bl false)))] [])]
def rngB : II := .rng [(.blt .max [(.int 1), (.blt .min [(.slen 0), (.int 3)])])]
theorem bodyW : f_law.body = [.loop (.nm 1) rngB lapB, .ret (some (.bl true))] := rfl
theorem set_last {α : Type} (st : List α) (p q : α) : (st ++ [p]).set st.length q = st ++ [q] := by
  rw [List.set_append_right _ _ (Nat.le_refl _), Nat.sub_self]
  rfl
theorem get_last {α : Type} (st : List α) (p : α) : (st ++ [p])[st.length]? = some p := by
  rw [List.getElem?_append_right (Nat.le_refl _), Nat.sub_self]
  rfl
theorem lap_ok (ns : List Int) (k : Nat) (w2 w3 w4 : Option SV) (st : Sto) (K : ∀ x, Kf (st ++ [x])) :
    ∃ u2 u3 u4 p, evSs G (evF G 9) [2] lapB [some (.scr ns), some (.dat (.int k)), w2, w3, w4] st = some (.nx [some (.scr ns), some (.dat (.int k)), u2, u3, u4] (st ++ [p])) := by
  obtain ⟨c, h1⟩ := cell_ok 8 ns k st
  obtain ⟨a, b, ha, hb, hb2, h2⟩ := pen_ok 8 c st
  obtain ⟨r, a1, b1, c1, r1, r2, p1, p2, p3, p4, p5, h3⟩ := draw_ok 8 (st ++ [[.int a, .int b, .int 0]]) st.length a b 0 6 (get_last _ _) ha hb (by omega) (by omega) (by omega) (by omega) (by omega)
  rw [set_last] at h3
  obtain ⟨r', a2, b2, c2, r3, r4, q1, q2, q3, q4, q5, h4⟩ := draw_ok 8 (st ++ [[.int a1, .int b1, .int c1]]) st.length a1 b1 c1 100000000000 (get_last _ _) p1 p2 p3 p4 (by omega) (by omega) (by omega)
  rw [set_last] at h4
  have hL := left_ok (K [.int a2, .int b2, .int c2]) r r' r1 (by omega) r3 (by omega)
  have hM := mixed_ok (K [.int a2, .int b2, .int c2]) r r' r1 (by omega) r3 (by omega)
  refine ⟨some (.loc st.length), some (.dat (.int r)), some (.dat (.int r')), [.int a2, .int b2, .int c2], ?_⟩
  have e10 : binD .Pow (.int 10) (.int 11) = some (.int 100000000000, false) := by kernel_rfl
  simp [lapB, evSs, evS, evE, evEs, evP, setAll, stoE, tstE, rdE, erS, svE, truD, h1, h2, h3, h4, hL, hM, e10]
theorem law_ok (ns : List Int) : ∃ fr st', evF G 10 "law" [.scr ns] [] = some (.dat (.bool true) fr, st') := by
  rw [evF_s fn_law rfl, bodyW]
  have hr : ∃ xs, evI G (evF G 9) rngB [some (.scr ns), none, none, none, none] [] = some (xs, [], []) ∧ (xs = rngD 0 1 ∨ xs = rngD 0 2 ∨ xs = rngD 0 3) := by
    have : ∃ n : Int, evDs G (evF G 9) [(.blt .max [(.int 1), (.blt .min [(.slen 0), (.int 3)])])] [some (.scr ns), none, none, none, none] [] = some ([.int n], []) ∧ (n = 1 ∨ n = 2 ∨ n = 3) := by
      refine ⟨if (if (3 : Int) < ns.length then 3 else (ns.length : Int)) > 1 then (if (3 : Int) < ns.length then 3 else (ns.length : Int)) else 1, ?_, ?_⟩
      · simp [evDs, evE, evEs, rdEs, rdE, bltD]
      · split <;> split <;> omega
    obtain ⟨n, h1, h2⟩ := this
    refine ⟨rngD 0 n, ?_, ?_⟩
    · have : -(2 ^ 62) ≤ n ∧ n < 2 ^ 62 := by omega
      simp only [rngB, evI, h1, if_pos this]
    · rcases h2 with rfl | rfl | rfl
      · exact .inl rfl
      · exact .inr (.inl rfl)
      · exact .inr (.inr rfl)
  obtain ⟨xs, h1, h2⟩ := hr
  obtain ⟨u2, u3, u4, p, g1⟩ := lap_ok ns 0 none none none [] (fun x => kf1 x)
  obtain ⟨v2, v3, v4, p2, g2⟩ := lap_ok ns 1 u2 u3 u4 [p] (fun x => kf2 p x)
  obtain ⟨x2, x3, x4, p3, g3⟩ := lap_ok ns 2 v2 v3 v4 [p, p2] (fun x => kf3 p p2 x)
  have loop : ∃ e s, evS G (evF G 9) [2] (.loop (.nm 1) rngB lapB) [some (.scr ns), none, none, none, none] [] = some (.nx e s) := by
    simp only [evS, h1]
    have g1' : evSs G (evF G 9) [2] lapB [some (.scr ns), some (.dat (.int 0)), none, none, none] [] = some (.nx [some (.scr ns), some (.dat (.int 0)), u2, u3, u4] [p]) := g1
    have g2' : evSs G (evF G 9) [2] lapB [some (.scr ns), some (.dat (.int 1)), u2, u3, u4] [p] = some (.nx [some (.scr ns), some (.dat (.int 1)), v2, v3, v4] [p, p2]) := g2
    have g3' : evSs G (evF G 9) [2] lapB [some (.scr ns), some (.dat (.int 2)), v2, v3, v4] [p, p2] = some (.nx [some (.scr ns), some (.dat (.int 2)), x2, x3, x4] [p, p2, p3]) := g3
    have d1 : rngD 0 1 = [.int 0] := rfl
    have d2 : rngD 0 2 = [.int 0, .int 1] := rfl
    have d3 : rngD 0 3 = [.int 0, .int 1, .int 2] := rfl
    rcases h2 with rfl | rfl | rfl
    · rw [d1]; simp [forL, bindT, g1', keepFl, keptL]
    · rw [d2]; simp [forL, bindT, g1', g2', keepFl, keptL]
    · rw [d3]; simp [forL, bindT, g1', g2', g3', keepFl, keptL]
  obtain ⟨e, s, he⟩ := loop
  have fin : evSs G (evF G 9) [2] [.loop (.nm 1) rngB lapB, .ret (some (.bl true))] [some (.scr ns), none, none, none, none] [] = some (.rt (.dat (.bool true) false) s) := by
    rw [evSs_nx he]
    simp [evSs, evS, evE]
  refine ⟨false, s.take 0, ?_⟩
  exact congrArg (finF 0) fin
end K16
set_option linter.all false
set_option maxRecDepth 1000000
set_option maxHeartbeats 4000000
namespace K16
open PySem PySem.Spec L2 Ev
theorem i_law : SI G fs bl ("law" : Str) [("_law_script" : Str)] s_law f_law n_law := ⟨⟨by decide +kernel, by decide +kernel, by decide +kernel, by decide +kernel, by decide +kernel, by decide +kernel, by decide +kernel⟩, by kernel_rfl, rfl, rfl, by decide, by decide +kernel, fun _ _ _ _ _ _ us hl => match us, hl with | [_], _ => rfl⟩
theorem i__law_pen : SI G fs bl ("_law_pen" : Str) [("_law_cell" : Str)] s__law_pen f__law_pen n__law_pen := ⟨⟨by decide +kernel, by decide +kernel, by decide +kernel, by decide +kernel, by decide +kernel, by decide +kernel, by decide +kernel⟩, by kernel_rfl, rfl, rfl, by decide, by decide +kernel, fun _ _ _ _ _ _ us hl => match us, hl with | [_], _ => rfl⟩
theorem i__law_cell_at : SI G fs bl ("_law_cell_at" : Str) [("_law_script" : Str), ("_law_k" : Str)] s__law_cell_at f__law_cell_at n__law_cell_at := ⟨⟨by decide +kernel, by decide +kernel, by decide +kernel, by decide +kernel, by decide +kernel, by decide +kernel, by decide +kernel⟩, by kernel_rfl, rfl, rfl, by decide, by decide +kernel, fun _ _ _ _ _ _ us hl => match us, hl with | [_, _], _ => rfl⟩
theorem i__law_draw : SI G fs bl ("_law_draw" : Str) [("_law_pen_here" : Str), ("_law_amount" : Str)] s__law_draw f__law_draw n__law_draw := ⟨⟨by decide +kernel, by decide +kernel, by decide +kernel, by decide +kernel, by decide +kernel, by decide +kernel, by decide +kernel⟩, by kernel_rfl, rfl, rfl, by decide, by decide +kernel, fun _ _ _ _ _ _ us hl => match us, hl with | [_, _], _ => rfl⟩
theorem i__law_left_right : SI G fs bl ("_law_left_right" : Str) [("_law_at" : Str), ("_law_more" : Str)] s__law_left_right f__law_left_right n__law_left_right := ⟨⟨by decide +kernel, by decide +kernel, by decide +kernel, by decide +kernel, by decide +kernel, by decide +kernel, by decide +kernel⟩, by kernel_rfl, rfl, rfl, by decide, by decide +kernel, fun _ _ _ _ _ _ us hl => match us, hl with | [_, _], _ => rfl⟩
theorem i__law_mixed_right : SI G fs bl ("_law_mixed_right" : Str) [("_law_at" : Str), ("_law_more" : Str)] s__law_mixed_right f__law_mixed_right n__law_mixed_right := ⟨⟨by decide +kernel, by decide +kernel, by decide +kernel, by decide +kernel, by decide +kernel, by decide +kernel, by decide +kernel⟩, by kernel_rfl, rfl, rfl, by decide, by decide +kernel, fun _ _ _ _ _ _ us hl => match us, hl with | [_, _], _ => rfl⟩
theorem i__law_pins : SI G fs bl ("_law_pins" : Str) [("_law_ways" : Str)] s__law_pins f__law_pins n__law_pins := ⟨⟨by decide +kernel, by decide +kernel, by decide +kernel, by decide +kernel, by decide +kernel, by decide +kernel, by decide +kernel⟩, by kernel_rfl, rfl, rfl, by decide, by decide +kernel, fun _ _ _ _ _ _ us hl => match us, hl with | [_], _ => rfl⟩
theorem i_is_stand : SI G fs bl ("is_stand" : Str) [("board" : Str), ("thing" : Str)] s_is_stand f_is_stand n_is_stand := ⟨⟨by decide +kernel, by decide +kernel, by decide +kernel, by decide +kernel, by decide +kernel, by decide +kernel, by decide +kernel⟩, by kernel_rfl, rfl, rfl, by decide, by decide +kernel, fun _ _ _ _ _ _ us hl => match us, hl with | [_, _], _ => rfl⟩
theorem i_number_of : SI G fs bl ("number_of" : Str) [("board" : Str), ("stand" : Str)] s_number_of f_number_of n_number_of := ⟨⟨by decide +kernel, by decide +kernel, by decide +kernel, by decide +kernel, by decide +kernel, by decide +kernel, by decide +kernel⟩, by kernel_rfl, rfl, rfl, by decide, by decide +kernel, fun _ _ _ _ _ _ us hl => match us, hl with | [_, _], _ => rfl⟩
theorem i_beat : SI G fs bl ("beat" : Str) [("board" : Str), ("stand" : Str)] s_beat f_beat n_beat := ⟨⟨by decide +kernel, by decide +kernel, by decide +kernel, by decide +kernel, by decide +kernel, by decide +kernel, by decide +kernel⟩, by kernel_rfl, rfl, rfl, by decide, by decide +kernel, fun _ _ _ _ _ _ us hl => match us, hl with | [_, _], _ => rfl⟩
theorem i_ahead : SI G fs bl ("ahead" : Str) [("board" : Str), ("stand" : Str)] s_ahead f_ahead n_ahead := ⟨⟨by decide +kernel, by decide +kernel, by decide +kernel, by decide +kernel, by decide +kernel, by decide +kernel, by decide +kernel⟩, by kernel_rfl, rfl, rfl, by decide, by decide +kernel, fun _ _ _ _ _ _ us hl => match us, hl with | [_, _], _ => rfl⟩
theorem i_after : SI G fs bl ("after" : Str) [("board" : Str), ("stand" : Str), ("many" : Str)] s_after f_after n_after := ⟨⟨by decide +kernel, by decide +kernel, by decide +kernel, by decide +kernel, by decide +kernel, by decide +kernel, by decide +kernel⟩, by kernel_rfl, rfl, rfl, by decide, by decide +kernel, fun _ _ _ _ _ _ us hl => match us, hl with | [_, _, _], _ => rfl⟩
theorem i_meetings : SI G fs bl ("meetings" : Str) [("board" : Str), ("pin" : Str)] s_meetings f_meetings n_meetings := ⟨⟨by decide +kernel, by decide +kernel, by decide +kernel, by decide +kernel, by decide +kernel, by decide +kernel, by decide +kernel⟩, by kernel_rfl, rfl, rfl, by decide, by decide +kernel, fun _ _ _ _ _ _ us hl => match us, hl with | [_, _], _ => rfl⟩
theorem i_first : SI G fs bl ("first" : Str) [("board" : Str), ("pin" : Str), ("look" : Str)] s_first f_first n_first := ⟨⟨by decide +kernel, by decide +kernel, by decide +kernel, by decide +kernel, by decide +kernel, by decide +kernel, by decide +kernel⟩, by kernel_rfl, rfl, rfl, by decide, by decide +kernel, fun _ _ _ _ _ _ us hl => match us, hl with | [_, _, _], _ => rfl⟩
theorem i_need_board : SI G fs bl ("need_board" : Str) [("board" : Str)] s_need_board f_need_board n_need_board := ⟨⟨by decide +kernel, by decide +kernel, by decide +kernel, by decide +kernel, by decide +kernel, by decide +kernel, by decide +kernel⟩, by kernel_rfl, rfl, rfl, by decide, by decide +kernel, fun _ _ _ _ _ _ us hl => match us, hl with | [_], _ => rfl⟩
theorem i_stand_holds : SI G fs bl ("stand_holds" : Str) [("board" : Str), ("thing" : Str)] s_stand_holds f_stand_holds n_stand_holds := ⟨⟨by decide +kernel, by decide +kernel, by decide +kernel, by decide +kernel, by decide +kernel, by decide +kernel, by decide +kernel⟩, by kernel_rfl, rfl, rfl, by decide, by decide +kernel, fun _ _ _ _ _ _ us hl => match us, hl with | [_, _], _ => rfl⟩
theorem i_need_stand : SI G fs bl ("need_stand" : Str) [("board" : Str), ("stand" : Str)] s_need_stand f_need_stand n_need_stand := ⟨⟨by decide +kernel, by decide +kernel, by decide +kernel, by decide +kernel, by decide +kernel, by decide +kernel, by decide +kernel⟩, by kernel_rfl, rfl, rfl, by decide, by decide +kernel, fun _ _ _ _ _ _ us hl => match us, hl with | [_, _], _ => rfl⟩
theorem i_line_number : SI G fs bl ("line_number" : Str) [("board" : Str), ("stand" : Str)] s_line_number f_line_number n_line_number := ⟨⟨by decide +kernel, by decide +kernel, by decide +kernel, by decide +kernel, by decide +kernel, by decide +kernel, by decide +kernel⟩, by kernel_rfl, rfl, rfl, by decide, by decide +kernel, fun _ _ _ _ _ _ us hl => match us, hl with | [_, _], _ => rfl⟩
theorem i_stand_met : SI G fs bl ("stand_met" : Str) [("board" : Str), ("pin" : Str), ("look" : Str)] s_stand_met f_stand_met n_stand_met := ⟨⟨by decide +kernel, by decide +kernel, by decide +kernel, by decide +kernel, by decide +kernel, by decide +kernel, by decide +kernel⟩, by kernel_rfl, rfl, rfl, by decide, by decide +kernel, fun _ _ _ _ _ _ us hl => match us, hl with | [_, _, _], _ => rfl⟩
theorem i_look_of : SI G fs bl ("look_of" : Str) [("board" : Str), ("stand" : Str)] s_look_of f_look_of n_look_of := ⟨⟨by decide +kernel, by decide +kernel, by decide +kernel, by decide +kernel, by decide +kernel, by decide +kernel, by decide +kernel⟩, by kernel_rfl, rfl, rfl, by decide, by decide +kernel, fun _ _ _ _ _ _ us hl => match us, hl with | [_, _], _ => rfl⟩
theorem i_first_met : SI G fs bl ("first_met" : Str) [("board" : Str), ("pin" : Str), ("look" : Str), ("way" : Str)] s_first_met f_first_met n_first_met := ⟨⟨by decide +kernel, by decide +kernel, by decide +kernel, by decide +kernel, by decide +kernel, by decide +kernel, by decide +kernel⟩, by kernel_rfl, rfl, rfl, by decide, by decide +kernel, fun _ _ _ _ _ _ us hl => match us, hl with | [_, _, _, _], _ => rfl⟩
theorem i_need_beats : SI G fs bl ("need_beats" : Str) [("many" : Str)] s_need_beats f_need_beats n_need_beats := ⟨⟨by decide +kernel, by decide +kernel, by decide +kernel, by decide +kernel, by decide +kernel, by decide +kernel, by decide +kernel⟩, by kernel_rfl, rfl, rfl, by decide, by decide +kernel, fun _ _ _ _ _ _ us hl => match us, hl with | [_], _ => rfl⟩
theorem i_stands_from : SI G fs bl ("stands_from" : Str) [("board" : Str), ("stand" : Str)] s_stands_from f_stands_from n_stands_from := ⟨⟨by decide +kernel, by decide +kernel, by decide +kernel, by decide +kernel, by decide +kernel, by decide +kernel, by decide +kernel⟩, by kernel_rfl, rfl, rfl, by decide, by decide +kernel, fun _ _ _ _ _ _ us hl => match us, hl with | [_, _], _ => rfl⟩
theorem i_need_pin : SI G fs bl ("need_pin" : Str) [("board" : Str), ("pin" : Str)] s_need_pin f_need_pin n_need_pin := ⟨⟨by decide +kernel, by decide +kernel, by decide +kernel, by decide +kernel, by decide +kernel, by decide +kernel, by decide +kernel⟩, by kernel_rfl, rfl, rfl, by decide, by decide +kernel, fun _ _ _ _ _ _ us hl => match us, hl with | [_, _], _ => rfl⟩
theorem i_turned_pairs : SI G fs bl ("turned_pairs" : Str) [("board" : Str)] s_turned_pairs f_turned_pairs n_turned_pairs := ⟨⟨by decide +kernel, by decide +kernel, by decide +kernel, by decide +kernel, by decide +kernel, by decide +kernel, by decide +kernel⟩, by kernel_rfl, rfl, rfl, by decide, by decide +kernel, fun _ _ _ _ _ _ us hl => match us, hl with | [_], _ => rfl⟩
theorem i_need_look : SI G fs bl ("need_look" : Str) [("board" : Str), ("look" : Str)] s_need_look f_need_look n_need_look := ⟨⟨by decide +kernel, by decide +kernel, by decide +kernel, by decide +kernel, by decide +kernel, by decide +kernel, by decide +kernel⟩, by kernel_rfl, rfl, rfl, by decide, by decide +kernel, fun _ _ _ _ _ _ us hl => match us, hl with | [_, _], _ => rfl⟩
theorem i_is_board : SI G fs bl ("is_board" : Str) [("thing" : Str)] s_is_board f_is_board n_is_board := ⟨⟨by decide +kernel, by decide +kernel, by decide +kernel, by decide +kernel, by decide +kernel, by decide +kernel, by decide +kernel⟩, by kernel_rfl, rfl, rfl, by decide, by decide +kernel, fun _ _ _ _ _ _ us hl => match us, hl with | [_], _ => rfl⟩
theorem i_is_tuple_of : SI G fs bl ("is_tuple_of" : Str) [("thing" : Str), ("many" : Str)] s_is_tuple_of f_is_tuple_of n_is_tuple_of := ⟨⟨by decide +kernel, by decide +kernel, by decide +kernel, by decide +kernel, by decide +kernel, by decide +kernel, by decide +kernel⟩, by kernel_rfl, rfl, rfl, by decide, by decide +kernel, fun _ _ _ _ _ _ us hl => match us, hl with | [_, _], _ => rfl⟩
theorem i_is_pin_number : SI G fs bl ("is_pin_number" : Str) [("board" : Str), ("thing" : Str)] s_is_pin_number f_is_pin_number n_is_pin_number := ⟨⟨by decide +kernel, by decide +kernel, by decide +kernel, by decide +kernel, by decide +kernel, by decide +kernel, by decide +kernel⟩, by kernel_rfl, rfl, rfl, by decide, by decide +kernel, fun _ _ _ _ _ _ us hl => match us, hl with | [_, _], _ => rfl⟩
theorem i_gap : SI G fs bl ("gap" : Str) [("one" : Str), ("other" : Str)] s_gap f_gap n_gap := ⟨⟨by decide +kernel, by decide +kernel, by decide +kernel, by decide +kernel, by decide +kernel, by decide +kernel, by decide +kernel⟩, by kernel_rfl, rfl, rfl, by decide, by decide +kernel, fun _ _ _ _ _ _ us hl => match us, hl with | [_, _], _ => rfl⟩
theorem i_need_number : SI G fs bl ("need_number" : Str) [("number" : Str)] s_need_number f_need_number n_need_number := ⟨⟨by decide +kernel, by decide +kernel, by decide +kernel, by decide +kernel, by decide +kernel, by decide +kernel, by decide +kernel⟩, by kernel_rfl, rfl, rfl, by decide, by decide +kernel, fun _ _ _ _ _ _ us hl => match us, hl with | [_], _ => rfl⟩
theorem i_trail : SI G fs bl ("trail" : Str) [("steps" : Str), ("start" : Str)] s_trail f_trail n_trail := ⟨⟨by decide +kernel, by decide +kernel, by decide +kernel, by decide +kernel, by decide +kernel, by decide +kernel, by decide +kernel⟩, by kernel_rfl, rfl, rfl, by decide, by decide +kernel, fun _ _ _ _ _ _ us hl => match us, hl with | [_, _], _ => rfl⟩
theorem i_ways_of : SI G fs bl ("ways_of" : Str) [("board" : Str)] s_ways_of f_ways_of n_ways_of := ⟨⟨by decide +kernel, by decide +kernel, by decide +kernel, by decide +kernel, by decide +kernel, by decide +kernel, by decide +kernel⟩, by kernel_rfl, rfl, rfl, by decide, by decide +kernel, fun _ _ _ _ _ _ us hl => match us, hl with | [_], _ => rfl⟩
theorem i_is_whole : SI G fs bl ("is_whole" : Str) [("thing" : Str)] s_is_whole f_is_whole n_is_whole := ⟨⟨by decide +kernel, by decide +kernel, by decide +kernel, by decide +kernel, by decide +kernel, by decide +kernel, by decide +kernel⟩, by kernel_rfl, rfl, rfl, by decide, by decide +kernel, fun _ _ _ _ _ _ us hl => match us, hl with | [_], _ => rfl⟩
theorem i_is_pin : SI G fs bl ("is_pin" : Str) [("thing" : Str)] s_is_pin f_is_pin n_is_pin := ⟨⟨by decide +kernel, by decide +kernel, by decide +kernel, by decide +kernel, by decide +kernel, by decide +kernel, by decide +kernel⟩, by kernel_rfl, rfl, rfl, by decide, by decide +kernel, fun _ _ _ _ _ _ us hl => match us, hl with | [_], _ => rfl⟩
theorem i_many_slopes : SI G fs bl ("many_slopes" : Str) [("board" : Str)] s_many_slopes f_many_slopes n_many_slopes := ⟨⟨by decide +kernel, by decide +kernel, by decide +kernel, by decide +kernel, by decide +kernel, by decide +kernel, by decide +kernel⟩, by kernel_rfl, rfl, rfl, by decide, by decide +kernel, fun _ _ _ _ _ _ us hl => match us, hl with | [_], _ => rfl⟩
theorem i_next_along : SI G fs bl ("next_along" : Str) [("row" : Str), ("way" : Str)] s_next_along f_next_along n_next_along := ⟨⟨by decide +kernel, by decide +kernel, by decide +kernel, by decide +kernel, by decide +kernel, by decide +kernel, by decide +kernel⟩, by kernel_rfl, rfl, rfl, by decide, by decide +kernel, fun _ _ _ _ _ _ us hl => match us, hl with | [_, _], _ => rfl⟩
theorem m_Turns_steps : SM G fs bl ("steps" : Str) ("Turns.steps" : Str) [("self" : Str), ("ways" : Str)] s_Turns_steps f_Turns_steps n_Turns_steps := ⟨⟨by decide +kernel, by decide +kernel, by decide +kernel, by decide +kernel, by decide +kernel, by decide +kernel, by decide +kernel⟩, by kernel_rfl, rfl, rfl, by decide, rfl, by decide +kernel, fun _ _ _ _ _ _ us hl => match us, hl with | [_, _], _ => rfl⟩
theorem m_Turns_slot : SM G fs bl ("slot" : Str) ("Turns.slot" : Str) [("self" : Str), ("stand" : Str)] s_Turns_slot f_Turns_slot n_Turns_slot := ⟨⟨by decide +kernel, by decide +kernel, by decide +kernel, by decide +kernel, by decide +kernel, by decide +kernel, by decide +kernel⟩, by kernel_rfl, rfl, rfl, by decide, rfl, by decide +kernel, fun _ _ _ _ _ _ us hl => match us, hl with | [_, _], _ => rfl⟩
theorem ts : TSt G G0 fs bl s_Turns___init__ s_crossings n_crossings cx_body 11 cx_mu 3 4 := ⟨rfl, by kernel_rfl, by kernel_rfl, rfl, rfl, rfl, rfl, fun _ => rfl, fun _ => rfl, ⟨by decide +kernel, by decide +kernel, by decide +kernel, by decide +kernel, by decide +kernel, by decide +kernel, by decide +kernel⟩, by decide +kernel, by decide +kernel, fun _ _ _ _ _ _ us hl => match us, hl with | [_, _], _ => rfl, ⟨by decide +kernel, by decide +kernel, by decide +kernel, by decide +kernel, by decide +kernel, by decide +kernel, by decide +kernel⟩, rfl, by decide +kernel, fun _ _ _ _ _ _ us hl => match us, hl with | [_], _ => rfl⟩
theorem k_0 : KB ("is_stand" : Str) [("board" : Str), ("thing" : Str)] s_is_stand [("thing" : Str), ("board" : Str)] [1, 0] := ⟨rfl, by decide, fun _ _ _ _ _ _ us hl => match us, hl with | [_, _], _ => rfl⟩
theorem k_1 : KB ("number_of" : Str) [("board" : Str), ("stand" : Str)] s_number_of [("stand" : Str), ("board" : Str)] [1, 0] := ⟨rfl, by decide, fun _ _ _ _ _ _ us hl => match us, hl with | [_, _], _ => rfl⟩
theorem k_2 : KB ("beat" : Str) [("board" : Str), ("stand" : Str)] s_beat [("stand" : Str), ("board" : Str)] [1, 0] := ⟨rfl, by decide, fun _ _ _ _ _ _ us hl => match us, hl with | [_, _], _ => rfl⟩
theorem k_3 : KB ("ahead" : Str) [("board" : Str), ("stand" : Str)] s_ahead [("stand" : Str), ("board" : Str)] [1, 0] := ⟨rfl, by decide, fun _ _ _ _ _ _ us hl => match us, hl with | [_, _], _ => rfl⟩
theorem k_4 : KB ("after" : Str) [("board" : Str), ("stand" : Str), ("many" : Str)] s_after [("many" : Str), ("stand" : Str), ("board" : Str)] [2, 1, 0] := ⟨rfl, by decide, fun _ _ _ _ _ _ us hl => match us, hl with | [_, _, _], _ => rfl⟩
theorem k_5 : KB ("meetings" : Str) [("board" : Str), ("pin" : Str)] s_meetings [("pin" : Str), ("board" : Str)] [1, 0] := ⟨rfl, by decide, fun _ _ _ _ _ _ us hl => match us, hl with | [_, _], _ => rfl⟩
theorem k_6 : KB ("first" : Str) [("board" : Str), ("pin" : Str), ("look" : Str)] s_first [("look" : Str), ("pin" : Str), ("board" : Str)] [2, 1, 0] := ⟨rfl, by decide, fun _ _ _ _ _ _ us hl => match us, hl with | [_, _, _], _ => rfl⟩

end K16
set_option linter.all false
set_option maxRecDepth 1000000
set_option maxHeartbeats 4000000
namespace K16
open PySem PySem.Spec L2 Ev
theorem all_mk {w : World} {K : PySem.W.Frag} {mg : Str → Option Value} {h : Heap} {pr : Program} (X : K.In h) (G0' : h.Ns mainGlobals mg)
    (own : ∀ (f : Str) (a : Addr), ((PyProof.Rows.recsOf pr).any fun e => e.name == f) = true → mg f = some (.ref a) → LamX.OwnTab K a h) 
    (f_law' : FF K ("law" : Str) s_law) (f__law_pen' : FF K ("_law_pen" : Str) s__law_pen) (f__law_cell_at' : FF K ("_law_cell_at" : Str) s__law_cell_at) (f__law_draw' : FF K ("_law_draw" : Str) s__law_draw) (f__law_left_right' : FF K ("_law_left_right" : Str) s__law_left_right) (f__law_mixed_right' : FF K ("_law_mixed_right" : Str) s__law_mixed_right) (f__law_pins' : FF K ("_law_pins" : Str) s__law_pins) (f_is_stand' : FF K ("is_stand" : Str) s_is_stand) (f_number_of' : FF K ("number_of" : Str) s_number_of) (f_beat' : FF K ("beat" : Str) s_beat) (f_ahead' : FF K ("ahead" : Str) s_ahead) (f_after' : FF K ("after" : Str) s_after) (f_meetings' : FF K ("meetings" : Str) s_meetings) (f_first' : FF K ("first" : Str) s_first) (f_need_board' : FF K ("need_board" : Str) s_need_board) (f_stand_holds' : FF K ("stand_holds" : Str) s_stand_holds) (f_need_stand' : FF K ("need_stand" : Str) s_need_stand) (f_line_number' : FF K ("line_number" : Str) s_line_number) (f_stand_met' : FF K ("stand_met" : Str) s_stand_met) (f_look_of' : FF K ("look_of" : Str) s_look_of) (f_first_met' : FF K ("first_met" : Str) s_first_met) (f_need_beats' : FF K ("need_beats" : Str) s_need_beats) (f_stands_from' : FF K ("stands_from" : Str) s_stands_from) (f_need_pin' : FF K ("need_pin" : Str) s_need_pin) (f_turned_pairs' : FF K ("turned_pairs" : Str) s_turned_pairs) (f_need_look' : FF K ("need_look" : Str) s_need_look) (f_is_board' : FF K ("is_board" : Str) s_is_board) (f_is_tuple_of' : FF K ("is_tuple_of" : Str) s_is_tuple_of) (f_is_pin_number' : FF K ("is_pin_number" : Str) s_is_pin_number) (f_gap' : FF K ("gap" : Str) s_gap) (f_need_number' : FF K ("need_number" : Str) s_need_number) (f_trail' : FF K ("trail" : Str) s_trail) (f_ways_of' : FF K ("ways_of" : Str) s_ways_of) (f_is_whole' : FF K ("is_whole" : Str) s_is_whole) (f_is_pin' : FF K ("is_pin" : Str) s_is_pin) (f_many_slopes' : FF K ("many_slopes" : Str) s_many_slopes) (f_next_along' : FF K ("next_along" : Str) s_next_along) (b_bool : PySem.W.nsIn K mainGlobals ("bool" : Str) = some none) (b_enumerate : PySem.W.nsIn K mainGlobals ("enumerate" : Str) = some none) (b_int : PySem.W.nsIn K mainGlobals ("int" : Str) = some none) (b_isinstance : PySem.W.nsIn K mainGlobals ("isinstance" : Str) = some none) (b_len : PySem.W.nsIn K mainGlobals ("len" : Str) = some none) (b_max : PySem.W.nsIn K mainGlobals ("max" : Str) = some none) (b_min : PySem.W.nsIn K mainGlobals ("min" : Str) = some none) (b_range : PySem.W.nsIn K mainGlobals ("range" : Str) = some none) (b_sorted : PySem.W.nsIn K mainGlobals ("sorted" : Str) = some none) (b_tuple : PySem.W.nsIn K mainGlobals ("tuple" : Str) = some none) (c_FEWEST_PINS : CF K ("FEWEST_PINS" : Str) (.int (3))) (c_FINE : CF K ("FINE" : Str) (.int (20000))) (c_LAST_PLACE : CF K ("LAST_PLACE" : Str) (.int (99))) (c_MOST_BEATS : CF K ("MOST_BEATS" : Str) (.int (1000000000000))) (c_MOST_PINS : CF K ("MOST_PINS" : Str) (.int (8))) (c_START_X : CF K ("START_X" : Str) (.int (100))) (c_START_Y : CF K ("START_Y" : Str) (.int (1))) (c_WAYS : CF K ("WAYS" : Str) (.tuple [(.str ("left" : Str)), (.str ("right" : Str))])) (c_WORDS : CF K ("WORDS" : Str) (.tuple [(.str ("ahead" : Str)), (.str ("behind" : Str))])) (d_OTHER_WAY : DF K w ("OTHER_WAY" : Str) [(("left" : Str), (.str ("right" : Str))), (("right" : Str), (.str ("left" : Str)))]) (d_OTHER_WORD : DF K w ("OTHER_WORD" : Str) [(("ahead" : Str), (.str ("behind" : Str))), (("behind" : Str), (.str ("ahead" : Str)))]) {C_T : Addr} (kc_T : KC K ("Turns" : Str) C_T) (ki_T : KI K C_T s_Turns___init__) (na_across : PySem.W.findIn K (.ref C_T) ("across" : Str) = some none) (na_behind : PySem.W.findIn K (.ref C_T) ("behind" : Str) = some none) (na_stands : PySem.W.findIn K (.ref C_T) ("stands" : Str) = some none) (na_width : PySem.W.findIn K (.ref C_T) ("width" : Str) = some none) (f_crossings' : FF K ("crossings" : Str) s_crossings) (km_steps : KM K C_T ("steps" : Str) ("Turns.steps" : Str) s_Turns_steps) (km_slot : KM K C_T ("slot" : Str) ("Turns.slot" : Str) s_Turns_slot) : LawE w K mg h 9 63 "law" ("_law_script" : Str) := by
  refine ⟨G, fs, bl, [], [], fun p hp => ?_, fun p hp => ?_, fun p hp => ?_, rfl, mdk_of (cons := cons) (dics := dics) X G0' (fun _ => rfl) (fun _ => rfl) ?af ?ak ?ab ?ac ?ad ?afl ?am ?an, by kernel_rfl, fun ns _ _ => law_ok ns⟩
  · cases hp
  · cases hp
  · cases hp
  case af => exact ⟨⟨_, .plain i_law f_law' rfl⟩, ⟨_, .plain i__law_pen f__law_pen' rfl⟩, ⟨_, .plain i__law_cell_at f__law_cell_at' rfl⟩, ⟨_, .plain i__law_draw f__law_draw' rfl⟩, ⟨_, .plain i__law_left_right f__law_left_right' rfl⟩, ⟨_, .plain i__law_mixed_right f__law_mixed_right' rfl⟩, ⟨_, .plain i__law_pins f__law_pins' rfl⟩, ⟨_, .plain i_is_stand f_is_stand' rfl⟩, ⟨_, .plain i_number_of f_number_of' rfl⟩, ⟨_, .plain i_beat f_beat' rfl⟩, ⟨_, .plain i_ahead f_ahead' rfl⟩, ⟨_, .plain i_after f_after' rfl⟩, ⟨_, .plain i_meetings f_meetings' rfl⟩, ⟨_, .plain i_first f_first' rfl⟩, ⟨_, .plain i_need_board f_need_board' rfl⟩, ⟨_, .plain i_stand_holds f_stand_holds' rfl⟩, ⟨_, .plain i_need_stand f_need_stand' rfl⟩, ⟨_, .plain i_line_number f_line_number' rfl⟩, ⟨_, .plain i_stand_met f_stand_met' rfl⟩, ⟨_, .plain i_look_of f_look_of' rfl⟩, ⟨_, .plain i_first_met f_first_met' rfl⟩, ⟨_, .plain i_need_beats f_need_beats' rfl⟩, ⟨_, .plain i_stands_from f_stands_from' rfl⟩, ⟨_, .plain i_need_pin f_need_pin' rfl⟩, ⟨_, .plain i_turned_pairs f_turned_pairs' rfl⟩, ⟨_, .plain i_need_look f_need_look' rfl⟩, ⟨_, .plain i_is_board f_is_board' rfl⟩, ⟨_, .plain i_is_tuple_of f_is_tuple_of' rfl⟩, ⟨_, .plain i_is_pin_number f_is_pin_number' rfl⟩, ⟨_, .plain i_gap f_gap' rfl⟩, ⟨_, .plain i_need_number f_need_number' rfl⟩, ⟨_, .plain i_trail f_trail' rfl⟩, ⟨_, .plain i_ways_of f_ways_of' rfl⟩, ⟨_, .plain i_is_whole f_is_whole' rfl⟩, ⟨_, .plain i_is_pin f_is_pin' rfl⟩, ⟨_, .plain i_many_slopes f_many_slopes' rfl⟩, ⟨_, .plain i_next_along f_next_along' rfl⟩, True.intro⟩
  case ak => exact ⟨⟨_, _, .plain i_is_stand f_is_stand' rfl, k_0⟩, ⟨_, _, .plain i_number_of f_number_of' rfl, k_1⟩, ⟨_, _, .plain i_beat f_beat' rfl, k_2⟩, ⟨_, _, .plain i_ahead f_ahead' rfl, k_3⟩, ⟨_, _, .plain i_after f_after' rfl, k_4⟩, ⟨_, _, .plain i_meetings f_meetings' rfl, k_5⟩, ⟨_, _, .plain i_first f_first' rfl, k_6⟩, True.intro⟩
  case ab => exact ⟨b_bool, b_enumerate, b_int, b_isinstance, b_len, b_max, b_min, b_range, b_sorted, b_tuple, True.intro⟩
  case ac => exact ⟨c_FEWEST_PINS, c_FINE, c_LAST_PLACE, c_MOST_BEATS, c_MOST_PINS, c_START_X, c_START_Y, c_WAYS, c_WORDS, True.intro⟩
  case ad => exact ⟨d_OTHER_WAY, d_OTHER_WORD, True.intro⟩
  case afl => exact flOk_of ⟨⟨C_T, kc_T, na_across⟩, ⟨C_T, kc_T, na_behind⟩, ⟨C_T, kc_T, na_stands⟩, ⟨C_T, kc_T, na_width⟩, True.intro⟩
  case am => exact ⟨⟨C_T, s_Turns_steps, _, f_Turns_steps, n_Turns_steps, kc_T, by decide +kernel, m_Turns_steps, km_steps⟩, ⟨C_T, s_Turns_slot, _, f_Turns_slot, n_Turns_slot, kc_T, by decide +kernel, m_Turns_slot, km_slot⟩, True.intro⟩
  case an => exact fun mb => nw_of X G0' ts kc_T ki_T na_width na_stands na_across na_behind f_crossings' c_WAYS mb
end K16
open PySem PySem.W PyProof.Rows in
set_option maxRecDepth 1000000 in
set_option maxHeartbeats 0 in
theorem PySem.Challenge.cw_waypins_k16_beats_by_hand_and_by_names_holds : PySem.Challenge.rw_waypins_k16_beats_by_hand_and_by_names.Holds := by
  w_on; o_law; k_head; (case hw => w_witness2)
  k_fill
  refine Ev.walk_law (l := PySem.Challenge.rw_waypins_k16_beats_by_hand_and_by_names) (n := 63) (k := 9) (x := ("_law_script" : Str)) rfl (by decide) rfl ⟨rfl, by decide, by decide⟩ (fun w h Y => by first | exact PySem.W.kIn_of Y | exact PySem.W.km_in_of Y) ?F
  case F =>
    intro w mg h Y KX G0 own
    refine' K16.all_mk KX G0 own ?f_law' ?f__law_pen' ?f__law_cell_at' ?f__law_draw' ?f__law_left_right' ?f__law_mixed_right' ?f__law_pins' ?f_is_stand' ?f_number_of' ?f_beat' ?f_ahead' ?f_after' ?f_meetings' ?f_first' ?f_need_board' ?f_stand_holds' ?f_need_stand' ?f_line_number' ?f_stand_met' ?f_look_of' ?f_first_met' ?f_need_beats' ?f_stands_from' ?f_need_pin' ?f_turned_pairs' ?f_need_look' ?f_is_board' ?f_is_tuple_of' ?f_is_pin_number' ?f_gap' ?f_need_number' ?f_trail' ?f_ways_of' ?f_is_whole' ?f_is_pin' ?f_many_slopes' ?f_next_along' ?b_bool ?b_enumerate ?b_int ?b_isinstance ?b_len ?b_max ?b_min ?b_range ?b_sorted ?b_tuple ?c_FEWEST_PINS ?c_FINE ?c_LAST_PLACE ?c_MOST_BEATS ?c_MOST_PINS ?c_START_X ?c_START_Y ?c_WAYS ?c_WORDS ?d_OTHER_WAY ?d_OTHER_WORD ?kc_T ?ki_T ?na_across ?na_behind ?na_stands ?na_width ?f_crossings' ?km_steps ?km_slot
    (case f_law' => refine' Ev.ff_mk ?a ?l ?c ?k; (case a => k_is); (case l => k_is); (case c => k_is); (case k => k_is))
    (case f__law_pen' => refine' Ev.ff_mk ?a ?l ?c ?k; (case a => k_is); (case l => k_is); (case c => k_is); (case k => k_is))
    (case f__law_cell_at' => refine' Ev.ff_mk ?a ?l ?c ?k; (case a => k_is); (case l => k_is); (case c => k_is); (case k => k_is))
    (case f__law_draw' => refine' Ev.ff_mk ?a ?l ?c ?k; (case a => k_is); (case l => k_is); (case c => k_is); (case k => k_is))
    (case f__law_left_right' => refine' Ev.ff_mk ?a ?l ?c ?k; (case a => k_is); (case l => k_is); (case c => k_is); (case k => k_is))
    (case f__law_mixed_right' => refine' Ev.ff_mk ?a ?l ?c ?k; (case a => k_is); (case l => k_is); (case c => k_is); (case k => k_is))
    (case f__law_pins' => refine' Ev.ff_mk ?a ?l ?c ?k; (case a => k_is); (case l => k_is); (case c => k_is); (case k => k_is))
    (case f_is_stand' => refine' Ev.ff_mk ?a ?l ?c ?k; (case a => k_is); (case l => k_is); (case c => k_is); (case k => k_is))
    (case f_number_of' => refine' Ev.ff_mk ?a ?l ?c ?k; (case a => k_is); (case l => k_is); (case c => k_is); (case k => k_is))
    (case f_beat' => refine' Ev.ff_mk ?a ?l ?c ?k; (case a => k_is); (case l => k_is); (case c => k_is); (case k => k_is))
    (case f_ahead' => refine' Ev.ff_mk ?a ?l ?c ?k; (case a => k_is); (case l => k_is); (case c => k_is); (case k => k_is))
    (case f_after' => refine' Ev.ff_mk ?a ?l ?c ?k; (case a => k_is); (case l => k_is); (case c => k_is); (case k => k_is))
    (case f_meetings' => refine' Ev.ff_mk ?a ?l ?c ?k; (case a => k_is); (case l => k_is); (case c => k_is); (case k => k_is))
    (case f_first' => refine' Ev.ff_mk ?a ?l ?c ?k; (case a => k_is); (case l => k_is); (case c => k_is); (case k => k_is))
    (case f_need_board' => refine' Ev.ff_mk ?a ?l ?c ?k; (case a => k_is); (case l => k_is); (case c => k_is); (case k => k_is))
    (case f_stand_holds' => refine' Ev.ff_mk ?a ?l ?c ?k; (case a => k_is); (case l => k_is); (case c => k_is); (case k => k_is))
    (case f_need_stand' => refine' Ev.ff_mk ?a ?l ?c ?k; (case a => k_is); (case l => k_is); (case c => k_is); (case k => k_is))
    (case f_line_number' => refine' Ev.ff_mk ?a ?l ?c ?k; (case a => k_is); (case l => k_is); (case c => k_is); (case k => k_is))
    (case f_stand_met' => refine' Ev.ff_mk ?a ?l ?c ?k; (case a => k_is); (case l => k_is); (case c => k_is); (case k => k_is))
    (case f_look_of' => refine' Ev.ff_mk ?a ?l ?c ?k; (case a => k_is); (case l => k_is); (case c => k_is); (case k => k_is))
    (case f_first_met' => refine' Ev.ff_mk ?a ?l ?c ?k; (case a => k_is); (case l => k_is); (case c => k_is); (case k => k_is))
    (case f_need_beats' => refine' Ev.ff_mk ?a ?l ?c ?k; (case a => k_is); (case l => k_is); (case c => k_is); (case k => k_is))
    (case f_stands_from' => refine' Ev.ff_mk ?a ?l ?c ?k; (case a => k_is); (case l => k_is); (case c => k_is); (case k => k_is))
    (case f_need_pin' => refine' Ev.ff_mk ?a ?l ?c ?k; (case a => k_is); (case l => k_is); (case c => k_is); (case k => k_is))
    (case f_turned_pairs' => refine' Ev.ff_mk ?a ?l ?c ?k; (case a => k_is); (case l => k_is); (case c => k_is); (case k => k_is))
    (case f_need_look' => refine' Ev.ff_mk ?a ?l ?c ?k; (case a => k_is); (case l => k_is); (case c => k_is); (case k => k_is))
    (case f_is_board' => refine' Ev.ff_mk ?a ?l ?c ?k; (case a => k_is); (case l => k_is); (case c => k_is); (case k => k_is))
    (case f_is_tuple_of' => refine' Ev.ff_mk ?a ?l ?c ?k; (case a => k_is); (case l => k_is); (case c => k_is); (case k => k_is))
    (case f_is_pin_number' => refine' Ev.ff_mk ?a ?l ?c ?k; (case a => k_is); (case l => k_is); (case c => k_is); (case k => k_is))
    (case f_gap' => refine' Ev.ff_mk ?a ?l ?c ?k; (case a => k_is); (case l => k_is); (case c => k_is); (case k => k_is))
    (case f_need_number' => refine' Ev.ff_mk ?a ?l ?c ?k; (case a => k_is); (case l => k_is); (case c => k_is); (case k => k_is))
    (case f_trail' => refine' Ev.ff_mk ?a ?l ?c ?k; (case a => k_is); (case l => k_is); (case c => k_is); (case k => k_is))
    (case f_ways_of' => refine' Ev.ff_mk ?a ?l ?c ?k; (case a => k_is); (case l => k_is); (case c => k_is); (case k => k_is))
    (case f_is_whole' => refine' Ev.ff_mk ?a ?l ?c ?k; (case a => k_is); (case l => k_is); (case c => k_is); (case k => k_is))
    (case f_is_pin' => refine' Ev.ff_mk ?a ?l ?c ?k; (case a => k_is); (case l => k_is); (case c => k_is); (case k => k_is))
    (case f_many_slopes' => refine' Ev.ff_mk ?a ?l ?c ?k; (case a => k_is); (case l => k_is); (case c => k_is); (case k => k_is))
    (case f_next_along' => refine' Ev.ff_mk ?a ?l ?c ?k; (case a => k_is); (case l => k_is); (case c => k_is); (case k => k_is))
    (case b_bool => k_is)
    (case b_enumerate => k_is)
    (case b_int => k_is)
    (case b_isinstance => k_is)
    (case b_len => k_is)
    (case b_max => k_is)
    (case b_min => k_is)
    (case b_range => k_is)
    (case b_sorted => k_is)
    (case b_tuple => k_is)
    (case c_FEWEST_PINS => refine' Ev.cf_int ?a; (case a => k_is))
    (case c_FINE => refine' Ev.cf_int ?a; (case a => k_is))
    (case c_LAST_PLACE => refine' Ev.cf_int ?a; (case a => k_is))
    (case c_MOST_BEATS => refine' Ev.cf_int ?a; (case a => k_is))
    (case c_MOST_PINS => refine' Ev.cf_int ?a; (case a => k_is))
    (case c_START_X => refine' Ev.cf_int ?a; (case a => k_is))
    (case c_START_Y => refine' Ev.cf_int ?a; (case a => k_is))
    (case c_WAYS => refine' Ev.cf_strs2 ?a ?l; (case a => k_is); (case l => k_is))
    (case c_WORDS => refine' Ev.cf_strs2 ?a ?l; (case a => k_is); (case l => k_is))
    (case d_OTHER_WAY => refine' Ev.df_2 ?a ?l ?k ?u ?v; (case a => k_is); (case l => k_is); (case k => k_keys); (case u => k_is); (case v => k_is))
    (case d_OTHER_WORD => refine' Ev.df_2 ?a ?l ?k ?u ?v; (case a => k_is); (case l => k_is); (case k => k_keys); (case u => k_is); (case v => k_is))
    (case kc_T => refine' Ev.kc_mk ?h ?pg ?hd ?po ?sa; (case h => k_is); (case pg => k_is); (case hd => k_is); (case po => k_is); (case sa => k_is))
    (case ki_T => refine' Ev.ki_mk ?m ?h ?i ?kc ?l ?c; (case m => k_is); (case h => k_is); (case i => k_is); (case kc => k_is); (case l => k_is); (case c => k_is))
    (case na_across => k_is)
    (case na_behind => k_is)
    (case na_stands => k_is)
    (case na_width => k_is)
    (case f_crossings' => refine' Ev.ff_mk ?a ?l ?c ?k; (case a => k_is); (case l => k_is); (case c => k_is); (case k => k_is))
    (case km_steps => refine' Ev.km_mk ?h ?i ?l ?c ?k; (case h => k_is); (case i => k_is); (case l => k_is); (case c => k_is); (case k => k_is))
    (case km_slot => refine' Ev.km_mk ?h ?i ?l ?c ?k; (case h => k_is); (case i => k_is); (case l => k_is); (case c => k_is); (case k => k_is))
