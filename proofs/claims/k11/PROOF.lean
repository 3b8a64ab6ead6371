import PyProof.Rows.All
import Wide.All
import OpenK.AllK
import Wide.FinOn
import HandS.ForMost
import HandS.SortOrd
import HandS.IsInst
import HandS.Walk
import HandS.Lambda
import HandS.Flow
import HandS.Zip
import HandS.Deep
import HandS.TupAny
import HandS.TupMul
import HandS.Wide
import HandS.Style
import KE.SortKeyHeap
import PyProof.ReprRoads
import HandS.More
import KE.DataMinMax
import KE.SortData
import KE.GoesMore
import HandS.SetBool
import HandS.SetKeys
import HandS.NoneIn
import HandS.Conv
import HandS.ExcValue
import HandS.SortKw
import HandS.EndTab
import HandS.EndOwn
import KE.KNestM
import HandS.NestedK
import PyProof.ReprLen
import PyProof.Rows.ReprShort
import PySem.Challenge.RW_waypins_k11_beats_told
set_option Elab.async false
set_option linter.all false
set_option maxRecDepth 100000
/-! Ev1: a small language for what a package's functions do, and what it works out to.
Data are trees (PyData); a list that is changed stands in a store, by its place. -/
namespace Ev
open PySem
abbrev D := PySem.PyData

/-- what a slot holds: data, or the place of a list that may be changed -/
inductive SV where
  | dat (d : D) | loc (n : Nat) | scr (ns : List Int)
/-- what an expression comes to: data (fr: a list just made, that nothing else holds), or a place -/
inductive ER where
  | dat (d : D) (fr : Bool) | loc (n : Nat) | scr (ns : List Int)
abbrev Env := List (Option SV)
abbrev Sto := List (List D)

/-- built-in functions -/
inductive Bf where
  | len | all | any | tup | lst | max | min | sum | abs | int | rep | str
  deriving DecidableEq
inductive IT where
  | nm (i : Nat) | tp (ts : List IT)
mutual
inductive IE where
  | int (i : Int) | str (x : Str) | bl (b : Bool) | non
  | slot (i : Nat) | con (x : Str)
  | tup (es : List IE) | lst (es : List IE)
  | bin (o : Operator) (a b : IE) | neg (a : IE) | no (a : IE)
  | land (a b : IE) | lor (a b : IE)
  | cmp (o : CmpOp) (a b : IE) | cmp2 (o p : CmpOp) (a b c : IE)
  | ite (c a b : IE)
  | call (f : Str) (es : List IE)
  | blt (f : Bf) (es : List IE)
  | isi (a : IE) (t : String)
  | idx (a b : IE) | cut (a : IE) (lo hi : Option IE) | rev (a : IE)
  | look (g : Str) (a : IE)
  | mth (m : Str) (a : IE) (es : List IE)
  | callk (f : Str) (ks : List Str) (es : List IE) (ix : List Nat)
  | lc (own : List (Str × Nat)) (t : IT) (it : II) (cs : List IE) (e : IE)
  | lc2 (own : List (Str × Nat)) (vs : List Nat) (t : IT) (it : II) (cs : List IE) (t1 : IT) (it1 : II) (cs1 : List IE) (e : IE)
  | sortl (a : IE) (i : Nat) (k : IE) (rev : Bool)
  | sortr (a : IE) (i : Nat) (k : IE) (rev : Bool)
  | indx (a b : IE)
  | card (own : List (Str × Nat)) (vs : List Nat) (t : IT) (it : II) (cs : List IE) (t1 : IT) (it1 : II) (cs1 : List IE) (e : IE)
  | srt (a : IE) (rev : Bool)
  | slen (i : Nat) | sidx (i : Nat) (a : IE)
inductive II where
  | of (e : IE) | rng (es : List IE) | enm (e : IE) | zip (a b : IE)
end
inductive IS where
  | asg (t : IT) (e : IE)
  | par (is : List Nat) (es : List IE)
  | seti (i : Nat) (a e : IE)
  | app (i : Nat) (e : IE)
  | ins (i : Nat) (a e : IE)
  | exp (e : IE)
  | ite (c : IE) (a b : List IS)
  | loop (t : IT) (it : II) (b : List IS)
  | whl (c : IE) (b : List IS)
  | ret (e : Option IE)
  | pas | brk | cnt | nev
inductive Fl where
  | nx (env : Env) (st : Sto) | rt (r : ER) (st : Sto) | bk (env : Env) (st : Sto) | ct (env : Env) (st : Sto)

/-- how a package is told: its functions (how many parameters, how many names, the body), its constants, its dicts, the names whose lists are changed -/
structure FnD where
  ps : Nat
  len : Nat
  mu : List Nat
  lam : Bool
  body : List IS
structure Pk where
  fn : Str → Option FnD
  con : Str → Option D
  dic : Str → Option (List (Str × D))
  kc : List (Str × List Str × List Nat)
  wf : Nat

/-! ### data -/
mutual
def eqD : D → D → Bool
  | .none, .none => true
  | .bool a, .bool b => a == b
  | .int a, .int b => a == b
  | .str a, .str b => decide (a = b)
  | .list a, .list b => eqDs a b
  | .tuple a, .tuple b => eqDs a b
  | .dict a, .dict b => eqKs a b
  | _, _ => false
def eqDs : List D → List D → Bool
  | [], [] => true
  | a :: as, b :: bs => eqD a b && eqDs as bs
  | _, _ => false
def eqKs : List (D × D) → List (D × D) → Bool
  | [], [] => true
  | (a, c) :: as, (b, d) :: bs => eqD a b && eqD c d && eqKs as bs
  | _, _ => false
end
mutual
theorem eqD_eq : ∀ {a b : D}, eqD a b = true → a = b
  | .none, .none, _ => rfl
  | .bool a, .bool b, h => by simp only [eqD, beq_iff_eq] at h; rw [h]
  | .int a, .int b, h => by simp only [eqD, beq_iff_eq] at h; rw [h]
  | .str a, .str b, h => by simp only [eqD, decide_eq_true_eq] at h; rw [h]
  | .list a, .list b, h => by simp only [eqD] at h; rw [eqDs_eq h]
  | .tuple a, .tuple b, h => by simp only [eqD] at h; rw [eqDs_eq h]
  | .dict a, .dict b, h => by simp only [eqD] at h; rw [eqKs_eq h]
theorem eqDs_eq : ∀ {a b : List D}, eqDs a b = true → a = b
  | [], [], _ => rfl
  | a :: as, b :: bs, h => by
    simp only [eqDs, Bool.and_eq_true] at h
    rw [eqD_eq h.1, eqDs_eq h.2]
theorem eqKs_eq : ∀ {a b : List (D × D)}, eqKs a b = true → a = b
  | [], [], _ => rfl
  | (a, c) :: as, (b, d) :: bs, h => by
    simp only [eqKs, Bool.and_eq_true] at h
    rw [eqD_eq h.1.1, eqD_eq h.1.2, eqKs_eq h.2]
end
mutual
theorem eqD_refl : ∀ a : D, eqD a a = true
  | .none => by simp only [eqD]
  | .bool a => by simp only [eqD, beq_self_eq_true]
  | .int a => by simp only [eqD, beq_self_eq_true]
  | .str a => by simp only [eqD, decide_true]
  | .list a => by simp only [eqD]; exact eqDs_refl a
  | .tuple a => by simp only [eqD]; exact eqDs_refl a
  | .dict a => by simp only [eqD]; exact eqKs_refl a
theorem eqDs_refl : ∀ a : List D, eqDs a a = true
  | [] => by simp only [eqDs]
  | a :: as => by simp only [eqDs, eqD_refl a, eqDs_refl as, Bool.and_true]
theorem eqKs_refl : ∀ a : List (D × D), eqKs a a = true
  | [] => by simp only [eqKs]
  | (a, c) :: as => by simp only [eqKs, eqD_refl a, eqD_refl c, eqKs_refl as, Bool.and_true]
end
def truD : D → Option Bool
  | .none => some false
  | .bool b => some b
  | .int i => some (i != 0)
  | .str x => if x.length ≤ sizeLine then some ((x.length : Int) != 0) else none
  | .list xs => some (!xs.isEmpty)
  | .tuple xs => some (!xs.isEmpty)
  | .dict _ => none
def isD (t : String) : D → Option Bool
  | .none => L2.kitB "NoneType" t
  | .bool _ => L2.kitB "bool" t
  | .int _ => L2.kitB "int" t
  | .str _ => L2.kitB "str" t
  | .list _ => L2.kitB "list" t
  | .tuple _ => L2.kitB "tuple" t
  | .dict _ => L2.kitB "dict" t
def intsD : List D → Option (List Int)
  | [] => some []
  | .int i :: r => (intsD r).map (i :: ·)
  | _ => none
def bolsD : List D → Option (List Bool)
  | [] => some []
  | .bool i :: r => (bolsD r).map (i :: ·)
  | _ => none
def cutD (xs : List D) (lo hi : Option Int) : List D := (xs.drop (HT.sIx xs.length 0 lo)).take (HT.sIx xs.length xs.length hi - HT.sIx xs.length 0 lo)
def okSh (d : D) : Bool := SeqAt.shaped d

def binD : Operator → D → D → Option (D × Bool)
  | .Add, .int i, .int j => some (.int (i + j), false)
  | .Add, .list xs, .list ys => if xs.length + ys.length ≤ sizeLine then some (.list (xs ++ ys), true) else none
  | .Add, .tuple xs, .tuple ys => if xs.length + ys.length ≤ sizeLine then some (.tuple (xs ++ ys), false) else none
  | .Add, .str x, .str y => if x.length + y.length ≤ sizeLine then some (.str (x ++ y), false) else none
  | .Sub, .int i, .int j => some (.int (i - j), false)
  | .Mult, .int i, .int j => if (-(2 ^ 64) < i ∧ i < 2 ^ 64) ∨ (-(2 ^ 64) < j ∧ j < 2 ^ 64) then some (.int (i * j), false) else none
  | .Mult, .list xs, .int k => if -(2 ^ 63) ≤ k ∧ k < 2 ^ 63 ∧ xs.length * k.toNat ≤ sizeLine then some (.list (List.replicate k.toNat xs).flatten, true) else none
  | .Mult, .tuple xs, .int k => if xs ≠ [] ∧ 2 ≤ k ∧ k ≤ 1000 ∧ xs.length ≤ 1000 then some (.tuple (List.replicate k.toNat xs).flatten, false) else none
  | .FloorDiv, .int i, .int j => if 0 < j ∧ j < 2 ^ 100 then some (.int (i / j), false) else if j < 0 ∧ -1000000000 < j then some (.int (i.fdiv j), false) else none
  | .Mod, .int i, .int j => if 0 < j then some (.int (i % j), false) else none
  | .Pow, .int i, .int j => if 0 ≤ j ∧ j ≤ 1000000 ∧ i.natAbs < 2 ^ 64 then some (.int (i ^ j.toNat), false) else none
  | _, _, _ => none
def cmpD : CmpOp → D → D → Option Bool
  | .Eq, .str a, .str b => some (decide (a = b))
  | .NotEq, .str a, .str b => some (!decide (a = b))
  | .Eq, a, b => if okSh a && okSh b then some (PyData.eqv a b) else none
  | .NotEq, a, b => if okSh a && okSh b then some (!PyData.eqv a b) else none
  | .Lt, .int i, .int j => some (decide (i < j))
  | .LtE, .int i, .int j => some (decide (i ≤ j))
  | .Gt, .int i, .int j => some (decide (j < i))
  | .GtE, .int i, .int j => some (decide (j ≤ i))
  | .Is, a, .none => some (eqD a .none)
  | .IsNot, a, .none => some (!eqD a .none)
  | .Is, .bool a, .bool b => some (decide (a = b))
  | .Is, .int _, .bool _ => some false
  | .IsNot, .bool a, .bool b => some (!decide (a = b))
  | .In, a, .list xs => if okSh a && okSh (.list xs) then some (xs.any fun z => PyData.eqv z a) else none
  | .In, a, .tuple xs => if okSh a && okSh (.tuple xs) then some (xs.any fun z => PyData.eqv z a) else none
  | .NotIn, a, .list xs => if okSh a && okSh (.list xs) then some (!xs.any fun z => PyData.eqv z a) else none
  | .NotIn, a, .tuple xs => if okSh a && okSh (.tuple xs) then some (!xs.any fun z => PyData.eqv z a) else none
  | _, _, _ => none
def idxD : D → D → Option D
  | .list xs, .int i => L2.atI xs i
  | .tuple xs, .int i => L2.atI xs i
  | _, _ => none
def maxI (m : Int) : List Int → Int
  | [] => m
  | x :: r => maxI (if x > m then x else m) r
def minI (m : Int) : List Int → Int
  | [] => m
  | x :: r => minI (if x < m then x else m) r
/-- alike rows that can be ordered -/
def rowB : D → Bool
  | .tuple (_ :: _) => true
  | _ => false
def alkB (xs : List D) : Bool := okSh (.list xs) && xs.all rowB && xs.all (fun x => xs.all fun y => W.alike x y) && decide (PyData.depthAll xs ≤ 50)
def leD (rev : Bool) (a b : D) : Bool := cond rev (!W.dataLt a b) (!W.dataLt b a)
def insD (rev : Bool) (x : D) : List D → List D
  | [] => [x]
  | y :: r => if leD rev x y then x :: y :: r else y :: insD rev x r
def srtD (rev : Bool) : List D → List D
  | [] => []
  | x :: r => insD rev x (srtD rev r)
/-- what can be in a set: None, ints, texts -/
def keyD : D → Option (Option L2.Key)
  | .none => some none
  | .int i => some (some (.inl i))
  | .str x => some (some (.inr x))
  | _ => none
def keysD : List D → Option (List (Option L2.Key))
  | [] => some []
  | d :: r => match keyD d, keysD r with
    | some k, some ks => some (k :: ks)
    | _, _ => none
instance : DecidableEq L2.Key := inferInstanceAs (DecidableEq (Int ⊕ Str))
def hasKey (acc : List (Option L2.Key)) (k : Option L2.Key) : Bool := acc.any fun j => decide (j = k)
def dedK : List (Option L2.Key) → List (Option L2.Key) → List (Option L2.Key)
  | acc, [] => acc
  | acc, k :: r => dedK (if hasKey acc k = true then acc else acc ++ [k]) r
def Bf.nm : Bf → Str
  | .len => "len" | .all => "all" | .any => "any" | .tup => "tuple" | .lst => "list" | .max => "max" | .min => "min" | .sum => "sum" | .abs => "abs" | .int => "int" | .rep => "repr" | .str => "str"
def okRep (d : D) : Bool := d.showable && !d.hasDict && decide (d.depth ≤ 60) && decide (d.shown.length ≤ sizeLine)
def bltD : Bf → List D → Option (D × Bool)
  | .len, [.list xs] => some (.int xs.length, false)
  | .len, [.tuple xs] => some (.int xs.length, false)
  | .all, [.list xs] => (bolsD xs).map fun bs => (.bool (bs.all id), false)
  | .any, [.list xs] => (bolsD xs).map fun bs => (.bool (bs.any id), false)
  | .tup, [.list xs] => some (.tuple xs, false)
  | .tup, [.tuple xs] => some (.tuple xs, false)
  | .lst, [.list xs] => some (.list xs, true)
  | .lst, [.tuple xs] => some (.list xs, true)
  | .max, [.int i, .int j] => some (.int (if j > i then j else i), false)
  | .max, [.list xs] => match intsD xs with
    | some (x :: r) => some (.int (maxI x r), false)
    | _ => match xs with
      | d :: ds => if alkB (d :: ds) then some (W.maxD d ds, false) else none
      | [] => none
  | .min, [.int i, .int j] => some (.int (if j < i then j else i), false)
  | .min, [.list xs] => match intsD xs with
    | some (x :: r) => some (.int (minI x r), false)
    | _ => match xs with
      | d :: ds => if alkB (d :: ds) then some (W.minD d ds, false) else none
      | [] => none
  | .sum, [.list xs] => (intsD xs).map fun is => (.int is.sum, false)
  | .abs, [.int i] => some (.int (if i < 0 then -i else i), false)
  | .int, [.int i] => some (.int i, false)
  | .int, [.bool b] => some (.int (if b then 1 else 0), false)
  | .rep, [d] => if okRep d then some (.str d.shown, false) else none
  | .str, [.int i] => if i.natAbs.log2 < 1920 then some (.str (toString i), false) else none
  | _, _ => none

/-! ### reading -/
def rdE (st : Sto) : ER → Option D
  | .dat d _ => some d
  | .loc n => st[n]?.map .list
  | .scr _ => none
def rdEs (st : Sto) : List ER → Option (List D)
  | [] => some []
  | r :: rs => match rdE st r, rdEs st rs with
    | some d, some ds => some (d :: ds)
    | _, _ => none
def svE : ER → SV
  | .dat d _ => .dat d
  | .loc n => .loc n
  | .scr ns => .scr ns
def erS : SV → ER
  | .dat d => .dat d false
  | .loc n => .loc n
  | .scr ns => .scr ns
def wipeE (env : Env) : List Nat → Env
  | [] => env
  | v :: vs => (wipeE env vs).set v none
mutual
def bindT : IT → D → Env → Option Env
  | .nm i, d, env => if i < env.length then some (env.set i (some (.dat d))) else none
  | .tp ts, .tuple ds, env => bindTs ts ds env
  | .tp _, _, _ => none
def bindTs : List IT → List D → Env → Option Env
  | [], [], env => some env
  | t :: ts, d :: ds, env => match bindT t d env with
    | some env' => bindTs ts ds env'
    | none => none
  | _, _, _ => none
end
mutual
def slT : IT → List Nat
  | .nm i => [i]
  | .tp ts => slTs ts
def slTs : List IT → List Nat
  | [] => []
  | t :: ts => slT t ++ slTs ts
end
/-- the lists that are walked stand as they stood -/
def keptL (st : Sto) : List (Nat × List D) → Bool
  | [] => true
  | (n, xs) :: r => (match st[n]? with | some ys => eqDs xs ys | none => false) && keptL st r
def compL (f : D → Sto → Option (List D × Sto)) : List D → Sto → Option (List D × Sto)
  | [], st => some ([], st)
  | d :: ds, st => match f d st with
    | some (xs, st1) => match compL f ds st1 with
      | some (ys, st2) => some (xs ++ ys, st2)
      | none => none
    | none => none
def forL (f : D → Env → Sto → Option Fl) : List D → Env → Sto → Option Fl
  | [], env, st => some (.nx env st)
  | d :: ds, env, st => match f d env st with
    | some (.nx e s) => forL f ds e s
    | some (.ct e s) => forL f ds e s
    | some (.bk e s) => some (.nx e s)
    | some (.rt r s) => some (.rt r s)
    | none => none
def whlL (c : Env → Sto → Option (Bool × Sto)) (f : Env → Sto → Option Fl) : Nat → Env → Sto → Option Fl
  | 0, _, _ => none
  | n + 1, env, st => match c env st with
    | some (true, st1) => match f env st1 with
      | some (.nx e s) => whlL c f n e s
      | some (.ct e s) => whlL c f n e s
      | some (.bk e s) => some (.nx e s)
      | some (.rt r s) => some (.rt r s)
      | none => none
    | some (false, st1) => some (.nx env st1)
    | none => none
def insK (rev : Bool) (x : D × Int) : List (D × Int) → List (D × Int)
  | [] => [x]
  | y :: r => if (if rev then y.2 ≤ x.2 else x.2 ≤ y.2) then x :: y :: r else y :: insK rev x r
def sortK (rev : Bool) : List (D × Int) → List (D × Int)
  | [] => []
  | x :: r => insK rev x (sortK rev r)
def rngD (lo hi : Int) : List D := (List.range (hi - lo).toNat).map fun (k : Nat) => .int (lo + (k : Int))
/-- the items that are walked, and the lists that must stand meanwhile -/
def srcE (st : Sto) : ER → Option (List D × List (Nat × List D))
  | .dat (.list xs) _ => some (xs, [])
  | .dat (.tuple xs) _ => some (xs, [])
  | .loc n => st[n]?.map fun xs => (xs, [(n, xs)])
  | _ => none
/-- a tuple? -/
def srcT : ER → Bool
  | .dat (.tuple _) _ => true
  | _ => false
def enmD : Nat → List D → List D
  | _, [] => []
  | k, x :: r => .tuple [.int (k : Int), x] :: enmD (k + 1) r
def zipD : List D → List D → List D
  | x :: xs, y :: ys => .tuple [x, y] :: zipD xs ys
  | _, _ => []

/-- what stands at these places -/
def pick {α : Type} (ix : List Nat) (xs : List α) : List α := ix.filterMap (xs[·]?)
/-- where it stands first -/
def findD (d : D) : Nat → List D → Option Nat
  | _, [] => none
  | k, z :: r => if PyData.eqv z d then some k else findD d (k + 1) r
/-- a test: what it comes to, as a truth -/
def tstE : Option (ER × Sto) → Option (Bool × Sto)
  | some (x, st1) => match rdE st1 x with
    | some d => match truD d with
      | some b => some (b, st1)
      | none => none
    | none => none
  | none => none
/-- sorted by a key -/
def sortE (F : D → Sto → Option (ER × Sto)) (rev : Bool) (xs : List D) (st : Sto) : Option (ER × Sto) :=
  match compL (fun d s => match F d s with
      | some (.dat (.int y) _, s1) => some ([.int y], s1)
      | _ => none) xs st with
  | some (ks, st2) => match intsD ks with
    | some is => if xs.length ≤ 1000 then some (.dat (.list ((sortK rev (xs.zip is)).map (·.1))) true, st2) else none
    | none => none
  | none => none
section
variable (G : Pk) (cl : Str → List SV → Sto → Option (ER × Sto))
mutual
def evE : IE → Env → Sto → Option (ER × Sto)
  | .int i, _, st => some (.dat (.int i) false, st)
  | .str x, _, st => some (.dat (.str x) false, st)
  | .bl b, _, st => some (.dat (.bool b) false, st)
  | .non, _, st => some (.dat .none false, st)
  | .slot i, env, st => match env[i]? with
    | some (some s) => some (erS s, st)
    | _ => none
  | .con x, _, st => match G.con x with
    | some d => some (.dat d false, st)
    | none => none
  | .tup es, env, st => match evDs es env st with
    | some (ds, st1) => if ds.length ≤ sizeLine then some (.dat (.tuple ds) false, st1) else none
    | none => none
  | .lst es, env, st => match evDs es env st with
    | some (ds, st1) => if ds.length ≤ sizeLine then some (.dat (.list ds) true, st1) else none
    | none => none
  | .bin o a b, env, st => match evE a env st with
    | some (x, st1) => match evE b env st1 with
      | some (y, st2) => match rdE st2 x, rdE st2 y with
        | some d, some e => match binD o d e with
          | some (r, fr) => some (.dat r fr, st2)
          | none => none
        | _, _ => none
      | none => none
    | none => none
  | .neg a, env, st => match evE a env st with
    | some (.dat (.int i) _, st1) => some (.dat (.int (-i)) false, st1)
    | _ => none
  | .no a, env, st => match tstE (evE a env st) with
    | some (b, st1) => some (.dat (.bool (!b)) false, st1)
    | none => none
  | .land a b, env, st => match evE a env st with
    | some (x, st1) => match rdE st1 x with
      | some d => match truD d with
        | some true => evE b env st1
        | some false => some (x, st1)
        | none => none
      | none => none
    | none => none
  | .lor a b, env, st => match evE a env st with
    | some (x, st1) => match rdE st1 x with
      | some d => match truD d with
        | some true => some (x, st1)
        | some false => evE b env st1
        | none => none
      | none => none
    | none => none
  | .cmp o a b, env, st => match evE a env st with
    | some (x, st1) => match evE b env st1 with
      | some (y, st2) => match rdE st2 x, rdE st2 y with
        | some d, some e => match cmpD o d e with
          | some r => some (.dat (.bool r) false, st2)
          | none => none
        | _, _ => none
      | none => none
    | none => none
  | .cmp2 o p a b c, env, st => match evE a env st with
    | some (x, st1) => match evE b env st1 with
      | some (y, st2) => match rdE st2 x, rdE st2 y with
        | some d, some e => match cmpD o d e with
          | some true => match evE c env st2 with
            | some (z, st3) => match rdE st3 y, rdE st3 z with
              | some e1, some f => match cmpD p e1 f with
                | some r => some (.dat (.bool r) false, st3)
                | none => none
              | _, _ => none
            | none => none
          | some false => some (.dat (.bool false) false, st2)
          | none => none
        | _, _ => none
      | none => none
    | none => none
  | .ite c a b, env, st => match tstE (evE c env st) with
    | some (true, st1) => evE a env st1
    | some (false, st1) => evE b env st1
    | none => none
  | .call f es, env, st => match evEs es env st with
    | some (rs, st1) => cl f (rs.map svE) st1
    | none => none
  | .blt f es, env, st => match evEs es env st with
    | some (rs, st1) => match rdEs st1 rs with
      | some ds => match bltD f ds with
        | some (r, fr) => some (.dat r fr, st1)
        | none => none
      | none => none
    | none => none
  | .isi a t, env, st => match evE a env st with
    | some (x, st1) => match rdE st1 x with
      | some d => match isD t d with
        | some b => some (.dat (.bool b) false, st1)
        | none => none
      | none => none
    | none => none
  | .idx a b, env, st => match evE a env st with
    | some (x, st1) => match evE b env st1 with
      | some (y, st2) => match rdE st2 x, rdE st2 y with
        | some d, some e => match idxD d e with
          | some r => some (.dat r false, st2)
          | none => none
        | _, _ => none
      | none => none
    | none => none
  | .cut a lo hi, env, st => match evE a env st with
    | some (x, st1) => match evO lo env st1 with
      | some (l, st2) => match evO hi env st2 with
        | some (h, st3) => match rdE st3 x with
          | some (.list xs) => some (.dat (.list (cutD xs l h)) true, st3)
          | some (.tuple xs) => some (.dat (.tuple (cutD xs l h)) false, st3)
          | _ => none
        | none => none
      | none => none
    | none => none
  | .rev a, env, st => match evE a env st with
    | some (x, st1) => match rdE st1 x with
      | some (.list xs) => some (.dat (.list xs.reverse) true, st1)
      | some (.tuple xs) => some (.dat (.tuple xs.reverse) false, st1)
      | _ => none
    | none => none
  | .look g a, env, st => match evE a env st with
    | some (.dat (.str k) _, st1) => match G.dic g with
      | some kvs => match kvs.lookup k with
        | some d => some (.dat d false, st1)
        | none => none
      | none => none
    | _ => none
  | .mth _ _ _, _, _ => none
  | .callk f _ es ix, env, st => match evEs es env st with
    | some (rs, st1) => cl f ((pick ix rs).map svE) st1
    | none => none
  | .lc own t it cs e, env, st => match evI it env st with
    | some (xs, kp, st1) => match compL (fun d s => match bindT t d (wipeE env (own.map (·.2))) with
        | some env1 => match evCs cs env1 s with
          | some (true, s1) => match evE e env1 s1 with
            | some (.dat y _, s2) => if keptL s2 kp then some ([y], s2) else none
            | _ => none
          | some (false, s1) => if keptL s1 kp then some ([], s1) else none
          | none => none
        | none => none) xs st1 with
      | some (ys, st2) => if ys.length ≤ sizeLine then some (.dat (.list ys) true, st2) else none
      | none => none
    | none => none
  | .lc2 own vs t it cs t1 it1 cs1 e, env, st => match evI it env st with
    | some (xs, kp, st1) => match compL (fun d s => match bindT t d (wipeE env (own.map (·.2))) with
        | some env1 => match evCs cs env1 s with
          | some (true, s1) => match evI it1 env1 s1 with
            | some (zs, kp1, s2) => match compL (fun d1 s => match bindT t1 d1 (wipeE env1 vs) with
                | some env2 => match evCs cs1 env2 s with
                  | some (true, s3) => match evE e env2 s3 with
                    | some (.dat y _, s4) => if keptL s4 kp1 then some ([y], s4) else none
                    | _ => none
                  | some (false, s3) => if keptL s3 kp1 then some ([], s3) else none
                  | none => none
                | none => none) zs s2 with
              | some (ys, s5) => if keptL s5 kp then some (ys, s5) else none
              | none => none
            | none => none
          | some (false, s1) => if keptL s1 kp then some ([], s1) else none
          | none => none
        | none => none) xs st1 with
      | some (ys, st2) => if ys.length ≤ sizeLine then some (.dat (.list ys) true, st2) else none
      | none => none
    | none => none
  | .sortl a i k rev, env, st => match evE a env st with
    | some (x, st1) => match rdE st1 x with
      | some (.list xs) => sortE (fun d s => evE k (env.set i (some (.dat d))) s) rev xs st1
      | _ => none
    | none => none
  | .sortr a i k rev, env, st => match evE a env st with
    | some (.dat (.int n) _, st1) => if 0 ≤ n ∧ n ≤ 1000 then sortE (fun d s => evE k (env.set i (some (.dat d))) s) rev (rngD 0 n) st1 else none
    | _ => none
  | .indx a b, env, st => match evE a env st with
    | some (x, st1) => match evE b env st1 with
      | some (y, st2) => match rdE st1 x, rdE st2 x, rdE st2 y with
        | some (.list _), some (.list ds), some d => if okSh (.list ds) && okSh d then
            match findD d 0 ds with
            | some j => some (.dat (.int ((j : Nat) : Int)) false, st2)
            | none => none
          else none
        | _, _, _ => none
      | none => none
    | none => none
  | .card own vs t it cs t1 it1 cs1 e, env, st => match evI it env st with
    | some (xs, kp, st1) => match compL (fun d s => match bindT t d (wipeE env (own.map (·.2))) with
        | some env1 => match evCs cs env1 s with
          | some (true, s1) => match evI it1 env1 s1 with
            | some (zs, kp1, s2) => match compL (fun d1 s => match bindT t1 d1 (wipeE env1 vs) with
                | some env2 => match evCs cs1 env2 s with
                  | some (true, s3) => match evE e env2 s3 with
                    | some (.dat y _, s4) => if keptL s4 kp1 then some ([y], s4) else none
                    | _ => none
                  | some (false, s3) => if keptL s3 kp1 then some ([], s3) else none
                  | none => none
                | none => none) zs s2 with
              | some (ys, s5) => if keptL s5 kp then some (ys, s5) else none
              | none => none
            | none => none
          | some (false, s1) => if keptL s1 kp then some ([], s1) else none
          | none => none
        | none => none) xs st1 with
      | some (ys, st2) => match keysD ys with
        | some ks => if ks.length < 4000 then some (.dat (.int ((dedK [] ks).length : Nat)) false, st2) else none
        | none => none
      | none => none
    | none => none
  | .srt a rev, env, st => match evE a env st with
    | some (x, st1) => match rdE st1 x with
      | some (.list xs) => if alkB xs && decide (xs.length ≤ 1000) then some (.dat (.list (srtD rev xs)) true, st1) else none
      | _ => none
    | none => none
  | .slen i, env, st => match env[i]? with
    | some (some (.scr ns)) => some (.dat (.int ns.length) false, st)
    | _ => none
  | .sidx i a, env, st => match env[i]? with
    | some (some (.scr ns)) => match evE a env st with
      | some (.dat (.int k) _, st1) => match L2.atI ns k with
        | some v => some (.dat (.int v) false, st1)
        | none => none
      | _ => none
    | _ => none
/-- data alone -/
def evDs : List IE → Env → Sto → Option (List D × Sto)
  | [], _, st => some ([], st)
  | e :: es, env, st => match evE e env st with
    | some (.dat d _, st1) => match evDs es env st1 with
      | some (ds, st2) => some (d :: ds, st2)
      | none => none
    | _ => none
def evEs : List IE → Env → Sto → Option (List ER × Sto)
  | [], _, st => some ([], st)
  | e :: es, env, st => match evE e env st with
    | some (r, st1) => match evEs es env st1 with
      | some (rs, st2) => some (r :: rs, st2)
      | none => none
    | none => none
def evCs : List IE → Env → Sto → Option (Bool × Sto)
  | [], _, st => some (true, st)
  | e :: es, env, st => match tstE (evE e env st) with
    | some (true, st1) => evCs es env st1
    | some (false, st1) => some (false, st1)
    | none => none
def evO : Option IE → Env → Sto → Option (Option Int × Sto)
  | none, _, st => some (none, st)
  | some e, env, st => match evE e env st with
    | some (.dat (.int i) _, st1) => some (some i, st1)
    | _ => none
def evI : II → Env → Sto → Option (List D × List (Nat × List D) × Sto)
  | .of e, env, st => match evE e env st with
    | some (x, st1) => match srcE st1 x with
      | some (xs, kp) => some (xs, kp, st1)
      | none => none
    | none => none
  | .rng es, env, st => match evDs es env st with
    | some ([.int n], st1) => if -(2 ^ 62) ≤ n ∧ n < 2 ^ 62 then some (rngD 0 n, [], st1) else none
    | some ([.int a, .int b], st1) => if -(2 ^ 62) ≤ a ∧ a < 2 ^ 62 ∧ -(2 ^ 62) ≤ b ∧ b < 2 ^ 62 then some (rngD a b, [], st1) else none
    | _ => none
  | .enm e, env, st => match evE e env st with
    | some (x, st1) => match srcE st1 x with
      | some (xs, kp) => some (enmD 0 xs, kp, st1)
      | none => none
    | none => none
  | .zip a b, env, st => match evE a env st with
    | some (x, st1) => match evE b env st1 with
      | some (y, st2) => match srcE st2 x, srcE st2 y with
        | some (xs, kp), some (ys, kq) => if srcT x == srcT y then some (zipD xs ys, kp ++ kq, st2) else none
        | _, _ => none
      | none => none
    | none => none
end
end
end Ev
set_option linter.all false
set_option maxRecDepth 100000
set_option maxHeartbeats 2000000
/-! Ev2: how data, slots and the store lie in the heap. -/
namespace Ev
open PySem PySem.Spec L2
variable {K : PySem.W.Frag} {T : List (Addr × Str)}

/-- the heap goes on: all that isn't at φ (and is no table) stands as it stood -/
structure Ext (φ : List Addr) (H H' : Hp) : Prop where
  keep : ∀ b o, H b = some o → b ∉ φ → (∀ ps, o ≠ .tbl ps) → H' b = some o
  dom : ∀ b, H' b = none → H b = none
/-- at φ stands nothing but lists -/
def Mo : HO → Prop
  | .lst _ => True
  | .ext _ => True
  | _ => False
def Lst (φ : List Addr) (H : Hp) : Prop := ∀ a ∈ φ, ∀ o, H a = some o → Mo o

mutual
/-- v is the tree d, and no list at φ is in it -/
inductive RD (K : PySem.W.Frag) (φ : List Addr) (H : Hp) : V → D → Prop
  | non : RD K φ H .non .none
  | bl (b : Bool) : RD K φ H (.bl b) (.bool b)
  | int (i : Int) : RD K φ H (.int i) (.int i)
  | str (x : Str) : RD K φ H (.str x) (.str x)
  | lst {a : Addr} {xs : List V} {ds : List D} : a ∉ φ → H a = some (.lst xs) → RDs K φ H xs ds → RD K φ H (.ref a) (.list ds)
  | tup {a : Addr} {xs : List V} {ds : List D} : SqT K H a xs → RDs K φ H xs ds → RD K φ H (.ref a) (.tuple ds)
  | dct {a : Addr} : H a = some (.dK []) → RD K φ H (.ref a) (.dict [])
inductive RDs (K : PySem.W.Frag) (φ : List Addr) (H : Hp) : List V → List D → Prop
  | nil : RDs K φ H [] []
  | cons {v : V} {vs : List V} {d : D} {ds : List D} : RD K φ H v d → RDs K φ H vs ds → RDs K φ H (v :: vs) (d :: ds)
end
theorem Ext.refl (φ : List Addr) (H : Hp) : Ext φ H H := ⟨fun _ _ h _ _ => h, fun _ h => h⟩
theorem Ext.trans {φ : List Addr} {H H1 H2 : Hp} (a : Ext φ H H1) (b : Ext φ H1 H2) : Ext φ H H2 :=
  ⟨fun c o h n t => b.keep c o (a.keep c o h n t) n t, fun c h => a.dom c (b.dom c h)⟩
theorem Ext.more {φ ψ : List Addr} {H H1 : Hp} (a : Ext φ H H1) (h : ∀ x ∈ φ, x ∈ ψ) : Ext ψ H H1 :=
  ⟨fun c o e n t => a.keep c o e (fun z => n (h c z)) t, a.dom⟩
theorem Ext.new {φ : List Addr} {H : Hp} {p : Addr} {o : HO} (h : H p = none) : Ext φ H (upd H p o) := by
  refine ⟨fun b u e _ _ => ?_, fun b e => ?_⟩
  · rw [upd_ne (ne_of_none e h)]; exact e
  · by_cases z : b = p
    · rw [z, upd_same] at e; cases e
    · rw [upd_ne z] at e; exact e
theorem Ext.at {φ : List Addr} {H : Hp} {p : Addr} {o : HO} (h : p ∈ φ) : Ext φ H (upd H p o) := by
  refine ⟨fun b u e n _ => ?_, fun b e => ?_⟩
  · rw [upd_ne (fun z => n (by rw [z]; exact h))]; exact e
  · by_cases z : b = p
    · rw [z, upd_same] at e; cases e
    · rw [upd_ne z] at e; exact e
theorem SqT.ext {φ : List Addr} {H H' : Hp} {a : Addr} {xs : List V} (x : Ext φ H H') (f : Lst φ H) (h : SqT K H a xs) : SqT K H' a xs := by
  rcases h with (h | ⟨o, h⟩) | h
  · refine .inl (.inl (x.keep _ _ h (fun z => ?_) (fun ps z => by cases z)))
    exact f _ z _ h
  · refine .inl (.inr ⟨o, x.keep _ _ h (fun z => ?_) (fun ps z => by cases z)⟩)
    exact f _ z _ h
  · exact .inr h
mutual
theorem RD.ext {φ : List Addr} {H H' : Hp} (x : Ext φ H H') (f : Lst φ H) : ∀ {v : V} {d : D}, RD K φ H v d → RD K φ H' v d
  | _, _, .non => .non
  | _, _, .bl b => .bl b
  | _, _, .int i => .int i
  | _, _, .str s => .str s
  | _, _, .lst n h r => .lst n (x.keep _ _ h n (fun ps z => by cases z)) (RDs.ext x f r)
  | _, _, .tup h r => .tup (SqT.ext x f h) (RDs.ext x f r)
  | _, _, .dct h => .dct (x.keep _ _ h (fun z => f _ z _ h) (fun ps z => by cases z))
theorem RDs.ext {φ : List Addr} {H H' : Hp} (x : Ext φ H H') (f : Lst φ H) : ∀ {vs : List V} {ds : List D}, RDs K φ H vs ds → RDs K φ H' vs ds
  | _, _, .nil => .nil
  | _, _, .cons a b => .cons (RD.ext x f a) (RDs.ext x f b)
end
mutual
theorem RD.weak {φ ψ : List Addr} {H : Hp} (h : ∀ a ∈ ψ, a ∈ φ) : ∀ {v : V} {d : D}, RD K φ H v d → RD K ψ H v d
  | _, _, .non => .non
  | _, _, .bl b => .bl b
  | _, _, .int i => .int i
  | _, _, .str s => .str s
  | _, _, .lst n e r => .lst (fun z => n (h _ z)) e (RDs.weak h r)
  | _, _, .tup e r => .tup e (RDs.weak h r)
  | _, _, .dct e => .dct e
theorem RDs.weak {φ ψ : List Addr} {H : Hp} (h : ∀ a ∈ ψ, a ∈ φ) : ∀ {vs : List V} {ds : List D}, RDs K φ H vs ds → RDs K ψ H vs ds
  | _, _, .nil => .nil
  | _, _, .cons a b => .cons (RD.weak h a) (RDs.weak h b)
end
mutual
/-- what was there leans on nothing that comes -/
theorem RD.fresh {φ : List Addr} {H : Hp} {p : Addr} (h : H p = none) : ∀ {v : V} {d : D}, RD K φ H v d → RD K (φ ++ [p]) H v d
  | _, _, .non => .non
  | _, _, .bl b => .bl b
  | _, _, .int i => .int i
  | _, _, .str s => .str s
  | _, _, .lst n e r => .lst (fun z => by
      rcases List.mem_append.mp z with z | z
      · exact n z
      · rw [List.mem_singleton.mp z, h] at e; cases e) e (RDs.fresh h r)
  | _, _, .tup e r => .tup e (RDs.fresh h r)
  | _, _, .dct e => .dct e
theorem RDs.fresh {φ : List Addr} {H : Hp} {p : Addr} (h : H p = none) : ∀ {vs : List V} {ds : List D}, RDs K φ H vs ds → RDs K (φ ++ [p]) H vs ds
  | _, _, .nil => .nil
  | _, _, .cons a b => .cons (RD.fresh h a) (RDs.fresh h b)
end
mutual
theorem RD.dp {φ : List Addr} {H : Hp} : ∀ {v : V} {d : D}, d.canLay0 = true → RD K φ H v d → Dp K H v d
  | _, _, _, .non => .non
  | _, _, _, .bl b => .bl b
  | _, _, _, .int i => .int i
  | _, _, _, .str s => .str s
  | _, _, c, .lst n e r => .lst (.inl (.inl e)) (RDs.dp (by simpa [PyData.canLay0] using c) r)
  | _, _, c, .tup e r => .tup e (RDs.dp (by simpa [PyData.canLay0] using c) r)
  | _, _, c, .dct e => by simp [PyData.canLay0] at c
theorem RDs.dp {φ : List Addr} {H : Hp} : ∀ {vs : List V} {ds : List D}, PyData.canLayAll0 ds = true → RDs K φ H vs ds → DpAll K H vs ds
  | _, _, _, .nil => .nil
  | _, _, c, .cons a b => by
    simp only [PyData.canLayAll0, Bool.and_eq_true] at c
    exact .cons (RD.dp c.1 a) (RDs.dp c.2 b)
end
theorem RDs.length {φ : List Addr} {H : Hp} : ∀ {vs : List V} {ds : List D}, RDs K φ H vs ds → vs.length = ds.length
  | _, _, .nil => rfl
  | _, _, .cons _ b => congrArg (· + 1) (RDs.length b)
theorem RDs.get {φ : List Addr} {H : Hp} : ∀ {vs : List V} {ds : List D} {i : Nat} {d : D}, RDs K φ H vs ds → ds[i]? = some d → ∃ v, vs[i]? = some v ∧ RD K φ H v d
  | _, _, _, _, .nil, e => by simp at e
  | _, _, 0, _, .cons a _, e => ⟨_, rfl, by simp at e; subst e; exact a⟩
  | _, _, i + 1, d, .cons _ b, e => by
    obtain ⟨v, h1, h2⟩ := RDs.get (i := i) b (by simpa using e)
    exact ⟨v, by simpa using h1, h2⟩
theorem RDs.getV {φ : List Addr} {H : Hp} : ∀ {vs : List V} {ds : List D} {i : Nat} {v : V}, RDs K φ H vs ds → vs[i]? = some v → ∃ d, ds[i]? = some d ∧ RD K φ H v d
  | _, _, _, _, .nil, e => by simp at e
  | _, _, 0, _, .cons a _, e => ⟨_, rfl, by simp at e; subst e; exact a⟩
  | _, _, i + 1, d, .cons _ b, e => by
    obtain ⟨v, h1, h2⟩ := RDs.getV (i := i) b (by simpa using e)
    exact ⟨v, by simpa using h1, h2⟩
theorem RDs.append {φ : List Addr} {H : Hp} : ∀ {vs ws : List V} {ds es : List D}, RDs K φ H vs ds → RDs K φ H ws es → RDs K φ H (vs ++ ws) (ds ++ es)
  | _, _, _, _, .nil, s => s
  | _, _, _, _, .cons a b, s => .cons a (RDs.append b s)
theorem RDs.take {φ : List Addr} {H : Hp} : ∀ {vs : List V} {ds : List D} (n : Nat), RDs K φ H vs ds → RDs K φ H (vs.take n) (ds.take n)
  | _, _, 0, _ => .nil
  | _, _, _ + 1, .nil => .nil
  | _, _, n + 1, .cons a b => .cons a (RDs.take n b)
theorem RDs.drop {φ : List Addr} {H : Hp} : ∀ {vs : List V} {ds : List D} (n : Nat), RDs K φ H vs ds → RDs K φ H (vs.drop n) (ds.drop n)
  | _, _, 0, r => r
  | _, _, _ + 1, .nil => .nil
  | _, _, n + 1, .cons _ b => RDs.drop n b
theorem RDs.reverse {φ : List Addr} {H : Hp} : ∀ {vs : List V} {ds : List D}, RDs K φ H vs ds → RDs K φ H vs.reverse ds.reverse
  | _, _, .nil => .nil
  | _, _, .cons a b => by
    rw [List.reverse_cons, List.reverse_cons]
    exact (RDs.reverse b).append (.cons a .nil)
theorem RDs.rep {φ : List Addr} {H : Hp} {vs : List V} {ds : List D} (h : RDs K φ H vs ds) : ∀ k : Nat, RDs K φ H (List.replicate k vs).flatten (List.replicate k ds).flatten
  | 0 => .nil
  | k + 1 => by
    rw [List.replicate_succ, List.flatten_cons, List.replicate_succ, List.flatten_cons]
    exact h.append (RDs.rep h k)
theorem RDs.set {φ : List Addr} {H : Hp} {v : V} {d : D} (r : RD K φ H v d) : ∀ {vs : List V} {ds : List D} (i : Nat), RDs K φ H vs ds → RDs K φ H (vs.set i v) (ds.set i d)
  | _, _, _, .nil => .nil
  | _, _, 0, .cons _ b => .cons r b
  | _, _, i + 1, .cons a b => .cons a (RDs.set r i b)

/-! ### the store and the slots -/
/-- the tables of code objects; no other table is tracked -/
def TbA (T : List (Addr × Str)) (H : Hp) : Prop := LamX.Tabs T H ∧ ∀ a ps, H a = some (.tbl ps) → a ∈ T.map (·.1)
structure Ws (K : PySem.W.Frag) (T : List (Addr × Str)) (φ ρ : List Addr) (H : Hp) (st : Sto) : Prop where
  len : ρ.length = st.length
  sto : ∀ (n : Nat) (ds : List D), st[n]? = some ds → ∃ a xs, ρ[n]? = some a ∧ H a = some (.lst xs) ∧ RDs K φ H xs ds
  nd : ρ.Nodup
  sub : ∀ a ∈ ρ, a ∈ φ
  fx : ∀ a ∈ φ, ∃ o, H a = some o ∧ Mo o
  tab : TbA T H
theorem Ws.fl {φ ρ : List Addr} {H : Hp} {st : Sto} (w : Ws K T φ ρ H st) : Lst φ H := fun a ha o e => by
  obtain ⟨u, h, m⟩ := w.fx a ha
  rw [h] at e; cases e
  exact m
theorem Ws.rho {φ ρ : List Addr} {H : Hp} {st : Sto} (w : Ws K T φ ρ H st) : ∀ a ∈ ρ, ∃ xs, H a = some (.lst xs) := fun a ha => by
  obtain ⟨n, hn⟩ := List.getElem?_of_mem ha
  have hl : n < st.length := by rw [← w.len]; exact (List.getElem?_eq_some_iff.mp hn).1
  obtain ⟨b, xs, h1, h2, _⟩ := w.sto n _ (List.getElem?_eq_getElem hl)
  rw [hn] at h1; cases h1
  exact ⟨xs, h2⟩
def ScR (K : PySem.W.Frag) (H : Hp) (a : Addr) (ns : List Int) : Prop :=
  (∃ o, H a = some (.frz o (.lst (ns.map V.int)))) ∨
    ∃ (o : Obj) (its : Array Value) (n : Nat), K.lookup a = some o ∧ o.cls = .type "list" ∧ o.dict = none ∧ o.data = .seq its n ∧ its.size ≤ sizeLine ∧ Vals (ns.map V.int) its.toList
theorem ScR.sq {H : Hp} {a : Addr} {ns : List Int} (h : ScR K H a ns) : SqL K H a (ns.map V.int) := h.elim (fun ⟨o, e⟩ => .inl (.inr ⟨o, e⟩)) .inr
theorem ScR.of {H : Hp} {a : Addr} {ns : List Int} (h : SqL K H a (ns.map V.int)) (n : H a ≠ some (.lst (ns.map V.int))) : ScR K H a ns := by
  rcases h with (h | h) | h
  · exact absurd h n
  · exact .inl h
  · exact .inr h
def RS (K : PySem.W.Frag) (φ ρ : List Addr) (H : Hp) : SV → V → Prop
  | .dat d, v => RD K φ H v d
  | .loc n, v => ∃ a, ρ[n]? = some a ∧ v = .ref a
  | .scr ns, v => ∃ a, v = .ref a ∧ ScR K H a ns
abbrev RR (K : PySem.W.Frag) (φ ρ : List Addr) (H : Hp) (r : ER) (v : V) : Prop := RS K φ ρ H (svE r) v
structure Sl (K : PySem.W.Frag) (φ ρ : List Addr) (H : Hp) (env : Env) (σ : St) : Prop where
  len : env.length = σ.length
  get : ∀ (i : Nat) (s : SV), env[i]? = some (some s) → ∃ v, σ[i]? = some (some v) ∧ RS K φ ρ H s v
theorem RS.ext {φ ρ : List Addr} {H H' : Hp} (x : Ext φ H H') (f : Lst φ H) {s : SV} {v : V} (h : RS K φ ρ H s v) : RS K φ ρ H' s v := by
  cases s with
  | dat d => exact RD.ext x f h
  | loc n => exact h
  | scr ns =>
    obtain ⟨a, e, h⟩ := h
    refine ⟨a, e, ?_⟩
    rcases h with ⟨o, h⟩ | h
    · refine .inl ⟨o, x.keep _ _ h (fun z => ?_) (fun ps z => by cases z)⟩
      exact f _ z _ h
    · exact .inr h
theorem RS.fresh {φ ρ : List Addr} {H : Hp} {p : Addr} (h : H p = none) {s : SV} {v : V} (r : RS K φ ρ H s v) : RS K (φ ++ [p]) ρ H s v := by
  cases s with
  | dat d => exact RD.fresh h r
  | loc n => exact r
  | scr ns => exact r
theorem RS.weak {φ ψ ρ : List Addr} {H : Hp} (h : ∀ a ∈ ψ, a ∈ φ) {s : SV} {v : V} (r : RS K φ ρ H s v) : RS K ψ ρ H s v := by
  cases s with
  | dat d => exact RD.weak h r
  | loc n => exact r
  | scr ns => exact r
theorem Sl.ext {φ ρ : List Addr} {H H' : Hp} {env : Env} {σ : St} (x : Ext φ H H') (f : Lst φ H) (h : Sl K φ ρ H env σ) : Sl K φ ρ H' env σ :=
  ⟨h.len, fun i s e => let ⟨v, a, b⟩ := h.get i s e; ⟨v, a, b.ext x f⟩⟩
theorem Sl.fresh {φ ρ : List Addr} {H : Hp} {p : Addr} {env : Env} {σ : St} (n : H p = none) (h : Sl K φ ρ H env σ) : Sl K (φ ++ [p]) ρ H env σ :=
  ⟨h.len, fun i s e => let ⟨v, a, b⟩ := h.get i s e; ⟨v, a, b.fresh n⟩⟩
theorem Sl.weak {φ ψ ρ : List Addr} {H : Hp} {env : Env} {σ : St} (w : ∀ a ∈ ψ, a ∈ φ) (h : Sl K φ ρ H env σ) : Sl K ψ ρ H env σ :=
  ⟨h.len, fun i s e => let ⟨v, a, b⟩ := h.get i s e; ⟨v, a, b.weak w⟩⟩
theorem Sl.set {φ ρ : List Addr} {H : Hp} {env : Env} {σ : St} {i : Nat} {s : SV} {v : V} (h : Sl K φ ρ H env σ) (r : RS K φ ρ H s v) : Sl K φ ρ H (env.set i (some s)) (σ.set i (some v)) := by
  refine ⟨by simp [h.len], fun j t e => ?_⟩
  by_cases z : j = i
  · subst z
    by_cases l : j < env.length
    · rw [List.getElem?_set_self l] at e
      cases e
      exact ⟨v, List.getElem?_set_self (by rw [← h.len]; exact l), r⟩
    · rw [List.getElem?_eq_none (by simpa using l)] at e; cases e
  · rw [List.getElem?_set_ne (Ne.symm z)] at e
    obtain ⟨w, a, b⟩ := h.get j t e
    exact ⟨w, by rw [List.getElem?_set_ne (Ne.symm z)]; exact a, b⟩
theorem Sl.wipe {φ ρ : List Addr} {H : Hp} {env : Env} {σ : St} (h : Sl K φ ρ H env σ) : ∀ vs : List Nat, Sl K φ ρ H (wipeE env vs) (L2.wipe σ vs)
  | [] => h
  | k :: vs => by
    have q := Sl.wipe h vs
    refine ⟨?_, fun j t e => ?_⟩
    · show ((wipeE env vs).set k none).length = ((L2.wipe σ vs).set k none).length
      rw [List.length_set, List.length_set]; exact q.len
    · have e : ((wipeE env vs).set k none)[j]? = some (some t) := e
      show ∃ v, ((L2.wipe σ vs).set k none)[j]? = some (some v) ∧ _
      by_cases z : j = k
      · subst z
        by_cases l : j < (wipeE env vs).length
        · rw [List.getElem?_set_self l] at e; cases e
        · rw [List.getElem?_eq_none (by simpa using l)] at e; cases e
      · rw [List.getElem?_set_ne (Ne.symm z)] at e
        obtain ⟨w, a, b⟩ := q.get j t e
        exact ⟨w, by rw [List.getElem?_set_ne (Ne.symm z)]; exact a, b⟩
theorem Tabs_ext {φ : List Addr} {H : Hp} (t : TbA T H) {p : Addr} {o : HO} (h : H p = none ∨ ∃ xs, H p = some (.lst xs)) (ho : ∀ ps, o ≠ .tbl ps := by intro _ z; cases z) : TbA T (upd H p o) := by
  have k : ∀ b u, H b = some u → (∀ xs, u ≠ .lst xs) → upd H p o b = some u := fun b u e n => by
    refine (upd_ne fun z => ?_).trans e
    subst z
    rcases h with h | ⟨xs, h⟩
    · rw [h] at e; cases e
    · rw [h] at e; cases e; exact n xs rfl
  refine ⟨fun q hq => ?_, fun a ps e => ?_⟩
  rotate_left
  · by_cases z : a = p
    · subst z
      rw [upd_same] at e
      exact absurd (Option.some.inj e) (ho ps)
    · rw [upd_ne z] at e
      exact t.2 a ps e
  obtain ⟨ps, h1, h2, h3⟩ := t.1 q hq
  refine ⟨ps, k _ _ h1 (fun xs z => by cases z), h2, fun pos cv hc => ?_⟩
  obtain ⟨c, e1, e2⟩ := h3 pos cv hc
  exact ⟨c, e1, k _ _ e2 (fun xs z => by unfold LamX.CodeO at z; cases z)⟩
/-- a new object comes -/
theorem Ws.new {φ ρ : List Addr} {H : Hp} {st : Sto} {p : Addr} {o : HO} (w : Ws K T φ ρ H st) (h : H p = none) (ho : ∀ ps, o ≠ .tbl ps := by intro _ z; cases z) : Ws K T φ ρ (upd H p o) st := by
  have x : Ext φ H (upd H p o) := .new h
  refine ⟨w.len, fun n ds e => ?_, w.nd, w.sub, fun a ha => ?_, Tabs_ext (φ := φ) w.tab (.inl h) ho⟩
  · obtain ⟨a, xs, h1, h2, h3⟩ := w.sto n ds e
    exact ⟨a, xs, h1, (upd_ne (ne_of_none h2 h)).trans h2, h3.ext x w.fl⟩
  · obtain ⟨u, e, m⟩ := w.fx a ha
    exact ⟨u, (upd_ne (ne_of_none e h)).trans e, m⟩
theorem Ws.fresh {φ ρ : List Addr} {H : Hp} {st : Sto} {p : Addr} {xs : List V} (w : Ws K T φ ρ H st) (h : H p = none) : Ws K T (φ ++ [p]) ρ (upd H p (.lst xs)) st := by
  have x : Ext φ H (upd H p (.lst xs)) := .new h
  have q := w.new (o := .lst xs) h
  refine ⟨q.len, fun n ds e => ?_, q.nd, fun a ha => List.mem_append_left _ (q.sub a ha), fun a ha => ?_, q.tab⟩
  · obtain ⟨a, ys, h1, h2, h3⟩ := w.sto n ds e
    refine ⟨a, ys, h1, (upd_ne (ne_of_none h2 h)).trans h2, ?_⟩
    have y : Ext (φ ++ [p]) H (upd H p (.lst xs)) := .new h
    have r := RDs.fresh h h3
    clear h3
    have key : ∀ {vs : List V} {ds : List D}, RDs K (φ ++ [p]) H vs ds → RDs K (φ ++ [p]) (upd H p (.lst xs)) vs ds := fun {vs ds} r => by
      refine RDs.rec (motive_1 := fun v d _ => RD K (φ ++ [p]) (upd H p (.lst xs)) v d) (motive_2 := fun v d _ => RDs K (φ ++ [p]) (upd H p (.lst xs)) v d) .non .bl .int .str (fun n e _ i => ?_) (fun e _ i => ?_) (fun e => .dct ((upd_ne (ne_of_none e h)).trans e)) .nil (fun _ _ i j => .cons i j) r
      · exact .lst n ((upd_ne fun z => n (by rw [z]; simp)).trans e) i
      · refine .tup ?_ i
        exact SqT.ext x w.fl e
    exact key r
  · rcases List.mem_append.mp ha with ha | ha
    · exact q.fx a ha
    · rw [List.mem_singleton.mp ha]; exact ⟨_, upd_same, True.intro⟩
end Ev
set_option linter.all false
set_option maxRecDepth 100000
set_option maxHeartbeats 4000000
/-! Ev3: operators, subscripts, slices, built-in functions by values. -/
namespace Ev
open PySem PySem.Spec L2
variable {K : PySem.W.Frag} {T : List (Addr × Str)} {X : Cx}

structure Post (K : PySem.W.Frag) (T : List (Addr × Str)) (φ ρ : List Addr) (H H' : Hp) (env : Env) (σ : L2.St) (st' : Sto) (r : ER) (v : V) : Prop where
  ws : Ws K T φ ρ H' st'
  sl : Sl K φ ρ H' env σ
  ext : Ext ρ H H'
  rr : RR K φ ρ H' r v
  fr : ∀ d, r = .dat d true → ∃ p xs ds, d = .list ds ∧ v = .ref p ∧ H p = none ∧ H' p = some (.lst xs) ∧ RDs K (φ ++ [p]) H' xs ds ∧ Ws K T (φ ++ [p]) ρ H' st' ∧ Sl K (φ ++ [p]) ρ H' env σ
/-- what an expression is read as -/
def tF (K : PySem.W.Frag) (T : List (Addr × Str)) (F : Env → Sto → Option (ER × Sto)) : TE := fun σ H Q =>
  ∃ φ ρ env st r st', Ws K T φ ρ H st ∧ Sl K φ ρ H env σ ∧ F env st = some (r, st') ∧ ∀ v H', Post K T φ ρ H H' env σ st' r v → Q v H'

section
variable {φ ρ : List Addr} {H H1 H2 H' : Hp} {env : Env} {σ : L2.St} {st st1 st' : Sto} {r : ER} {v : V} {d : D}
theorem Post.at (ws : Ws K T φ ρ H st) (sl : Sl K φ ρ H env σ) (rr : RR K φ ρ H r v) (n : ∀ d, r ≠ .dat d true) : Post K T φ ρ H H env σ st r v :=
  ⟨ws, sl, .refl _ _, rr, fun d e => absurd e (n d)⟩
/-- put ahead of it what went before -/
theorem Post.pre (x : Ext ρ H H1) (p : Post K T φ ρ H1 H' env σ st' r v) : Post K T φ ρ H H' env σ st' r v :=
  ⟨p.ws, p.sl, x.trans p.ext, p.rr, fun d e => let ⟨q, xs, ds, h1, h2, h3, h4⟩ := p.fr d e; ⟨q, xs, ds, h1, h2, x.dom _ h3, h4⟩⟩
theorem Post.lst {p : Addr} {xs : List V} {ds : List D} (ws : Ws K T φ ρ H st) (sl : Sl K φ ρ H env σ) (h : H p = none) (rs : RDs K φ H xs ds) :
    Post K T φ ρ H (upd H p (.lst xs)) env σ st (.dat (.list ds) true) (.ref p) := by
  have x : Ext φ H (upd H p (.lst xs)) := .new h
  have y : Ext (φ ++ [p]) H (upd H p (.lst xs)) := .new h
  have np : p ∉ φ := fun z => by obtain ⟨ys, e, _⟩ := ws.fx p z; rw [h] at e; cases e
  have w2 : Ws K T (φ ++ [p]) ρ (upd H p (.lst xs)) st := ws.fresh h
  have lift : ∀ {v : V} {d : D}, RD K φ H v d → RD K (φ ++ [p]) (upd H p (.lst xs)) v d := fun {v d} r => by
    have r := RD.fresh h r
    refine RD.rec (motive_1 := fun v d _ => RD K (φ ++ [p]) (upd H p (.lst xs)) v d) (motive_2 := fun v d _ => RDs K (φ ++ [p]) (upd H p (.lst xs)) v d) .non .bl .int .str (fun n e _ i => ?_) (fun e _ i => ?_) (fun e => .dct ((upd_ne (ne_of_none e h)).trans e)) .nil (fun _ _ i j => .cons i j) r
    · exact .lst n ((upd_ne fun z => n (by rw [z]; simp)).trans e) i
    · exact .tup (SqT.ext x ws.fl e) i
  have lifts : ∀ {v : List V} {d : List D}, RDs K φ H v d → RDs K (φ ++ [p]) (upd H p (.lst xs)) v d := fun {v d} r => by
    induction d generalizing v with
    | nil => cases r; exact .nil
    | cons d ds ih =>
      cases r with
      | cons a b => exact .cons (lift a) (ih b)
  have rs2 := lifts rs
  refine ⟨ws.new h, sl.ext x ws.fl, .new h, .lst np upd_same (rs2.weak fun a ha => List.mem_append_left _ ha), fun d e => ?_⟩
  cases e
  refine ⟨p, xs, ds, rfl, rfl, h, upd_same, rs2, w2, sl.len, fun i s e => ?_⟩
  obtain ⟨u, h1, h2⟩ := sl.get i s e
  refine ⟨u, h1, ?_⟩
  cases s with
  | dat d => exact lift h2
  | loc n => exact h2
  | scr ns =>
    obtain ⟨a, e, h2⟩ := h2
    refine ⟨a, e, ?_⟩
    rcases h2 with ⟨o, h2⟩ | h2
    · exact .inl ⟨o, (upd_ne (ne_of_none h2 h)).trans h2⟩
    · exact .inr h2
theorem Post.tup {p : Addr} {xs : List V} {ds : List D} (ws : Ws K T φ ρ H st) (sl : Sl K φ ρ H env σ) (h : H p = none) (rs : RDs K φ H xs ds) :
    Post K T φ ρ H (upd H p (.tup xs)) env σ st (.dat (.tuple ds) false) (.ref p) := by
  have x : Ext φ H (upd H p (.tup xs)) := .new h
  exact ⟨ws.new h, sl.ext x ws.fl, .new h, .tup (.inl (.inl upd_same)) (rs.ext x ws.fl), fun d e => by cases e⟩
/-- v as it is read: a list may be one that is changed -/
def RV (K : PySem.W.Frag) (φ : List Addr) (H : Hp) (v : V) : D → Prop
  | .list ds => ∃ a xs, v = .ref a ∧ H a = some (.lst xs) ∧ RDs K φ H xs ds
  | d => RD K φ H v d
theorem RV.of (h : RD K φ H v d) : RV K φ H v d := by
  cases h with
  | lst n e r => exact ⟨_, _, rfl, e, r⟩
  | tup e r => exact .tup e r
  | dct e => exact .dct e
  | non => exact .non
  | bl b => exact .bl b
  | int i => exact .int i
  | str x => exact .str x
theorem RV.dp (c : okSh d = true) (h : RV K φ H v d) : Dp K H v d := by
  have c : d.canLay0 = true := SeqAt.canLay_of_shaped c
  cases d with
  | list ds =>
    obtain ⟨a, xs, rfl, e, r⟩ := h
    exact .lst (.inl (.inl e)) (r.dp (by simpa [PyData.canLay0] using c))
  | none => exact RD.dp c h
  | bool b => exact RD.dp c h
  | int i => exact RD.dp c h
  | str x => exact RD.dp c h
  | tuple xs => exact RD.dp c h
  | dict k => exact RD.dp c h
theorem rd_view (ws : Ws K T φ ρ H st) (rr : RR K φ ρ H r v) (e : rdE st r = some d) : RV K φ H v d := by
  cases r with
  | dat d' fr =>
    cases e
    exact .of rr
  | loc n =>
    obtain ⟨a, h1, rfl⟩ := rr
    obtain ⟨ds, h2, rfl⟩ := Option.map_eq_some_iff.mp e
    obtain ⟨a', xs, h3, h4, h5⟩ := ws.sto n ds h2
    rw [h1] at h3; cases h3
    exact ⟨a, xs, rfl, h4, h5⟩
  | scr ns => cases e
end

/-! ### arithmetic -/
def rBin (K : PySem.W.Frag) : Operator → R2
  | .Add => fun x y H Q => rI0 (fun i j => .int (i + j)) x y H Q ∨ rCat x y H Q ∨ rCatA K x y H Q ∨ (∃ i j, x = .str i ∧ y = .str j ∧ i.length + j.length ≤ sizeLine ∧ Q (.str (i ++ j)) H)
  | .Sub => rI0 fun i j => .int (i - j)
  | .Mult => fun x y H Q => rI CMul (fun i j => .int (i * j)) x y H Q ∨ rRep x y H Q ∨ rRepT K x y H Q
  | .FloorDiv => fun x y H Q => rI CDivW (fun i j => .int (i / j)) x y H Q ∨ rI CDivN (fun i j => .int (i.fdiv j)) x y H Q
  | .Mod => rI (fun _ j => 0 < j) fun i j => .int (i % j)
  | .Pow => rI CPow fun i j => .int (i ^ j.toNat)
  | _ => fun _ _ _ _ => False
theorem lt_fdiv {j : Int} (h : 0 < j) (h2 : j < 2 ^ 100) : j.natAbs.log2 < 9000 := by
  have h3 : j.natAbs < 2 ^ 100 := by
    have : ((j.natAbs : Nat) : Int) = j := Int.natAbs_of_nonneg (by omega)
    have h4 : ((j.natAbs : Nat) : Int) < ((2 ^ 100 : Nat) : Int) := by rw [this]; exact_mod_cast h2
    exact_mod_cast h4
  exact Nat.lt_of_lt_of_le ((Nat.log2_lt (by omega)).mpr h3) (by decide)
theorem or_bin (o : Operator) : OpR X (binaryOp o) (rBin X.K o) := by
  cases o with
  | Add => exact op_add.or (op_cat.or (op_catA.or op_add_str))
  | Sub => exact op_sub
  | Mult => exact op_mul.or (op_rep.or op_repT)
  | FloorDiv => exact op_fdivW.or op_fdivN
  | Mod => exact op_mod
  | Pow => exact op_pow
  | _ => exact fun _ _ _ _ _ _ _ _ _ _ _ _ h => h.elim
section
variable {φ ρ : List Addr} {H H1 H2 H' : Hp} {env : Env} {σ : L2.St} {st st1 st' : Sto} {d e z : D} {x y v : V} {Q : VK}
theorem bin_ok {o : Operator} {fr : Bool} (ws : Ws K T φ ρ H st) (sl : Sl K φ ρ H env σ) (hx : RV K φ H x d) (hy : RV K φ H y e) (h : binD o d e = some (z, fr))
    (hQ : ∀ v H', Post K T φ ρ H H' env σ st (.dat z fr) v → Q v H') : rBin K o x y H Q := by
  have flat : ∀ {v : V}, RD K φ H v z → fr = false → Q v H := fun {v} r e => hQ v H (.at ws sl r (fun d q => by subst e; cases q))
  unfold binD at h
  split at h
  · cases h; cases hx; cases hy
    exact .inl ⟨_, _, rfl, rfl, flat (.int _) rfl⟩
  · split at h
    · rename_i hl
      cases h
      obtain ⟨a, xs, rfl, h1, h2⟩ := hx
      obtain ⟨b, ys, rfl, h3, h4⟩ := hy
      refine .inr (.inl ⟨a, b, xs, ys, rfl, rfl, h1, h3, by rw [h2.length, h4.length]; exact hl, fun p hp => hQ _ _ (.lst ws sl hp (h2.append h4))⟩)
    · cases h
  · split at h
    · rename_i hl
      cases h
      cases hx with
      | tup h1 h2 =>
        cases hy with
        | tup h3 h4 =>
          refine .inr (.inr (.inl ⟨_, _, _, _, rfl, rfl, h1, h3, by rw [h2.length, h4.length]; exact hl, fun q => ?_, fun _ q => ?_, fun _ _ p hp => hQ _ _ (.tup ws sl hp (h2.append h4))⟩))
          · subst q
            cases h2
            exact flat (.tup h3 h4) rfl
          · subst q
            cases h4
            exact flat (.tup h1 (by rw [List.append_nil]; exact h2)) rfl
    · cases h
  · split at h
    · rename_i hl
      cases h; cases hx; cases hy
      exact .inr (.inr (.inr ⟨_, _, rfl, rfl, hl, flat (.str _) rfl⟩))
    · cases h
  · cases h; cases hx; cases hy
    exact ⟨_, _, rfl, rfl, flat (.int _) rfl⟩
  · split at h
    · rename_i hl
      cases h; cases hx; cases hy
      exact .inl ⟨_, _, rfl, rfl, hl, flat (.int _) rfl⟩
    · cases h
  · split at h
    · rename_i hl
      cases h; cases hy
      obtain ⟨a, xs, rfl, h1, h2⟩ := hx
      exact .inr (.inl ⟨a, _, xs, rfl, rfl, h1, hl.1, hl.2.1, by rw [h2.length]; exact hl.2.2, fun p hp => hQ _ _ (.lst ws sl hp (h2.rep _))⟩)
    · cases h
  · split at h
    · rename_i hl
      cases h; cases hy
      cases hx with
      | tup h1 h2 =>
        have e := h2.length
        refine .inr (.inr ⟨_, _, _, rfl, rfl, h1, fun q => hl.1 ?_, hl.2.1, hl.2.2.1, by rw [e]; exact hl.2.2.2, fun p hp => hQ _ _ (.tup ws sl hp (h2.rep _))⟩)
        rw [q] at e
        exact List.length_eq_zero_iff.mp e.symm
    · cases h
  · split at h
    · rename_i hl
      cases h; cases hx; cases hy
      exact .inl ⟨_, _, rfl, rfl, ⟨hl.1, lt_fdiv hl.1 hl.2⟩, flat (.int _) rfl⟩
    · split at h
      · rename_i hl
        cases h; cases hx; cases hy
        exact .inr ⟨_, _, rfl, rfl, ⟨by omega, by omega⟩, flat (.int _) rfl⟩
      · cases h
  · split at h
    · rename_i hl
      cases h; cases hx; cases hy
      exact ⟨_, _, rfl, rfl, hl, flat (.int _) rfl⟩
    · cases h
  · split at h
    · rename_i hl
      cases h; cases hx; cases hy
      exact ⟨_, _, rfl, rfl, hl, flat (.int _) rfl⟩
    · cases h
  · cases h
/-! ### comparisons -/
end
def rInT (K : PySem.W.Frag) (neg : Bool) : R2 := fun x y H Q => ∃ d ds, Dp K H x d ∧ Dp K H y (.tuple ds) ∧ okSh d = true ∧ okSh (.tuple ds) = true ∧ Q (.bl (neg ^^ ds.any fun z => PyData.eqv z d)) H
theorem op_inT (hu : X.A.units + 65 < cLine) : OpR X (compareOp .In) (rInT X.K false) := by
  intro pins s σ H x y v u Q I rx ry h
  obtain ⟨d, ds, hd, he, sd, se, q⟩ := h
  obtain ⟨as, r1⟩ := Dp.reads I d x v hd rx
  obtain ⟨bs, r2⟩ := Dp.reads I (.tuple ds) y u he ry
  rw [Bool.false_xor] at q
  exact SeqAt.in_tuple_reads r2 r1 (SeqAt.canLay_of_shaped se) (SeqAt.canLay_of_shaped sd) (PyProof.Rows.room_in_shaped sd hu) ⟨.bl _, H, I, rfl, q⟩
theorem op_ninT (hu : X.A.units + 65 < cLine) : OpR X (compareOp .NotIn) (rInT X.K true) := by
  intro pins s σ H x y v u Q I rx ry h
  obtain ⟨d, ds, hd, he, sd, se, q⟩ := h
  obtain ⟨as, r1⟩ := Dp.reads I d x v hd rx
  obtain ⟨bs, r2⟩ := Dp.reads I (.tuple ds) y u he ry
  rw [Bool.true_xor] at q
  exact SeqAt.notIn_tuple_reads r2 r1 (SeqAt.canLay_of_shaped se) (SeqAt.canLay_of_shaped sd) (PyProof.Rows.room_in_shaped sd hu) ⟨.bl _, H, I, rfl, q⟩
def rCmp (K : PySem.W.Frag) : CmpOp → R2
  | .Eq => fun x y H Q => rEqD K x y H Q ∨ rEq x y H Q
  | .NotEq => fun x y H Q => rNeD K x y H Q ∨ rNe x y H Q
  | .Lt => rI0 fun i j => .bl (decide (i < j))
  | .LtE => rI0 fun i j => .bl (decide (i ≤ j))
  | .Gt => rI0 fun i j => .bl (decide (j < i))
  | .GtE => rI0 fun i j => .bl (decide (j ≤ i))
  | .In => fun x y H Q => rInD K x y H Q ∨ rInT K false x y H Q
  | .NotIn => fun x y H Q => rNotInD K x y H Q ∨ rInT K true x y H Q
  | .Is => fun x y H Q => (y = .non ∧ Q (.bl (decide (x = .non))) H) ∨ (rIsB x y H Q ∨ ∃ i b, x = .int i ∧ y = .bl b ∧ Q (.bl false) H)
  | .IsNot => fun x y H Q => (y = .non ∧ Q (.bl (!decide (x = .non))) H) ∨ rNotB x y H Q
theorem op_isIB : OpR X (compareOp .Is) (fun x y H Q => ∃ i b, x = .int i ∧ y = .bl b ∧ Q (.bl false) H) := by
  intro pins s σ H x y v u Q I rx ry h
  obtain ⟨i, b, rfl, rfl, q⟩ := h
  obtain ⟨t, rfl⟩ := (show ∃ t, v = Value.int i t from rx)
  cases (show u = Value.bool b from ry)
  exact wpAny_is_other rfl (fun z => by cases z) ⟨.bl false, H, I, rfl, q⟩
theorem or_cmp (hu : X.A.units + 65 < cLine) (o : CmpOp) : OpR X (compareOp o) (rCmp X.K o) := by
  cases o with
  | Eq => exact OpR.or (op_eqD (by omega)) op_eq
  | NotEq => exact OpR.or (op_neD (by omega)) op_ne
  | Lt => exact op_lt
  | LtE => exact op_le
  | Gt => exact op_gt
  | GtE => exact op_ge
  | In => exact (op_inD hu).or (op_inT hu)
  | NotIn => exact (op_notInD hu).or (op_ninT hu)
  | Is => exact OpR.or op_isN (OpR.or op_isBl op_isIB)
  | IsNot => exact OpR.or op_notN op_notBl
section
variable {φ ρ : List Addr} {H H1 H2 H' : Hp} {env : Env} {σ : L2.St} {st st1 st' : Sto} {d e z : D} {x y v : V} {Q : VK}
theorem rv_non (hx : RV K φ H x d) : decide (x = .non) = eqD d .none := by
  cases d with
  | none => cases hx; rfl
  | list xs => obtain ⟨a, vs, rfl, _⟩ := hx; rfl
  | bool b => cases hx; rfl
  | int b => cases hx; rfl
  | str b => cases hx; rfl
  | tuple b => cases hx; rfl
  | dict b => cases hx; rfl
theorem cmp_ok {o : CmpOp} {b : Bool} (hx : RV K φ H x d) (hy : RV K φ H y e) (h : cmpD o d e = some b) (hQ : Q (.bl b) H) : rCmp K o x y H Q := by
  unfold cmpD at h
  split at h
  · cases h; cases hx; cases hy
    refine .inr ⟨rfl, ?_⟩
    rw [decide_eq_decide.mpr (show (V.str _ = V.str _ ↔ _) from ⟨fun z => by injection z, fun z => by rw [z]⟩)]
    exact hQ
  · cases h; cases hx; cases hy
    refine .inr ⟨rfl, ?_⟩
    rw [decide_eq_decide.mpr (show (V.str _ = V.str _ ↔ _) from ⟨fun z => by injection z, fun z => by rw [z]⟩)]
    exact hQ
  · split at h
    · rename_i hl
      obtain ⟨h1, h2⟩ := Bool.and_eq_true_iff.mp hl
      cases h
      exact .inl ⟨_, _, hx.dp h1, hy.dp h2, h1, h2, hQ⟩
    · cases h
  · split at h
    · rename_i hl
      obtain ⟨h1, h2⟩ := Bool.and_eq_true_iff.mp hl
      cases h
      exact .inl ⟨_, _, hx.dp h1, hy.dp h2, h1, h2, hQ⟩
    · cases h
  · cases h; cases hx; cases hy; exact ⟨_, _, rfl, rfl, hQ⟩
  · cases h; cases hx; cases hy; exact ⟨_, _, rfl, rfl, hQ⟩
  · cases h; cases hx; cases hy; exact ⟨_, _, rfl, rfl, hQ⟩
  · cases h; cases hx; cases hy; exact ⟨_, _, rfl, rfl, hQ⟩
  · cases h; cases hy; rw [← rv_non hx] at hQ; exact .inl ⟨rfl, hQ⟩
  · cases h; cases hy; rw [← rv_non hx] at hQ; exact .inl ⟨rfl, hQ⟩
  · cases h; cases hx; cases hy; exact .inr (.inl ⟨_, _, rfl, rfl, hQ⟩)
  · cases h; cases hx; cases hy; exact .inr (.inr ⟨_, _, rfl, rfl, hQ⟩)
  · cases h; cases hx; cases hy; exact .inr ⟨_, _, rfl, rfl, hQ⟩
  · split at h
    · rename_i hl
      obtain ⟨h1, h2⟩ := Bool.and_eq_true_iff.mp hl
      cases h
      exact .inl ⟨_, _, hx.dp h1, hy.dp h2, h1, h2, hQ⟩
    · cases h
  · split at h
    · rename_i hl
      obtain ⟨h1, h2⟩ := Bool.and_eq_true_iff.mp hl
      cases h
      exact .inr ⟨_, _, hx.dp h1, hy.dp h2, h1, h2, by rw [Bool.false_xor]; exact hQ⟩
    · cases h
  · split at h
    · rename_i hl
      obtain ⟨h1, h2⟩ := Bool.and_eq_true_iff.mp hl
      cases h
      exact .inl ⟨_, _, hx.dp h1, hy.dp h2, h1, h2, hQ⟩
    · cases h
  · split at h
    · rename_i hl
      obtain ⟨h1, h2⟩ := Bool.and_eq_true_iff.mp hl
      cases h
      exact .inr ⟨_, _, hx.dp h1, hy.dp h2, h1, h2, by rw [Bool.true_xor]; exact hQ⟩
    · cases h
  · cases h

/-! ### subscripts, slices, kinds, truth -/
theorem atI_rds {xs : List V} {ds : List D} {i : Int} (r : RDs K φ H xs ds) (h : atI ds i = some d) : ∃ v, atI xs i = some v ∧ RD K φ H v d := by
  unfold atI at h ⊢
  rw [r.length]
  cases e : ixN ds.length i with
  | none => rw [e] at h; cases h
  | some j =>
    rw [e] at h
    exact r.get h
theorem idx_ok (hx : RV K φ H x d) (hy : RV K φ H y e) (h : idxD d e = some z) (hQ : ∀ v, RD K φ H v z → Q v H) : rIxL K x y H Q ∨ rIxT K x y H Q := by
  unfold idxD at h
  split at h
  · cases hy
    obtain ⟨a, xs, rfl, h1, h2⟩ := hx
    obtain ⟨v, h3, h4⟩ := atI_rds h2 h
    exact .inl ⟨_, _, _, _, rfl, rfl, .inl (.inl h1), h3, hQ v h4⟩
  · cases hy
    cases hx with
    | tup h1 h2 =>
      obtain ⟨v, h3, h4⟩ := atI_rds h2 h
      exact .inr ⟨_, _, _, _, rfl, rfl, h1, h3, hQ v h4⟩
  · cases h
theorem cut_rds {xs : List V} {ds : List D} {lo hi : Option Int} (r : RDs K φ H xs ds) : RDs K φ H (cutV xs lo hi) (cutD ds lo hi) := by
  unfold cutV cutD
  rw [r.length]
  exact (r.drop _).take _
theorem sIx_whole {n : Nat} {lo hi : Option Int} (h : HT.sIx n 0 lo = 0 ∧ HT.sIx n n hi = n) (ds : List D) (e : ds.length = n) : cutD ds lo hi = ds := by
  unfold cutD
  rw [e, h.1, h.2, Nat.sub_zero, List.drop_zero, ← e, List.take_length]
theorem cut_ok_l {xs : List V} {ds : List D} {a : Addr} {lo hi : Option Int} (ws : Ws K T φ ρ H st) (sl : Sl K φ ρ H env σ) (h1 : H a = some (.lst xs)) (h2 : RDs K φ H xs ds)
    (hQ : ∀ v H', Post K T φ ρ H H' env σ st (.dat (.list (cutD ds lo hi)) true) v → Q v H') : rSlL K (.ref a) lo hi H Q ∨ rSlA K (.ref a) lo hi H Q :=
  .inl ⟨a, xs, rfl, .inl (.inl h1), fun p hp => hQ _ _ (.lst ws sl hp (cut_rds h2))⟩
theorem cut_ok_t {xs : List V} {ds : List D} {a : Addr} {lo hi : Option Int} (ws : Ws K T φ ρ H st) (sl : Sl K φ ρ H env σ) (h1 : SqT K H a xs) (h2 : RDs K φ H xs ds)
    (hQ : ∀ v H', Post K T φ ρ H H' env σ st (.dat (.tuple (cutD ds lo hi)) false) v → Q v H') : rSlL K (.ref a) lo hi H Q ∨ rSlA K (.ref a) lo hi H Q := by
  refine .inr ⟨a, xs, rfl, h1, fun q => ?_, fun _ p hp => hQ _ _ (.tup ws sl hp (cut_rds h2))⟩
  rw [h2.length] at q
  refine hQ _ _ (.at ws sl ?_ (fun d e => by cases e))
  rw [sIx_whole q ds rfl]
  exact .tup h1 h2
theorem sl_any : SlR X (fun x lo hi H Q => rSlL X.K x lo hi H Q ∨ rSlA X.K x lo hi H Q) := sl_list.or sl_tupA
theorem isi_ok {t : String} {b : Bool} (hx : RV K φ H x d) (h : isD t d = some b) (hQ : Q (.bl b) H) : rIsi K [x, .ty t] H Q := by
  have ty : ∀ {n : String}, TyX K H x (.type n) → L2.kitB n t = some b → rIsi K [x, .ty t] H Q := fun {n} h1 h2 => ⟨x, .ty t, .type n, .type t, b, rfl, .ty t, h1, kit_ty h2, hQ⟩
  cases d with
  | none => cases hx; exact ty (.base .non) h
  | bool c => cases hx; exact ty (.base (.bl c)) h
  | int i => cases hx; exact ty (.base (.int i)) h
  | str s => cases hx; exact ty (.base (.str s)) h
  | list ds => obtain ⟨a, xs, rfl, h1, h2⟩ := hx; exact ty (.base (.lst h1)) h
  | tuple ds =>
    cases hx with
    | tup h1 h2 =>
      rcases h1 with (h1 | ⟨o, h1⟩) | ⟨o, its, n, h1, h3, _⟩
      · exact ty (.base (.tup h1)) h
      · exact ty (.fTuple h1) h
      · exact ty (.kTuple h1 h3) h
  | dict kvs => cases hx with | dct h1 => exact ty (.base (.dK h1)) h
theorem tru_of {b : Bool} (hx : RV K φ H x d) (h : truD d = some b) : TruV K x H b := by
  cases d with
  | none => cases hx; cases h; rfl
  | bool c => cases hx; cases h; rfl
  | int i => cases hx; cases h; rfl
  | str s =>
    cases hx
    simp only [truD] at h
    split at h
    · rename_i hl
      cases h
      exact ⟨hl, rfl⟩
    · cases h
  | list ds =>
    obtain ⟨a, xs, rfl, h1, h2⟩ := hx
    cases h
    refine .inl ⟨xs, .inl (.inl h1), ?_⟩
    cases h2 <;> rfl
  | tuple ds =>
    cases hx with
    | tup h1 h2 =>
      cases h
      refine .inr (.inl ⟨_, h1, ?_⟩)
      cases h2 <;> rfl
  | dict kvs => cases h
end
end Ev
set_option linter.all false
set_option maxRecDepth 100000
set_option maxHeartbeats 4000000
/-! Ev4: expressions. -/
namespace Ev
open PySem PySem.Spec L2
variable {K : PySem.W.Frag} {T : List (Addr × Str)} {X : Cx} {G : Pk} {cl : Str → List SV → Sto → Option (ER × Sto)}

theorem imp {e : Expr} {t t' : TE} (h : PE X e t) (k : ∀ σ H Q, t' σ H Q → t σ H Q) : PE X e t' := ⟨fun pins s σ H Q I q => h.run pins s σ H Q I (k σ H Q q)⟩
theorem impT {e : Expr} {t t' : TT} (h : PT X e t) (k : ∀ σ H Q, t' σ H Q → t σ H Q) : PT X e t' := ⟨fun pins s σ H Q I q => h.run pins s σ H Q I (k σ H Q q)⟩
theorem impW {e : Expr} {t t' : TT} (h : PW X e t) (k : ∀ σ H Q, t' σ H Q → t σ H Q) : PW X e t' := ⟨fun wh pins s σ H Q I q => h.run wh pins s σ H Q I (k σ H Q q)⟩
theorem impA {es : List Expr} {t t' : TA} (h : PA X es t) (k : ∀ σ H Q, t' σ H Q → t σ H Q) : PA X es t' := ⟨fun pos pins s σ H Q I q => h.run pos pins s σ H Q I (k σ H Q q)⟩

/-- no star, no set, no slice -/
def pln : Expr → Bool
  | .Starred .. => false
  | .Set .. => false
  | .Slice .. => false
  | _ => true
theorem pln_star {e : Expr} (h : pln e = true) (es : List Expr) (env : PySem.Env) : starEach (e :: es) env = (false, eval e env) :: starEach es env := by
  cases e <;> first | rfl | (exact absurd (show false = true from h) Bool.false_ne_true)
theorem pln_mark {e : Expr} (h : pln e = true) (op : CmpOp) : behindInMarks op e = false := by
  cases e <;> first | rfl | (exact absurd (show false = true from h) Bool.false_ne_true)
theorem pln_last {e c : Expr} (h : pln c = true) (op op' : CmpOp) : lastMarks [op, op'] [e, c] = false := by
  show behindInMarks op' c = false
  exact pln_mark h _
theorem pln_ix {e : Expr} (h : pln e = true) : PlainIx e := by
  intro o i
  cases e <;> first | rfl | (exact absurd (show false = true from h) Bool.false_ne_true)
theorem pln_fold {e : Expr} (h : pln e = true) (env : PySem.Env) (x : Value) : foldedSetIterable e env x = pure x := by
  cases e <;> first | rfl | (exact absurd (show false = true from h) Bool.false_ne_true)

section
variable {φ ρ : List Addr} {H H1 H2 H' : Hp} {env : Env} {σ : L2.St} {st st1 st2 st' : Sto} {d e z : D} {x y : ER} {v : V} {Q : VK}
  {Fa Fb F : Env → Sto → Option (ER × Sto)}
theorem seq1 {R : V → Hp → Prop} (ws : Ws K T φ ρ H st) (sl : Sl K φ ρ H env σ) (ha : Fa env st = some (x, st1))
    (k : ∀ u H1, Ws K T φ ρ H1 st1 → Sl K φ ρ H1 env σ → Ext ρ H H1 → RR K φ ρ H1 x u → R u H1) : tF K T Fa σ H R :=
  ⟨φ, ρ, env, st, x, st1, ws, sl, ha, fun u H1 p => k u H1 p.ws p.sl p.ext p.rr⟩
theorem seq2 {R : V → V → Hp → Prop} (ws : Ws K T φ ρ H st) (sl : Sl K φ ρ H env σ) (ha : Fa env st = some (x, st1)) (hb : Fb env st1 = some (y, st2))
    (k : ∀ u v H2, Ws K T φ ρ H2 st2 → Sl K φ ρ H2 env σ → Ext ρ H H2 → RR K φ ρ H2 x u → RR K φ ρ H2 y v → R u v H2) :
    tF K T Fa σ H fun u H1 => tF K T Fb σ H1 fun v H2 => R u v H2 :=
  seq1 ws sl ha fun u H1 w1 s1 e1 r1 => seq1 w1 s1 hb fun v H2 w2 s2 e2 r2 => k u v H2 w2 s2 (e1.trans e2) (RS.ext (e2.more w1.sub) w1.fl r1) r2
theorem tF_mono {F : Env → Sto → Option (ER × Sto)} {Q Q' : VK} (h : ∀ v H, Q v H → Q' v H) (t : tF K T F σ H Q) : tF K T F σ H Q' := by
  obtain ⟨φ, ρ, env, st, r, st', a, b, c, d⟩ := t
  exact ⟨φ, ρ, env, st, r, st', a, b, c, fun v H' p => h v H' (d v H' p)⟩
end

/-! ### tests -/
structure PostB (K : PySem.W.Frag) (T : List (Addr × Str)) (φ ρ : List Addr) (H H' : Hp) (env : Env) (σ : L2.St) (st' : Sto) : Prop where
  ws : Ws K T φ ρ H' st'
  sl : Sl K φ ρ H' env σ
  ext : Ext ρ H H'
def tT (K : PySem.W.Frag) (T : List (Addr × Str)) (F : Env → Sto → Option (ER × Sto)) : TT := fun σ H Q =>
  ∃ φ ρ env st b st', Ws K T φ ρ H st ∧ Sl K φ ρ H env σ ∧ tstE (F env st) = some (b, st') ∧ ∀ H', PostB K T φ ρ H H' env σ st' → Q b H'
theorem tst_some {r : Option (ER × Sto)} {b : Bool} {st' : Sto} (h : tstE r = some (b, st')) : ∃ x d, r = some (x, st') ∧ rdE st' x = some d ∧ truD d = some b := by
  cases r with
  | none => cases h
  | some p =>
    obtain ⟨x, s⟩ := p
    simp only [tstE] at h
    split at h
    · split at h
      · cases h; exact ⟨x, _, rfl, by assumption, by assumption⟩
      · cases h
    · cases h
section
variable {φ ρ : List Addr} {H H1 H2 H' : Hp} {env : Env} {σ : L2.St} {st st1 st2 st' : Sto} {b : Bool} {F : Env → Sto → Option (ER × Sto)}
theorem seqT {R : Bool → Hp → Prop} (ws : Ws K T φ ρ H st) (sl : Sl K φ ρ H env σ) (ha : tstE (F env st) = some (b, st1))
    (k : ∀ H1, Ws K T φ ρ H1 st1 → Sl K φ ρ H1 env σ → Ext ρ H H1 → R b H1) : tT K T F σ H R :=
  ⟨φ, ρ, env, st, b, st1, ws, sl, ha, fun H1 p => k H1 p.ws p.sl p.ext⟩
end
/-- by its value's truth -/
theorem pt_plain {e : Expr} {F : Env → Sto → Option (ER × Sto)} (he : PE X e (tF X.K T F)) (h : ∀ whole, isTrue e X.env whole = (do let v ← whole; standAt e.pos; holding [v] (truthy v))) : PT X e (tT X.K T F) := by
  refine impT (pt_truth he h) fun σ H Q q => ?_
  obtain ⟨φ, ρ, env, st, b, st', ws, sl, hb, k⟩ := q
  obtain ⟨x, d, h1, h2, h3⟩ := tst_some hb
  exact seq1 ws sl h1 fun u H1 w1 s1 e1 r1 => ⟨b, tru_of (rd_view w1 r1 h2) h3, k H1 ⟨w1, s1, e1⟩⟩

/-! ### names and constants -/
theorem ok_const {e : Expr} {v : V} {d : D} {F : Env → Sto → Option (ER × Sto)} (h : PE X e (tC v)) (hF : ∀ env st, F env st = some (.dat d false, st)) (r : ∀ φ H, RD X.K φ H v d) : PE X e (tF X.K T F) := by
  refine imp h fun σ H Q q => ?_
  obtain ⟨φ, ρ, env, st, x, st', ws, sl, he, k⟩ := q
  rw [hF] at he
  cases he
  exact k v H (.at ws sl (r φ H) (fun d e => by cases e))
theorem ok_slot {e : Expr} {i : Nat} (h : PE X e (tVar i)) : PE X e (tF X.K T (evE G cl (.slot i))) := by
  refine imp h fun σ H Q q => ?_
  obtain ⟨φ, ρ, env, st, x, st', ws, sl, he, k⟩ := q
  simp only [evE] at he
  split at he
  · rename_i s hs
    cases he
    obtain ⟨v, h1, h2⟩ := sl.get i s hs
    refine ⟨v, h1, k v H (.at ws sl ?_ (fun d e => ?_))⟩
    · cases s <;> exact h2
    · cases s <;> cases e
  · cases he
theorem ok_con {e : Expr} {x : Str} {v : V} {d : D} (h : PE X e (tC v)) (hd : G.con x = some d) (r : ∀ φ H, RD X.K φ H v d) : PE X e (tF X.K T (evE G cl (.con x))) :=
  ok_const h (fun env st => by simp only [evE, hd]) r

/-! ### operators -/
section
variable {a b c : Expr} {a' b' c' : IE} {pos : Pos}
theorem ok_bin {o : Operator} (ha : PE X a (tF X.K T (evE G cl a'))) (hb : PE X b (tF X.K T (evE G cl b'))) : PE X (.BinOp a o b pos) (tF X.K T (evE G cl (.bin o a' b'))) := by
  refine imp (pe_op (or_bin o) ha hb) fun σ H Q q => ?_
  obtain ⟨φ, ρ, env, st, x, st', ws, sl, he, k⟩ := q
  simp only [evE] at he
  split at he
  · rename_i x1 st1 h1
    split at he
    · rename_i x2 st2 h2
      split at he
      · rename_i d e h3 h4
        split at he
        · rename_i r fr h5
          cases he
          exact seq2 ws sl h1 h2 fun u v H2 w2 s2 e2 ru rv => bin_ok w2 s2 (rd_view w2 ru h3) (rd_view w2 rv h4) h5 fun v H' p => k v H' (p.pre e2)
        · cases he
      · cases he
    · cases he
  · cases he
theorem ok_neg (ha : PE X a (tF X.K T (evE G cl a'))) : PE X (.UnaryOp .USub a pos) (tF X.K T (evE G cl (.neg a'))) := by
  refine imp (pe_un un_neg ha) fun σ H Q q => ?_
  obtain ⟨φ, ρ, env, st, x, st', ws, sl, he, k⟩ := q
  simp only [evE] at he
  split at he
  · rename_i i fr st1 h1
    cases he
    refine seq1 ws sl h1 fun u H1 w1 s1 e1 r1 => ?_
    cases (show RD X.K φ H1 u (.int i) from r1)
    exact ⟨_, rfl, k _ _ ⟨w1, s1, e1, .int _, fun d e => by cases e⟩⟩
  · cases he
theorem ok_no (ha : PE X a (tF X.K T (evE G cl a'))) : PE X (.UnaryOp .Not a pos) (tF X.K T (evE G cl (.no a'))) := by
  refine imp (pe_notT ha) fun σ H Q q => ?_
  obtain ⟨φ, ρ, env, st, x, st', ws, sl, he, k⟩ := q
  simp only [evE] at he
  split at he
  · rename_i b st1 h1
    cases he
    obtain ⟨x, d, h1, h2, h3⟩ := tst_some h1
    exact seq1 ws sl h1 fun u H1 w1 s1 e1 r1 => ⟨b, tru_of (rd_view w1 r1 h2) h3, k _ _ ⟨w1, s1, e1, .bl _, fun d e => by cases e⟩⟩
  · cases he
theorem okT_no (ha : PT X a (tT X.K T (evE G cl a'))) : PT X (.UnaryOp .Not a pos) (tT X.K T (evE G cl (.no a'))) := by
  refine impT (pt_not ha) fun σ H Q q => ?_
  obtain ⟨φ, ρ, env, st, b, st', ws, sl, hb, k⟩ := q
  simp only [evE] at hb
  cases h : tstE (evE G cl a' env st) with
  | none => rw [h] at hb; cases hb
  | some p =>
    obtain ⟨c, st1⟩ := p
    rw [h] at hb
    simp only [tstE, rdE, truD] at hb
    cases hb
    exact seqT ws sl h fun H1 w1 s1 e1 => k H1 ⟨w1, s1, e1⟩
theorem tst_land {env : Env} {st : Sto} : tstE (evE G cl (.land a' b') env st) = match tstE (evE G cl a' env st) with
    | some (true, st1) => tstE (evE G cl b' env st1)
    | some (false, st1) => some (false, st1)
    | none => none := by
  simp only [evE]
  cases h : evE G cl a' env st with
  | none => rfl
  | some p =>
    obtain ⟨x, st1⟩ := p
    simp only [tstE]
    cases h1 : rdE st1 x with
    | none => rfl
    | some d =>
      simp only
      cases h2 : truD d with
      | none => rfl
      | some k => cases k <;> simp only [tstE, h1, h2]
theorem tst_lor {env : Env} {st : Sto} : tstE (evE G cl (.lor a' b') env st) = match tstE (evE G cl a' env st) with
    | some (true, st1) => some (true, st1)
    | some (false, st1) => tstE (evE G cl b' env st1)
    | none => none := by
  simp only [evE]
  cases h : evE G cl a' env st with
  | none => rfl
  | some p =>
    obtain ⟨x, st1⟩ := p
    simp only [tstE]
    cases h1 : rdE st1 x with
    | none => rfl
    | some d =>
      simp only
      cases h2 : truD d with
      | none => rfl
      | some k => cases k <;> simp only [tstE, h1, h2]
theorem ok_land {rest : List Expr} (ha : PE X a (tF X.K T (evE G cl a'))) (hb : PE X (.BoolOp .And (b :: rest) pos) (tF X.K T (evE G cl b'))) :
    PE X (.BoolOp .And (a :: b :: rest) pos) (tF X.K T (evE G cl (.land a' b'))) := by
  refine imp (pe_andT ha hb) fun σ H Q q => ?_
  obtain ⟨φ, ρ, env, st, x, st', ws, sl, he, k⟩ := q
  simp only [evE] at he
  split at he
  · rename_i x1 st1 h1
    split at he
    · rename_i d h2
      refine ⟨φ, ρ, env, st, x1, st1, ws, sl, h1, fun u H1 p => ?_⟩
      split at he
      · rename_i h3
        exact ⟨true, tru_of (rd_view p.ws p.rr h2) h3, iteT ⟨φ, ρ, env, st1, x, st', p.ws, p.sl, he, fun v H' p' => k v H' (p'.pre p.ext)⟩⟩
      · rename_i h3
        cases he
        exact ⟨false, tru_of (rd_view p.ws p.rr h2) h3, iteF (k _ _ p)⟩
      · cases he
    · cases he
  · cases he
theorem ok_lor {rest : List Expr} (ha : PE X a (tF X.K T (evE G cl a'))) (hb : PE X (.BoolOp .Or (b :: rest) pos) (tF X.K T (evE G cl b'))) :
    PE X (.BoolOp .Or (a :: b :: rest) pos) (tF X.K T (evE G cl (.lor a' b'))) := by
  refine imp (pe_orT ha hb) fun σ H Q q => ?_
  obtain ⟨φ, ρ, env, st, x, st', ws, sl, he, k⟩ := q
  simp only [evE] at he
  split at he
  · rename_i x1 st1 h1
    split at he
    · rename_i d h2
      refine ⟨φ, ρ, env, st, x1, st1, ws, sl, h1, fun u H1 p => ?_⟩
      split at he
      · rename_i h3
        cases he
        exact ⟨true, tru_of (rd_view p.ws p.rr h2) h3, iteT (k _ _ p)⟩
      · rename_i h3
        exact ⟨false, tru_of (rd_view p.ws p.rr h2) h3, iteF ⟨φ, ρ, env, st1, x, st', p.ws, p.sl, he, fun v H' p' => k v H' (p'.pre p.ext)⟩⟩
      · cases he
    · cases he
  · cases he
theorem okW_land {rest : List Expr} (ha : PT X a (tT X.K T (evE G cl a'))) (hb : PW X (.BoolOp .And (b :: rest) pos) (tT X.K T (evE G cl b'))) :
    PW X (.BoolOp .And (a :: b :: rest) pos) (tT X.K T (evE G cl (.land a' b'))) := by
  refine impW (pw_and ha hb) fun σ H Q q => ?_
  obtain ⟨φ, ρ, env, st, b, st', ws, sl, he, k⟩ := q
  rw [tst_land] at he
  split at he
  · rename_i st1 h1
    exact seqT ws sl h1 fun H1 w1 s1 e1 => iteT (seqT w1 s1 he fun H2 w2 s2 e2 => k H2 ⟨w2, s2, e1.trans e2⟩)
  · rename_i st1 h1
    cases he
    exact seqT ws sl h1 fun H1 w1 s1 e1 => iteF (k H1 ⟨w1, s1, e1⟩)
  · cases he
theorem okW_lor {rest : List Expr} (ha : PT X a (tT X.K T (evE G cl a'))) (hb : PW X (.BoolOp .Or (b :: rest) pos) (tT X.K T (evE G cl b'))) :
    PW X (.BoolOp .Or (a :: b :: rest) pos) (tT X.K T (evE G cl (.lor a' b'))) := by
  refine impW (pw_or ha hb) fun σ H Q q => ?_
  obtain ⟨φ, ρ, env, st, b, st', ws, sl, he, k⟩ := q
  rw [tst_lor] at he
  split at he
  · rename_i st1 h1
    cases he
    exact seqT ws sl h1 fun H1 w1 s1 e1 => iteT (k H1 ⟨w1, s1, e1⟩)
  · rename_i st1 h1
    exact seqT ws sl h1 fun H1 w1 s1 e1 => iteF (seqT w1 s1 he fun H2 w2 s2 e2 => k H2 ⟨w2, s2, e1.trans e2⟩)
  · cases he
theorem cmp_read {o : CmpOp} {env : Env} {st st' : Sto} {x : ER} (he : evE G cl (.cmp o a' b') env st = some (x, st')) :
    ∃ x1 st1 x2 d e r, evE G cl a' env st = some (x1, st1) ∧ evE G cl b' env st1 = some (x2, st') ∧ rdE st' x1 = some d ∧ rdE st' x2 = some e ∧ cmpD o d e = some r ∧ x = .dat (.bool r) false := by
  simp only [evE] at he
  split at he
  · rename_i x1 st1 h1
    split at he
    · rename_i x2 st2 h2
      split at he
      · rename_i d e h3 h4
        split at he
        · rename_i r h5
          cases he
          exact ⟨x1, st1, x2, d, e, r, h1, h2, h3, h4, h5, rfl⟩
        · cases he
      · cases he
    · cases he
  · cases he
theorem ok_cmp {o : CmpOp} (hu : X.A.units + 65 < cLine) (ha : PE X a (tF X.K T (evE G cl a'))) (hb : PE X b (tF X.K T (evE G cl b'))) (hp : pln b = true) :
    PE X (.Compare a [o] [b] pos) (tF X.K T (evE G cl (.cmp o a' b'))) := by
  refine imp (pe_cmpR (or_cmp hu o) ha hb (pln_mark hp o)) fun σ H Q q => ?_
  obtain ⟨φ, ρ, env, st, x, st', ws, sl, he, k⟩ := q
  obtain ⟨x1, st1, x2, d, e, r, h1, h2, h3, h4, h5, rfl⟩ := cmp_read he
  exact seq2 ws sl h1 h2 fun u v H2 w2 s2 e2 ru rv => cmp_ok (rd_view w2 ru h3) (rd_view w2 rv h4) h5 (k _ _ ⟨w2, s2, e2, .bl _, fun d e => by cases e⟩)
theorem okT_cmp {o : CmpOp} (hu : X.A.units + 65 < cLine) (ha : PE X a (tF X.K T (evE G cl a'))) (hb : PE X b (tF X.K T (evE G cl b'))) (hp : pln b = true) :
    PT X (.Compare a [o] [b] pos) (tT X.K T (evE G cl (.cmp o a' b'))) := by
  refine impT (pt_cmpR (or_cmp hu o) ha hb (pln_mark hp o)) fun σ H Q q => ?_
  obtain ⟨φ, ρ, env, st, b, st', ws, sl, he, k⟩ := q
  obtain ⟨x, d', he, h6, h7⟩ := tst_some he
  obtain ⟨x1, st1, x2, d, e, r, h1, h2, h3, h4, h5, rfl⟩ := cmp_read he
  cases h6
  cases h7
  exact seq2 ws sl h1 h2 fun u v H2 w2 s2 e2 ru rv => cmp_ok (rd_view w2 ru h3) (rd_view w2 rv h4) h5 ⟨_, rfl, k _ ⟨w2, s2, e2⟩⟩
theorem cmp2_read {o p : CmpOp} {env : Env} {st st' : Sto} {x : ER} (he : evE G cl (.cmp2 o p a' b' c') env st = some (x, st')) :
    ∃ x1 st1 x2 st2 d e r, evE G cl a' env st = some (x1, st1) ∧ evE G cl b' env st1 = some (x2, st2) ∧ rdE st2 x1 = some d ∧ rdE st2 x2 = some e ∧ cmpD o d e = some r ∧
      ((r = false ∧ x = .dat (.bool false) false ∧ st' = st2) ∨ (r = true ∧ ∃ x3 e1 f r2, evE G cl c' env st2 = some (x3, st') ∧ rdE st' x2 = some e1 ∧ rdE st' x3 = some f ∧ cmpD p e1 f = some r2 ∧ x = .dat (.bool r2) false)) := by
  simp only [evE] at he
  split at he
  · rename_i x1 st1 h1
    split at he
    · rename_i x2 st2 h2
      split at he
      · rename_i d e h3 h4
        split at he
        · rename_i h5
          split at he
          · rename_i x3 st3 h6
            split at he
            · rename_i e1 f h7 h8
              split at he
              · rename_i r2 h9
                cases he
                exact ⟨x1, st1, x2, st2, d, e, true, h1, h2, h3, h4, h5, .inr ⟨rfl, x3, e1, f, r2, h6, h7, h8, h9, rfl⟩⟩
              · cases he
            · cases he
          · cases he
        · rename_i h5
          cases he
          exact ⟨x1, st1, x2, _, d, e, false, h1, h2, h3, h4, h5, .inl ⟨rfl, rfl, rfl⟩⟩
        · cases he
      · cases he
    · cases he
  · cases he
theorem chain_ok {o p : CmpOp} {φ ρ : List Addr} {H : Hp} {env : Env} {σ : L2.St} {st st' : Sto} {x : ER} {Q : VK} (ws : Ws K T φ ρ H st) (sl : Sl K φ ρ H env σ) (he : evE G cl (.cmp2 o p a' b' c') env st = some (x, st'))
    (k : ∀ b H', x = .dat (.bool b) false → PostB K T φ ρ H H' env σ st' → Q (.bl b) H') :
    tChain (rCmp K o) (rCmp K p) (tF K T (evE G cl a')) (tF K T (evE G cl b')) (tF K T (evE G cl c')) σ H Q := by
  obtain ⟨x1, st1, x2, st2, d, e, r, h1, h2, h3, h4, h5, h⟩ := cmp2_read he
  refine seq2 ws sl h1 h2 fun u v H2 w2 s2 e2 ru rv => cmp_ok (rd_view w2 ru h3) (rd_view w2 rv h4) h5 ⟨r, rfl, ?_⟩
  rcases h with ⟨rfl, rfl, rfl⟩ | ⟨rfl, x3, e1, f, r2, h6, h7, h8, h9, rfl⟩
  · exact iteF (k _ _ rfl ⟨w2, s2, e2⟩)
  · exact iteT (seq1 w2 s2 h6 fun w' H4 w4 s4 e4 rw' => cmp_ok (rd_view w4 (RS.ext (e4.more w2.sub) w2.fl rv) h7) (rd_view w4 rw' h8) h9 (k _ _ rfl ⟨w4, s4, e2.trans e4⟩))
theorem ok_cmp2 {o p : CmpOp} (hu : X.A.units + 65 < cLine) (ha : PE X a (tF X.K T (evE G cl a'))) (hb : PE X b (tF X.K T (evE G cl b'))) (hc : PE X c (tF X.K T (evE G cl c'))) (hp : pln c = true) :
    PE X (.Compare a [o, p] [b, c] pos) (tF X.K T (evE G cl (.cmp2 o p a' b' c'))) := by
  refine imp (pe_chain (or_cmp hu o) (or_cmp hu p) ha hb hc (pln_last hp o p)) fun σ H Q q => ?_
  obtain ⟨φ, ρ, env, st, x, st', ws, sl, he, k⟩ := q
  exact chain_ok ws sl he fun b H' e p => by subst e; exact k _ _ ⟨p.ws, p.sl, p.ext, .bl _, fun d e => by cases e⟩
theorem okT_cmp2 {o p : CmpOp} (hu : X.A.units + 65 < cLine) (ha : PE X a (tF X.K T (evE G cl a'))) (hb : PE X b (tF X.K T (evE G cl b'))) (hc : PE X c (tF X.K T (evE G cl c'))) (hp : pln c = true) :
    PT X (.Compare a [o, p] [b, c] pos) (tT X.K T (evE G cl (.cmp2 o p a' b' c'))) := by
  refine impT (pt_chain (or_cmp hu o) (or_cmp hu p) ha hb hc (pln_last hp o p)) fun σ H Q q => ?_
  obtain ⟨φ, ρ, env, st, b, st', ws, sl, he, k⟩ := q
  obtain ⟨x, d', he, h6, h7⟩ := tst_some he
  refine chain_ok ws sl he fun b' H' e p => ?_
  subst e
  cases h6
  cases h7
  exact ⟨_, rfl, k _ p⟩
theorem ok_ite (hc : PT X c (tT X.K T (evE G cl c'))) (ha : PE X a (tF X.K T (evE G cl a'))) (hb : PE X b (tF X.K T (evE G cl b'))) : PE X (.IfExp c a b pos) (tF X.K T (evE G cl (.ite c' a' b'))) := by
  refine imp (pe_ifExp hc ha hb) fun σ H Q q => ?_
  obtain ⟨φ, ρ, env, st, x, st', ws, sl, he, k⟩ := q
  simp only [evE] at he
  split at he
  · rename_i st1 h1
    exact seqT ws sl h1 fun H1 w1 s1 e1 => iteT ⟨φ, ρ, env, st1, x, st', w1, s1, he, fun v H' p => k v H' (p.pre e1)⟩
  · rename_i st1 h1
    exact seqT ws sl h1 fun H1 w1 s1 e1 => iteF ⟨φ, ρ, env, st1, x, st', w1, s1, he, fun v H' p => k v H' (p.pre e1)⟩
  · cases he
theorem okT_ite (hc : PT X c (tT X.K T (evE G cl c'))) (ha : PT X a (tT X.K T (evE G cl a'))) (hb : PT X b (tT X.K T (evE G cl b'))) : PT X (.IfExp c a b pos) (tT X.K T (evE G cl (.ite c' a' b'))) := by
  refine ⟨fun pins s σ H Q I q => ?_⟩
  obtain ⟨φ, ρ, env, st, r, st', ws, sl, he, k⟩ := q
  have he : tstE (match tstE (evE G cl c' env st) with | some (true, st1) => evE G cl a' env st1 | some (false, st1) => evE G cl b' env st1 | none => none) = some (r, st') := by
    simp only [evE] at he; exact he
  cases h1 : tstE (evE G cl c' env st) with
  | none => rw [h1] at he; cases he
  | some p =>
    obtain ⟨t, st1⟩ := p
    rw [h1] at he
    refine PyProof.Rows.isTrue_IfExp (thn (hc.run pins s σ H _ I (seqT (R := fun b H1 => b = t ∧ Ws X.K T φ ρ H1 st1 ∧ Sl X.K φ ρ H1 env σ ∧ Ext ρ H H1) ws sl h1 fun H1 w1 s1 e1 => ⟨rfl, w1, s1, e1⟩)) fun t' s1 ⟨H1, I1, et, w1, s1', e1⟩ => ?_)
    subst et
    cases t' with
    | true => exact PyProof.Rows.ite_tt (ha.run pins s1 σ H1 Q I1 (seqT w1 s1' he fun H2 w2 s2 e2 => k H2 ⟨w2, s2, e1.trans e2⟩))
    | false => exact PyProof.Rows.ite_ff (hb.run pins s1 σ H1 Q I1 (seqT w1 s1' he fun H2 w2 s2 e2 => k H2 ⟨w2, s2, e1.trans e2⟩))
end
end Ev
set_option linter.all false
set_option maxRecDepth 100000
set_option maxHeartbeats 4000000
/-! Ev5: arguments, displays, subscripts, built-in functions. -/
namespace Ev
open PySem PySem.Spec L2
variable {K : PySem.W.Frag} {T : List (Addr × Str)} {X : Cx} {G : Pk} {cl : Str → List SV → Sto → Option (ER × Sto)}

/-! ### arguments -/
def RRs (K : PySem.W.Frag) (φ ρ : List Addr) (H : Hp) : List ER → List V → Prop
  | [], [] => True
  | r :: rs, v :: vs => RR K φ ρ H r v ∧ RRs K φ ρ H rs vs
  | _, _ => False
theorem RRs.ext {φ ρ : List Addr} {H H' : Hp} (x : Ext φ H H') (f : Lst φ H) : ∀ {rs : List ER} {vs : List V}, RRs K φ ρ H rs vs → RRs K φ ρ H' rs vs
  | [], [], _ => True.intro
  | _ :: _, _ :: _, ⟨a, b⟩ => ⟨RS.ext x f a, RRs.ext x f b⟩
theorem RRs.length {φ ρ : List Addr} {H : Hp} : ∀ {rs : List ER} {vs : List V}, RRs K φ ρ H rs vs → rs.length = vs.length
  | [], [], _ => rfl
  | _ :: _, _ :: _, ⟨_, b⟩ => congrArg (· + 1) (RRs.length b)
def tFs (K : PySem.W.Frag) (T : List (Addr × Str)) (F : Env → Sto → Option (List ER × Sto)) : TA := fun σ H Q =>
  ∃ φ ρ env st rs st', Ws K T φ ρ H st ∧ Sl K φ ρ H env σ ∧ F env st = some (rs, st') ∧ ∀ vs H', PostB K T φ ρ H H' env σ st' → RRs K φ ρ H' rs vs → Q vs H'
def tDs (K : PySem.W.Frag) (T : List (Addr × Str)) (F : Env → Sto → Option (List D × Sto)) : TA := fun σ H Q =>
  ∃ φ ρ env st ds st', Ws K T φ ρ H st ∧ Sl K φ ρ H env σ ∧ F env st = some (ds, st') ∧ ∀ vs H', PostB K T φ ρ H H' env σ st' → RDs K φ H' vs ds → Q vs H'
theorem oks_nil : PA X [] (tFs X.K T (evEs G cl [])) := impA pa_nil fun σ H Q q => by
  obtain ⟨φ, ρ, env, st, rs, st', ws, sl, he, k⟩ := q
  simp only [evEs] at he
  cases he
  exact k [] H ⟨ws, sl, .refl _ _⟩ True.intro
theorem oks_cons {e : Expr} {es : List Expr} {e' : IE} {es' : List IE} (hp : pln e = true) (he : PE X e (tF X.K T (evE G cl e'))) (hes : PA X es (tFs X.K T (evEs G cl es'))) : PA X (e :: es) (tFs X.K T (evEs G cl (e' :: es'))) := by
  refine impA (pa_cons he hes (pln_star hp es _)) fun σ H Q q => ?_
  obtain ⟨φ, ρ, env, st, rs, st', ws, sl, h, k⟩ := q
  simp only [evEs] at h
  split at h
  · rename_i r st1 h1
    split at h
    · rename_i rs2 st2 h2
      cases h
      exact seq1 ws sl h1 fun u H1 w1 s1 e1 r1 => ⟨φ, ρ, env, st1, rs2, _, w1, s1, h2, fun vs H' p rr => k _ _ ⟨p.ws, p.sl, e1.trans p.ext⟩ ⟨RS.ext (p.ext.more w1.sub) w1.fl r1, rr⟩⟩
    · cases h
  · cases h
theorem okd_nil : PA X [] (tDs X.K T (evDs G cl [])) := impA pa_nil fun σ H Q q => by
  obtain ⟨φ, ρ, env, st, rs, st', ws, sl, he, k⟩ := q
  simp only [evDs] at he
  cases he
  exact k [] H ⟨ws, sl, .refl _ _⟩ .nil
theorem okd_cons {e : Expr} {es : List Expr} {e' : IE} {es' : List IE} (hp : pln e = true) (he : PE X e (tF X.K T (evE G cl e'))) (hes : PA X es (tDs X.K T (evDs G cl es'))) : PA X (e :: es) (tDs X.K T (evDs G cl (e' :: es'))) := by
  refine impA (pa_cons he hes (pln_star hp es _)) fun σ H Q q => ?_
  obtain ⟨φ, ρ, env, st, rs, st', ws, sl, h, k⟩ := q
  simp only [evDs] at h
  split at h
  · rename_i r fr st1 h1
    split at h
    · rename_i rs2 st2 h2
      cases h
      exact seq1 ws sl h1 fun u H1 w1 s1 e1 r1 => ⟨φ, ρ, env, st1, rs2, _, w1, s1, h2, fun vs H' p rr => k _ _ ⟨p.ws, p.sl, e1.trans p.ext⟩ (.cons (RD.ext (p.ext.more w1.sub) w1.fl r1) rr)⟩
    · cases h
  · cases h

/-! ### displays -/
section
variable {a b : Expr} {es : List Expr} {a' b' : IE} {es' : List IE} {pos : Pos}
theorem ok_tup {k : Nat} (h : PA X es (tDs X.K T (evDs G cl es'))) : PE X (.Tuple es k pos) (tF X.K T (evE G cl (.tup es'))) := by
  refine imp (pe_tup h) fun σ H Q q => ?_
  obtain ⟨φ, ρ, env, st, x, st', ws, sl, he, k⟩ := q
  simp only [evE] at he
  split at he
  · rename_i ds st1 h1
    split at he
    · rename_i hl
      cases he
      exact ⟨φ, ρ, env, st, ds, _, ws, sl, h1, fun vs H1 p rr => ⟨by rw [rr.length]; exact hl, fun q hq => k _ _ ((Post.tup p.ws p.sl hq rr).pre p.ext)⟩⟩
    · cases he
  · cases he
theorem ok_lst (h : PA X es (tDs X.K T (evDs G cl es'))) : PE X (.List es pos) (tF X.K T (evE G cl (.lst es'))) := by
  refine imp (pe_lst h) fun σ H Q q => ?_
  obtain ⟨φ, ρ, env, st, x, st', ws, sl, he, k⟩ := q
  simp only [evE] at he
  split at he
  · rename_i ds st1 h1
    split at he
    · rename_i hl
      cases he
      exact ⟨φ, ρ, env, st, ds, _, ws, sl, h1, fun vs H1 p rr => ⟨by rw [rr.length]; exact hl, fun q hq => k _ _ ((Post.lst p.ws p.sl hq rr).pre p.ext)⟩⟩
    · cases he
  · cases he

/-! ### subscripts -/
theorem ok_idx (ha : PE X a (tF X.K T (evE G cl a'))) (hb : PE X b (tF X.K T (evE G cl b'))) (hp : pln b = true) : PE X (.Subscript a b pos) (tF X.K T (evE G cl (.idx a' b'))) := by
  refine imp (pe_ix (ix_list.or ix_tup) ha hb (pln_ix hp)) fun σ H Q q => ?_
  obtain ⟨φ, ρ, env, st, x, st', ws, sl, he, k⟩ := q
  simp only [evE] at he
  split at he
  · rename_i x1 st1 h1
    split at he
    · rename_i x2 st2 h2
      split at he
      · rename_i d e h3 h4
        split at he
        · rename_i r h5
          cases he
          exact seq2 ws sl h1 h2 fun u v H2 w2 s2 e2 ru rv => idx_ok (rd_view w2 ru h3) (rd_view w2 rv h4) h5 fun v hv => k _ _ ⟨w2, s2, e2, hv, fun d e => by cases e⟩
        · cases he
      · cases he
    · cases he
  · cases he
def tOO (K : PySem.W.Frag) (T : List (Addr × Str)) (F : Env → Sto → Option (Option Int × Sto)) : TO := fun σ H Q =>
  ∃ φ ρ env st o st', Ws K T φ ρ H st ∧ Sl K φ ρ H env σ ∧ F env st = some (o, st') ∧ ∀ H', PostB K T φ ρ H H' env σ st' → Q o H'
theorem oko_none : PO X none (tOO X.K T (evO G cl none)) := by
  refine ⟨fun pins s σ H Q I q => po_none.run pins s σ H Q I ?_⟩
  obtain ⟨φ, ρ, env, st, o, st', ws, sl, he, k⟩ := q
  simp only [evO] at he
  cases he
  exact k H ⟨ws, sl, .refl _ _⟩
theorem oko_some (ha : PE X a (tF X.K T (evE G cl a'))) : PO X (some a) (tOO X.K T (evO G cl (some a'))) := by
  refine ⟨fun pins s σ H Q I q => (po_some ha).run pins s σ H Q I ?_⟩
  obtain ⟨φ, ρ, env, st, o, st', ws, sl, he, k⟩ := q
  simp only [evO] at he
  split at he
  · rename_i i fr st1 h1
    cases he
    refine seq1 ws sl h1 fun u H1 w1 s1 e1 r1 => ?_
    cases (show RD X.K φ H1 u (.int i) from r1)
    exact ⟨_, rfl, k _ ⟨w1, s1, e1⟩⟩
  · cases he
theorem ok_cut {lo hi : Option Expr} {lo' hi' : Option IE} {p2 : Pos} (ha : PE X a (tF X.K T (evE G cl a'))) (hl : PO X lo (tOO X.K T (evO G cl lo'))) (hh : PO X hi (tOO X.K T (evO G cl hi'))) :
    PE X (.Subscript a (.Slice lo hi none p2) pos) (tF X.K T (evE G cl (.cut a' lo' hi'))) := by
  refine imp (pe_slice sl_any ha hl hh) fun σ H Q q => ?_
  obtain ⟨φ, ρ, env, st, x, st', ws, sl, he, k⟩ := q
  simp only [evE] at he
  split at he
  · rename_i x1 st1 h1
    split at he
    · rename_i l st2 h2
      split at he
      · rename_i h st3 h3
        refine seq1 ws sl h1 fun u H1 w1 s1 e1 r1 => ⟨φ, ρ, env, st1, l, st2, w1, s1, h2, fun H2 p2 => ⟨φ, ρ, env, st2, h, st3, p2.ws, p2.sl, h3, fun H3 p3 => ?_⟩⟩
        have r3 : RR X.K φ ρ H3 x1 u := RS.ext (p3.ext.more p2.ws.sub) p2.ws.fl (RS.ext (p2.ext.more w1.sub) w1.fl r1)
        have e3 : Ext ρ H H3 := e1.trans (p2.ext.trans p3.ext)
        split at he
        · rename_i xs h4
          cases he
          obtain ⟨ad, ys, rfl, h5, h6⟩ := (rd_view p3.ws r3 h4 : RV X.K φ H3 u (.list xs))
          exact cut_ok_l p3.ws p3.sl h5 h6 fun v H' p => k v H' (p.pre e3)
        · rename_i xs h4
          cases he
          have r4 : RV X.K φ H3 u (.tuple xs) := rd_view p3.ws r3 h4
          cases r4 with
          | tup h5 h6 => exact cut_ok_t p3.ws p3.sl h5 h6 fun v H' p => k v H' (p.pre e3)
        · cases he
      · cases he
    · cases he
  · cases he

/-! ### kinds -/
theorem ok_isi {t : String} {p p2 : Pos} (hg : Gl X "isinstance") (hm : X.mg "isinstance" = none) (hgt : Gl X (Str.ofString t)) (hmt : X.mg (Str.ofString t) = none) (hv : bootBuiltins (Str.ofString t) = some (.type t)) (hn : Str.ofString t ≠ "__name__") (hd : (Str.ofString t == ("__debug__" : Str)) = false)
    (ha : PE X a (tF X.K T (evE G cl a'))) (hp : pln a = true) : PE X (.Call (.Name "isinstance" p) [a, .Name (Str.ofString t) p2] [] pos) (tF X.K T (evE G cl (.isi a' t))) := by
  refine imp (pe_callB call_isi hg hm PyProof.Rows.boot_isinstance (pa_cons ha (pa_cons (pe_bltn (v := .ty t) hgt hmt hv rfl hn hd) pa_nil) (pln_star hp _ _)) (he := pln_star hp _ _) (hpl := by rfl)) fun σ H Q q => ?_
  obtain ⟨φ, ρ, env, st, x, st', ws, sl, he, k⟩ := q
  simp only [evE] at he
  split at he
  · rename_i x1 st1 h1
    split at he
    · rename_i d h2
      split at he
      · rename_i b h3
        cases he
        exact seq1 ws sl h1 fun u H1 w1 s1 e1 r1 => isi_ok (rd_view w1 r1 h2) h3 (k _ _ ⟨w1, s1, e1, .bl _, fun d e => by cases e⟩)
      · cases he
    · cases he
  · cases he
end
theorem findD_some {d : D} : ∀ {ds : List D} {k j : Nat}, findD d k ds = some j → ∃ i, j = k + i ∧ ∃ z, ds[i]? = some z ∧ PyData.eqv z d = true ∧ ∀ (m : Nat) (z' : D), m < i → ds[m]? = some z' → PyData.eqv z' d = false
  | [], _, _, h => by cases h
  | z :: r, k, j, h => by
    unfold findD at h
    split at h
    · rename_i e
      cases h
      exact ⟨0, rfl, z, rfl, e, fun m z' hm => absurd hm (Nat.not_lt_zero _)⟩
    · rename_i e
      obtain ⟨i, e1, z1, h1, h2, h3⟩ := findD_some h
      refine ⟨i + 1, by omega, z1, by simpa using h1, h2, fun m z' hm hz => ?_⟩
      cases m with
      | zero =>
        cases hz
        simpa using e
      | succ m => exact h3 m z' (by omega) (by simpa using hz)
theorem ok_indx {x0 : Str} {p0 : Pos} {b : Expr} {a' b' : IE} {apos cpos : Pos} (hu : X.A.units + 65 < cLine) (ha : PE X (.Name x0 p0) (tF X.K T (evE G cl a'))) (hb : PE X b (tF X.K T (evE G cl b'))) (hp : pln b = true) (hl : (apos.endLine == cpos.line) = true) :
    PE X (.Call (.Attribute (.Name x0 p0) "index" apos) [b] [] cpos) (tF X.K T (evE G cl (.indx a' b'))) := by
  refine imp (pe_bm PySem.F.plainAttrs_list PySem.F.slot_list_index PySem.F.type_list_index (mt_indexD hu) ha (pa_cons hb pa_nil (pln_star hp _ _)) (by rfl) (by rw [pln_star hp]; rfl) hl (pln_star hp _ _) (by rfl)) fun σ H Q q => ?_
  obtain ⟨φ, ρ, env, st, x, st', ws, sl, he, k⟩ := q
  simp only [evE] at he
  split at he
  · rename_i x1 st1 h1
    split at he
    · rename_i y st2 h2
      split at he
      · rename_i ds0 ds d h3 h4 h5
        split at he
        · rename_i hs
          obtain ⟨s1, s2⟩ := Bool.and_eq_true_iff.mp hs
          split at he
          · rename_i j hj
            cases he
            obtain ⟨i, ei, z, f1, f2, f3⟩ := findD_some hj
            rw [Nat.zero_add] at ei
            subst ei
            refine seq1 ws sl h1 fun u H1 w1 sl1 e1 r1 => ?_
            obtain ⟨p, vs, rfl, hp1, _⟩ := rd_view w1 r1 h3
            refine ⟨.inl ⟨rfl, vs, .inl (.inl hp1)⟩, seq1 w1 sl1 h2 fun v H2 w2 sl2 e2 r2 => ?_⟩
            have hx := rd_view w2 (RS.ext (e2.more w1.sub) w1.fl r1) h4
            have hy := rd_view w2 r2 h5
            exact ⟨p, v, d, ds, j, z, rfl, rfl, hx.dp s1, hy.dp s2, s1, s2, f1, f2, f3, k _ _ ⟨w2, sl2, e1.trans e2, .int _, fun d e => by cases e⟩⟩
          · cases he
        · cases he
      · cases he
    · cases he
  · cases he
end Ev
set_option linter.all false
set_option maxRecDepth 100000
set_option maxHeartbeats 4000000
/-! Ev6: calls: of the package's own functions, of built-in ones. -/
namespace Ev
open PySem PySem.Spec L2
variable {K : PySem.W.Frag} {T : List (Addr × Str)} {X : Cx} {G : Pk} {cl : Str → List SV → Sto → Option (ER × Sto)}

/-! ### own functions -/
/-- what a call promises, by cl -/
def spC (K : PySem.W.Frag) (T : List (Addr × Str)) (cl : Str → List SV → Sto → Option (ER × Sto)) (f : Str) (n : Nat) : Sp := fun vs H Q _ =>
  vs.length = n ∧ ∃ φ ρ rs st r st', Ws K T φ ρ H st ∧ RRs K φ ρ H rs vs ∧ cl f (rs.map svE) st = some (r, st') ∧ ∀ v H', Post K T φ ρ H H' [] [] st' r v → Q v H'
/-- a function keeps its promise, where no repr is under way -/
structure FnE (P : Program) (w : World) (K : PySem.W.Frag) (mg : Str → Option Value) (base : Heap) (k : Nat) (f : Addr) (fd : FuncData) (ps : List Str) (sp : Sp) : Prop where
  run : ∀ (A : Around) (outer : List PySem.Env) (s : Shared) (H : Hp) (us : List Value) (vs : List V) (Q : VK), Room k A → A.guards = some [] → Env0 P w K mg base A outer s H → Vals vs us → sp vs H Q E0 →
    ∀ args, BindsTo s fd args (ps.zip us) → codeAny (model P w) A (.call (.ref f) args) (CR CX0 outer P w H s Q E0) s
/-- cl's functions are the module's -/
structure ClOk (P : Program) (w : World) (K : PySem.W.Frag) (mg : Str → Option Value) (base : Heap) (T : List (Addr × Str)) (k : Nat) (cl : Str → List SV → Sto → Option (ER × Sto)) (fs : List (Str × List Str)) (kc : List (Str × List Str × List Nat)) : Prop where
  kget : ∀ f ks ix, (f, ks, ix) ∈ kc → ∃ ps a fd, mg f = some (.ref a) ∧ PySem.W.keepIn K (.ref a) = true ∧ ix.length = ps.length ∧ (∀ i ∈ ix, i < ks.length) ∧ (∀ (s : Shared) (ws : List Value), ws.length = ks.length → BindsTo s fd ⟨[], ks.zip ws⟩ (ps.zip (pick ix ws))) ∧ FnE P w K mg base k a fd ps (spC K T cl f ps.length)
  get : ∀ f ps, fs.lookup f = some ps → ∃ a fd, mg f = some (.ref a) ∧ PySem.W.keepIn K (.ref a) = true ∧ Binds K fd ps [] ∧ FnE P w K mg base k a fd ps (spC K T cl f ps.length)

theorem evEs_len : ∀ {es' : List IE} {env : Env} {st : Sto} {rs : List ER} {st1 : Sto}, evEs G cl es' env st = some (rs, st1) → rs.length = es'.length
  | [], env, st, rs, st1, h => by simp only [evEs] at h; cases h; rfl
  | e :: es', env, st, rs, st1, h => by
    simp only [evEs] at h
    split at h
    · split at h
      · rename_i h2
        cases h
        exact congrArg (· + 1) (evEs_len h2)
      · cases h
    · cases h
theorem back_pln {es : List Expr} (h : es.all pln = true) (pos : Pos) (env : PySem.Env) : (backTo pos (starEach es env)).any (·.1) = false := by
  induction es with
  | nil => rfl
  | cons e es ih =>
    rw [List.all_cons, Bool.and_eq_true] at h
    rw [pln_star h.1]
    show (((false, _) :: backTo pos (starEach es env)).any (·.1)) = false
    rw [List.any_cons, ih h.2]
    rfl
theorem Post.toCaller {φ ρ : List Addr} {H H' : Hp} {env : Env} {σ : L2.St} {st' : Sto} {r : ER} {v : V} (sl : Sl K φ ρ H env σ) (fl : Lst φ H) (sub : ∀ a ∈ ρ, a ∈ φ) (p : Post K T φ ρ H H' [] [] st' r v) : Post K T φ ρ H H' env σ st' r v := by
  refine ⟨p.ws, sl.ext (p.ext.more sub) fl, p.ext, p.rr, fun d e => ?_⟩
  obtain ⟨q, xs, ds, h1, h2, h3, h4, h5, h6, h7⟩ := p.fr d e
  refine ⟨q, xs, ds, h1, h2, h3, h4, h5, h6, (sl.fresh h3).ext (p.ext.more fun a h => List.mem_append_left _ (sub a h)) fun a ha o e => ?_⟩
  rcases List.mem_append.mp ha with ha | ha
  · exact fl a ha o e
  · rw [List.mem_singleton.mp ha, h3] at e; cases e
theorem runE {k : Nat} {f : Addr} {fd : FuncData} {ps : List Str} {sp : Sp} {pins : List (Addr × Obj)} {σ : L2.St} {H : Hp} {s : Shared} {Q : VK} {us : List Value} {vs : List V}
    (F : FnE X.prog X.w X.K X.mg X.base k f fd ps sp) (hr : Room k X.A) (hg : X.A.guards = some []) (hb : Binds X.K fd ps []) (hl : vs.length = ps.length)
    (I : Inv X pins σ H s) (r : Vals vs us) (h : sp vs H Q E0) : wpAny (model X.prog X.w) X.A (call (.ref f) us) (EP X pins σ Q) X.xe s := by
  have hb' : BindsTo s fd ⟨us, []⟩ (ps.zip us) := by
    have q := hb s us I.kIn (by rw [List.append_nil, ← r.length]; exact hl)
    rw [List.append_nil] at q
    exact q
  have go := F.run X.A X.stack s H us vs Q hr hg I.env0 r h _ hb'
  refine wpAny_call (codeAny_mono go fun res s2 hq => ?_)
  match res, hq with
  | .ok (.ret u), hq => exact I.after hq
theorem ok_call {k : Nat} {f : Str} {fs : List (Str × List Str)} {ps : List Str} {e : Expr} {es : List Expr} {es' : List IE} {p pos : Pos} {kc : List (Str × List Str × List Nat)} (C : ClOk X.prog X.w X.K X.mg X.base T k cl fs kc) (hf : fs.lookup f = some ps) (hr : Room k X.A) (hgu : X.A.guards = some [])
    (hg : Gl X f) (hd : (f == ("__debug__" : Str)) = false) (hps : ps.length = es'.length) (hes : PA X (e :: es) (tFs X.K T (evEs G cl es'))) (hp : (e :: es).all pln = true) :
    PE X (.Call (.Name f p) (e :: es) [] pos) (tF X.K T (evE G cl (.call f es'))) := by
  obtain ⟨a, fd, hm, hk, hb, F⟩ := C.get f ps hf
  have hp1 : pln e = true ∧ es.all pln = true := by rw [List.all_cons, Bool.and_eq_true] at hp; exact hp
  refine ⟨fun pins s σ H Q I q => ?_⟩
  obtain ⟨φ, ρ, env, st, x, st', ws, sl, he, k⟩ := q
  simp only [evE] at he
  split at he
  · rename_i rs st1 h1
    refine wpAny_Call_Name_kw (ld_glob I hg hm ?_ hd)
    refine PySem.W.callWith_K (h₀ := X.base) I.ok.mod.kin hk (thn (hes.run pos pins s σ H (fun vs H1 => vs.length = ps.length ∧ PostB X.K T φ ρ H H1 env σ st1 ∧ RRs X.K φ ρ H1 rs vs) I ⟨φ, ρ, env, st, rs, st1, ws, sl, h1, fun vs H1 p rr => ⟨?_, p, rr⟩⟩) fun us s1 q => ?_) (pln_star hp1.1 _ _) (back_pln hp1.2 _ _)
    · rw [← rr.length, hps]
      exact evEs_len h1
    · obtain ⟨vs, H1, I1, r1, hl, p, rr⟩ := q
      refine ⟨I1.kIn, runE F hr hgu hb hl I1 r1 ⟨hl, φ, ρ, rs, st1, x, st', p.ws, rr, he, fun v H' p' => k v H' ((p'.toCaller p.sl p.ws.fl p.ws.sub).pre p.ext)⟩⟩
  · cases he

theorem pick_len {α : Type} {ix : List Nat} {xs : List α} (h : ∀ i ∈ ix, i < xs.length) : (pick ix xs).length = ix.length := by
  unfold pick
  induction ix with
  | nil => rfl
  | cons i ix ih =>
    have hi := h i (List.mem_cons_self ..)
    rw [List.filterMap_cons, List.getElem?_eq_getElem hi]
    exact congrArg (· + 1) (ih fun j hj => h j (List.mem_cons_of_mem _ hj))
theorem pick_vals {vs : List V} {us : List Value} (r : Vals vs us) : ∀ ix : List Nat, Vals (pick ix vs) (pick ix us)
  | [] => .nil
  | i :: ix => by
    have ih := pick_vals r ix
    unfold pick at ih ⊢
    cases e : vs[i]? with
    | some v =>
      obtain ⟨u, hu, rv⟩ := r.get e
      rw [List.filterMap_cons_some e, List.filterMap_cons_some hu]
      exact .cons rv ih
    | none =>
      have hu : us[i]? = none := by
        rw [List.getElem?_eq_none_iff] at e ⊢
        rw [← r.length]; exact e
      rw [List.filterMap_cons_none e, List.filterMap_cons_none hu]
      exact ih
theorem RRs.get {φ ρ : List Addr} {H : Hp} : ∀ (rs : List ER) (vs : List V) (i : Nat) (u : V), RRs K φ ρ H rs vs → vs[i]? = some u → ∃ x, rs[i]? = some x ∧ RR K φ ρ H x u
  | [], [], _, _, _, h => by simp at h
  | x :: rs, v :: vs, 0, u, r, h => by
    cases h
    exact ⟨x, rfl, r.1⟩
  | x :: rs, v :: vs, i + 1, u, r, h => RRs.get rs vs i u r.2 (by simpa using h)
theorem pick_rrs {φ ρ : List Addr} {H : Hp} {rs : List ER} {vs : List V} (r : RRs K φ ρ H rs vs) : ∀ ix : List Nat, RRs K φ ρ H (pick ix rs) (pick ix vs)
  | [] => True.intro
  | i :: ix => by
    have ih := pick_rrs r ix
    unfold pick at ih ⊢
    cases e : vs[i]? with
    | some v =>
      obtain ⟨u, hu, rv⟩ := RRs.get _ _ _ _ r e
      rw [List.filterMap_cons_some e, List.filterMap_cons_some hu]
      exact ⟨rv, ih⟩
    | none =>
      have hu : rs[i]? = none := by
        rw [List.getElem?_eq_none_iff] at e ⊢
        rw [r.length]; exact e
      rw [List.filterMap_cons_none e, List.filterMap_cons_none hu]
      exact ih
theorem okk_nil : PK X [] (tFs X.K T (evEs G cl [])) := by
  refine ⟨fun pos pins s σ H Q I q => pk_nil.run pos pins s σ H Q I ?_⟩
  obtain ⟨φ, ρ, env, st, rs, st', ws, sl, he, k⟩ := q
  simp only [evEs] at he
  cases he
  exact k [] H ⟨ws, sl, .refl _ _⟩ True.intro
theorem okk_cons {nm : Option Str} {kpos : Pos} {e : Expr} {es : List Keyword} {e' : IE} {es' : List IE} (he : PE X e (tF X.K T (evE G cl e'))) (hes : PK X es (tFs X.K T (evEs G cl es'))) : PK X (⟨nm, e, kpos⟩ :: es) (tFs X.K T (evEs G cl (e' :: es'))) := by
  refine ⟨fun pos pins s σ H Q I q => (pk_cons he hes).run pos pins s σ H Q I ?_⟩
  obtain ⟨φ, ρ, env, st, rs, st', ws, sl, h, k⟩ := q
  simp only [evEs] at h
  split at h
  · rename_i r1 st1 h1
    split at h
    · rename_i rs2 st2 h2
      cases h
      refine ⟨φ, ρ, env, st, r1, st1, ws, sl, h1, fun v H1 p => ⟨φ, ρ, env, st1, rs2, _, p.ws, p.sl, h2, fun vs H2 p2 rr => k (v :: vs) H2 ⟨p2.ws, p2.sl, p.ext.trans p2.ext⟩ ⟨?_, rr⟩⟩⟩
      exact RS.ext (p2.ext.more p.ws.sub) p.ws.fl p.rr
    · cases h
  · cases h
theorem kws_all {kws : List Keyword} {ks : List Str} (h : kws.map (·.arg) = ks.map some) (pos : Pos) (env : PySem.Env) : (backToKw pos (keywordEach kws env)).all (·.1.isSome) = true ∧ (backToKw pos (keywordEach kws env)).filterMap (·.1) = ks ∧ (backToKw pos (keywordEach kws env)).any (·.1.isNone) = false := by
  induction kws generalizing ks with
  | nil =>
    cases ks with
    | nil => exact ⟨rfl, rfl, rfl⟩
    | cons _ _ => simp at h
  | cons kw kws ih =>
    cases ks with
    | nil => simp at h
    | cons n ks =>
      obtain ⟨nm, v, p⟩ := kw
      simp only [List.map_cons, List.cons.injEq] at h
      obtain ⟨rfl, h⟩ := h
      obtain ⟨h1, h2, h3⟩ := ih h
      have e : ∀ t, backToKw pos ((some n, t) :: keywordEach kws env) = (some n, do let v ← t; standAt pos; pure v) :: backToKw pos (keywordEach kws env) := fun t => rfl
      simp only [keywordEach, e, List.all_cons, List.any_cons, List.filterMap_cons, h1, h2, h3, Option.isSome_some, Option.isNone_some, Bool.and_self, Bool.or_self, and_self]
theorem ok_callk {k : Nat} {f : Str} {fs : List (Str × List Str)} {ks : List Str} {ix : List Nat} {kws : List Keyword} {es' : List IE} {p pos : Pos} {kc : List (Str × List Str × List Nat)} (C : ClOk X.prog X.w X.K X.mg X.base T k cl fs kc) (hf : (f, ks, ix) ∈ kc) (hr : Room k X.A) (hgu : X.A.guards = some [])
    (hg : Gl X f) (hd : (f == ("__debug__" : Str)) = false) (hn : kws.map (·.arg) = ks.map some) (hl : es'.length = ks.length) (hes : PK X kws (tFs X.K T (evEs G cl es'))) :
    PE X (.Call (.Name f p) [] kws pos) (tF X.K T (evE G cl (.callk f ks es' ix))) := by
  obtain ⟨ps, a, fd, hm, hk, hix, hlt, hb, F⟩ := C.kget f ks ix hf
  obtain ⟨k1, k2, k3⟩ := kws_all hn pos X.env
  refine ⟨fun pins s σ H Q I q => ?_⟩
  obtain ⟨φ, ρ, env, st, x, st', ws, sl, he, k⟩ := q
  simp only [evE] at he
  split at he
  · rename_i rs st1 h1
    have hlr : rs.length = ks.length := by rw [evEs_len h1, hl]
    refine wpAny_Call_Name_kw (ld_glob I hg hm ?_ hd)
    refine PySem.W.callWith_KW0 (h₀ := X.base) I.ok.mod.kin hk k1 (thn (hes.run pos pins s σ H (fun vs H1 => PostB X.K T φ ρ H H1 env σ st1 ∧ RRs X.K φ ρ H1 rs vs) I ⟨φ, ρ, env, st, rs, st1, ws, sl, h1, fun vs H1 p rr => ⟨p, rr⟩⟩) fun us s1 q => ?_) (by rw [k3]; rfl)
    obtain ⟨vs, H1, I1, r1, p, rr⟩ := q
    refine ⟨I1.kIn, ?_⟩
    rw [k2]
    have hlv : vs.length = ks.length := by rw [← rr.length, hlr]
    have hlu : us.length = ks.length := by rw [← r1.length, hlv]
    have hlp : (pick ix vs).length = ps.length := by rw [pick_len (fun i hi => by rw [hlv]; exact hlt i hi), hix]
    have go := F.run X.A X.stack s1 H1 (pick ix us) (pick ix vs) Q hr hgu I1.env0 (pick_vals r1 ix) ⟨hlp, φ, ρ, pick ix rs, st1, x, st', p.ws, pick_rrs rr ix, he, fun v H' p' => k v H' ((p'.toCaller p.sl p.ws.fl p.ws.sub).pre p.ext)⟩ ⟨[], ks.zip us⟩ (hb s1 us hlu)
    refine wpAny_call (codeAny_mono go fun res s2 hq => ?_)
    match res, hq with
    | .ok (.ret u), hq => exact I1.after hq
  · cases he
/-- f() -/
theorem ok_call0 {k : Nat} {f : Str} {fs : List (Str × List Str)} {p pos : Pos} {kc : List (Str × List Str × List Nat)} (C : ClOk X.prog X.w X.K X.mg X.base T k cl fs kc) (hf : fs.lookup f = some []) (hr : Room k X.A) (hgu : X.A.guards = some [])
    (hg : Gl X f) (hd : (f == ("__debug__" : Str)) = false) : PE X (.Call (.Name f p) [] [] pos) (tF X.K T (evE G cl (.call f []))) := by
  obtain ⟨a, fd, hm, hk, hb, F⟩ := C.get f [] hf
  refine ⟨fun pins s σ H Q I q => ?_⟩
  obtain ⟨φ, ρ, env, st, x, st', ws, sl, he, k⟩ := q
  simp only [evE, evEs] at he
  refine wpAny_Call_Name_kw (ld_glob I hg hm ?_ hd)
  exact PySem.W.callWith_K0 I.kIn hk (runE (us := []) (vs := []) F hr hgu hb rfl I .nil ⟨rfl, φ, ρ, [], st, x, st', ws, True.intro, he, fun v H' p' => k v H' (p'.toCaller sl ws.fl ws.sub)⟩)

/-! ### built-in functions -/
theorem rds_ints {φ : List Addr} {H : Hp} : ∀ {xs : List V} {ds : List D} {is : List Int}, RDs K φ H xs ds → intsD ds = some is → xs = is.map V.int
  | _, _, _, .nil, h => by cases h; rfl
  | _, _, _, .cons (d := .int i) a b, h => by
    simp only [intsD, Option.map_eq_some_iff] at h
    obtain ⟨js, h1, rfl⟩ := h
    cases a
    rw [rds_ints b h1]; rfl
  | _, _, _, .cons (d := .none) a b, h => by cases h
  | _, _, _, .cons (d := .bool _) a b, h => by cases h
  | _, _, _, .cons (d := .str _) a b, h => by cases h
  | _, _, _, .cons (d := .list _) a b, h => by cases h
  | _, _, _, .cons (d := .tuple _) a b, h => by cases h
  | _, _, _, .cons (d := .dict _) a b, h => by cases h
theorem rds_bols {φ : List Addr} {H : Hp} : ∀ {xs : List V} {ds : List D} {is : List Bool}, RDs K φ H xs ds → bolsD ds = some is → xs = is.map V.bl
  | _, _, _, .nil, h => by cases h; rfl
  | _, _, _, .cons (d := .bool i) a b, h => by
    simp only [bolsD, Option.map_eq_some_iff] at h
    obtain ⟨js, h1, rfl⟩ := h
    cases a
    rw [rds_bols b h1]; rfl
  | _, _, _, .cons (d := .none) a b, h => by cases h
  | _, _, _, .cons (d := .int _) a b, h => by cases h
  | _, _, _, .cons (d := .str _) a b, h => by cases h
  | _, _, _, .cons (d := .list _) a b, h => by cases h
  | _, _, _, .cons (d := .tuple _) a b, h => by cases h
  | _, _, _, .cons (d := .dict _) a b, h => by cases h
/-- the read values of arguments -/
def RVs (K : PySem.W.Frag) (φ : List Addr) (H : Hp) : List V → List D → Prop
  | [], [] => True
  | v :: vs, d :: ds => RV K φ H v d ∧ RVs K φ H vs ds
  | _, _ => False
theorem rvs_of {φ ρ : List Addr} {H : Hp} {st : Sto} (ws : Ws K T φ ρ H st) : ∀ {rs : List ER} {vs : List V} {ds : List D}, RRs K φ ρ H rs vs → rdEs st rs = some ds → RVs K φ H vs ds
  | [], [], ds, _, h => by simp only [rdEs] at h; cases h; exact True.intro
  | r :: rs, v :: vs, ds, ⟨a, b⟩, h => by
    simp only [rdEs] at h
    split at h
    · rename_i d ds' h1 h2
      cases h
      exact ⟨rd_view ws a h1, rvs_of ws b h2⟩
    · cases h
theorem RVs.one {φ : List Addr} {H : Hp} {vs : List V} {d : D} (h : RVs K φ H vs [d]) : ∃ v, vs = [v] ∧ RV K φ H v d := by
  match vs, h with
  | [v], ⟨a, _⟩ => exact ⟨v, rfl, a⟩
theorem RVs.two {φ : List Addr} {H : Hp} {vs : List V} {d e : D} (h : RVs K φ H vs [d, e]) : ∃ v u, vs = [v, u] ∧ RV K φ H v d ∧ RV K φ H u e := by
  match vs, h with
  | [v, u], ⟨a, b, _⟩ => exact ⟨v, u, rfl, a, b⟩
theorem maxI_mem : ∀ (m : Int) (l : List Int), maxI m l ∈ m :: l ∧ ∀ y ∈ m :: l, y ≤ maxI m l
  | m, [] => ⟨by simp [maxI], by simp [maxI]⟩
  | m, x :: r => by
    obtain ⟨h1, h2⟩ := maxI_mem (if x > m then x else m) r
    refine ⟨?_, fun y hy => ?_⟩
    · show maxI (if x > m then x else m) r ∈ _
      rcases List.mem_cons.mp h1 with e | e
      · rw [e]; split <;> simp
      · simp [e]
    · show y ≤ maxI (if x > m then x else m) r
      have h0 := h2 _ List.mem_cons_self
      rcases List.mem_cons.mp hy with rfl | hy
      · refine Int.le_trans ?_ h0; split <;> omega
      · rcases List.mem_cons.mp hy with rfl | hy
        · refine Int.le_trans ?_ h0; split <;> omega
        · exact h2 y (List.mem_cons_of_mem _ hy)
theorem minI_mem : ∀ (m : Int) (l : List Int), minI m l ∈ m :: l ∧ ∀ y ∈ m :: l, minI m l ≤ y
  | m, [] => ⟨by simp [minI], by simp [minI]⟩
  | m, x :: r => by
    obtain ⟨h1, h2⟩ := minI_mem (if x < m then x else m) r
    refine ⟨?_, fun y hy => ?_⟩
    · show minI (if x < m then x else m) r ∈ _
      rcases List.mem_cons.mp h1 with e | e
      · rw [e]; split <;> simp
      · simp [e]
    · show minI (if x < m then x else m) r ≤ y
      have h0 := h2 _ List.mem_cons_self
      rcases List.mem_cons.mp hy with rfl | hy
      · refine Int.le_trans h0 ?_; split <;> omega
      · rcases List.mem_cons.mp hy with rfl | hy
        · refine Int.le_trans h0 ?_; split <;> omega
        · exact h2 y (List.mem_cons_of_mem _ hy)

theorem reads_repr {v : Value} {d : D} {as : List Addr} {pins : List (Addr × Obj)} {σ : L2.St} {H : Hp} {s : Shared} {Q : VK} (hg : X.A.guards = some []) (hu : X.A.units + 65 < cLine) (I : Inv X pins σ H s) (r : Reads s.heap v d as) (h : okRep d = true) (q : Q (.str d.shown) H) :
    wpAny (model X.prog X.w) X.A (call (.builtin "repr") [v]) (EP X pins σ Q) X.xe s := by
  simp only [okRep, Bool.and_eq_true, decide_eq_true_eq, Bool.not_eq_true'] at h
  obtain ⟨⟨⟨h1, h2⟩, h3⟩, h4⟩ := h
  cases r with
  | none => exact PySem.P.repr_of_none ⟨.str _, H, I.tok _, ⟨_, rfl⟩, q⟩
  | bool b => exact PySem.P.repr_of_bool ⟨.str _, H, I.tok _, ⟨_, rfl⟩, q⟩
  | int i t => exact PySem.P.repr_of_int (by simpa [PyData.showable] using h1) ⟨.str _, H, I.tok _, ⟨_, rfl⟩, q⟩
  | str x t => exact PySem.P.repr_of_str ⟨.str _, H, I.tok _, ⟨_, rfl⟩, q⟩ h4
  | list a b c e => exact repr_of_reads' (.list a b c e) h1 (PyData.noDict_hsm h2) hg (by omega) (fun _ _ z => z) (fun h' u tk k => ⟨.str _, H, I.kept k, ⟨_, rfl⟩, q⟩) h4
  | tuple a b c e => exact repr_of_reads' (.tuple a b c e) h1 (PyData.noDict_hsm h2) hg (by omega) (fun _ _ z => z) (fun h' u tk k => ⟨.str _, H, I.kept k, ⟨_, rfl⟩, q⟩) h4
  | dict => simp [PyData.hasDict] at h2
mutual
/-- without dicts -/
theorem RD.dpN {φ : List Addr} {H : Hp} : ∀ {v : V} {d : D}, d.hasDict = false → RD K φ H v d → Dp K H v d
  | _, _, _, .non => .non
  | _, _, _, .bl b => .bl b
  | _, _, _, .int i => .int i
  | _, _, _, .str s => .str s
  | _, _, c, .lst n e r => .lst (.inl (.inl e)) (RDs.dpN (by simpa [PyData.hasDict] using c) r)
  | _, _, c, .tup e r => .tup e (RDs.dpN (by simpa [PyData.hasDict] using c) r)
  | _, _, c, .dct e => by simp [PyData.hasDict] at c
theorem RDs.dpN {φ : List Addr} {H : Hp} : ∀ {vs : List V} {ds : List D}, PyData.hasDictAll ds = false → RDs K φ H vs ds → DpAll K H vs ds
  | _, _, _, .nil => .nil
  | _, _, c, .cons a b => by
    simp only [PyData.hasDictAll, Bool.or_eq_false_iff] at c
    exact .cons (RD.dpN c.1 a) (RDs.dpN c.2 b)
end
theorem RV.dpN {φ : List Addr} {H : Hp} {v : V} {d : D} (c : d.hasDict = false) (h : RV K φ H v d) : Dp K H v d := by
  cases d with
  | list ds =>
    obtain ⟨a, xs, rfl, e, r⟩ := h
    exact .lst (.inl (.inl e)) (r.dpN (by simpa [PyData.hasDict] using c))
  | none => exact RD.dpN c h
  | bool b => exact RD.dpN c h
  | int i => exact RD.dpN c h
  | str x => exact RD.dpN c h
  | tuple xs => exact RD.dpN c h
  | dict k => exact RD.dpN c h
def rRep1 (K : PySem.W.Frag) : List V → Hp → VK → Prop := fun xs H Q => ∃ x d, xs = [x] ∧ Dp K H x d ∧ okRep d = true ∧ Q (.str d.shown) H
theorem call_rep (hg : X.A.guards = some []) (hu : X.A.units + 65 < cLine) : CallR X (.builtin "repr") (rRep1 X.K) := by
  intro pins s σ H xs us Q I r h
  obtain ⟨x, d, rfl, h1, h2, q⟩ := h
  obtain ⟨u, rfl, r1⟩ := vals1 r
  obtain ⟨as, rd⟩ := Dp.reads I d x u h1 r1
  exact reads_repr hg hu I rd h2 q
/-! ### the greatest and the least of rows -/
def rBest (best : D → List D → D) (K : PySem.W.Frag) : List V → Hp → VK → Prop := fun xs H Q => ∃ p ys d ds φ, xs = [.ref p] ∧ H p = some (.lst ys) ∧ RDs K φ H ys (d :: ds) ∧ alkB (d :: ds) = true ∧ ∀ v, RD K φ H v (best d ds) → Q v H
theorem alk_out {xs : List D} (h : alkB xs = true) : okSh (.list xs) = true ∧ (∀ x ∈ xs, ∃ a r, x = .tuple (a :: r)) ∧ (∀ x ∈ xs, ∀ y ∈ xs, W.alike x y = true) ∧ PyData.depthAll xs ≤ 50 := by
  simp only [alkB, Bool.and_eq_true, List.all_eq_true, decide_eq_true_eq] at h
  refine ⟨h.1.1.1, fun x hx => ?_, h.1.2, h.2⟩
  have z := h.1.1.2 x hx
  unfold rowB at z
  split at z
  · exact ⟨_, _, rfl⟩
  · cases z
theorem alk_shAll {xs : List D} (h : okSh (.list xs) = true) : PyData.canLayAll0 xs = true := by
  have c := SeqAt.canLay_of_shaped h
  simpa [PyData.canLay0] using c
theorem best_run {best : D → List D → D} {F : Value}
    (run : ∀ (s : Shared) (l : Addr) (vs : Array Value) (x : D) (xs : List D) (as : List Addr) (Q : Value → Shared → Prop), s.heap.IsList l vs → ReadsAll s.heap vs.toList (x :: xs) as → W.AlikeAll (x :: xs) → X.A.units + 1 + PyData.depthAll (x :: xs) < cLine →
      (∀ (i : Nat) v h' tk bs, vs[i]? = some v → Reads h' v (best x xs) bs → (∀ b o, s.heap.get? b = some o → h'.get? b = some o) → Q v { s with heap := h', toks := tk }) → wpAny (model X.prog X.w) X.A (call F [.ref l]) Q X.xe s)
    (hu : X.A.units + 65 < cLine) : CallR X F (rBest best X.K) := by
  intro pins s σ H xs us Q I r h
  obtain ⟨p, ys, d, ds, φ, rfl, hp, rd, al, q⟩ := h
  obtain ⟨h1, h2, h3, h4⟩ := alk_out al
  obtain rfl := Vals.ref1 r
  obtain ⟨its, rv, hl, hz⟩ := I.list (.inl (.inl hp))
  have dp : Dp X.K H (.ref p) (.list (d :: ds)) := .lst (.inl (.inl hp)) (rd.dp (alk_shAll h1))
  obtain ⟨as, r1⟩ := Dp.reads I (.list (d :: ds)) (.ref p) (.ref p) dp rfl
  cases r1 with
  | @list a o vs n xs as e1 e2 e3 e4 =>
    have hlist : s.heap.IsList p vs := ⟨o, e1, e2, n, e3⟩
    have same : vs = its.toArray := by
      obtain ⟨o', m', e', c', d', q'⟩ := hl
      rw [e1] at e'
      cases e'
      rw [e3] at q'
      injection q' with q1 q2
    refine run s p vs d ds as _ hlist e4 ⟨h3, fun x hx => ?_⟩ (by omega) fun i v h' tk bs hi rb kp => ?_
    · obtain ⟨a, r, rfl⟩ := h2 x hx
      intro z; cases z
    · rw [same] at hi
      have hi2 : its[i]? = some v := by simpa using hi
      have hiy : i < ys.length := by rw [rv.length]; exact (List.getElem?_eq_some_iff.mp hi2).1
      obtain ⟨u', hu', r'⟩ := rv.get (List.getElem?_eq_getElem hiy)
      rw [hi2] at hu'
      cases hu'
      obtain ⟨z, hz1, hz2⟩ := rd.getV (List.getElem?_eq_getElem hiy)
      have hm : z ∈ d :: ds := List.mem_of_getElem? hz1
      have cl : PyData.canLayAll0 (d :: ds) = true := alk_shAll h1
      obtain ⟨bs2, rz⟩ := Dp.reads I z _ v (hz2.dp (PyData.canLay0_of_mem _ _ cl hm)) r'
      have rz' : Reads h' v z bs2 := W.reads_keeps kp rz
      have ez : best d ds = z := (PyProof.Rows.reads_det (fun b o e _ => e) rz' rb).1
      rw [← ez] at hz2
      exact ⟨ys[i], H, I.kept kp, r', q _ hz2⟩
theorem call_maxB (hc : X.calm = true) (hu : X.A.units + 65 < cLine) : CallR X (.builtin "max") (rBest W.maxD X.K) := by
  intro pins s σ H xs us Q I r h
  exact best_run (F := .builtin "max") (fun s l vs x xs as Q h1 h2 h3 h4 h5 => W.max_list_data (I.ok.hd hc) h1 h2 h3 h4 h5) hu pins s σ H xs us Q I r h
theorem call_minB (hc : X.calm = true) (hu : X.A.units + 65 < cLine) : CallR X (.builtin "min") (rBest W.minD X.K) := by
  intro pins s σ H xs us Q I r h
  exact best_run (F := .builtin "min") (fun s l vs x xs as Q h1 h2 h3 h4 h5 => W.min_list_data (I.ok.hd hc) h1 h2 h3 h4 h5) hu pins s σ H xs us Q I r h
/-- how each is called, and by which rule -/
def bltR (K : PySem.W.Frag) : Bf → List V → Hp → VK → Prop
  | .len => fun xs H Q => ∃ p ys, xs = [.ref p] ∧ (SqL K H p ys ∨ SqT K H p ys) ∧ Q (.int ys.length) H
  | .all => rAll K
  | .any => rAny K
  | .tup => fun xs H Q => ∃ p ys, xs = [.ref p] ∧ ((SqL K H p ys ∧ ∀ l, H l = none → Q (.ref l) (upd H l (.tup ys))) ∨ (SqT K H p ys ∧ Q (.ref p) H))
  | .lst => fun xs H Q => ∃ p ys, xs = [.ref p] ∧ (SqL K H p ys ∨ SqT K H p ys) ∧ ∀ l, H l = none → Q (.ref l) (upd H l (.lst ys))
  | .max => fun xs H Q => (∃ i j, xs = [.int i, .int j] ∧ Q (.int (if j > i then j else i)) H) ∨ (rMax K xs H Q ∨ rBest W.maxD K xs H Q)
  | .min => fun xs H Q => (∃ i j, xs = [.int i, .int j] ∧ Q (.int (if j < i then j else i)) H) ∨ (rMin K xs H Q ∨ rBest W.minD K xs H Q)
  | .sum => rSum K
  | .abs => fun xs H Q => ∃ i, xs = [.int i] ∧ Q (.int (if i < 0 then -i else i)) H
  | .int => fun xs H Q => (∃ i, xs = [.int i] ∧ Q (.int i) H) ∨ ∃ k, xs = [.bl k] ∧ Q (.int (if k then 1 else 0)) H
  | .rep => rRep1 K
  | .str => fun xs H Q => ∃ i, xs = [.int i] ∧ i.natAbs.log2 < 1920 ∧ Q (.str (toString i)) H
def bltV : Bf → Value
  | .len => .builtin "len" | .all => .builtin "all" | .any => .builtin "any" | .tup => .type "tuple" | .lst => .type "list" | .max => .builtin "max" | .min => .builtin "min" | .sum => .builtin "sum" | .abs => .builtin "abs" | .int => .type "int" | .rep => .builtin "repr" | .str => .type "str"
theorem bltV_boot (f : Bf) : bootBuiltins f.nm = some (bltV f) := by cases f <;> decide +kernel
theorem bltV_run (hc : X.calm = true) (hg : X.A.guards = some []) (hu : X.A.units + 65 < cLine) (f : Bf) : CallR X (bltV f) (bltR X.K f) := by
  cases f with
  | len => exact call_len_seq
  | all => exact cr_all hc
  | any => exact cr_any hc
  | tup => exact call_tuple_of
  | lst => exact call_list_of
  | max => exact (call_max2 hc).or ((cr_max hc).or (call_maxB hc hu))
  | min => exact (call_min2 hc).or ((cr_min hc).or (call_minB hc hu))
  | sum => exact cr_sum hc
  | abs => exact call_abs
  | int => exact call_int1
  | rep => exact call_rep hg hu
  | str => exact call_str_int
theorem blt_ok {φ ρ : List Addr} {H : Hp} {env : Env} {σ : L2.St} {st : Sto} {Q : VK} {f : Bf} {vs : List V} {ds : List D} {z : D} {fr : Bool} (ws : Ws K T φ ρ H st) (sl : Sl K φ ρ H env σ) (hv : RVs K φ H vs ds) (h : bltD f ds = some (z, fr))
    (hQ : ∀ v H', Post K T φ ρ H H' env σ st (.dat z fr) v → Q v H') : bltR K f vs H Q := by
  have flat : ∀ {v : V}, RD K φ H v z → fr = false → Q v H := fun {v} r e => hQ v H (.at ws sl r (fun d q => by subst e; cases q))
  unfold bltD at h
  split at h
  · cases h
    obtain ⟨v, rfl, ad, xs, rfl, h1, h2⟩ := hv.one
    exact ⟨ad, xs, rfl, .inl (.inl (.inl h1)), by rw [h2.length]; exact flat (.int _) rfl⟩
  · cases h
    obtain ⟨v, rfl, h1⟩ := hv.one
    cases h1 with
    | tup h1 h2 => exact ⟨_, _, rfl, .inr h1, by rw [h2.length]; exact flat (.int _) rfl⟩
  · obtain ⟨bs, h3, h4⟩ := Option.map_eq_some_iff.mp h
    cases h4
    obtain ⟨v, rfl, ad, xs, rfl, h1, h2⟩ := hv.one
    exact ⟨ad, bs, rfl, .inl (.inl (by rw [← rds_bols h2 h3]; exact h1)), flat (.bl _) rfl⟩
  · obtain ⟨bs, h3, h4⟩ := Option.map_eq_some_iff.mp h
    cases h4
    obtain ⟨v, rfl, ad, xs, rfl, h1, h2⟩ := hv.one
    exact ⟨ad, bs, rfl, .inl (.inl (by rw [← rds_bols h2 h3]; exact h1)), flat (.bl _) rfl⟩
  · cases h
    obtain ⟨v, rfl, ad, xs, rfl, h1, h2⟩ := hv.one
    exact ⟨ad, xs, rfl, .inl ⟨.inl (.inl h1), fun l hl => hQ _ _ (.tup ws sl hl h2)⟩⟩
  · cases h
    obtain ⟨v, rfl, h1⟩ := hv.one
    cases h1 with
    | tup h1 h2 => exact ⟨_, _, rfl, .inr ⟨h1, flat (.tup h1 h2) rfl⟩⟩
  · cases h
    obtain ⟨v, rfl, ad, xs, rfl, h1, h2⟩ := hv.one
    exact ⟨ad, xs, rfl, .inl (.inl (.inl h1)), fun l hl => hQ _ _ (.lst ws sl hl h2)⟩
  · cases h
    obtain ⟨v, rfl, h1⟩ := hv.one
    cases h1 with
    | tup h1 h2 => exact ⟨_, _, rfl, .inr h1, fun l hl => hQ _ _ (.lst ws sl hl h2)⟩
  · cases h
    obtain ⟨v, u, rfl, h1, h2⟩ := hv.two
    cases h1; cases h2
    exact .inl ⟨_, _, rfl, flat (.int _) rfl⟩
  · split at h
    · rename_i x r h3
      cases h
      obtain ⟨v, rfl, ad, xs, rfl, h1, h2⟩ := hv.one
      have e := rds_ints h2 h3
      refine .inr (.inl ⟨ad, x :: r, rfl, .inl (.inl (by rw [← e]; exact h1)), by simp, fun m h4 h5 => ?_⟩)
      obtain ⟨h6, h7⟩ := maxI_mem x r
      have e2 : m = maxI x r := Int.le_antisymm (h7 m h4) (h5 _ h6)
      rw [e2]
      exact flat (.int _) rfl
    · split at h
      · split at h
        · rename_i ha
          cases h
          obtain ⟨v, rfl, ad, xs, rfl, h1, h2⟩ := hv.one
          exact .inr (.inr ⟨ad, xs, _, _, φ, rfl, h1, h2, ha, fun v r => flat r rfl⟩)
        · cases h
      · cases h
  · cases h
    obtain ⟨v, u, rfl, h1, h2⟩ := hv.two
    cases h1; cases h2
    exact .inl ⟨_, _, rfl, flat (.int _) rfl⟩
  · split at h
    · rename_i x r h3
      cases h
      obtain ⟨v, rfl, ad, xs, rfl, h1, h2⟩ := hv.one
      have e := rds_ints h2 h3
      refine .inr (.inl ⟨ad, x :: r, rfl, .inl (.inl (by rw [← e]; exact h1)), by simp, fun m h4 h5 => ?_⟩)
      obtain ⟨h6, h7⟩ := minI_mem x r
      have e2 : m = minI x r := Int.le_antisymm (h5 _ h6) (h7 m h4)
      rw [e2]
      exact flat (.int _) rfl
    · split at h
      · split at h
        · rename_i ha
          cases h
          obtain ⟨v, rfl, ad, xs, rfl, h1, h2⟩ := hv.one
          exact .inr (.inr ⟨ad, xs, _, _, φ, rfl, h1, h2, ha, fun v r => flat r rfl⟩)
        · cases h
      · cases h
  · obtain ⟨is, h3, h4⟩ := Option.map_eq_some_iff.mp h
    cases h4
    obtain ⟨v, rfl, ad, xs, rfl, h1, h2⟩ := hv.one
    exact ⟨ad, is, rfl, .inl (.inl (by rw [← rds_ints h2 h3]; exact h1)), flat (.int _) rfl⟩
  · cases h
    obtain ⟨v, rfl, h1⟩ := hv.one
    cases h1
    exact ⟨_, rfl, flat (.int _) rfl⟩
  · cases h
    obtain ⟨v, rfl, h1⟩ := hv.one
    cases h1
    exact .inl ⟨_, rfl, flat (.int _) rfl⟩
  · cases h
    obtain ⟨v, rfl, h1⟩ := hv.one
    cases h1
    exact .inr ⟨_, rfl, flat (.int _) rfl⟩
  · split at h
    · rename_i h3
      cases h
      obtain ⟨v, rfl, h1⟩ := hv.one
      have h5 := h3
      simp only [okRep, Bool.and_eq_true, Bool.not_eq_true'] at h5
      exact ⟨v, _, rfl, h1.dpN h5.1.1.2, h3, flat (.str _) rfl⟩
    · cases h
  · split at h
    · rename_i h3
      cases h
      obtain ⟨v, rfl, h1⟩ := hv.one
      cases h1
      exact ⟨_, rfl, h3, flat (.str _) rfl⟩
    · cases h
  · cases h
theorem ok_blt {f : Bf} {e : Expr} {es : List Expr} {es' : List IE} {p pos : Pos} (hc : X.calm = true) (hgu : X.A.guards = some []) (hu : X.A.units + 65 < cLine) (hg : Gl X f.nm) (hm : X.mg f.nm = none)
    (hes : PA X (e :: es) (tFs X.K T (evEs G cl es'))) (hp : (e :: es).all pln = true) : PE X (.Call (.Name f.nm p) (e :: es) [] pos) (tF X.K T (evE G cl (.blt f es'))) := by
  have hp1 : pln e = true ∧ es.all pln = true := by rw [List.all_cons, Bool.and_eq_true] at hp; exact hp
  have hn : f.nm ≠ "__name__" := by cases f <;> decide
  have hd : (f.nm == ("__debug__" : Str)) = false := by cases f <;> decide
  have main : PE X (.Call (.Name f.nm p) (e :: es) [] pos) (tCB (bltR X.K f) (tFs X.K T (evEs G cl es'))) := by
    have h1 := bltV_run hc hgu hu f
    have h2 := bltV_boot f
    cases f <;> first
      | exact pe_callB h1 hg hm h2 hes hn hd (pln_star hp1.1 _ _) (back_pln hp1.2 _ _)
      | exact pe_callTy h1 hg hm h2 hes hn hd (pln_star hp1.1 _ _) (back_pln hp1.2 _ _)
  refine imp main fun σ H Q q => ?_
  obtain ⟨φ, ρ, env, st, x, st', ws, sl, he, k⟩ := q
  simp only [evE] at he
  split at he
  · rename_i rs st1 h1
    split at he
    · rename_i ds h2
      split at he
      · rename_i r fr h3
        cases he
        exact ⟨φ, ρ, env, st, rs, _, ws, sl, h1, fun vs H1 p rr => blt_ok p.ws p.sl (rvs_of p.ws rr h2) h3 fun v H' p' => k v H' (p'.pre p.ext)⟩
      · cases he
    · cases he
  · cases he

/-! ### a dict of the module; the script -/
theorem ok_look {g : Str} {a : Expr} {a' : IE} {p p2 : Pos} {pos : Pos} {ad : Addr} {kvs : List (Str × D)} (hg : Gl X g) (hm : X.mg g = some (.ref ad)) (hd : (g == ("__debug__" : Str)) = false) (hk : G.dic g = some kvs)
    (hv : ∀ k d, kvs.lookup k = some d → ∃ v, KDct X.K X.w ad k v ∧ ∀ φ H, RD X.K φ H v d) (ha : PE X a (tF X.K T (evE G cl a'))) (hp : pln a = true) : PE X (.Subscript (.Name g p) a pos) (tF X.K T (evE G cl (.look g a'))) := by
  refine imp (pe_ix ix_kdict (pe_glob (v := .ref ad) hg hm rfl hd) ha (pln_ix hp)) fun σ H Q q => ?_
  obtain ⟨φ, ρ, env, st, x, st', ws, sl, he, k⟩ := q
  simp only [evE] at he
  split at he
  · rename_i kk fr st1 h1
    rw [hk] at he
    simp only at he
    split at he
    · rename_i d h2
      cases he
      obtain ⟨v, h3, h4⟩ := hv _ _ h2
      refine seq1 ws sl h1 fun u H1 w1 s1 e1 r1 => ?_
      cases (show RD X.K φ H1 u (.str kk) from r1)
      exact ⟨ad, kk, v, rfl, rfl, h3, k _ _ ⟨w1, s1, e1, h4 _ _, fun d e => by cases e⟩⟩
    · cases he
  · cases he
theorem ok_slen {i : Nat} {a : Expr} {p pos : Pos} (hg : Gl X "len") (hm : X.mg "len" = none) (ha : PE X a (tVar i)) (hp : pln a = true) : PE X (.Call (.Name "len" p) [a] [] pos) (tF X.K T (evE G cl (.slen i))) := by
  refine imp (pe_callB call_len_seq hg hm PySem.boot_len (pa_cons ha pa_nil (pln_star hp _ _)) (he := pln_star hp _ _) (hpl := by rfl)) fun σ H Q q => ?_
  obtain ⟨φ, ρ, env, st, x, st', ws, sl, he, k⟩ := q
  simp only [evE] at he
  split at he
  · rename_i ns hs
    cases he
    obtain ⟨v, h1, ad, rfl, h2⟩ := sl.get i _ hs
    refine ⟨.ref ad, h1, ad, _, rfl, .inl h2.sq, ?_⟩
    rw [List.length_map]
    exact k _ _ (.at ws sl (.int _) (fun d e => by cases e))
  · cases he
theorem ok_sidx {i : Nat} {a b : Expr} {b' : IE} {pos : Pos} (ha : PE X a (tVar i)) (hb : PE X b (tF X.K T (evE G cl b'))) (hp : pln b = true) : PE X (.Subscript a b pos) (tF X.K T (evE G cl (.sidx i b'))) := by
  refine imp (pe_ix ix_list ha hb (pln_ix hp)) fun σ H Q q => ?_
  obtain ⟨φ, ρ, env, st, x, st', ws, sl, he, k⟩ := q
  simp only [evE] at he
  split at he
  · rename_i ns hs
    split at he
    · rename_i kk fr st1 h1
      split at he
      · rename_i v h2
        cases he
        obtain ⟨u, h3, ad, rfl, h4⟩ := sl.get i _ hs
        refine ⟨.ref ad, h3, seq1 ws sl h1 fun u2 H1 w1 s1 e1 r1 => ?_⟩
        cases (show RD X.K φ H1 u2 (.int kk) from r1)
        obtain ⟨ad2, e5, h5⟩ := (RS.ext (e1.more ws.sub) ws.fl (show RS X.K φ ρ H (.scr ns) (.ref ad) from ⟨ad, rfl, h4⟩) : RS X.K φ ρ H1 (.scr ns) (.ref ad))
        cases e5
        refine ⟨ad, _, kk, .int v, rfl, rfl, h5.sq, ?_, k _ _ ⟨w1, s1, e1, .int _, fun d e => by cases e⟩⟩
        unfold atI at h2 ⊢
        rw [List.length_map]
        cases e : ixN ns.length kk with
        | none => rw [e] at h2; cases h2
        | some j =>
          rw [e] at h2
          show (ns.map V.int)[j]? = some (.int v)
          rw [List.getElem?_map]
          have h2 : ns[j]? = some v := h2
          rw [h2]; rfl
      · cases he
    · cases he
  · cases he
end Ev
set_option linter.all false
set_option maxRecDepth 100000
set_option maxHeartbeats 4000000
/-! EvEn: enumerate of a tuple. -/
namespace Ev
open PySem PySem.Spec L2
theorem new_enum_tup (l : Addr) (items : Array Value) (o : Obj) (hT : o.cls = .type "tuple") (n : Nat) (hD : o.data = .seq items n) :
    Meets (Builtin.«enumerate.__new__» ⟨[.type "enumerate", .ref l], []⟩) (fun _ R s => s.heap.get? l = some o ∧
      R (.ok (.ret (.ref (s.heap.push { cls := .type "tuple_iterator", data := .fields #[.ref l, .int 0 0] }).objs.size)))
        { s with heap := (s.heap.push { cls := .type "tuple_iterator", data := .fields #[.ref l, .int 0 0] }).push { cls := .type "enumerate", data := .fields #[.none, .bool false, .ref s.heap.objs.size, rawInt 0, .none, .none] } }) :=
  .of_wp fun prog w A R s h => by
    obtain ⟨hp, g, d, tk, os⟩ := s
    obtain ⟨hl, h⟩ := h
    have sb := sub_enumerate
    have tup : Heap.IsTuple (Shared.heap ⟨hp, g, d, tk, os⟩) l items := ⟨_, hl, hT, n, hD⟩
    wp_walk using PySem.AutoSeq1.wpAny_loadPart' hl
    refine wpAny_stack_any fun sk => wpAny_pure ?_
    split
    · rename_i c _ _ _ _ _
      cases (c == Value.type "enumerate") <;>
      · wp_walk using PySem.AutoSeq1.wpAny_loadPart' hl, wpAny_pyIter_tuple tup
        exact ⟨_, rfl, h⟩
    · wp_walk using PySem.AutoSeq1.wpAny_loadPart' hl, wpAny_pyIter_tuple tup
      exact ⟨_, rfl, h⟩
section
variable {prog : Program} {w : World} {A : Around} {E : Value → Shared → Prop} {s : Shared}
theorem call_enum_tup {l : Addr} {items : Array Value} {Q : Value → Shared → Prop} (hL : s.heap.IsTuple l items)
    (h : ∀ h', IsEnum h' (s.heap.objs.size + 1) s.heap.objs.size 0 .none → h'.IsTupleIter s.heap.objs.size l 0 → (∀ b o, s.heap.get? b = some o → h'.get? b = some o) → Q (.ref (s.heap.objs.size + 1)) { s with heap := h' }) :
    wpAny (model prog w) A (call (.type "enumerate") [.ref l]) Q E s := by
  obtain ⟨o, hl, hc, n, hd⟩ := hL
  refine callType_new F.called_enumerate (by decide) (F.typeCall_enumerate_1 _) (F.newCall_enumerate_1 _) (fun ob => F.args_object_init_2 ob _) F.entry_enumerate_new (new_enum_tup l items o hc n hd) ⟨hl, ?_⟩
  generalize hi : ({ cls := .type "tuple_iterator", data := .fields #[.ref l, .int 0 0] } : Obj) = ti
  have hz : (s.heap.push ti).objs.size = s.heap.objs.size + 1 := Heap.size_push ..
  show _ ∧ _
  rw [hz]
  generalize he : ({ cls := .type "enumerate", data := .fields #[.none, .bool false, .ref s.heap.objs.size, rawInt 0, .none, .none] } : Obj) = te
  have h2 : ((s.heap.push ti).push te).get? (s.heap.objs.size + 1) = some te := by
    have q := Heap.get?_push_size (s.heap.push ti) (o := te) (by rw [← he]; rfl)
    rw [hz] at q
    exact q
  have en : IsEnum ((s.heap.push ti).push te) (s.heap.objs.size + 1) s.heap.objs.size 0 .none := by rw [← he] at h2 ⊢; exact h2
  refine ⟨⟨_, en, rfl⟩, h _ en ⟨ti, Heap.get?_push_of_some _ (Heap.get?_push_size _ (by rw [← hi]; rfl)), by rw [← hi], by rw [← hi]; rfl⟩ fun b ob x => Heap.get?_push_of_some _ (Heap.get?_push_of_some _ x)⟩
end
/-- the tuple at a, each item in a new pair -/
def IteT (K : PySem.W.Frag) (a : Addr) : It where
  go := fun i H => ∃ (xs : List V) (x : V), SqT K H a xs ∧ xs[i]? = some x
  yld := fun i H v H' => ∃ t x, v = .ref t ∧ H t = none ∧ H' = upd H t (.tup [.int (i : Nat), x]) ∧ ∀ xs, SqT K H a xs → xs[i]? = some x
  stop := fun i H => ∃ xs : List V, SqT K H a xs ∧ xs.length ≤ i
theorem turn_enumT {P : Program} {w : World} {K : PySem.W.Frag} {elts : List Expr} {kk : Nat} {tpos : Pos} (a e it : Addr) :
    Turn P w K (.Tuple elts kk tpos) (IteT K a) [e, it] e (fun i h => (∃ old, IsEnum h e it ((i : Nat) : Int) old) ∧ h.IsTupleIter it a i ∧ e ≠ it ∧ a ≠ it ∧ a ≠ e) where
  mem := by simp
  obj := fun i h st b hb => by
    obtain ⟨⟨old, he⟩, ⟨o, ho, hc, hd⟩, _⟩ := st
    rcases (by simpa using hb : b = e ∨ b = it) with z | z
    · rw [z]; exact ⟨_, he, fun v q => nomatch q⟩
    · rw [z]; exact ⟨o, ho, fun v q => by rw [hd] at q; cases q⟩
  keep := fun i h h' st k => by
    obtain ⟨⟨old, he⟩, hi, r⟩ := st
    exact ⟨⟨old, k e (by simp) _ he⟩, hi.at fun o q => k it (by simp) o q, r⟩
  item := by
    intro X hP hw hK hc i pins s σ H E I hf st hg
    subst hP hw hK
    obtain ⟨⟨old, he⟩, hit, hne, hai, hae⟩ := st
    obtain ⟨xs, x, hq, hx⟩ := hg
    obtain ⟨its, rv, p, hz⟩ := I.tuple hq
    obtain ⟨u, hu, ru⟩ := rv.get hx
    have el : e < s.heap.objs.size := Heap.lt_size he
    have il : it < s.heap.objs.size := by obtain ⟨_, q, _⟩ := hit; exact Heap.lt_size q
    have hlt : i < its.toArray.size := by
      rw [List.size_toArray]
      exact (List.getElem?_eq_some_iff.mp hu).1
    have hh : X.A.handled = none := I.ok.hd hc
    refine wpAny_pyNext_enum_itemD (Draws.tuple (A := X.A.in1) hh it a hai its.toArray) he ⟨hit, p⟩ hlt hne (by simp [hne, hae.symm]) fun y h' tk py ho hst hT hsz hk => ?_
    have ey : y = u := by
      have z : its.toArray[i]? = some y := py
      rw [List.getElem?_toArray, hu] at z
      exact (Option.some.inj z).symm
    subst ey
    refine ⟨_, rfl, wpAny_letOwnedTupleGo_enum (s := { s with heap := h', toks := tk + 1 }) ho fun h'' he' sb => ?_⟩
    have hT2 : h''.get? s.heap.objs.size = some { cls := .type "tuple", data := .seq #[.int i tk, y] } := (sb.2 _ (Nat.ne_of_gt el)).trans hT
    have new : ObjOk X.prog X.w (upd H s.heap.objs.size (.tup [.int (i : Nat), x])) h'' s.heap.objs.size (.tup [.int (i : Nat), x]) :=
      ⟨by show 2 ≤ sizeLine; decide, [.int i tk, y], .cons ⟨_, rfl⟩ (.cons ru .nil), ⟨_, hT2, rfl, _, rfl⟩⟩
    have I1 : Inv X pins σ (upd H s.heap.objs.size (.tup [.int (i : Nat), x])) { s with heap := h'', toks := tk + 1 } :=
      I.turnedNew (ch := [e, it]) (fun b ob hb q => (sb.2 b (fun z => hb (by simp [z]))).trans (hk b ob (fun z => hb (by simp [z])) (fun z => hb (by simp [z])) q)) hf (Nat.le_refl _) new
    refine ⟨.ref s.heap.objs.size, _, I1, rfl, ⟨_, x, rfl, I.hok.fresh (Nat.le_refl _), rfl, fun ys hy => by rw [I.tuple_inj hy hq]; exact hx⟩, ⟨⟨y, ?_⟩, hst.1.at fun o q => (sb.2 it (Ne.symm hne)).trans q, hne, hai, hae⟩, fun b hb => ?_⟩
    · rw [show ((i + 1 : Nat) : Int) = (i : Int) + 1 by omega]
      exact he'
    · have hb' : b < s.heap.objs.size := by
        rcases (by simpa using hb : b = e ∨ b = it) with z | z
        · rw [z]; exact el
        · rw [z]; exact il
      rw [upd_ne (Nat.ne_of_lt hb')]
      exact (hf b hb).1
  done := by
    intro X hP hw hK hc i pins s σ H E I hf st hg
    subst hP hw hK
    obtain ⟨⟨old, he⟩, hit, hne, hai, hae⟩ := st
    obtain ⟨xs, hq, hx⟩ := hg
    obtain ⟨its, rv, p, hz⟩ := I.tuple hq
    obtain ⟨f0, f1, f2, f3, f4, f5⟩ := hf it (by simp)
    have hl := rv.length
    have hh : X.A.handled = none := I.ok.hd hc
    have hT : s.TypeIs (.ref e) "enumerate" := ⟨_, he, rfl⟩
    unfold pyNext
    refine wpAny_bind (wpAny_attempt (wpAny_callSpecial?_slot (name := Str.ofString "__next__") hT F.slot_enumerate_next
      (wpAny_call_entry F.slot_enumerate_next hT F.entry_enumerate_next ?_ (F.args_enumerate_next_1 _))))
    show wpAny _ _ (field (.ref e) 2 >>= _) _ _ _
    refine wpAny_bind (wpAny_field he rfl (x := .ref it) rfl ?_)
    refine wpAny_bind (wpAny_nextOf_tuple_end (A := X.A.in1) hh hit p (by simp; omega) fun h' x he' hx' => ?_)
    obtain ⟨o, ho, hcx⟩ := hx'
    refine wpAny_bind (wpAny_isInstance (T := "StopIteration") (b := true) ⟨o, ho, hcx⟩ isSubtype_stop ?_)
    exact wpAny_pure ⟨rfl, I.turned (t' := s.toks) (fun b o hb q => he' b o hb q) f0 f1 f3 f4 f5⟩
  self := fun A i s Q E st h => let ⟨⟨_, he⟩, _⟩ := st; wpAny_pyIter_enum he h
def iEnumA (K : PySem.W.Frag) (ta : TA) : TI := fun σ H R => ta σ H fun vs H1 => ∃ a xs, vs = [.ref a] ∧ ((SqL K H1 a xs ∧ R (Ite K a) H1) ∨ (SqT K H1 a xs ∧ R (IteT K a) H1))
theorem pi_enumA {X : Cx} {e : Expr} {ta : TA} {p pos tpos : Pos} {elts : List Expr} {kk : Nat} (hg : Gl X "enumerate") (hm : X.mg "enumerate" = none) (ha : PA X [e] ta) (hs : starEach [e] X.env = [(false, eval e X.env)]) :
    PI X (.Tuple elts kk tpos) (.Call (.Name "enumerate" p) [e] [] pos) (iEnumA X.K ta) := by
  refine ⟨fun pins s σ H R I h => ?_⟩
  refine PyProof.Rows.Call_ (ld_blt I hg hm PyProof.Rows.boot_enumerate (PyProof.Rows.callWith_type1 (thn (ha.run pos pins s σ H _ I h) fun us s1 ⟨vs, H1, I1, r1, q1⟩ => ?_) hs rfl))
  obtain ⟨a, xs, ex, q1⟩ := q1
  subst ex
  obtain ⟨u, rfl, ru⟩ := vals1 r1
  cases (show u = Value.ref a from ru)
  have new2 : ∀ b ∈ [s1.heap.objs.size + 1, s1.heap.objs.size], FpOk X pins H1 b := fun b hb => by
    have le : s1.heap.objs.size ≤ b := by
      rcases (by simpa using hb : b = s1.heap.objs.size + 1 ∨ b = s1.heap.objs.size) with z | z <;> omega
    exact I1.fpOk le (I1.hok.fresh le)
  rcases q1 with ⟨hq, q⟩ | ⟨hq, q⟩
  · obtain ⟨its, rv, p', hz⟩ := I1.list hq
    refine call_enumerate_list p'.isList fun h' he hit hsz hk => wpAny_pyIter_enum he ?_
    exact ⟨s1.heap.objs.size + 1, [s1.heap.objs.size + 1, s1.heap.objs.size], _, _, H1, rfl, I1.kept (t' := s1.toks) hk, turn_enum a (s1.heap.objs.size + 1) s1.heap.objs.size, ⟨⟨.none, he⟩, hit, Nat.succ_ne_self _⟩, new2, q⟩
  · obtain ⟨its, rv, p', hz⟩ := I1.tuple hq
    have al : a < s1.heap.objs.size := by obtain ⟨_, z, _⟩ := id p'; exact Heap.lt_size z
    refine call_enum_tup p' fun h' he hit hk => wpAny_pyIter_enum he ?_
    exact ⟨s1.heap.objs.size + 1, [s1.heap.objs.size + 1, s1.heap.objs.size], _, _, H1, rfl, I1.kept (t' := s1.toks) hk, turn_enumT a (s1.heap.objs.size + 1) s1.heap.objs.size, ⟨⟨.none, he⟩, hit, Nat.succ_ne_self _, Nat.ne_of_lt al, Nat.ne_of_lt (Nat.lt_succ_of_lt al)⟩, new2, q⟩
end Ev
set_option linter.all false
set_option maxRecDepth 100000
set_option maxHeartbeats 4000000
/-! Ev7: what is walked, targets. -/
namespace Ev
open PySem PySem.Spec L2
variable {K : PySem.W.Frag} {T : List (Addr × Str)} {X : Cx} {G : Pk} {cl : Str → List SV → Sto → Option (ER × Sto)}

/-- the heap goes on, and so do the lists that are changed -/
structure Gr (φ φ' : List Addr) (H H' : Hp) : Prop where
  ext : Ext φ H H'
  pre : ∃ more, φ' = φ ++ more ∧ ∀ a ∈ more, H a = none
theorem Gr.lst {φ φ' : List Addr} {H H' : Hp} (g : Gr φ φ' H H') (f : Lst φ H) : Lst φ' H := fun a ha o e => by
  obtain ⟨more, rfl, hm⟩ := g.pre
  rcases List.mem_append.mp ha with h | h
  · exact f a h o e
  · rw [hm a h] at e; cases e
theorem Gr.sub {φ φ' : List Addr} {H H' : Hp} (g : Gr φ φ' H H') : ∀ a ∈ φ, a ∈ φ' := fun a ha => by
  obtain ⟨more, rfl, _⟩ := g.pre
  exact List.mem_append_left _ ha
theorem Gr.rd {φ φ' : List Addr} {H H' : Hp} (g : Gr φ φ' H H') (f : Lst φ H) {v : V} {d : D} (r : RD K φ H v d) : RD K φ' H' v d := by
  have r2 : RD K φ' H v d := by
    obtain ⟨more, rfl, hm⟩ := g.pre
    clear g f
    induction more generalizing φ with
    | nil => rw [List.append_nil]; exact r
    | cons p more ih =>
      have q := ih (φ := φ ++ [p]) (RD.fresh (hm p List.mem_cons_self) r) fun a ha => hm a (List.mem_cons_of_mem _ ha)
      rwa [List.append_assoc] at q
  exact RD.ext (g.ext.more g.sub) (g.lst f) r2
theorem Gr.refl (φ : List Addr) (H : Hp) : Gr φ φ H H := ⟨.refl _ _, [], by simp, by simp⟩
theorem Gr.trans {φ φ1 φ2 : List Addr} {H H1 H2 : Hp} (a : Gr φ φ1 H H1) (b : Gr φ1 φ2 H1 H2) (x : Ext φ H H2) : Gr φ φ2 H H2 := by
  refine ⟨x, ?_⟩
  obtain ⟨m1, rfl, h1⟩ := a.pre
  obtain ⟨m2, rfl, h2⟩ := b.pre
  refine ⟨m1 ++ m2, by rw [List.append_assoc], fun c hc => ?_⟩
  rcases List.mem_append.mp hc with h | h
  · exact h1 c h
  · exact a.ext.dom c (h2 c h)

/-! ### what is walked -/
/-- a later state, in which the lists of kp stand as they stood -/
structure Lt (K : PySem.W.Frag) (T : List (Addr × Str)) (φ ρ : List Addr) (H1 : Hp) (kp : List (Nat × List D)) (φ' ρ' : List Addr) (H : Hp) (st : Sto) : Prop where
  ws : Ws K T φ' ρ' H st
  kept : keptL st kp = true
  gr : Gr φ φ' H1 H
  pre : ∃ more, ρ' = ρ ++ more
structure WalkD (K : PySem.W.Frag) (T : List (Addr × Str)) (φ ρ : List Addr) (H1 : Hp) (xs : List D) (kp : List (Nat × List D)) (J : It) : Prop where
  goes : ∀ i φ' ρ' H st, i < xs.length → Lt K T φ ρ H1 kp φ' ρ' H st → J.go i H
  stops : ∀ φ' ρ' H st, Lt K T φ ρ H1 kp φ' ρ' H st → J.stop xs.length H
  yields : ∀ i φ' ρ' H st v H', i < xs.length → Lt K T φ ρ H1 kp φ' ρ' H st → J.yld i H v H' → (∃ d, xs[i]? = some d ∧ RD K φ' H' v d) ∧ (H' = H ∨ ∃ p o, H p = none ∧ (∀ ps, o ≠ .tbl ps) ∧ H' = upd H p o)
def SrcL (K : PySem.W.Frag) (T : List (Addr × Str)) (φ ρ : List Addr) (H1 : Hp) (xs : List D) (kp : List (Nat × List D)) (a : Addr) : Prop :=
  ∀ φ' ρ' H st, Lt K T φ ρ H1 kp φ' ρ' H st → ∃ vs, SqL K H a vs ∧ RDs K φ' H vs xs
def SrcT (K : PySem.W.Frag) (T : List (Addr × Str)) (φ ρ : List Addr) (H1 : Hp) (xs : List D) (kp : List (Nat × List D)) (a : Addr) : Prop :=
  ∀ φ' ρ' H st, Lt K T φ ρ H1 kp φ' ρ' H st → ∃ vs, SqT K H a vs ∧ RDs K φ' H vs xs
theorem keptL_app {st : Sto} : ∀ {kp kq : List (Nat × List D)}, keptL st (kp ++ kq) = (keptL st kp && keptL st kq)
  | [], kq => by simp [keptL]
  | (n, xs) :: r, kq => by
    show ((match st[n]? with | some ys => eqDs xs ys | none => false) && keptL st (r ++ kq)) = ((match st[n]? with | some ys => eqDs xs ys | none => false) && keptL st r && keptL st kq)
    rw [keptL_app, Bool.and_assoc]
section
variable {φ ρ : List Addr} {H1 : Hp} {xs ys : List D} {kp kq : List (Nat × List D)} {a b : Addr} {st1 : Sto}
theorem Lt.left {φ' ρ' : List Addr} {H : Hp} {st : Sto} (l : Lt K T φ ρ H1 (kp ++ kq) φ' ρ' H st) : Lt K T φ ρ H1 kp φ' ρ' H st := by
  have k := l.kept
  rw [keptL_app, Bool.and_eq_true] at k
  exact ⟨l.ws, k.1, l.gr, l.pre⟩
theorem Lt.right {φ' ρ' : List Addr} {H : Hp} {st : Sto} (l : Lt K T φ ρ H1 (kp ++ kq) φ' ρ' H st) : Lt K T φ ρ H1 kq φ' ρ' H st := by
  have k := l.kept
  rw [keptL_app, Bool.and_eq_true] at k
  exact ⟨l.ws, k.2, l.gr, l.pre⟩
/-- a source -/
theorem src_of {r : ER} {v : V} (ws : Ws K T φ ρ H1 st1) (rr : RR K φ ρ H1 r v) (h : srcE st1 r = some (xs, kp)) : keptL st1 kp = true ∧ ∃ a, v = .ref a ∧ ((srcT r = false ∧ SrcL K T φ ρ H1 xs kp a) ∨ (srcT r = true ∧ SrcT K T φ ρ H1 xs kp a)) := by
  unfold srcE at h
  split at h
  · cases h
    cases (show RD K φ H1 v (.list xs) from rr) with
    | lst n e r =>
      refine ⟨rfl, _, rfl, .inl ⟨rfl, fun φ' ρ' H st l => ?_⟩⟩
      cases l.gr.rd ws.fl (RD.lst n e r) with
      | lst n' e' r' => exact ⟨_, .inl (.inl e'), r'⟩
  · cases h
    cases (show RD K φ H1 v (.tuple xs) from rr) with
    | tup e r =>
      refine ⟨rfl, _, rfl, .inr ⟨rfl, fun φ' ρ' H st l => ?_⟩⟩
      cases l.gr.rd ws.fl (RD.tup e r) with
      | tup e' r' => exact ⟨_, e', r'⟩
  · rename_i n
    obtain ⟨zs, h1, h2⟩ := Option.map_eq_some_iff.mp h
    cases h2
    obtain ⟨a, h3, rfl⟩ := rr
    refine ⟨?_, a, rfl, .inl ⟨rfl, fun φ' ρ' H st l => ?_⟩⟩
    · show ((match st1[n]? with | some ys => eqDs xs ys | none => false) && keptL st1 []) = true
      rw [h1]
      simp [eqDs_refl, keptL]
    · have k := l.kept
      have k : ((match st[n]? with | some ys => eqDs xs ys | none => false) && keptL st []) = true := k
      cases e : st[n]? with
      | none => rw [e] at k; cases k
      | some ws' =>
        rw [e] at k
        simp only [keptL, Bool.and_true] at k
        have e2 := eqDs_eq k
        subst e2
        obtain ⟨a', vs, h5, h6, h7⟩ := l.ws.sto n _ e
        obtain ⟨more, rfl⟩ := l.pre
        have h8 : (ρ ++ more)[n]? = some a := by
          rw [List.getElem?_append_left (List.getElem?_eq_some_iff.mp h3).1]
          exact h3
        rw [h8] at h5
        cases h5
        exact ⟨vs, .inl (.inl h6), h7⟩
  · cases h
theorem walkL (s : SrcL K T φ ρ H1 xs kp a) : WalkD K T φ ρ H1 xs kp (Itl K a) where
  goes := fun i φ' ρ' H st hi l => by
    obtain ⟨vs, h1, h2⟩ := s _ _ _ _ l
    exact ⟨vs, vs[i]'(by rw [h2.length]; exact hi), h1, by simp⟩
  stops := fun φ' ρ' H st l => by
    obtain ⟨vs, h1, h2⟩ := s _ _ _ _ l
    exact ⟨vs, h1, Nat.le_of_eq h2.length⟩
  yields := fun i φ' ρ' H st v H' hi l y => by
    obtain ⟨vs, h1, h2⟩ := s _ _ _ _ l
    obtain ⟨rfl, f⟩ := y
    obtain ⟨d, h3, h4⟩ := h2.getV (f vs h1)
    exact ⟨⟨d, h3, h4⟩, .inl rfl⟩
theorem walkT (s : SrcT K T φ ρ H1 xs kp a) : WalkD K T φ ρ H1 xs kp (Itt K a) where
  goes := fun i φ' ρ' H st hi l => by
    obtain ⟨vs, h1, h2⟩ := s _ _ _ _ l
    exact ⟨vs, vs[i]'(by rw [h2.length]; exact hi), h1, by simp⟩
  stops := fun φ' ρ' H st l => by
    obtain ⟨vs, h1, h2⟩ := s _ _ _ _ l
    exact ⟨vs, h1, Nat.le_of_eq h2.length⟩
  yields := fun i φ' ρ' H st v H' hi l y => by
    obtain ⟨vs, h1, h2⟩ := s _ _ _ _ l
    obtain ⟨rfl, f⟩ := y
    obtain ⟨d, h3, h4⟩ := h2.getV (f vs h1)
    exact ⟨⟨d, h3, h4⟩, .inl rfl⟩
theorem walkR {lo : Int} {n : Nat} : WalkD K T φ ρ H1 ((List.range n).map fun (k : Nat) => .int (lo + (k : Int))) [] (Itr lo n) where
  goes := fun i φ' ρ' H st hi l => by show i < n; simpa using hi
  stops := fun φ' ρ' H st l => by show n ≤ _; simp
  yields := fun i φ' ρ' H st v H' hi l y => by
    obtain ⟨rfl, rfl⟩ := y
    have hi : i < n := by simpa using hi
    exact ⟨⟨.int (lo + (i : Int)), by rw [List.getElem?_map, List.getElem?_range hi]; rfl, .int _⟩, .inl rfl⟩
theorem enmD_get : ∀ (xs : List D) (k i : Nat), (enmD k xs)[i]? = xs[i]?.map fun x => .tuple [.int ((k + i : Nat) : Int), x]
  | [], _, _ => rfl
  | x :: r, k, 0 => rfl
  | x :: r, k, i + 1 => by
    show (enmD (k + 1) r)[i]? = _
    rw [enmD_get r (k + 1) i]
    simp only [List.getElem?_cons_succ]
    congr 1
    funext y
    rw [show k + 1 + i = k + (i + 1) by omega]
theorem enmD_len : ∀ (xs : List D) (k : Nat), (enmD k xs).length = xs.length
  | [], _ => rfl
  | x :: r, k => congrArg (· + 1) (enmD_len r (k + 1))
theorem pair_rd {φ' : List Addr} {H : Hp} {p : Addr} {v : V} {d : D} {u : V} {e : D} (f : Lst φ' H) (hp : H p = none) (r : RD K φ' H v d) (r2 : RD K φ' H u e) : RD K φ' (upd H p (.tup [v, u])) (.ref p) (.tuple [d, e]) :=
  .tup (.inl (.inl upd_same)) (.cons (RD.ext (.new hp) f r) (.cons (RD.ext (.new hp) f r2) .nil))
theorem walkEL (s : SrcL K T φ ρ H1 xs kp a) : WalkD K T φ ρ H1 (enmD 0 xs) kp (Ite K a) where
  goes := fun i φ' ρ' H st hi l => by
    obtain ⟨vs, h1, h2⟩ := s _ _ _ _ l
    rw [enmD_len] at hi
    exact ⟨vs, vs[i]'(by rw [h2.length]; exact hi), h1, by simp⟩
  stops := fun φ' ρ' H st l => by
    obtain ⟨vs, h1, h2⟩ := s _ _ _ _ l
    rw [enmD_len]
    exact ⟨vs, h1, Nat.le_of_eq h2.length⟩
  yields := fun i φ' ρ' H st v H' hi l y => by
    obtain ⟨vs, h1, h2⟩ := s _ _ _ _ l
    obtain ⟨p, x, rfl, hp, rfl, f⟩ := y
    obtain ⟨d, h3, h4⟩ := h2.getV (f vs h1)
    exact ⟨⟨_, by rw [enmD_get, h3]; rfl, pair_rd l.ws.fl hp (by rw [Nat.zero_add]; exact .int _) h4⟩, .inr ⟨p, _, hp, (fun _ z => by cases z), rfl⟩⟩
theorem walkET (s : SrcT K T φ ρ H1 xs kp a) : WalkD K T φ ρ H1 (enmD 0 xs) kp (IteT K a) where
  goes := fun i φ' ρ' H st hi l => by
    obtain ⟨vs, h1, h2⟩ := s _ _ _ _ l
    rw [enmD_len] at hi
    exact ⟨vs, vs[i]'(by rw [h2.length]; exact hi), h1, by simp⟩
  stops := fun φ' ρ' H st l => by
    obtain ⟨vs, h1, h2⟩ := s _ _ _ _ l
    rw [enmD_len]
    exact ⟨vs, h1, Nat.le_of_eq h2.length⟩
  yields := fun i φ' ρ' H st v H' hi l y => by
    obtain ⟨vs, h1, h2⟩ := s _ _ _ _ l
    obtain ⟨p, x, rfl, hp, rfl, f⟩ := y
    obtain ⟨d, h3, h4⟩ := h2.getV (f vs h1)
    exact ⟨⟨_, by rw [enmD_get, h3]; rfl, pair_rd l.ws.fl hp (by rw [Nat.zero_add]; exact .int _) h4⟩, .inr ⟨p, _, hp, (fun _ z => by cases z), rfl⟩⟩
theorem zipD_get : ∀ (xs ys : List D) (i : Nat) (x y : D), xs[i]? = some x → ys[i]? = some y → (zipD xs ys)[i]? = some (.tuple [x, y])
  | [], _, _, _, _, h, _ => by simp at h
  | _ :: _, [], _, _, _, _, h => by simp at h
  | a :: xs, b :: ys, 0, x, y, h1, h2 => by simp at h1 h2; subst h1; subst h2; rfl
  | a :: xs, b :: ys, i + 1, x, y, h1, h2 => by
    show (zipD xs ys)[i]? = _
    exact zipD_get xs ys i x y (by simpa using h1) (by simpa using h2)
theorem zipD_len : ∀ (xs ys : List D), (zipD xs ys).length = min xs.length ys.length
  | [], _ => by simp [zipD]
  | _ :: _, [] => by simp [zipD]
  | a :: xs, b :: ys => by
    show (zipD xs ys).length + 1 = _
    rw [zipD_len xs ys, List.length_cons, List.length_cons]
    omega
theorem walkZL (s : SrcL K T φ ρ H1 xs kp a) (t : SrcL K T φ ρ H1 ys kq b) : WalkD K T φ ρ H1 (zipD xs ys) (kp ++ kq) (Itz K a b) where
  goes := fun i φ' ρ' H st hi l => by
    obtain ⟨vs, h1, h2⟩ := s _ _ _ _ l.left
    obtain ⟨us, h3, h4⟩ := t _ _ _ _ l.right
    rw [zipD_len] at hi
    exact ⟨vs, us, vs[i]'(by rw [h2.length]; omega), us[i]'(by rw [h4.length]; omega), h1, h3, by simp, by simp⟩
  stops := fun φ' ρ' H st l => by
    obtain ⟨vs, h1, h2⟩ := s _ _ _ _ l.left
    obtain ⟨us, h3, h4⟩ := t _ _ _ _ l.right
    have e1 := h2.length
    have e2 := h4.length
    exact ⟨vs, us, h1, h3, by rw [zipD_len]; omega⟩
  yields := fun i φ' ρ' H st v H' hi l y => by
    obtain ⟨vs, h1, h2⟩ := s _ _ _ _ l.left
    obtain ⟨us, h3, h4⟩ := t _ _ _ _ l.right
    obtain ⟨p, x, z, rfl, hp, rfl, f, g⟩ := y
    obtain ⟨d, h5, h6⟩ := h2.getV (f vs h1)
    obtain ⟨e, h7, h8⟩ := h4.getV (g us h3)
    exact ⟨⟨_, zipD_get _ _ _ _ _ h5 h7, pair_rd l.ws.fl hp h6 h8⟩, .inr ⟨p, _, hp, (fun _ z => by cases z), rfl⟩⟩
theorem walkZT (s : SrcT K T φ ρ H1 xs kp a) (t : SrcT K T φ ρ H1 ys kq b) : WalkD K T φ ρ H1 (zipD xs ys) (kp ++ kq) (RZ.ItzT K a b) where
  goes := fun i φ' ρ' H st hi l => by
    obtain ⟨vs, h1, h2⟩ := s _ _ _ _ l.left
    obtain ⟨us, h3, h4⟩ := t _ _ _ _ l.right
    rw [zipD_len] at hi
    exact ⟨vs, us, vs[i]'(by rw [h2.length]; omega), us[i]'(by rw [h4.length]; omega), h1, h3, by simp, by simp⟩
  stops := fun φ' ρ' H st l => by
    obtain ⟨vs, h1, h2⟩ := s _ _ _ _ l.left
    obtain ⟨us, h3, h4⟩ := t _ _ _ _ l.right
    have e1 := h2.length
    have e2 := h4.length
    exact ⟨vs, us, h1, h3, by rw [zipD_len]; omega⟩
  yields := fun i φ' ρ' H st v H' hi l y => by
    obtain ⟨vs, h1, h2⟩ := s _ _ _ _ l.left
    obtain ⟨us, h3, h4⟩ := t _ _ _ _ l.right
    obtain ⟨p, x, z, rfl, hp, rfl, f, g⟩ := y
    obtain ⟨d, h5, h6⟩ := h2.getV (f vs h1)
    obtain ⟨e, h7, h8⟩ := h4.getV (g us h3)
    exact ⟨⟨_, zipD_get _ _ _ _ _ h5 h7, pair_rd l.ws.fl hp h6 h8⟩, .inr ⟨p, _, hp, (fun _ z => by cases z), rfl⟩⟩
end

def tI (K : PySem.W.Frag) (T : List (Addr × Str)) (F : Env → Sto → Option (List D × List (Nat × List D) × Sto)) : TI := fun σ H R =>
  ∃ φ ρ env st xs kp st', Ws K T φ ρ H st ∧ Sl K φ ρ H env σ ∧ F env st = some (xs, kp, st') ∧ ∀ J H1, PostB K T φ ρ H H1 env σ st' → keptL st' kp = true → WalkD K T φ ρ H1 xs kp J → R J H1
theorem impI {tg e : Expr} {t t' : TI} (h : PI X tg e t) (k : ∀ σ H R, t' σ H R → t σ H R) : PI X tg e t' := ⟨fun pins s σ H R I q => h.run pins s σ H R I (k σ H R q)⟩
/-- a list or a tuple -/
theorem pi_seq {tg l : Expr} {tl : TE} (hl : PE X l tl) : PI X tg l (fun σ H R => tl σ H fun x H1 => ∃ a, x = .ref a ∧ (((∃ xs, SqL X.K H1 a xs) ∧ R (Itl X.K a) H1) ∨ ((∃ xs, SqT X.K H1 a xs) ∧ R (Itt X.K a) H1))) := by
  refine ⟨fun pins s σ H R I h => thn (hl.run pins s σ H _ I h) fun v s1 ⟨x, H1, I1, r1, a, e, q⟩ => ?_⟩
  subst e
  cases (show v = Value.ref a from r1)
  have hn : ∀ b ∈ [s1.heap.objs.size], FpOk X pins H1 b := fun b hb => by
    rw [List.mem_singleton.mp hb]
    exact I1.fpOk (Nat.le_refl _) (I1.hok.fresh (Nat.le_refl _))
  rcases q with ⟨⟨xs, hq⟩, q⟩ | ⟨⟨xs, hq⟩, q⟩
  · obtain ⟨its, rv, p, hz⟩ := I1.list hq
    exact wpAny_pyIter_list p.isList ⟨_, [s1.heap.objs.size], _, _, H1, rfl, I1.kept (t' := s1.toks) fun b o e => Heap.get?_push_of_some _ e, turn_list a _, ⟨_, Heap.get?_push_size _ rfl, rfl, rfl⟩, hn, q⟩
  · obtain ⟨its, rv, p, hz⟩ := I1.tuple hq
    exact wpAny_pyIter_tuple p ⟨_, [s1.heap.objs.size], _, _, H1, rfl, I1.kept (t' := s1.toks) fun b o e => Heap.get?_push_of_some _ e, turn_tuple a _, ⟨_, Heap.get?_push_size _ rfl, rfl, rfl⟩, hn, q⟩
section
variable {tg a b : Expr} {a' b' : IE} {es' : List IE} {p pos : Pos}
theorem evDs_len : ∀ {es' : List IE} {env : Env} {st : Sto} {ds : List D} {st1 : Sto}, evDs G cl es' env st = some (ds, st1) → ds.length = es'.length
  | [], env, st, ds, st1, h => by simp only [evDs] at h; cases h; rfl
  | e :: es', env, st, ds, st1, h => by
    simp only [evDs] at h
    split at h
    · split at h
      · rename_i h2
        cases h
        exact congrArg (· + 1) (evDs_len h2)
      · cases h
    · cases h
theorem oki_of (ha : PE X a (tF X.K T (evE G cl a'))) : PI X tg a (tI X.K T (evI G cl (.of a'))) := by
  refine impI (pi_seq ha) fun σ H R q => ?_
  obtain ⟨φ, ρ, env, st, xs, kp, st', ws, sl, he, k⟩ := q
  simp only [evI] at he
  split at he
  · rename_i x st1 h1
    split at he
    · rename_i ys kq h2
      cases he
      refine seq1 ws sl h1 fun u H1 w1 s1 e1 r1 => ?_
      obtain ⟨kk, ad, rfl, hs⟩ := src_of w1 r1 h2
      have now : Lt X.K T φ ρ H1 kp φ ρ H1 st' := ⟨w1, kk, .refl _ _, [], by simp⟩
      rcases hs with ⟨_, hs⟩ | ⟨_, hs⟩
      · obtain ⟨vs, h3, _⟩ := hs _ _ _ _ now
        exact ⟨ad, rfl, .inl ⟨⟨vs, h3⟩, k _ _ ⟨w1, s1, e1⟩ kk (walkL hs)⟩⟩
      · obtain ⟨vs, h3, _⟩ := hs _ _ _ _ now
        exact ⟨ad, rfl, .inr ⟨⟨vs, h3⟩, k _ _ ⟨w1, s1, e1⟩ kk (walkT hs)⟩⟩
    · cases he
  · cases he
theorem oki_enm {elts : List Expr} {kk : Nat} {tpos : Pos} (hg : Gl X "enumerate") (hm : X.mg "enumerate" = none) (ha : PE X a (tF X.K T (evE G cl a'))) (hp : pln a = true) : PI X (.Tuple elts kk tpos) (.Call (.Name "enumerate" p) [a] [] pos) (tI X.K T (evI G cl (.enm a'))) := by
  refine impI (pi_enumA hg hm (pa_cons ha pa_nil (pln_star hp _ _)) (pln_star hp _ _)) fun σ H R q => ?_
  obtain ⟨φ, ρ, env, st, xs, kp, st', ws, sl, he, k⟩ := q
  simp only [evI] at he
  split at he
  · rename_i x st1 h1
    split at he
    · rename_i ys kq h2
      cases he
      refine seq1 ws sl h1 fun u H1 w1 s1 e1 r1 => ?_
      obtain ⟨kk, ad, rfl, hs⟩ := src_of w1 r1 h2
      have now : Lt X.K T φ ρ H1 kp φ ρ H1 st' := ⟨w1, kk, .refl _ _, [], by simp⟩
      rcases hs with ⟨_, hs⟩ | ⟨_, hs⟩
      · obtain ⟨vs, h3, _⟩ := hs _ _ _ _ now
        exact ⟨ad, vs, rfl, .inl ⟨h3, k _ _ ⟨w1, s1, e1⟩ kk (walkEL hs)⟩⟩
      · obtain ⟨vs, h3, _⟩ := hs _ _ _ _ now
        exact ⟨ad, vs, rfl, .inr ⟨h3, k _ _ ⟨w1, s1, e1⟩ kk (walkET hs)⟩⟩
    · cases he
  · cases he
theorem oki_rng1 (hg : Gl X "range") (hm : X.mg "range" = none) (hes : PA X [a] (tDs X.K T (evDs G cl es'))) (hl : es'.length = 1) (hp : pln a = true) : PI X tg (.Call (.Name "range" p) [a] [] pos) (tI X.K T (evI G cl (.rng es'))) := by
  refine impI (pi_range1 hg hm hes (pln_star hp _ _)) fun σ H R q => ?_
  obtain ⟨φ, ρ, env, st, xs, kp, st', ws, sl, he, k⟩ := q
  simp only [evI] at he
  split at he
  · rename_i n st1 h1
    split at he
    · rename_i hb
      cases he
      refine ⟨φ, ρ, env, st, _, _, ws, sl, h1, fun vs H1 pb rd => ?_⟩
      cases rd with
      | cons r rr =>
        cases rr
        cases r
        refine ⟨n, rfl, hb.1, hb.2, ?_⟩
        have w := walkR (K := X.K) (T := T) (φ := φ) (ρ := ρ) (H1 := H1) (lo := 0) (n := n.toNat)
        refine k _ _ pb rfl ?_
        unfold rngD
        rw [Int.sub_zero]
        exact w
    · cases he
  · rename_i c d st1 h1
    have := evDs_len h1
    rw [hl] at this
    cases this
  · cases he
theorem oki_rng2 (hg : Gl X "range") (hm : X.mg "range" = none) (hes : PA X [a, b] (tDs X.K T (evDs G cl es'))) (hl : es'.length = 2) (hp : pln a = true) (hp2 : pln b = true) : PI X tg (.Call (.Name "range" p) [a, b] [] pos) (tI X.K T (evI G cl (.rng es'))) := by
  refine impI (pi_range2 hg hm hes (by rw [pln_star hp, pln_star hp2]; rfl) (pln_star hp2 _ _)) fun σ H R q => ?_
  obtain ⟨φ, ρ, env, st, xs, kp, st', ws, sl, he, k⟩ := q
  simp only [evI] at he
  split at he
  · rename_i n st1 h1
    have := evDs_len h1
    rw [hl] at this
    cases this
  · rename_i c d st1 h1
    split at he
    · rename_i hb
      cases he
      refine ⟨φ, ρ, env, st, _, _, ws, sl, h1, fun vs H1 pb rd => ?_⟩
      cases rd with
      | cons r rr =>
        cases r
        cases rr with
        | cons r rr =>
          cases r
          cases rr
          exact ⟨c, d, rfl, ⟨hb.1, hb.2.1, hb.2.2.1, hb.2.2.2⟩, k _ _ pb rfl walkR⟩
    · cases he
  · cases he
theorem oki_zip {elts : List Expr} {kk : Nat} {tpos : Pos} (hg : Gl X "zip") (hm : X.mg "zip" = none) (ha : PE X a (tF X.K T (evE G cl a'))) (hb : PE X b (tF X.K T (evE G cl b'))) (hp : pln a = true) (hp2 : pln b = true) :
    PI X (.Tuple elts kk tpos) (.Call (.Name "zip" p) [a, b] [] pos) (tI X.K T (evI G cl (.zip a' b'))) := by
  refine impI (RZ.pi_zipA hg hm (pa_cons ha (pa_cons hb pa_nil (pln_star hp2 _ _)) (pln_star hp _ _)) (pln_star hp _ _) (back_pln (es := [b]) (by rw [List.all_cons, hp2]; rfl) _ _)) fun σ H R q => ?_
  obtain ⟨φ, ρ, env, st, xs, kp, st', ws, sl, he, k⟩ := q
  simp only [evI] at he
  split at he
  · rename_i x st1 h1
    split at he
    · rename_i y st2 h2
      split at he
      · rename_i us kq vs kr h3 h4
        split at he
        · rename_i hk
          cases he
          have hk : srcT x = srcT y := by simpa using hk
          refine seq2 ws sl h1 h2 fun u v H2 w2 s2 e2 ru rv => ?_
          obtain ⟨k1, a1, rfl, hs⟩ := src_of w2 ru h3
          obtain ⟨k2, a2, rfl, ht⟩ := src_of w2 rv h4
          have nowL : Lt X.K T φ ρ H2 kq φ ρ H2 st' := ⟨w2, k1, .refl _ _, [], by simp⟩
          have nowR : Lt X.K T φ ρ H2 kr φ ρ H2 st' := ⟨w2, k2, .refl _ _, [], by simp⟩
          have kk : keptL st' (kq ++ kr) = true := by rw [keptL_app, k1, k2]; rfl
          rcases hs with ⟨e1, hs⟩ | ⟨e1, hs⟩
          · rcases ht with ⟨e3, ht⟩ | ⟨e3, ht⟩
            · obtain ⟨us', h5, _⟩ := hs _ _ _ _ nowL
              obtain ⟨vs', h6, _⟩ := ht _ _ _ _ nowR
              exact ⟨a1, a2, us', vs', rfl, .inl ⟨h5, h6, k _ _ ⟨w2, s2, e2⟩ kk (walkZL hs ht)⟩⟩
            · rw [e1, e3] at hk; cases hk
          · rcases ht with ⟨e3, ht⟩ | ⟨e3, ht⟩
            · rw [e1, e3] at hk; cases hk
            · obtain ⟨us', h5, _⟩ := hs _ _ _ _ nowL
              obtain ⟨vs', h6, _⟩ := ht _ _ _ _ nowR
              exact ⟨a1, a2, us', vs', rfl, .inr ⟨h5, h6, k _ _ ⟨w2, s2, e2⟩ kk (walkZT hs ht)⟩⟩
        · cases he
      · cases he
    · cases he
  · cases he
end
end Ev
set_option linter.all false
set_option maxRecDepth 100000
set_option maxHeartbeats 4000000
/-! Ev8: targets, comprehensions. -/
namespace Ev
open PySem PySem.Spec L2
variable {K : PySem.W.Frag} {T : List (Addr × Str)} {X : Cx} {G : Pk} {cl : Str → List SV → Sto → Option (ER × Sto)}

/-! ### targets -/
theorem wipe_set {σ : L2.St} {i : Nat} {x : Option V} : ∀ {vs : List Nat}, L2.wipe (σ.set i x) vs = if i ∈ vs then L2.wipe σ vs else (L2.wipe σ vs).set i x
  | [] => by simp [L2.wipe]
  | k :: vs => by
    show (L2.wipe (σ.set i x) vs).set k none = _
    rw [wipe_set (vs := vs)]
    by_cases h : i ∈ vs
    · rw [if_pos h, if_pos (List.mem_cons_of_mem _ h)]; rfl
    · rw [if_neg h]
      by_cases e : i = k
      · subst e
        rw [if_pos List.mem_cons_self, List.set_set]; rfl
      · rw [if_neg (by simp [e, h]), List.set_comm _ _ e]; rfl
theorem wipe_in {σ : L2.St} {i : Nat} {x : Option V} {vs : List Nat} (h : i ∈ vs) : L2.wipe (σ.set i x) vs = L2.wipe σ vs := by rw [wipe_set, if_pos h]
theorem wipe_wipe {σ : L2.St} {vs : List Nat} : ∀ {us : List Nat}, (∀ i ∈ us, i ∈ vs) → L2.wipe (L2.wipe σ us) vs = L2.wipe σ vs
  | [], _ => rfl
  | u :: us, h => by
    show L2.wipe ((L2.wipe σ us).set u none) vs = _
    rw [wipe_in (h u List.mem_cons_self)]
    exact wipe_wipe fun i hi => h i (List.mem_cons_of_mem _ hi)
def tG (K : PySem.W.Frag) (T : List (Addr × Str)) (t : IT) : TG := fun v σ H Q => ∃ φ ρ env st d env', Ws K T φ ρ H st ∧ Sl K φ ρ H env σ ∧ RD K φ H v d ∧ bindT t d env = some env' ∧
  ∀ σ', Sl K φ ρ H env' σ' → (∀ vs, (∀ i ∈ slT t, i ∈ vs) → L2.wipe σ' vs = L2.wipe σ vs) → Q σ' H
def tGs (K : PySem.W.Frag) (T : List (Addr × Str)) (ts : List IT) : TGs := fun us σ H Q => ∃ φ ρ env st ds env', Ws K T φ ρ H st ∧ Sl K φ ρ H env σ ∧ RDs K φ H us ds ∧ bindTs ts ds env = some env' ∧
  ∀ σ', Sl K φ ρ H env' σ' → (∀ vs, (∀ i ∈ slTs ts, i ∈ vs) → L2.wipe σ' vs = L2.wipe σ vs) → Q σ' H
theorem impG {e : Expr} {t t' : TG} (h : PG X e t) (k : ∀ v σ H Q, t' v σ H Q → t v σ H Q) : PG X e t' := ⟨fun pins s σ H v u Q I r q => h.run pins s σ H v u Q I r (k v σ H Q q)⟩
theorem impGs {e : List Expr} {t t' : TGs} (h : PGs X e t) (k : ∀ v σ H Q, t' v σ H Q → t v σ H Q) : PGs X e t' := ⟨fun pins s σ H v u Q I r q => h.run pins s σ H v u Q I r (k v σ H Q q)⟩
/-- a name or a tuple of targets -/
def plnT : Expr → Bool
  | .Name .. => true
  | .Tuple .. => true
  | _ => false
theorem okg_nm {i : Nat} {x : Str} {pos : Pos} (hN : X.N.Nodup) (hi : X.N[i]? = some x) (hx : Loc X.env.scope x) (hf : X.fn x = true ∨ X.env.scope.names.lookup x = some .local) : PG X (.Name x pos) (tG X.K T (.nm i)) := by
  refine impG (pg_name hN hi hx hf) fun v σ H Q q => ?_
  obtain ⟨φ, ρ, env, st, d, env', ws, sl, rd, hb, k⟩ := q
  simp only [bindT] at hb
  split at hb
  · cases hb
    exact k _ (sl.set (s := .dat d) rd) fun vs h => wipe_in (h i (by simp [slT]))
  · cases hb
theorem okgs_nil : PGs X [] (tGs X.K T []) := by
  refine impGs pgs_nil fun v σ H Q q => ?_
  obtain ⟨φ, ρ, env, st, d, env', ws, sl, rd, hb, k⟩ := q
  cases rd with
  | nil =>
    simp only [bindTs] at hb
    cases hb
    exact ⟨rfl, k _ sl fun vs h => rfl⟩
  | cons a b => simp [bindTs] at hb
theorem okgs_cons {e : Expr} {es : List Expr} {t : IT} {ts : List IT} (hp : plnT e = true) (h : PG X e (tG X.K T t)) (hs : PGs X es (tGs X.K T ts)) : PGs X (e :: es) (tGs X.K T (t :: ts)) := by
  refine impGs (pgs_cons h hs (by cases e <;> first | rfl | (exact absurd (show false = true from hp) Bool.false_ne_true))) fun us σ H Q q => ?_
  obtain ⟨φ, ρ, env, st, d, env', ws, sl, rd, hb, k⟩ := q
  cases rd with
  | nil => simp [bindTs] at hb
  | cons a b =>
    simp only [bindTs] at hb
    split at hb
    · rename_i env1 h1
      refine ⟨_, _, rfl, φ, ρ, env, st, _, env1, ws, sl, a, h1, fun σ1 sl1 w1 => ⟨φ, ρ, env1, st, _, env', ws, sl1, b, hb, fun σ2 sl2 w2 => k σ2 sl2 fun vs h => ?_⟩⟩
      rw [w2 vs fun i hi => h i (by simp [slTs, hi]), w1 vs fun i hi => h i (by simp [slTs, hi])]
    · cases hb
theorem plnT_len {es : List Expr} {env : PySem.Env} (h : es.all plnT = true) : (assignEach es env).length = es.length ∧ (assignEach es env).findIdx? (·.1) = none := by
  induction es with
  | nil => exact ⟨rfl, rfl⟩
  | cons e es ih =>
    rw [List.all_cons, Bool.and_eq_true] at h
    obtain ⟨h1, h2⟩ := ih h.2
    have e1 : assignEach (e :: es) env = (false, assign e env) :: assignEach es env := by
      cases e <;> first | rfl | (exact absurd (show false = true from h.1) Bool.false_ne_true)
    rw [e1]
    refine ⟨congrArg (· + 1) h1, ?_⟩
    rw [List.findIdx?_cons]
    simp only [Bool.false_eq_true, if_false, h2, Option.map_none]
theorem okg_tp {es : List Expr} {ts : List IT} {k : Nat} {pos : Pos} (hc : X.calm = true) (hp : es.all plnT = true) (hl : es.length = ts.length) (hs : PGs X es (tGs X.K T ts)) : PG X (.Tuple es k pos) (tG X.K T (.tp ts)) := by
  refine impG (pg_tup hc hs (plnT_len hp).1 (plnT_len hp).2) fun v σ H Q q => ?_
  obtain ⟨φ, ρ, env, st, d, env', ws, sl, rd, hb, k⟩ := q
  cases rd with
  | tup h1 h2 =>
    simp only [bindT] at hb
    refine ⟨_, _, rfl, h1, ?_, φ, ρ, env, st, _, env', ws, sl, h2, hb, fun σ' sl' w => k σ' sl' fun vs h => w vs fun i hi => h i (by simpa [slT] using hi)⟩
    rw [h2.length, hl]
    have len : ∀ {ts : List IT} {ds : List D} {env env' : Env}, bindTs ts ds env = some env' → ds.length = ts.length := by
      intro ts
      induction ts with
      | nil => intro ds env env' h; cases ds with | nil => rfl | cons a b => simp [bindTs] at h
      | cons t ts ih =>
        intro ds env env' h
        cases ds with
        | nil => simp [bindTs] at h
        | cons a b =>
          simp only [bindTs] at h
          split at h
          · exact congrArg (· + 1) (ih h)
          · cases h
    exact len hb
  | non => simp [bindT] at hb
  | bl b => simp [bindT] at hb
  | int i => simp [bindT] at hb
  | str x => simp [bindT] at hb
  | lst a b c => simp [bindT] at hb
  | dct e => simp [bindT] at hb

/-! ### tests of a comprehension -/
def tCs (K : PySem.W.Frag) (T : List (Addr × Str)) (F : Env → Sto → Option (Bool × Sto)) : TT := fun σ H Q =>
  ∃ φ ρ env st b st', Ws K T φ ρ H st ∧ Sl K φ ρ H env σ ∧ F env st = some (b, st') ∧ ∀ H', PostB K T φ ρ H H' env σ st' → Q b H'
theorem okc_nil : PTs X [] (tCs X.K T (evCs G cl [])) := by
  refine ⟨fun pins s σ H Q I q => pts_nil.run pins s σ H Q I ?_⟩
  obtain ⟨φ, ρ, env, st, b, st', ws, sl, he, k⟩ := q
  simp only [evCs] at he
  cases he
  exact k H ⟨ws, sl, .refl _ _⟩
theorem okc_one {c : Expr} {c' : IE} (h : PT X c (tT X.K T (evE G cl c'))) : PTs X [c] (tCs X.K T (evCs G cl [c'])) := by
  refine ⟨fun pins s σ H Q I q => (pts_one h).run pins s σ H Q I ?_⟩
  obtain ⟨φ, ρ, env, st, b, st', ws, sl, he, k⟩ := q
  simp only [evCs] at he
  split at he
  · rename_i st1 h1
    cases he
    exact seqT ws sl h1 fun H1 w1 s1 e1 => k H1 ⟨w1, s1, e1⟩
  · rename_i st1 h1
    cases he
    exact seqT ws sl h1 fun H1 w1 s1 e1 => k H1 ⟨w1, s1, e1⟩
  · cases he

/-! ### list comprehensions -/
section
variable {φ ρ : List Addr} {H H' : Hp} {st : Sto} {p : Addr} {xs : List V} {o : HO}
theorem Ws.weak {ψ : List Addr} (w : Ws K T φ ρ H st) (h : ∀ a ∈ ψ, a ∈ φ) (r : ∀ a ∈ ρ, a ∈ ψ) : Ws K T ψ ρ H st :=
  ⟨w.len, fun n ds e => let ⟨a, xs, h1, h2, h3⟩ := w.sto n ds e; ⟨a, xs, h1, h2, h3.weak h⟩, w.nd, r, fun a ha => w.fx a (h a ha), w.tab⟩
/-- a forbidden list, none of the store's, is changed -/
theorem Ws.put {ys : List V} (w : Ws K T φ ρ H st) (h1 : p ∈ φ) (h2 : p ∉ ρ) (h0 : ∃ zs, H p = some (.lst zs)) : Ws K T φ ρ (upd H p (.lst ys)) st := by
  have x : Ext φ H (upd H p (.lst ys)) := .at h1
  obtain ⟨zs, ez⟩ := h0
  refine ⟨w.len, fun n ds e => ?_, w.nd, w.sub, fun a ha => ?_, Tabs_ext (φ := φ) w.tab (.inr ⟨zs, ez⟩)⟩
  · obtain ⟨a, xs, h3, h4, h5⟩ := w.sto n ds e
    exact ⟨a, xs, h3, (upd_ne fun z => h2 (by rw [← z]; exact List.mem_of_getElem? h3)).trans h4, h5.ext x w.fl⟩
  · by_cases e : a = p
    · rw [e]; exact ⟨_, upd_same, True.intro⟩
    · obtain ⟨u, h3, m⟩ := w.fx a ha
      exact ⟨u, (upd_ne e).trans h3, m⟩
end
/-- the state within a comprehension: the new list at d, what it holds so far -/
structure Lc (K : PySem.W.Frag) (T : List (Addr × Str)) (φ ρ : List Addr) (H1 : Hp) (env : Env) (σ : L2.St) (d : Addr) (H : Hp) (st : Sto) (vs : List V) (ds : List D) : Prop where
  ws : Ws K T (φ ++ [d]) ρ H st
  sl : Sl K (φ ++ [d]) ρ H env σ
  at' : H d = some (.lst vs)
  rd : RDs K (φ ++ [d]) H vs ds
  ext : Ext ρ H1 H
  non : H1 d = none
  out : d ∉ φ
section
variable {φ ρ : List Addr} {H1 H H' : Hp} {env : Env} {σ : L2.St} {d : Addr} {st st' : Sto} {vs : List V} {ds : List D}
theorem Lc.gr (l : Lc K T φ ρ H1 env σ d H st vs ds) (sub : ∀ a ∈ ρ, a ∈ φ) : Gr φ (φ ++ [d]) H1 H := ⟨l.ext.more sub, [d], rfl, fun a ha => by rw [List.mem_singleton.mp ha]; exact l.non⟩
theorem Lc.nr (l : Lc K T φ ρ H1 env σ d H st vs ds) (sub : ∀ a ∈ ρ, a ∈ φ) : d ∉ ρ := fun z => l.out (sub _ z)
theorem Lc.start (ws : Ws K T φ ρ H1 st) (sl : Sl K φ ρ H1 env σ) (n : H1 d = none) : Lc K T φ ρ H1 env σ d (upd H1 d (.lst [])) st [] [] := by
  have out : d ∉ φ := fun z => by obtain ⟨xs, e, _⟩ := ws.fx d z; rw [n] at e; cases e
  refine ⟨ws.fresh n, ?_, upd_same, .nil, .new n, n, out⟩
  obtain ⟨p, xs, ds, e1, e2, e3, e4, e5, e6, e7⟩ := (Post.lst (ds := []) ws sl n .nil).fr _ rfl
  cases e2
  exact e7
/-- a step that changes nothing at d -/
theorem Lc.step (l : Lc K T φ ρ H1 env σ d H st vs ds) (sub : ∀ a ∈ ρ, a ∈ φ) (w : Ws K T (φ ++ [d]) ρ H' st') (x : Ext ρ H H') : Lc K T φ ρ H1 env σ d H' st' vs ds :=
  ⟨w, l.sl.ext (x.more l.ws.sub) l.ws.fl, x.keep _ _ l.at' (l.nr sub) (fun ps z => by cases z), l.rd.ext (x.more l.ws.sub) l.ws.fl, l.ext.trans x, l.non, l.out⟩
/-- one more item -/
theorem Lc.push {v : V} {z : D} (l : Lc K T φ ρ H1 env σ d H st vs ds) (sub : ∀ a ∈ ρ, a ∈ φ) (r : RD K (φ ++ [d]) H v z) : Lc K T φ ρ H1 env σ d (upd H d (.lst (vs ++ [v]))) st (vs ++ [v]) (ds ++ [z]) := by
  have hd : d ∈ φ ++ [d] := by simp
  have x : Ext (φ ++ [d]) H (upd H d (.lst (vs ++ [v]))) := .at hd
  refine ⟨l.ws.put hd (l.nr sub) ⟨_, l.at'⟩, l.sl.ext x l.ws.fl, upd_same, (l.rd.append (.cons r .nil)).ext x l.ws.fl, ⟨fun b o e n t => ?_, fun b e => ?_⟩, l.non, l.out⟩
  · have nb : b ≠ d := fun q => by rw [q, l.non] at e; cases e
    exact (upd_ne nb).trans (l.ext.keep b o e n t)
  · by_cases q : b = d
    · rw [q]; exact l.non
    · exact l.ext.dom b ((upd_ne q).symm.trans e)
theorem Lc.post {env0 : Env} {σ0 : L2.St} {H0 : Hp} (l : Lc K T φ ρ H1 env σ d H st vs ds) (sub : ∀ a ∈ ρ, a ∈ φ) (w1 : Ws K T φ ρ H1 st') (s1 : Sl K φ ρ H1 env0 σ0) (x : Ext ρ H0 H1) : Post K T φ ρ H0 H env0 σ0 st (.dat (.list ds) true) (.ref d) := by
  have g := l.gr sub
  refine ⟨l.ws.weak (fun a ha => List.mem_append_left _ ha) sub, s1.ext g.ext w1.fl, x.trans l.ext, .lst l.out l.at' (l.rd.weak fun a ha => List.mem_append_left _ ha), fun z e => ?_⟩
  cases e
  refine ⟨d, vs, ds, rfl, rfl, x.dom _ l.non, l.at', l.rd, l.ws, s1.len, fun i s e => ?_⟩
  obtain ⟨u, h1, h2⟩ := s1.get i s e
  refine ⟨u, h1, ?_⟩
  cases s with
  | dat z => exact g.rd w1.fl h2
  | loc n => exact h2
  | scr ns => exact RS.ext g.ext w1.fl h2
end
theorem lc_read {own : List (Str × Nat)} {t : IT} {it : II} {cs : List IE} {e : IE} (hown : ∀ i ∈ slT t, i ∈ own.map (·.2)) (σ : L2.St) (H : Hp) (Q : VK) (q : tF K T (evE G cl (.lc own t it cs e)) σ H Q) :
    tLc (tI K T (evI G cl it)) (tG K T t) (tCs K T (evCs G cl cs)) (tF K T (evE G cl e)) (own.map (·.2)) σ H Q := by
  obtain ⟨φ, ρ, env, st, x, st', ws, sl, hev, k⟩ := q
  simp only [evE] at hev
  split at hev
  · rename_i xs kp st1 h1
    split at hev
    · rename_i ys st2 h2
      split at hev
      · rename_i hlen
        cases hev
        refine ⟨φ, ρ, env, st, xs, kp, st1, ws, sl, h1, fun J H1 p kk walk dd hdd => ?_⟩
        have sub := p.ws.sub
        have slw : Sl K φ ρ H1 (wipeE env (own.map (·.2))) (L2.wipe σ (own.map (·.2))) := p.sl.wipe _
        generalize hF : (fun (d : D) (s : Sto) => match bindT t d (wipeE env (own.map (·.2))) with
          | some env1 => match evCs G cl cs env1 s with
            | some (true, s1) => match evE G cl e env1 s1 with
              | some (.dat y _, s2) => if keptL s2 kp then some ([y], s2) else none
              | _ => none
            | some (false, s1) => if keptL s1 kp then some ([], s1) else none
            | none => none
          | none => none) = F at h2
        refine ⟨fun i m Hh => m = xs.length - i ∧ i ≤ xs.length ∧ ∃ stc vs done rest, Lc K T φ ρ H1 (wipeE env (own.map (·.2))) (L2.wipe σ (own.map (·.2))) dd Hh stc vs done ∧ keptL stc kp = true ∧ compL F (xs.drop i) stc = some (rest, st') ∧ done ++ rest = ys,
          ⟨xs.length, by simp, Nat.zero_le _, st1, [], [], ys, Lc.start p.ws slw hdd, kk, h2, rfl⟩, ?_⟩
        rintro i m Hh ⟨rfl, hi, stc, vs, done, rest, l, kc, hrest, hys⟩
        have lt : Lt K T φ ρ H1 kp (φ ++ [dd]) ρ Hh stc := ⟨l.ws, kc, l.gr sub, [], by simp⟩
        by_cases hlt : i < xs.length
        · refine .inr ⟨walk.goes i _ _ _ _ hlt lt, ?_⟩
          have hdrop : xs.drop i = xs[i] :: xs.drop (i + 1) := List.drop_eq_getElem_cons hlt
          rw [hdrop] at hrest
          simp only [compL] at hrest
          split at hrest
          · rename_i zs sta ha
            split at hrest
            · rename_i ws' stb hb
              cases hrest
              refine ⟨fun H' => ∃ vs2, Lc K T φ ρ H1 (wipeE env (own.map (·.2))) (L2.wipe σ (own.map (·.2))) dd H' sta vs2 (done ++ zs) ∧ keptL sta kp = true, fun H' hN' => ?_, fun u Hy hy => ?_⟩
              · obtain ⟨vs2, l2, k2⟩ := hN'
                exact ⟨xs.length - (i + 1), by omega, rfl, hlt, sta, vs2, done ++ zs, ws', l2, k2, hb, by rw [List.append_assoc]; exact hys⟩
              · obtain ⟨⟨d0, hd0, rd0⟩, hch⟩ := walk.yields i _ _ _ _ u Hy hlt lt hy
                have ed : d0 = xs[i] := by rw [List.getElem?_eq_getElem hlt] at hd0; exact (Option.some.inj hd0).symm
                subst ed
                have ly : Lc K T φ ρ H1 (wipeE env (own.map (·.2))) (L2.wipe σ (own.map (·.2))) dd Hy stc vs done := by
                  rcases hch with rfl | ⟨pp, oo, hp0, hoo, rfl⟩
                  · exact l
                  · exact l.step sub (l.ws.new hp0 hoo) (.new hp0)
                rw [← hF] at ha
                simp only at ha
                split at ha
                · rename_i env1 hb1
                  refine ⟨φ ++ [dd], ρ, _, stc, xs[i], env1, ly.ws, ly.sl, rd0, hb1, fun σ2 sl2 w2 => ⟨(w2 _ hown).trans (wipe_wipe fun _ h => h), ?_⟩⟩
                  split at ha
                  · rename_i s1 hc1
                    split at ha
                    · rename_i y fr s2 he2
                      split at ha
                      · rename_i hk2
                        cases ha
                        refine ⟨φ ++ [dd], ρ, env1, stc, true, s1, ly.ws, sl2, hc1, fun H3 p3 => iteT ⟨φ ++ [dd], ρ, env1, s1, _, sta, p3.ws, p3.sl, he2, fun v4 H4 p4 => ?_⟩⟩
                        have l4 := (ly.step sub p3.ws p3.ext).step sub p4.ws p4.ext
                        have hlen2 : vs.length < sizeLine := by
                          rw [l4.rd.length]
                          have : (done ++ ([y] ++ ws')).length ≤ sizeLine := by rw [hys]; exact hlen
                          simp only [List.length_append, List.length_cons, List.length_nil] at this
                          omega
                        exact ⟨vs, l4.at', hlen2, vs ++ [v4], l4.push sub p4.rr, hk2⟩
                      · cases ha
                    · cases ha
                  · rename_i s1 hc1
                    split at ha
                    · rename_i hk2
                      cases ha
                      exact ⟨φ ++ [dd], ρ, env1, stc, false, sta, ly.ws, sl2, hc1, fun H3 p3 => iteF ⟨vs, by rw [List.append_nil]; exact ly.step sub p3.ws p3.ext, hk2⟩⟩
                    · cases ha
                  · cases ha
                · cases ha
            · cases hrest
          · cases hrest
        · have e : i = xs.length := by omega
          subst e
          refine .inl ⟨walk.stops _ _ _ _ lt, ?_⟩
          rw [List.drop_length] at hrest
          simp only [compL] at hrest
          cases hrest
          rw [List.append_nil] at hys
          subst hys
          exact k _ _ (l.post sub p.ws p.sl p.ext)
      · cases hev
    · cases hev
  · cases hev
theorem ok_lc {elt tg iter : Expr} {ifs : List Expr} {scope : Scope} {own : List (Str × Nat)} {pos : Pos} {t : IT} {it : II} {cs : List IE} {e : IE} (hc : X.calm = true) (hN : X.N.Nodup) (hi : PI X tg iter (tI X.K T (evI G cl it))) (ok : BlkOk X.N X.env.scope scope own)
    (hg : ∀ (s : Shared) (H : Hp) (C : Addr) (cl : List (Str × Addr)) (fp : List Addr), PG (X.blk s H scope (compEnvC scope cl C X.env) fp) tg (tG X.K T t))
    (ht : ∀ (s : Shared) (H : Hp) (C : Addr) (cc : List (Str × Addr)) (fp : List Addr), PTs (X.blk s H scope (compEnvC scope cc C X.env) fp) ifs (tCs X.K T (evCs G cl cs)))
    (he : ∀ (s : Shared) (H : Hp) (C : Addr) (cc : List (Str × Addr)) (fp : List Addr), PE (X.blk s H scope (compEnvC scope cc C X.env) fp) elt (tF X.K T (evE G cl e)))
    (hs : pln iter = true) (hown : ∀ i ∈ slT t, i ∈ own.map (·.2)) :
    PE X (.ListComp elt [⟨tg, iter, ifs, 0⟩] scope pos) (tF X.K T (evE G cl (.lc own t it cs e))) := by
  exact imp (pe_lc hc hN hi ok hg ht he (fun x => pln_fold hs _ x)) (lc_read hown)
end Ev
set_option linter.all false
set_option maxRecDepth 100000
set_option maxHeartbeats 8000000
/-! Ev9: comprehensions of two fors. -/
namespace Ev
open PySem PySem.Spec L2
variable {K : PySem.W.Frag} {T : List (Addr × Str)} {X : Cx} {G : Pk} {cl : Str → List SV → Sto → Option (ER × Sto)}
theorem Lc.slots {φ ρ : List Addr} {H1 H : Hp} {env env' : Env} {σ σ' : L2.St} {d : Addr} {st : Sto} {vs : List V} {ds : List D} (l : Lc K T φ ρ H1 env σ d H st vs ds) (s : Sl K (φ ++ [d]) ρ H env' σ') : Lc K T φ ρ H1 env' σ' d H st vs ds :=
  ⟨l.ws, s, l.at', l.rd, l.ext, l.non, l.out⟩
theorem lc2_read {own : List (Str × Nat)} {vs1 : List Nat} {t t1 : IT} {it it1 : II} {cs cs1 : List IE} {e : IE} (hown : ∀ i ∈ slT t, i ∈ own.map (·.2)) (hown1 : ∀ i ∈ slT t1, i ∈ vs1) (σ : L2.St) (H : Hp) (Q : VK) (q : tF K T (evE G cl (.lc2 own vs1 t it cs t1 it1 cs1 e)) σ H Q) :
    tLc2 (tI K T (evI G cl it)) (tG K T t) (tCs K T (evCs G cl cs)) (tI K T (evI G cl it1)) (tG K T t1) (tCs K T (evCs G cl cs1)) (tF K T (evE G cl e)) (own.map (·.2)) vs1 σ H Q := by
  obtain ⟨φ, ρ, env, st, x, st', ws, sl, hev, k⟩ := q
  simp only [evE] at hev
  split at hev
  · rename_i xs kp st1 h1
    split at hev
    · rename_i ys st2 h2
      split at hev
      · rename_i hlen
        cases hev
        refine ⟨φ, ρ, env, st, xs, kp, st1, ws, sl, h1, fun J H1 p kk walk dd hdd => ?_⟩
        have sub := p.ws.sub
        have slw : Sl K φ ρ H1 (wipeE env (own.map (·.2))) (L2.wipe σ (own.map (·.2))) := p.sl.wipe _
        generalize hF : (fun (d : D) (s : Sto) => match bindT t d (wipeE env (own.map (·.2))) with
          | some env1 => match evCs G cl cs env1 s with
            | some (true, s1) => match evI G cl it1 env1 s1 with
              | some (zs, kp1, s2) => match compL (fun d1 s => match bindT t1 d1 (wipeE env1 vs1) with
                  | some env2 => match evCs G cl cs1 env2 s with
                    | some (true, s3) => match evE G cl e env2 s3 with
                      | some (.dat y _, s4) => if keptL s4 kp1 then some ([y], s4) else none
                      | _ => none
                    | some (false, s3) => if keptL s3 kp1 then some ([], s3) else none
                    | none => none
                  | none => none) zs s2 with
                | some (ys, s5) => if keptL s5 kp then some (ys, s5) else none
                | none => none
              | none => none
            | some (false, s1) => if keptL s1 kp then some ([], s1) else none
            | none => none
          | none => none) = F at h2
        refine ⟨fun i m Hh => m = xs.length - i ∧ i ≤ xs.length ∧ ∃ stc vs done rest, Lc K T φ ρ H1 (wipeE env (own.map (·.2))) (L2.wipe σ (own.map (·.2))) dd Hh stc vs done ∧ keptL stc kp = true ∧ compL F (xs.drop i) stc = some (rest, st') ∧ done ++ rest = ys,
          ⟨xs.length, by simp, Nat.zero_le _, st1, [], [], ys, Lc.start p.ws slw hdd, kk, h2, rfl⟩, ?_⟩
        rintro i m Hh ⟨rfl, hi, stc, vs, done, rest, l, kc, hrest, hys⟩
        have lt : Lt K T φ ρ H1 kp (φ ++ [dd]) ρ Hh stc := ⟨l.ws, kc, l.gr sub, [], by simp⟩
        by_cases hlt : i < xs.length
        · refine .inr ⟨walk.goes i _ _ _ _ hlt lt, ?_⟩
          have hdrop : xs.drop i = xs[i] :: xs.drop (i + 1) := List.drop_eq_getElem_cons hlt
          rw [hdrop] at hrest
          simp only [compL] at hrest
          split at hrest
          · rename_i zs sta ha
            split at hrest
            · rename_i ws' stb hb
              cases hrest
              refine ⟨fun H' => ∃ vs2, Lc K T φ ρ H1 (wipeE env (own.map (·.2))) (L2.wipe σ (own.map (·.2))) dd H' sta vs2 (done ++ zs) ∧ keptL sta kp = true, fun H' hN' => ?_, fun u Hy hy => ?_⟩
              · obtain ⟨vs2, l2, k2⟩ := hN'
                exact ⟨xs.length - (i + 1), by omega, rfl, hlt, sta, vs2, done ++ zs, ws', l2, k2, hb, by rw [List.append_assoc]; exact hys⟩
              · obtain ⟨⟨d0, hd0, rd0⟩, hch⟩ := walk.yields i _ _ _ _ u Hy hlt lt hy
                have ed : d0 = xs[i] := by rw [List.getElem?_eq_getElem hlt] at hd0; exact (Option.some.inj hd0).symm
                subst ed
                have ly : Lc K T φ ρ H1 (wipeE env (own.map (·.2))) (L2.wipe σ (own.map (·.2))) dd Hy stc vs done := by
                  rcases hch with rfl | ⟨pp, oo, hp0, hoo, rfl⟩
                  · exact l
                  · exact l.step sub (l.ws.new hp0 hoo) (.new hp0)
                have hdd2 : dd ∈ φ ++ [dd] := by simp
                rw [← hF] at ha
                simp only at ha
                split at ha
                · rename_i env1 hb1
                  refine ⟨φ ++ [dd], ρ, _, stc, xs[i], env1, ly.ws, ly.sl, rd0, hb1, fun σ2 sl2 w2 => ⟨(w2 _ hown).trans (wipe_wipe fun _ h => h), ?_⟩⟩
                  split at ha
                  · rename_i s1 hc1
                    split at ha
                    · rename_i us kp1 s2 hi2
                      split at ha
                      · rename_i yi s5 hcomp
                        split at ha
                        · rename_i hk5
                          cases ha
                          refine ⟨φ ++ [dd], ρ, env1, stc, true, s1, ly.ws, sl2, hc1, fun H3 p3 => iteT ⟨φ ++ [dd], ρ, env1, s1, us, kp1, s2, p3.ws, p3.sl, hi2, fun J1 H4 p4 kk1 walk1 => ?_⟩⟩
                          have l4 := (ly.step sub p3.ws p3.ext).step sub p4.ws p4.ext
                          have sl4 : Sl K (φ ++ [dd]) ρ H4 env1 σ2 := p4.sl
                          generalize hF1 : (fun (d1 : D) (s : Sto) => match bindT t1 d1 (wipeE env1 vs1) with
                            | some env2 => match evCs G cl cs1 env2 s with
                              | some (true, s3) => match evE G cl e env2 s3 with
                                | some (.dat y _, s4) => if keptL s4 kp1 then some ([y], s4) else none
                                | _ => none
                              | some (false, s3) => if keptL s3 kp1 then some ([], s3) else none
                              | none => none
                            | none => none) = F1 at hcomp
                          refine ⟨fun j m Hh => m = us.length - j ∧ j ≤ us.length ∧ ∃ stc vs done2 rest2, Lc K T φ ρ H1 (wipeE env1 vs1) (L2.wipe σ2 vs1) dd Hh stc vs (done ++ done2) ∧ Sl K (φ ++ [dd]) ρ Hh (wipeE env (own.map (·.2))) (L2.wipe σ (own.map (·.2))) ∧ Ext (φ ++ [dd]) H4 Hh ∧ keptL stc kp1 = true ∧ compL F1 (us.drop j) stc = some (rest2, sta) ∧ done2 ++ rest2 = zs,
                            ⟨us.length, by simp, Nat.zero_le _, s2, vs, [], zs, by rw [List.append_nil]; exact l4.slots (sl4.wipe _), l4.sl, .refl _ _, kk1, hcomp, rfl⟩, ?_⟩
                          rintro j m2 Hj ⟨rfl, hj, stj, vsj, done2, rest2, lj, slj, xj, kj, hrest2, hzs⟩
                          have ltj : Lt K T (φ ++ [dd]) ρ H4 kp1 (φ ++ [dd]) ρ Hj stj := ⟨lj.ws, kj, ⟨xj, [], by simp, by simp⟩, [], by simp⟩
                          by_cases hltj : j < us.length
                          · refine .inr ⟨walk1.goes j _ _ _ _ hltj ltj, ?_⟩
                            have hdropj : us.drop j = us[j] :: us.drop (j + 1) := List.drop_eq_getElem_cons hltj
                            rw [hdropj] at hrest2
                            simp only [compL] at hrest2
                            split at hrest2
                            · rename_i qs stq hq
                              split at hrest2
                              · rename_i wq stb2 hb2
                                cases hrest2
                                refine ⟨fun H' => ∃ vs2, Lc K T φ ρ H1 (wipeE env1 vs1) (L2.wipe σ2 vs1) dd H' stq vs2 (done ++ (done2 ++ qs)) ∧ Sl K (φ ++ [dd]) ρ H' (wipeE env (own.map (·.2))) (L2.wipe σ (own.map (·.2))) ∧ Ext (φ ++ [dd]) H4 H' ∧ keptL stq kp1 = true, fun H' hN' => ?_, fun u2 Hz hz => ?_⟩
                                · obtain ⟨vs2, l2, slx, xx, k2⟩ := hN'
                                  exact ⟨us.length - (j + 1), by omega, rfl, hltj, stq, vs2, done2 ++ qs, wq, l2, slx, xx, k2, hb2, by rw [List.append_assoc]; exact hzs⟩
                                · obtain ⟨⟨d1, hd1, rd1⟩, hch1⟩ := walk1.yields j _ _ _ _ u2 Hz hltj ltj hz
                                  have ed1 : d1 = us[j] := by rw [List.getElem?_eq_getElem hltj] at hd1; exact (Option.some.inj hd1).symm
                                  subst ed1
                                  have lz : Lc K T φ ρ H1 (wipeE env1 vs1) (L2.wipe σ2 vs1) dd Hz stj vsj (done ++ done2) ∧ Sl K (φ ++ [dd]) ρ Hz (wipeE env (own.map (·.2))) (L2.wipe σ (own.map (·.2))) ∧ Ext (φ ++ [dd]) H4 Hz := by
                                    rcases hch1 with rfl | ⟨pp, oo, hp0, hoo, rfl⟩
                                    · exact ⟨lj, slj, xj⟩
                                    · exact ⟨lj.step sub (lj.ws.new hp0 hoo) (.new hp0), slj.ext (.new hp0) lj.ws.fl, xj.trans (.new hp0)⟩
                                  obtain ⟨lz, slz, xz⟩ := lz
                                  rw [← hF1] at hq
                                  simp only at hq
                                  split at hq
                                  · rename_i env2 hb3
                                    refine ⟨φ ++ [dd], ρ, _, stj, us[j], env2, lz.ws, lz.sl, rd1, hb3, fun σ3 sl3 w3 => ⟨(w3 _ hown1).trans (wipe_wipe fun _ h => h), ?_⟩⟩
                                    split at hq
                                    · rename_i s3 hc3
                                      split at hq
                                      · rename_i y fr s4 he4
                                        split at hq
                                        · rename_i hk4
                                          cases hq
                                          refine ⟨φ ++ [dd], ρ, env2, stj, true, s3, lz.ws, sl3, hc3, fun H6 p6 => iteT ⟨φ ++ [dd], ρ, env2, s3, _, stq, p6.ws, p6.sl, he4, fun v7 H7 p7 => ?_⟩⟩
                                          have l7 := (lz.step sub p6.ws p6.ext).step sub p7.ws p7.ext
                                          have x7 : Ext (φ ++ [dd]) Hz H7 := (p6.ext.trans p7.ext).more lz.ws.sub
                                          have s7 := (slz.ext x7 lz.ws.fl)
                                          have hlen2 : vsj.length < sizeLine := by
                                            rw [l7.rd.length]
                                            have h0 : (done ++ (done2 ++ ([y] ++ wq) ++ ws')).length ≤ sizeLine := by rw [hzs, hys]; exact hlen
                                            simp only [List.length_append, List.length_cons, List.length_nil] at h0 ⊢
                                            omega
                                          refine ⟨vsj, l7.at', hlen2, vsj ++ [v7], by rw [← List.append_assoc]; exact l7.push sub p7.rr, s7.ext (.at hdd2) l7.ws.fl, (xz.trans x7).trans (.at hdd2), hk4⟩
                                        · cases hq
                                      · cases hq
                                    · rename_i s3 hc3
                                      split at hq
                                      · rename_i hk4
                                        cases hq
                                        refine ⟨φ ++ [dd], ρ, env2, stj, false, stq, lz.ws, sl3, hc3, fun H6 p6 => iteF ⟨vsj, by rw [List.append_nil]; exact lz.step sub p6.ws p6.ext, slz.ext (p6.ext.more lz.ws.sub) lz.ws.fl, xz.trans (p6.ext.more lz.ws.sub), hk4⟩⟩
                                      · cases hq
                                    · cases hq
                                  · cases hq
                              · cases hrest2
                            · cases hrest2
                          · have ej : j = us.length := by omega
                            subst ej
                            refine .inl ⟨walk1.stops _ _ _ _ ltj, ?_⟩
                            rw [List.drop_length] at hrest2
                            simp only [compL] at hrest2
                            cases hrest2
                            rw [List.append_nil] at hzs
                            subst hzs
                            exact ⟨vsj, lj.slots slj, hk5⟩
                        · cases ha
                      · cases ha
                    · cases ha
                  · rename_i s1 hc1
                    split at ha
                    · rename_i hk2
                      cases ha
                      exact ⟨φ ++ [dd], ρ, env1, stc, false, sta, ly.ws, sl2, hc1, fun H3 p3 => iteF ⟨vs, by rw [List.append_nil]; exact ly.step sub p3.ws p3.ext, hk2⟩⟩
                    · cases ha
                  · cases ha
                · cases ha
            · cases hrest
          · cases hrest
        · have e : i = xs.length := by omega
          subst e
          refine .inl ⟨walk.stops _ _ _ _ lt, ?_⟩
          rw [List.drop_length] at hrest
          simp only [compL] at hrest
          cases hrest
          rw [List.append_nil] at hys
          subst hys
          exact k _ _ (l.post sub p.ws p.sl p.ext)
      · cases hev
    · cases hev
  · cases hev
theorem ok_lc2 {elt tg iter tg1 iter1 : Expr} {ifs ifs1 : List Expr} {scope : Scope} {own : List (Str × Nat)} {vs1 : List Nat} {pos : Pos} {t t1 : IT} {it it1 : II} {cs cs1 : List IE} {e : IE} (hc : X.calm = true) (hN : X.N.Nodup) (hi : PI X tg iter (tI X.K T (evI G cl it))) (ok : BlkOk X.N X.env.scope scope own)
    (hv : ∀ i ∈ vs1, i ∈ own.map (·.2))
    (hg : ∀ (s : Shared) (H : Hp) (C : Addr) (cl : List (Str × Addr)) (fp : List Addr), PG (X.blk s H scope (compEnvC scope cl C X.env) fp) tg (tG X.K T t))
    (ht : ∀ (s : Shared) (H : Hp) (C : Addr) (cc : List (Str × Addr)) (fp : List Addr), PTs (X.blk s H scope (compEnvC scope cc C X.env) fp) ifs (tCs X.K T (evCs G cl cs)))
    (hi1 : ∀ (s : Shared) (H : Hp) (C : Addr) (cc : List (Str × Addr)) (fp : List Addr), PI (X.blk s H scope (compEnvC scope cc C X.env) fp) tg1 iter1 (tI X.K T (evI G cl it1)))
    (hg1 : ∀ (s : Shared) (H : Hp) (C : Addr) (cl : List (Str × Addr)) (fp : List Addr), PG (X.blk s H scope (compEnvC scope cl C X.env) fp) tg1 (tG X.K T t1))
    (ht1 : ∀ (s : Shared) (H : Hp) (C : Addr) (cc : List (Str × Addr)) (fp : List Addr), PTs (X.blk s H scope (compEnvC scope cc C X.env) fp) ifs1 (tCs X.K T (evCs G cl cs1)))
    (he : ∀ (s : Shared) (H : Hp) (C : Addr) (cc : List (Str × Addr)) (fp : List Addr), PE (X.blk s H scope (compEnvC scope cc C X.env) fp) elt (tF X.K T (evE G cl e)))
    (hs : pln iter = true) (hs1 : pln iter1 = true) (hown : ∀ i ∈ slT t, i ∈ own.map (·.2)) (hown1 : ∀ i ∈ slT t1, i ∈ vs1) :
    PE X (.ListComp elt [⟨tg, iter, ifs, 0⟩, ⟨tg1, iter1, ifs1, 0⟩] scope pos) (tF X.K T (evE G cl (.lc2 own vs1 t it cs t1 it1 cs1 e))) := by
  exact imp (pe_lc2 hc hN hi ok hv hg ht hi1 hg1 ht1 he (fun x => pln_fold hs _ x) (fun env x => pln_fold hs1 _ x)) (lc2_read hown hown1)
end Ev
set_option linter.all false
set_option maxRecDepth 100000
set_option maxHeartbeats 8000000
/-! EvN: a set made by a comprehension of two fors (None, ints, texts), and how many it holds. -/
namespace Ev
open PySem PySem.Spec L2 PyProof.Rows

/-! ### the set as a thing that is tracked -/
abbrev NK := Option Key
def vN : NK → V
  | none => .non
  | some k => kV k
theorem vN_is {P : Program} {w : World} : ∀ {k : NK} {u : Value}, RelV (vN k) u → (noneKind P w).is k u = true
  | none, u, r => by
    cases (show u = Value.none from r)
    rfl
  | some k, u, r => (kV_is (P := P) (w := w) r : _)
theorem vN_scan : ∀ {k : NK} {u : Value}, RelV (vN k) u → u.scannable = true
  | none, u, r => by
    cases (show u = Value.none from r)
    rfl
  | some k, u, r => key_scan (k := k) r
def SetN (P : Program) (w : World) (a : Addr) (S : NK → Bool) (n : Nat) : HO := .ext fun h => h.SetOf (noneKind P w) a S n
def more (S : NK → Bool) (k : NK) : NK → Bool := fun j => S j || decide (j = k)
def moreN (S : NK → Bool) (k : NK) (n : Nat) : Nat := if S k = true then n else n + 1
section
variable {P : Program} {w : World} {H : Hp} {h : Heap} {a : Addr} {S : NK → Bool} {n : Nat}
theorem setN_ok (R : h.SetOf (noneKind P w) a S n) : ObjOk P w H h a (SetN P w a S n) := by
  refine ⟨R, ?_, fun _ _ p k => ?_⟩
  · obtain ⟨o, _, _, _, e, _⟩ := R
    exact ⟨o, e⟩
  · obtain ⟨o, x, y, z, e, r⟩ := p
    exact ⟨o, x, y, z, k o e, r⟩
theorem setN_none (P : Program) (w : World) (h : Heap) :
    (h.push { cls := .type "set", dict := none, data := .set #[] 0 (.fresh 0 0 (!w.params.followText "set-order")) }).SetOf (noneKind P w) h.objs.size (fun _ => false) 0 := by
  refine ⟨_, #[], 0, _, Heap.get?_push_size _ rfl, ⟨rfl, rfl, rfl⟩, rfl, ?_, ?_, ?_, ?_, rfl⟩
  · intro e he; simp at he
  · intro k; simp
  · decide
  · rfl
end
section
variable {X : Cx} {pins : List (Addr × Obj)} {σ : L2.St} {H : Hp} {s : Shared} {E : Value → Shared → Prop} {d : Addr} {S : NK → Bool} {n : Nat} {k : NK} {u : Value} {Q : Value → Shared → Prop}
theorem addN (I : Inv X pins σ H s) (hd : H d = some (SetN X.prog X.w d S n)) (room : n + 1 < scanBound) (r : RelV (vN k) u)
    (go : ∀ s', Inv X pins σ (upd H d (SetN X.prog X.w d (more S k) (moreN S k n))) s' → Q .none s') :
    wpAny (model X.prog X.w) X.A (call (.builtin "set.add") [.ref d, u]) Q E s := by
  refine call_set_add (vN_is r) (vN_scan r) (I.hok d _ hd).1 room fun h' sb new => go _ ?_
  have there : ∃ o, h'.get? d = some o := by
    obtain ⟨o, _, _, _, e, _⟩ := new
    exact ⟨o, e⟩
  exact I.write (e := d) (t' := s.toks + 1) (by rw [hd]; trivial) (.inl rfl) (fun b o hb e => (sb.2 b hb).trans e) there (setN_ok new)
/-- len of it -/
def rLenN (P : Program) (w : World) : List V → Hp → VK → Prop := fun vs H Q => ∃ a S n, vs = [.ref a] ∧ H a = some (SetN P w a S n) ∧ n < 2 ^ 62 ∧ Q (.int (n : Nat)) H
theorem cr_lenN : CallR X (.builtin "len") (rLenN X.prog X.w) := by
  intro pins s σ H vs us Q I r q
  obtain ⟨a, S, n, rfl, ha, small, q⟩ := q
  cases r with
  | cons r1 r2 =>
    cases r2
    cases r1
    obtain ⟨o, es, ep, t, ho, hex, hd, _, _, _, hf, hn⟩ := (I.hok a _ ha).1
    exact call_len_set ho hex hd hf (by rw [hn]; omega) ⟨.int n, H, I.tok _, ⟨_, by rw [hn]⟩, q⟩
end

/-! ### the code's loops -/
/-- the tests of a for, in their order -/
def tests (cs : List Expr) (env : PySem.Env) : Sem Bool :=
  forIn cs true fun c b => if b = true then do { let z ← isTrue c env (eval c env); pure (ForInStep.yield z) } else pure (ForInStep.yield b)
section
variable {prog : Program} {w : World} {A : Around} {R : Result → Shared → Prop} {env : PySem.Env} {elt t0 i0 t1 i1 : Expr} {c0 c1 : List Expr} {scope : Scope} {pos : Pos} {it acc : Value}
abbrev wpF {α : Type} (prog : Program) (w : World) (A : Around) (m : Sem α) (Q : α → Shared → Prop) (s : Shared) : Prop := wpAny (model prog w) A m Q (fun _ _ => False) s
abbrev scx (elt t0 i0 t1 i1 : Expr) (c0 c1 : List Expr) (scope : Scope) (pos : Pos) : Expr := .SetComp elt [⟨t0, i0, c0, 0⟩, ⟨t1, i1, c1, 0⟩] scope pos
theorem sc_in (I : Nat → Shared → Prop)
    (turn : ∀ n s, I n s → wpF prog w A (pyNext it) (fun r sa => match r with
      | none => R (.ok .next) sa
      | some v => wpF prog w A (letOwnedTupleGo t1 it v) (fun _ sb => wpF prog w A (assign t1 env v) (fun _ sc => wpF prog w A (tests c1 env) (fun b sd =>
          if b = true then wpF prog w A (eval elt env) (fun x se => wpF prog w A (call (.builtin "set.add") [acc, x]) (fun _ sf => ∃ m, m < n ∧ I m sf) se) sd
          else ∃ m, m < n ∧ I m sd) sc) sb) sa) s)
    (n : Nat) (s : Shared) (h : I n s) : codeAny (model prog w) A (.compLoop (scx elt t0 i0 t1 i1 c0 c1 scope pos) 1 it acc env) R s := by
  refine codeAny_loop rfl I (fun n s hI => ?_) n h
  show wpAny _ A ((compTurn (scx elt t0 i0 t1 i1 c0 c1 scope pos) 1 it acc env).onRaise _) _ _ s
  refine wpAny_noted ?_
  show wpAny _ A (standAt i1.pos >>= _) _ _ s
  refine wpAny_bind (wpAny_standAt ?_)
  show wpAny _ A (pyNext it >>= _) _ _ _
  refine wpAny_bind (thnF (turn n s hI) fun r sa ha => ?_)
  cases r with
  | none => exact wpAny_pure ha
  | some v =>
    refine wpAny_bind (thnF ha fun _ sb hb => wpAny_bind (thnF hb fun _ sc hc => wpAny_bind (thnF hc fun b sd hd => ?_)))
    cases b with
    | false => exact wpAny_pure ⟨rfl, hd⟩
    | true => exact wpAny_bind (wpAny_bind (thnF hd fun x se he => wpAny_bind (wpAny_standAt (wpAny_bind (thnF he fun _ sf hf => wpAny_pure (wpAny_pure ⟨rfl, hf⟩))))))
theorem sc_out (fold : ∀ x, foldedSetIterable i1 env x = pure x) (I : Nat → Shared → Prop)
    (turn : ∀ n s, I n s → wpF prog w A (pyNext it) (fun r sa => match r with
      | none => R (.ok .next) sa
      | some v => wpF prog w A (letOwnedTupleGo t0 it v) (fun _ sb => wpF prog w A (assign t0 env v) (fun _ sc => wpF prog w A (tests c0 env) (fun b sd =>
          if b = true then wpF prog w A (eval i1 env) (fun x se => wpF prog w A (pyIter x) (fun jt sf =>
              codeAny (model prog w) A (.compStart (scx elt t0 i0 t1 i1 c0 c1 scope pos) 1 jt acc env) (fun r sg => r.isOk = true ∧ ∃ m, m < n ∧ I m sg) sf) se) sd
          else ∃ m, m < n ∧ I m sd) sc) sb) sa) s)
    (n : Nat) (s : Shared) (h : I n s) : codeAny (model prog w) A (.compLoop (scx elt t0 i0 t1 i1 c0 c1 scope pos) 0 it acc env) R s := by
  refine codeAny_loop rfl I (fun n s hI => ?_) n h
  show wpAny _ A ((compTurn (scx elt t0 i0 t1 i1 c0 c1 scope pos) 0 it acc env).onRaise _) _ _ s
  refine wpAny_noted ?_
  show wpAny _ A (standAt i0.pos >>= _) _ _ s
  refine wpAny_bind (wpAny_standAt ?_)
  show wpAny _ A (pyNext it >>= _) _ _ _
  refine wpAny_bind (thnF (turn n s hI) fun r sa ha => ?_)
  cases r with
  | none => exact wpAny_pure ha
  | some v =>
    refine wpAny_bind (thnF ha fun _ sb hb => wpAny_bind (thnF hb fun _ sc hc => wpAny_bind (thnF hc fun b sd hd => ?_)))
    cases b with
    | false => exact wpAny_pure ⟨rfl, hd⟩
    | true =>
      refine wpAny_bind (thnF hd fun x se he => wpAny_bind (wpAny_standAt (wpAny_bind (wpAny_of_eq (fold x) (wpAny_bind (wpAny_holding (thnF he fun jt sf hf => ?_)))))))
      refine wpAny_bind (wpAny_runOwn ?_)
      rw [Around.mark_none]
      refine codeAny_mono hf fun r sg hr => ?_
      cases r with
      | ok f => first | exact wpAny_pure ⟨rfl, hr.2⟩ | exact wpAny_bind (wpAny_pure (wpAny_pure ⟨rfl, hr.2⟩))
      | error e => exact absurd hr.1 (by intro z; cases z)
theorem sc_start1 {s : Shared} (h0 : codeAny (model prog w) A (.compLoop (scx elt t0 i0 t1 i1 c0 c1 scope pos) 1 it acc env) R s)
    (h1 : wpAny (model prog w) A (pyIter it) (fun jt sa => codeAny (model prog w) A (.compLoop (scx elt t0 i0 t1 i1 c0 c1 scope pos) 1 jt acc env) R sa) (notedBy (model prog w) A env fun x sa => R (.error x) sa) s) :
    codeAny (model prog w) A (.compStart (scx elt t0 i0 t1 i1 c0 c1 scope pos) 1 it acc env) R s := by
  refine codeAny_of_tree (wpAny_notedAt (m := compStart (scx elt t0 i0 t1 i1 c0 c1 scope pos) 1 it acc env) (pos := theWindowsPlace) ?_)
  unfold compStart
  refine wpAny_bind (m := ask) (wpAny_askSetting (wpAny_ite ?_))
  split
  · first | exact wpAny_pure ⟨rfl, h0⟩ | exact wpAny_bind (wpAny_pure (wpAny_pure ⟨rfl, h0⟩))
  · refine wpAny_bind (wpAny_rule ?_)
    refine wpAny_bind (m := standAt i1.pos) (wpAny_standAt (wpAny_bind (wpAny_mono h1 (fun jt sa q => wpAny_pure ⟨rfl, q⟩) fun _ _ z => z)))
end
end Ev
set_option linter.all false
set_option maxRecDepth 100000
set_option maxHeartbeats 16000000
/-! EvO: the set's comprehension as an expression. -/
namespace Ev
open PySem PySem.Spec L2 PyProof.Rows
/-- a walk from W on, till it stops -/
abbrev Steps (J : It) (W : Nat → Nat → Hp → Prop) (fin : Hp → Prop) (body : (Hp → Prop) → V → Hp → Prop) : Prop :=
  ∀ i m H, W i m H → (J.stop i H ∧ fin H) ∨ (J.go i H ∧ ∃ Nx : Hp → Prop, (∀ K, Nx K → ∃ l, l < m ∧ W (i + 1) l K) ∧ ∀ x K, J.yld i H x K → body Nx x K)
def tSc2 (P : Program) (w : World) (wi : TI) (g : TG) (tt : TT) (wi1 : TI) (g1 : TG) (tt1 : TT) (te : TE) (vs vs1 : List Nat) : TE := fun σ H Q => wi σ H fun J H1 => ∀ D, H1 D = none →
  ∃ W : Nat → Nat → Hp → Prop, (∃ m, W 0 m (upd H1 D (SetN P w D (fun _ => false) 0))) ∧ Steps J W (Q (.ref D)) fun Nx x K =>
    g x (L2.wipe σ vs) K fun σ2 H2 => L2.wipe σ2 vs = L2.wipe σ vs ∧ tt σ2 H2 fun b H3 => if b = true then wi1 σ2 H3 fun J1 H4 =>
      ∃ W1 : Nat → Nat → Hp → Prop, (∃ m, W1 0 m H4) ∧ Steps J1 W1 Nx fun Nx1 x K =>
        g1 x (L2.wipe σ2 vs1) K fun σ3 H5 => L2.wipe σ3 vs1 = L2.wipe σ2 vs1 ∧ tt1 σ3 H5 fun b H6 => if b = true then te σ3 H6 fun y H7 =>
          ∃ k S n, y = vN k ∧ H7 D = some (SetN P w D S n) ∧ n + 1 < scanBound ∧ Nx1 (upd H7 D (SetN P w D (more S k) (moreN S k n)))
          else Nx1 H6
    else Nx H3
section
variable {X : Cx} {pins : List (Addr × Obj)} {elt tg iter tg1 iter1 : Expr} {ifs ifs1 : List Expr} {scope : Scope} {own : List (Str × Nat)} {vs1 : List Nat} {pos : Pos} {wi wi1 : TI} {g g1 : TG} {tt tt1 : TT} {te : TE}
/-- what a block's own context is good for -/
structure BlkK (X : Cx) (scope : Scope) (tg iter tg1 iter1 elt : Expr) (ifs ifs1 : List Expr) (wi1 : TI) (g g1 : TG) (tt tt1 : TT) (te : TE) : Prop where
  tg : ∀ s H C cl fp, PG (X.blk s H scope (compEnvC scope cl C X.env) fp) tg g
  ifs : ∀ s H C cl fp, PTs (X.blk s H scope (compEnvC scope cl C X.env) fp) ifs tt
  it1 : ∀ s H C cl fp, PI (X.blk s H scope (compEnvC scope cl C X.env) fp) tg1 iter1 wi1
  tg1 : ∀ s H C cl fp, PG (X.blk s H scope (compEnvC scope cl C X.env) fp) tg1 g1
  ifs1 : ∀ s H C cl fp, PTs (X.blk s H scope (compEnvC scope cl C X.env) fp) ifs1 tt1
  elt : ∀ s H C cl fp, PE (X.blk s H scope (compEnvC scope cl C X.env) fp) elt te
/-- one iterator within a context: where it stands -/
structure At (X : Cx) (pins : List (Addr × Obj)) (σ : L2.St) (fp : List Addr) (tn : Nat → Heap → Prop) (i : Nat) (H : Hp) (s : Shared) : Prop where
  inv : Inv X pins σ H s
  st : tn i s.heap
  off : ∀ b ∈ fp, H b = none
theorem At.next {J : It} {fp : List Addr} {it : Addr} {tn : Nat → Heap → Prop} {i : Nat} {σ σ' : L2.St} {H' : Hp} {s s' : Shared} {Y : Cx} (T : Turn Y.prog Y.w Y.K tg J fp it tn) (st : tn i s.heap) (I : Inv Y (pins ++ pinsAt fp s.heap) σ' H' s')
    (hl : σ.length = σ'.length) (hk : ∀ (j : Nat) v, σ[j]? = some (some v) → σ'[j]? = some (some v)) : At Y pins σ fp tn i H' s' := by
  have pin : ∀ b ∈ fp, ∀ o, s.heap.get? b = some o → s'.heap.get? b = some o ∧ H' b = none := fun b hb o e => by
    have z := I.pin (b, o) (List.mem_append_right _ (List.mem_append_right _ (mem_pinsAt hb e)))
    exact ⟨z.1, z.2.1⟩
  refine ⟨(I.unpinned (pins := pins)).weak hl hk, T.keep _ _ _ st fun b hb o e => (pin b hb o e).1, fun b hb => ?_⟩
  obtain ⟨o, e, _⟩ := T.obj _ _ st b hb
  exact (pin b hb o e).2
theorem pe_sc2 (hc : X.calm = true) (hN : X.N.Nodup) (hi : PI X tg iter wi) (ok : BlkOk X.N X.env.scope scope own) (hv : ∀ i ∈ vs1, i ∈ own.map (·.2)) (B : BlkK X scope tg iter tg1 iter1 elt ifs ifs1 wi1 g g1 tt tt1 te)
    (f0 : ∀ x, foldedSetIterable iter X.env x = pure x) (f1 : ∀ env x, foldedSetIterable iter1 env x = pure x) :
    PE X (scx elt tg iter tg1 iter1 ifs ifs1 scope pos) (tSc2 X.prog X.w wi g tt wi1 g1 tt1 te (own.map (·.2)) vs1) := by
  refine ⟨fun pins s σ H Q I q => ?_⟩
  have hfree : ∀ y ∈ scope.names, y.2 = .free → ∃ c, X.env.cells.lookup y.1 = some c := fun y hy e =>
    I.ok.has _ ((ok.free y hy e).elim .inl .inr)
  show wpAny _ _ (comprehension (scx elt tg iter tg1 iter1 ifs ifs1 scope pos) scope X.env _ (newSet (.type "set")) false (eval iter X.env) none) _ _ s
  refine wpAny_comprehension_free (g := ⟨tg, iter, ifs, 0⟩) (gs := [⟨tg1, iter1, ifs1, 0⟩]) rfl f0 (closure_ok hfree) ok.kind (fun y hy e => by rw [ok.uniq y hy, e]) ?_
  refine thn (hi.run pins s σ H _ I q) fun xv sa ha => thn ha fun itv sb hb => ?_
  obtain ⟨it, fp, tn, J, H1, rfl, Ib, T, stb, fpb, q⟩ := hb
  refine PpSet.newSet_ok (newEnv_comp ?_)
  obtain ⟨d, hd⟩ : ∃ d, d = sb.heap.objs.size := ⟨_, rfl⟩
  rw [← hd]
  have dn : H1 d = none := Ib.hok.fresh (Nat.le_of_eq hd.symm)
  obtain ⟨W, ⟨m0, w0⟩, turn⟩ := q d dn
  obtain ⟨s3, hs3⟩ : ∃ s3 : Shared, s3 = { sb with heap := sb.heap.push { cls := .type "set", dict := none, data := .set #[] 0 (.fresh 0 0 (!X.w.params.followText "set-order")) } } := ⟨_, rfl⟩
  rw [← hs3]
  have h3 : s3.heap = sb.heap.push { cls := .type "set", dict := none, data := .set #[] 0 (.fresh 0 0 (!X.w.params.followText "set-order")) } := by rw [hs3]
  obtain ⟨H3, hH3⟩ : ∃ H3, H3 = upd H1 d (SetN X.prog X.w d (fun _ => false) 0) := ⟨_, rfl⟩
  rw [← hH3] at w0
  have I3 : Inv X pins σ H3 s3 := by
    rw [hs3, hH3]
    refine Ib.laid (t' := sb.toks) (fun b o e => Heap.get?_push_of_some _ e) (Nat.le_of_eq hd.symm) ?_
    rw [hd]
    exact setN_ok (setN_none X.prog X.w sb.heap)
  have old : ∀ b ∈ fp, b < sb.heap.objs.size := fun b hb => by
    obtain ⟨o, e, _⟩ := T.obj _ _ stb b hb
    exact Heap.lt_size e
  have fp3 : ∀ b ∈ fp, FpOk X pins H3 b ∧ b < s3.heap.objs.size := fun b hb => by
    refine ⟨⟨?_, (fpb b hb).2⟩, by rw [h3, Heap.size_push]; exact Nat.lt_succ_of_lt (old b hb)⟩
    rw [hH3, upd_ne (by rw [hd]; exact Nat.ne_of_lt (old b hb))]
    exact (fpb b hb).1
  have st3 : tn 0 s3.heap := T.keep _ _ _ stb fun b _ o e => by rw [h3]; exact Heap.get?_push_of_some _ e
  have I4 := block_start I3 ok hN fp3
  obtain ⟨ce, hce⟩ : ∃ ce, ce = compEnvC scope (cellsFrom (s3.heap.objs.size + 1) scope.names (cloFrom X.env.cells scope.names [])) s3.heap.objs.size X.env := ⟨_, rfl⟩
  have cL : ce.locals = s3.heap.objs.size := by rw [hce]; rfl
  obtain ⟨Y, hY⟩ : ∃ Y, Y = X.blk s3 H3 scope ce fp := ⟨_, rfl⟩
  have bt : PG Y tg g := by rw [hY, hce]; exact B.tg _ _ _ _ _
  have bi : PTs Y ifs tt := by rw [hY, hce]; exact B.ifs _ _ _ _ _
  have bj : PI Y tg1 iter1 wi1 := by rw [hY, hce]; exact B.it1 _ _ _ _ _
  have bt1 : PG Y tg1 g1 := by rw [hY, hce]; exact B.tg1 _ _ _ _ _
  have bi1 : PTs Y ifs1 tt1 := by rw [hY, hce]; exact B.ifs1 _ _ _ _ _
  have be : PE Y elt te := by rw [hY, hce]; exact B.elt _ _ _ _ _
  rw [← hce, ← hY] at I4
  have Yp : Y.prog = X.prog := by rw [hY]
  have Yw : Y.w = X.w := by rw [hY]
  have YA : Y.A = X.A := by rw [hY]
  have YK : Y.K = X.K := by rw [hY]
  have Ye : Y.env = ce := by rw [hY]
  have Yx : Y.xe = fun _ _ => False := by rw [hY]
  have T' : Turn Y.prog Y.w Y.K tg J fp it tn := by rw [Yp, Yw, YK]; exact T
  obtain ⟨s4, hs4⟩ : ∃ s4 : Shared, s4 = { s3 with heap := pushCells (s3.heap.push { cls := .type "dict", data := .dict #[] }) scope.names } := ⟨_, rfl⟩
  rw [← hs4] at I4
  have st4 : tn 0 s4.heap := T.keep _ _ _ st3 fun b _ o e => by rw [hs4]; exact pushCells_keeps _ _ _ _ (Heap.get?_push_of_some _ e)
  have stat : ∀ {σ' : L2.St} {H' : Hp} {s' : Shared}, Inv Y [] σ' H' s' → (∀ b ∈ fp, H' b = none) → ∀ b ∈ fp, FpOk Y [] H' b := fun {σ' H' s'} I' hn b hb => by
    rw [hY] at I' ⊢
    exact ⟨hn b hb, (I'.ok.exf b hb).1, I'.ok.exfs b hb, .inl hb, fun x c e => (I'.ok.exf b hb).2 x c e, fun p hp => absurd (show p ∈ ([] : List (Addr × Obj)) ++ [] from hp) (by simp)⟩
  show codeAny _ _ (.compStart (scx elt tg iter tg1 iter1 ifs ifs1 scope pos) 0 (.ref it) (.ref d) _) _ _
  rw [← hs4]
  show codeAny _ _ (.compStart (scx elt tg iter tg1 iter1 ifs ifs1 scope pos) 0 (.ref it) (.ref d) (compEnvC scope (cellsFrom (s3.heap.objs.size + 1) scope.names (cloFrom X.env.cells scope.names [])) s3.heap.objs.size X.env)) _ _
  rw [← hce]
  obtain ⟨ws, hws⟩ : ∃ ws, ws = own.map (·.2) := ⟨_, rfl⟩
  rw [← hws] at I4 turn hv
  have loop : ∀ R : Result → Shared → Prop, (∀ s' H', Inv Y [] (L2.wipe σ ws) H' s' → Q (.ref d) H' → R (.ok .next) s') → codeAny (model X.prog X.w) X.A (.compLoop (scx elt tg iter tg1 iter1 ifs ifs1 scope pos) 0 (.ref it) (.ref d) ce) R s4 := fun R hR => by
    refine sc_out (f1 ce) (fun n s' => ∃ i H', At Y [] (L2.wipe σ ws) fp tn i H' s' ∧ W i n H') ?_ m0 s4 ⟨0, H3, ⟨I4, st4, fun b hb => (fp3 b hb).1.1⟩, w0⟩
    rintro n s5 ⟨i, H5, a5, w5⟩
    rcases turn i n H5 w5 with ⟨stop, qq⟩ | ⟨go, Nx, hNx, step⟩
    · have t0 := T.done Y Yp Yw YK (by rw [hY]; exact hc) i [] s5 _ H5 (fun _ _ => False) a5.inv (stat a5.inv a5.off) a5.st stop
      rw [YA] at t0
      refine thnF t0 fun r s6 ⟨hr, I6⟩ => ?_
      subst hr
      exact hR s6 H5 I6 qq
    · have t0 := T.item Y Yp Yw YK (by rw [hY]; exact hc) i [] s5 _ H5 (fun _ _ => False) a5.inv (stat a5.inv a5.off) a5.st go
      rw [YA] at t0
      refine thnF t0 fun r s6 ⟨u, hr, h6⟩ => ?_
      subst hr
      refine thnF h6 fun _ s7 ⟨x, H7, I7, r7, y7, st7, n7⟩ => ?_
      have P7 := I7.pinned (stat I7 n7) (T.obj _ _ st7)
      have t7 := bt.run _ s7 _ H7 x u _ P7 r7 (step x H7 y7)
      rw [Ye, Yp, Yw, YA, Yx] at t7
      refine thnF t7 fun _ s8 ⟨σ8, H8, I8, hw8, q8⟩ => ?_
      have t8 := bi.run _ s8 σ8 H8 _ I8 q8
      rw [Ye, Yp, Yw, YA, Yx] at t8
      refine thnF t8 fun b s9 ⟨H9, I9, q9⟩ => ?_
      have len8 : (L2.wipe σ ws).length = σ8.length := by rw [← hw8, wipe_length]
      have fin : ∀ {σ9 : L2.St} {s' : Shared} {H' : Hp}, Inv Y ([] ++ pinsAt fp s7.heap) σ9 H' s' → (L2.wipe σ ws).length = σ9.length → (∀ (j : Nat) v, (L2.wipe σ ws)[j]? = some (some v) → σ9[j]? = some (some v)) → Nx H' →
          ∃ m, m < n ∧ ∃ i H', At Y [] (L2.wipe σ ws) fp tn i H' s' ∧ W i m H' := fun {σ9 s' H'} I' hl hk nx => by
        obtain ⟨m', hm, w'⟩ := hNx H' nx
        exact ⟨m', hm, i + 1, H', At.next (T') st7 I' hl hk, w'⟩
      cases b with
      | false => exact fin I9 len8 (fun j v e => by rw [← hw8] at e; exact (wipe_some e).1) (by simpa using q9)
      | true =>
        simp only [if_true] at q9
        have t9 := bj.run _ s9 σ8 H9 _ I9 q9
        rw [Ye, Yp, Yw, YA, Yx] at t9
        refine thnF t9 fun xv sa ha => thnF ha fun itv sb hb => ?_
        obtain ⟨jt, fq, tm, J1, H11, rfl, I11, T1, stj, fqb, W1, ⟨m1, w1⟩, turn1⟩ := hb
        have stat1 : ∀ {H' : Hp}, (∀ b ∈ fq, H' b = none) → ∀ b ∈ fq, FpOk Y ([] ++ pinsAt fp s7.heap) H' b := fun hn b hb => ⟨hn b hb, (fqb b hb).2⟩
        have T1' : Turn Y.prog Y.w Y.K tg1 J1 fq jt tm := T1
        have inner : codeAny (model X.prog X.w) X.A (.compLoop (scx elt tg iter tg1 iter1 ifs ifs1 scope pos) 1 (.ref jt) (.ref d) ce) (fun r sg => r.isOk = true ∧ ∃ m, m < n ∧ ∃ i H', At Y [] (L2.wipe σ ws) fp tn i H' sg ∧ W i m H') sb := by
          refine sc_in (fun k s' => ∃ j H', At Y ([] ++ pinsAt fp s7.heap) (L2.wipe σ8 vs1) fq tm j H' s' ∧ W1 j k H') ?_ m1 sb ⟨0, H11, ⟨I11.weak (wipe_length _ _) (fun j v e => (wipe_some e).1), stj, fun b hb => (fqb b hb).1⟩, w1⟩
          rintro k sc ⟨j, H12, a12, w12⟩
          rcases turn1 j k H12 w12 with ⟨stop1, nx1⟩ | ⟨go1, Nx1, hNx1, step1⟩
          · have td := T1'.done Y rfl rfl rfl (by rw [hY]; exact hc) j _ sc _ H12 (fun _ _ => False) a12.inv (stat1 a12.off) a12.st stop1
            rw [Yp, Yw, YA] at td
            refine thnF td fun r sd ⟨hr, I13⟩ => ?_
            subst hr
            refine ⟨rfl, fin I13 (len8.trans (wipe_length σ8 vs1).symm) (fun j v e => ?_) nx1⟩
            rw [← hw8] at e
            obtain ⟨e1, e2⟩ := wipe_some e
            rw [wipe_out fun z => e2 (hv j z)]
            exact e1
          · have ti := T1'.item Y rfl rfl rfl (by rw [hY]; exact hc) j _ sc _ H12 (fun _ _ => False) a12.inv (stat1 a12.off) a12.st go1
            rw [Yp, Yw, YA] at ti
            refine thnF ti fun r sd ⟨u1, hr, hd1⟩ => ?_
            subst hr
            refine thnF hd1 fun _ se ⟨x1, H14, I14, r14, y14, st14, n14⟩ => ?_
            have P14 := I14.pinned (stat1 n14) (T1'.obj _ _ st14)
            have t14 := bt1.run _ se _ H14 x1 u1 _ P14 r14 (step1 x1 H14 y14)
            rw [Ye, Yp, Yw, YA, Yx] at t14
            refine thnF t14 fun _ sf ⟨σ15, H15, I15, hw15, q15⟩ => ?_
            have t15 := bi1.run _ sf σ15 H15 _ I15 q15
            rw [Ye, Yp, Yw, YA, Yx] at t15
            refine thnF t15 fun b1 sg ⟨H16, I16, q16⟩ => ?_
            have fin1 : ∀ {s' : Shared} {H' : Hp}, Inv Y (([] ++ pinsAt fp s7.heap) ++ pinsAt fq se.heap) σ15 H' s' → Nx1 H' → ∃ m, m < k ∧ ∃ j H', At Y ([] ++ pinsAt fp s7.heap) (L2.wipe σ8 vs1) fq tm j H' s' ∧ W1 j m H' := fun {s' H'} I' nx => by
              obtain ⟨m', hm, w'⟩ := hNx1 H' nx
              exact ⟨m', hm, j + 1, H', At.next T1' st14 I' (by rw [← hw15, wipe_length]) (fun j v e => by rw [← hw15] at e; exact (wipe_some e).1), w'⟩
            cases b1 with
            | false => exact fin1 I16 (by simpa using q16)
            | true =>
              simp only [if_true] at q16
              have t16 := be.run _ sg σ15 H16 _ I16 q16
              rw [Ye, Yp, Yw, YA, Yx] at t16
              refine thnF t16 fun z sh ⟨yv, H17, I17, r17, kk, S0, n0, ey, hD, room, nx⟩ => ?_
              subst ey
              have ta := addN (X := Y) (E := fun _ _ => False) (Q := fun _ s6 => ∃ m, m < k ∧ ∃ j H', At Y ([] ++ pinsAt fp s7.heap) (L2.wipe σ8 vs1) fq tm j H' s6 ∧ W1 j m H') I17 (by rw [Yp, Yw]; exact hD) room r17 fun s' I' => fin1 I' (by rw [Yp, Yw]; exact nx)
              rw [Yp, Yw, YA] at ta
              exact ta
        have T2 : Turn X.prog X.w Y.K tg1 J1 fq jt tm := by rw [← Yp, ← Yw]; exact T1'
        exact sc_start1 inner (T2.self X.A 0 _ _ _ stj inner)
  have end' : ∀ s' H', Inv Y [] (L2.wipe σ ws) H' s' → Q (.ref d) H' → compPost (model X.prog X.w) X.A X.xe none (EP X pins σ Q) (.ref d) s3.heap.objs.size (.ok .next) s' := fun s6 H6 I6 qq => by
    rw [hY] at I6
    have I7 : Inv X pins σ H6 s6 := I3.call' (ch := fp) I6.os I6.base I6.hok I6.bare fun b hb => ⟨(fp3 b hb).1.2.2.2.1, (fp3 b hb).1.2.1, (fp3 b hb).1.2.2.2.2.1, (fp3 b hb).1.2.2.2.2.2⟩
    have nC : H6 s3.heap.objs.size = none := by rw [← cL]; exact I6.free
    obtain ⟨m, hn, _⟩ := I6.loc
    have hn : s6.heap.Ns s3.heap.objs.size m := by rw [← cL]; exact hn
    obtain ⟨g0, g1, g2, g3, g4, g5⟩ := I3.fpOk (Nat.le_refl _) nC
    exact ⟨m, hn, fun h'' sb => ⟨.ref d, H6, I7.turned (t' := s6.toks) (fun b o hb e => (sb.2 b hb).trans e) g0 g1 g3 g4 g5, rfl, qq⟩⟩
  have l4 := loop _ end'
  exact PpSet.codeAny_compStart_set l4 (T.self X.A 0 _ _ _ st4 l4)
end
end Ev
set_option linter.all false
set_option maxRecDepth 100000
set_option maxHeartbeats 16000000
/-! EvP: how many a set holds, read off the small language. -/
namespace Ev
open PySem PySem.Spec L2
variable {K : PySem.W.Frag} {T : List (Addr × Str)} {X : Cx} {G : Pk} {cl : Str → List SV → Sto → Option (ER × Sto)}
/-! ### a set that changes -/
theorem code_ne_set {c : Addr} {q : Str} {P : Program} {w : World} {S : NK → Bool} {n : Nat} : LamX.CodeO c q ≠ SetN P w c S n := fun z => by
  unfold LamX.CodeO SetN at z
  injection z with e
  obtain ⟨oc, hoc⟩ : ∃ oc : Obj, oc = { cls := .type "code", dict := none, data := .fields #[.none, .str q 0] } := ⟨_, rfl⟩
  obtain ⟨h, hh⟩ : ∃ h : Heap, h.get? c = some oc := by
    refine ⟨⟨(Array.replicate c oc).push oc, {}⟩, ?_⟩
    have q : ((Array.replicate c oc).push oc)[c]? = some oc := by
      have z := Array.getElem?_push_size (xs := Array.replicate c oc) (x := oc)
      rw [Array.size_replicate] at z
      exact z
    unfold Heap.get?
    rw [hoc] at q ⊢
    simp only [q]
  have k := (congrFun e h).mp ⟨oc, _, 0, hh, by rw [hoc], rfl⟩
  obtain ⟨o, es, ep, t, h1, _, h3, _⟩ := k
  rw [hh] at h1
  cases h1
  rw [hoc] at h3
  cases h3
theorem Ws.putX {φ ρ : List Addr} {H : Hp} {d : Addr} {P : Program} {w' : World} {S : NK → Bool} {n : Nat} {o : HO} {st : Sto} (w : Ws K T φ ρ H st) (hd : d ∈ φ) (h : H d = some (SetN P w' d S n)) (hm : Mo o) : Ws K T φ ρ (upd H d o) st := by
  have x : Ext φ H (upd H d o) := .at hd
  have h' : ∃ f, H d = some (.ext f) := ⟨_, h⟩
  obtain ⟨f, hf⟩ := h'
  have k : ∀ b u, H b = some u → (∀ g, u ≠ .ext g) → upd H d o b = some u := fun b u e n => (upd_ne fun q => by rw [q, hf] at e; cases e; exact n f rfl).trans e
  refine ⟨w.len, fun n ds e => ?_, w.nd, w.sub, fun a ha => ?_, ⟨fun q hq => ?_, fun a ps e => ?_⟩⟩
  · obtain ⟨a, xs, h1, h2, h3⟩ := w.sto n ds e
    exact ⟨a, xs, h1, k _ _ h2 (fun _ z => by cases z), h3.ext x w.fl⟩
  · by_cases q : a = d
    · rw [q]; exact ⟨_, upd_same, hm⟩
    · obtain ⟨u, e, m⟩ := w.fx a ha
      exact ⟨u, (upd_ne q).trans e, m⟩
  · obtain ⟨ps, h1, h2, h3⟩ := w.tab.1 q hq
    refine ⟨ps, k _ _ h1 (fun _ z => by cases z), h2, fun pos cv hcv => ?_⟩
    obtain ⟨c, e1, e2⟩ := h3 pos cv hcv
    refine ⟨c, e1, (upd_ne fun z => ?_).trans e2⟩
    subst z
    rw [h] at e2
    exact code_ne_set (Option.some.inj e2).symm
  · by_cases q : a = d
    · rw [q, upd_same] at e
      rw [Option.some.inj e] at hm
      exact hm.elim
    · rw [upd_ne q] at e
      exact w.tab.2 a ps e

/-! ### what it holds -/
theorem keyD_v {φ : List Addr} {H : Hp} {v : V} {z : D} {k : Option Key} (r : RD K φ H v z) (h : keyD z = some k) : v = vN k := by
  cases r <;> simp only [keyD] at h <;> first | cases h; rfl | cases h
theorem keysD_app : ∀ {xs ys : List D} {ks : List (Option Key)}, keysD (xs ++ ys) = some ks → ∃ as bs, keysD xs = some as ∧ keysD ys = some bs ∧ ks = as ++ bs
  | [], ys, ks, h => ⟨[], ks, rfl, h, rfl⟩
  | x :: xs, ys, ks, h => by
    simp only [List.cons_append, keysD] at h
    split at h
    · rename_i k ks' h1 h2
      cases h
      obtain ⟨as, bs, e1, e2, e3⟩ := keysD_app h2
      exact ⟨k :: as, bs, by simp only [keysD, h1, e1], e2, by rw [e3]; rfl⟩
    · cases h
theorem dedK_app : ∀ (as bs acc : List (Option Key)), dedK acc (as ++ bs) = dedK (dedK acc as) bs
  | [], _, _ => rfl
  | a :: as, bs, acc => by simp only [List.cons_append, dedK]; exact dedK_app as bs _
theorem dedK_len : ∀ (as acc : List (Option Key)), (dedK acc as).length ≤ acc.length + as.length
  | [], _ => by simp [dedK]
  | a :: as, acc => by
    simp only [dedK]
    have q := dedK_len as (if hasKey acc a = true then acc else acc ++ [a])
    have : (if hasKey acc a = true then acc else acc ++ [a]).length ≤ acc.length + 1 := by split <;> simp
    simp only [List.length_cons]
    omega
def hasK (ks : List (Option Key)) : NK → Bool := fun j => hasKey (dedK [] ks) j
theorem hasK_more (ks : List (Option Key)) (k : Option Key) : more (hasK ks) k = hasK (ks ++ [k]) := by
  funext j
  simp only [more, hasK, dedK_app, dedK]
  by_cases h : hasKey (dedK [] ks) k = true
  · rw [if_pos h]
    by_cases e : j = k
    · subst e; simp [h]
    · simp [e]
  · rw [if_neg h]
    simp only [hasKey, List.any_append, List.any_cons, List.any_nil, Bool.or_false]
    congr 1
    by_cases e : j = k
    · simp [e]
    · rw [decide_eq_false e, decide_eq_false (fun z => e z.symm)]
theorem hasK_num (ks : List (Option Key)) (k : Option Key) : moreN (hasK ks) k (dedK [] ks).length = (dedK [] (ks ++ [k])).length := by
  simp only [moreN, hasK, dedK_app, dedK]
  by_cases h : hasKey (dedK [] ks) k = true
  · simp [h]
  · simp [h]

/-- the state within: the new set at d, what it holds so far -/
structure Lk (P : Program) (w : World) (K : PySem.W.Frag) (T : List (Addr × Str)) (φ ρ : List Addr) (H1 : Hp) (env : Env) (σ : L2.St) (d : Addr) (H : Hp) (st : Sto) (ks : List (Option Key)) : Prop where
  ws : Ws K T (φ ++ [d]) ρ H st
  sl : Sl K (φ ++ [d]) ρ H env σ
  at' : H d = some (SetN P w d (hasK ks) (dedK [] ks).length)
  ext : Ext ρ H1 H
  non : H1 d = none
  out : d ∉ φ
section
variable {P : Program} {w : World} {φ ρ : List Addr} {H1 H H' : Hp} {env env' : Env} {σ σ' : L2.St} {d : Addr} {st st' : Sto} {ks : List (Option Key)}
theorem Lk.nr (l : Lk P w K T φ ρ H1 env σ d H st ks) : d ∉ ρ := fun z => by
  obtain ⟨xs, e⟩ := l.ws.rho d z
  rw [l.at'] at e
  unfold SetN at e
  cases e
theorem Lk.start (ws : Ws K T φ ρ H1 st) (sl : Sl K φ ρ H1 env σ) (n : H1 d = none) : Lk P w K T φ ρ H1 env σ d (upd H1 d (SetN P w d (fun _ => false) 0)) st [] := by
  have e : (fun _ => false : NK → Bool) = hasK [] := by funext j; simp [hasK, dedK, hasKey]
  have out : d ∉ φ := fun z => by obtain ⟨u, e, _⟩ := ws.fx d z; rw [n] at e; cases e
  have w1 : Ws K T φ ρ (upd H1 d (SetN P w d (fun _ => false) 0)) st := ws.new n (fun ps z => by unfold SetN at z; cases z)
  have x : Ext φ H1 (upd H1 d (SetN P w d (fun _ => false) 0)) := .new n
  have y : Ext (φ ++ [d]) H1 (upd H1 d (SetN P w d (fun _ => false) 0)) := .new n
  have fl1 : Lst (φ ++ [d]) H1 := fun a ha o e => by
    rcases List.mem_append.mp ha with h | h
    · exact ws.fl a h o e
    · rw [List.mem_singleton.mp h, n] at e; cases e
  refine ⟨⟨w1.len, fun m ds q => ?_, w1.nd, fun a ha => List.mem_append_left _ (w1.sub a ha), fun a ha => ?_, w1.tab⟩, ⟨sl.len, fun i s q => ?_⟩, ?_, .new n, n, out⟩
  · obtain ⟨a, xs, h1, h2, h3⟩ := ws.sto m ds q
    exact ⟨a, xs, h1, (upd_ne (ne_of_none h2 n)).trans h2, (RDs.fresh n h3).ext y fl1⟩
  · rcases List.mem_append.mp ha with h | h
    · exact w1.fx a h
    · rw [List.mem_singleton.mp h]; exact ⟨_, upd_same, by unfold SetN; trivial⟩
  · obtain ⟨v, a, b⟩ := sl.get i s q
    exact ⟨v, a, (b.fresh n).ext y fl1⟩
  · rw [upd_same, e]
    rfl
theorem Lk.step (l : Lk P w K T φ ρ H1 env σ d H st ks) (v : Ws K T (φ ++ [d]) ρ H' st') (x : Ext ρ H H') : Lk P w K T φ ρ H1 env σ d H' st' ks :=
  ⟨v, l.sl.ext (x.more l.ws.sub) l.ws.fl, x.keep _ _ l.at' l.nr (fun ps z => by unfold SetN at z; cases z), l.ext.trans x, l.non, l.out⟩
theorem Lk.slots (l : Lk P w K T φ ρ H1 env σ d H st ks) (s : Sl K (φ ++ [d]) ρ H env' σ') : Lk P w K T φ ρ H1 env' σ' d H st ks := ⟨l.ws, s, l.at', l.ext, l.non, l.out⟩
theorem Lk.push (l : Lk P w K T φ ρ H1 env σ d H st ks) (k : Option Key) : Lk P w K T φ ρ H1 env σ d (upd H d (SetN P w d (more (hasK ks) k) (moreN (hasK ks) k (dedK [] ks).length))) st (ks ++ [k]) := by
  have hd : d ∈ φ ++ [d] := by simp
  refine ⟨l.ws.putX hd l.at' (by unfold SetN; trivial), l.sl.ext (.at hd) l.ws.fl, ?_, ⟨fun b o e n t => ?_, fun b e => ?_⟩, l.non, l.out⟩
  · rw [upd_same, hasK_more, hasK_num]
  · have nb : b ≠ d := fun q => by rw [q, l.non] at e; cases e
    exact (upd_ne nb).trans (l.ext.keep b o e n t)
  · by_cases q : b = d
    · rw [q]; exact l.non
    · exact l.ext.dom b ((upd_ne q).symm.trans e)
theorem Lk.gr (l : Lk P w K T φ ρ H1 env σ d H st ks) (sub : ∀ a ∈ ρ, a ∈ φ) : Gr φ (φ ++ [d]) H1 H := ⟨l.ext.more sub, [d], rfl, fun a ha => by rw [List.mem_singleton.mp ha]; exact l.non⟩
end
theorem keysD_cat : ∀ {xs ys : List D} {as bs : List (Option Key)}, keysD xs = some as → keysD ys = some bs → keysD (xs ++ ys) = some (as ++ bs)
  | [], ys, as, bs, h, g => by cases h; exact g
  | x :: xs, ys, as, bs, h, g => by
    simp only [keysD] at h
    split at h
    · rename_i k ks h1 h2
      cases h
      simp only [List.cons_append, keysD, h1, keysD_cat h2 g]
    · cases h
/-- the next one is a key, and there is room -/
theorem key_next {ys done more : List D} {y : D} {ks kd : List (Option Key)} (hy : keysD ys = some ks) (e : ys = done ++ ([y] ++ more)) (hd : keysD done = some kd) (hl : ks.length < 4000) :
    ∃ k, keyD y = some k ∧ keysD (done ++ [y]) = some (kd ++ [k]) ∧ (dedK [] kd).length + 1 < scanBound := by
  rw [e] at hy
  obtain ⟨as, bs, h1, h2, h3⟩ := keysD_app hy
  rw [hd] at h1
  cases h1
  obtain ⟨cs, ds, h4, h5, h6⟩ := keysD_app h2
  simp only [keysD] at h4
  split at h4
  · rename_i k ks' h7 h8
    cases h8
    cases h4
    refine ⟨k, h7, keysD_cat hd (by simp only [keysD, h7]), ?_⟩
    have q := dedK_len kd []
    rw [h3] at hl
    simp only [List.length_append, List.length_nil] at hl q
    unfold scanBound
    omega
  · cases h4
theorem card_read {P : Program} {w : World} {own : List (Str × Nat)} {vs1 : List Nat} {t t1 : IT} {it it1 : II} {cs cs1 : List IE} {e : IE} (hown : ∀ i ∈ slT t, i ∈ own.map (·.2)) (hown1 : ∀ i ∈ slT t1, i ∈ vs1) (σ : L2.St) (H : Hp) (Q : VK) (q : tF K T (evE G cl (.card own vs1 t it cs t1 it1 cs1 e)) σ H Q) :
    tCB (rLenN P w) (tCons (tSc2 P w (tI K T (evI G cl it)) (tG K T t) (tCs K T (evCs G cl cs)) (tI K T (evI G cl it1)) (tG K T t1) (tCs K T (evCs G cl cs1)) (tF K T (evE G cl e)) (own.map (·.2)) vs1) tNil) σ H Q := by
  obtain ⟨φ, ρ, env, st, x, st', ws, sl, hev, kq⟩ := q
  simp only [evE] at hev
  split at hev
  case h_2 => cases hev
  rename_i xs kp st1 h1
  split at hev
  case h_2 => cases hev
  rename_i ys st2 h2
  split at hev
  case h_2 => cases hev
  rename_i ks hks
  split at hev
  case isFalse => cases hev
  rename_i hkl
  cases hev
  show tSc2 P w (tI K T (evI G cl it)) (tG K T t) (tCs K T (evCs G cl cs)) (tI K T (evI G cl it1)) (tG K T t1) (tCs K T (evCs G cl cs1)) (tF K T (evE G cl e)) (own.map (·.2)) vs1 σ H (fun v H1 => rLenN P w [v] H1 Q)
  refine ⟨φ, ρ, env, st, xs, kp, st1, ws, sl, h1, fun J H1 p kk walk dd hdd => ?_⟩
  have sub := p.ws.sub
  have hdd2 : dd ∈ φ ++ [dd] := by simp
  have slw : Sl K φ ρ H1 (wipeE env (own.map (·.2))) (L2.wipe σ (own.map (·.2))) := p.sl.wipe _
  generalize hF : (fun (d : D) (s : Sto) => match bindT t d (wipeE env (own.map (·.2))) with
    | some env1 => match evCs G cl cs env1 s with
      | some (true, s1) => match evI G cl it1 env1 s1 with
        | some (zs, kp1, s2) => match compL (fun d1 s => match bindT t1 d1 (wipeE env1 vs1) with
            | some env2 => match evCs G cl cs1 env2 s with
              | some (true, s3) => match evE G cl e env2 s3 with
                | some (.dat y _, s4) => if keptL s4 kp1 then some ([y], s4) else none
                | _ => none
              | some (false, s3) => if keptL s3 kp1 then some ([], s3) else none
              | none => none
            | none => none) zs s2 with
          | some (ys, s5) => if keptL s5 kp then some (ys, s5) else none
          | none => none
        | none => none
      | some (false, s1) => if keptL s1 kp then some ([], s1) else none
      | none => none
    | none => none) = F at h2
  refine ⟨fun i m Hh => m = xs.length - i ∧ i ≤ xs.length ∧ ∃ stc kd done rest, Lk P w K T φ ρ H1 (wipeE env (own.map (·.2))) (L2.wipe σ (own.map (·.2))) dd Hh stc kd ∧ keysD done = some kd ∧ keptL stc kp = true ∧ compL F (xs.drop i) stc = some (rest, st') ∧ done ++ rest = ys,
    ⟨xs.length, by simp, Nat.zero_le _, st1, [], [], ys, Lk.start p.ws slw hdd, rfl, kk, h2, rfl⟩, ?_⟩
  rintro i m Hh ⟨rfl, hi, stc, kd, done, rest, l, hkd, kc, hrest, hys⟩
  have lt : Lt K T φ ρ H1 kp (φ ++ [dd]) ρ Hh stc := ⟨l.ws, kc, l.gr sub, [], by simp⟩
  by_cases hlt : i < xs.length
  · refine .inr ⟨walk.goes i _ _ _ _ hlt lt, ?_⟩
    have hdrop : xs.drop i = xs[i] :: xs.drop (i + 1) := List.drop_eq_getElem_cons hlt
    rw [hdrop] at hrest
    simp only [compL] at hrest
    split at hrest
    case h_2 => cases hrest
    rename_i zs sta ha
    split at hrest
    case h_2 => cases hrest
    rename_i ws' stb hb
    cases hrest
    refine ⟨fun H' => ∃ kd2, Lk P w K T φ ρ H1 (wipeE env (own.map (·.2))) (L2.wipe σ (own.map (·.2))) dd H' sta kd2 ∧ keysD (done ++ zs) = some kd2 ∧ keptL sta kp = true, fun H' hN' => ?_, fun u Hy hy => ?_⟩
    · obtain ⟨kd2, l2, k1, k2⟩ := hN'
      exact ⟨xs.length - (i + 1), by omega, rfl, hlt, sta, kd2, done ++ zs, ws', l2, k1, k2, hb, by rw [List.append_assoc]; exact hys⟩
    · obtain ⟨⟨d0, hd0, rd0⟩, hch⟩ := walk.yields i _ _ _ _ u Hy hlt lt hy
      have ed : d0 = xs[i] := by rw [List.getElem?_eq_getElem hlt] at hd0; exact (Option.some.inj hd0).symm
      subst ed
      have ly : Lk P w K T φ ρ H1 (wipeE env (own.map (·.2))) (L2.wipe σ (own.map (·.2))) dd Hy stc kd := by
        rcases hch with rfl | ⟨pp, oo, hp0, hoo, rfl⟩
        · exact l
        · exact l.step (l.ws.new hp0 hoo) (.new hp0)
      rw [← hF] at ha
      simp only at ha
      split at ha
      case h_2 => cases ha
      rename_i env1 hb1
      refine ⟨φ ++ [dd], ρ, _, stc, xs[i], env1, ly.ws, ly.sl, rd0, hb1, fun σ2 sl2 w2 => ⟨(w2 _ hown).trans (wipe_wipe fun _ h => h), ?_⟩⟩
      split at ha
      · rename_i s1 hc1
        split at ha
        case h_2 => cases ha
        rename_i us kp1 s2 hi2
        split at ha
        case h_2 => cases ha
        rename_i yi s5 hcomp
        split at ha
        case isFalse => cases ha
        rename_i hk5
        cases ha
        refine ⟨φ ++ [dd], ρ, env1, stc, true, s1, ly.ws, sl2, hc1, fun H3 p3 => iteT ⟨φ ++ [dd], ρ, env1, s1, us, kp1, s2, p3.ws, p3.sl, hi2, fun J1 H4 p4 kk1 walk1 => ?_⟩⟩
        have l4 := (ly.step p3.ws p3.ext).step p4.ws p4.ext
        have sl4 : Sl K (φ ++ [dd]) ρ H4 env1 σ2 := p4.sl
        generalize hF1 : (fun (d1 : D) (s : Sto) => match bindT t1 d1 (wipeE env1 vs1) with
          | some env2 => match evCs G cl cs1 env2 s with
            | some (true, s3) => match evE G cl e env2 s3 with
              | some (.dat y _, s4) => if keptL s4 kp1 then some ([y], s4) else none
              | _ => none
            | some (false, s3) => if keptL s3 kp1 then some ([], s3) else none
            | none => none
          | none => none) = F1 at hcomp
        refine ⟨fun j m Hh => m = us.length - j ∧ j ≤ us.length ∧ ∃ stc kd2 done2 rest2, Lk P w K T φ ρ H1 (wipeE env1 vs1) (L2.wipe σ2 vs1) dd Hh stc kd2 ∧ keysD (done ++ done2) = some kd2 ∧ Sl K (φ ++ [dd]) ρ Hh (wipeE env (own.map (·.2))) (L2.wipe σ (own.map (·.2))) ∧ Ext (φ ++ [dd]) H4 Hh ∧ keptL stc kp1 = true ∧ compL F1 (us.drop j) stc = some (rest2, sta) ∧ done2 ++ rest2 = zs,
          ⟨us.length, by simp, Nat.zero_le _, s2, kd, [], zs, l4.slots (sl4.wipe _), by rw [List.append_nil]; exact hkd, l4.sl, .refl _ _, kk1, hcomp, rfl⟩, ?_⟩
        rintro j m2 Hj ⟨rfl, hj, stj, kd2, done2, rest2, lj, hkd2, slj, xj, kj, hrest2, hzs⟩
        have ltj : Lt K T (φ ++ [dd]) ρ H4 kp1 (φ ++ [dd]) ρ Hj stj := ⟨lj.ws, kj, ⟨xj, [], by simp, by simp⟩, [], by simp⟩
        by_cases hltj : j < us.length
        · refine .inr ⟨walk1.goes j _ _ _ _ hltj ltj, ?_⟩
          have hdropj : us.drop j = us[j] :: us.drop (j + 1) := List.drop_eq_getElem_cons hltj
          rw [hdropj] at hrest2
          simp only [compL] at hrest2
          split at hrest2
          case h_2 => cases hrest2
          rename_i qs stq hq
          split at hrest2
          case h_2 => cases hrest2
          rename_i wq stb2 hb2
          cases hrest2
          refine ⟨fun H' => ∃ kd3, Lk P w K T φ ρ H1 (wipeE env1 vs1) (L2.wipe σ2 vs1) dd H' stq kd3 ∧ keysD (done ++ (done2 ++ qs)) = some kd3 ∧ Sl K (φ ++ [dd]) ρ H' (wipeE env (own.map (·.2))) (L2.wipe σ (own.map (·.2))) ∧ Ext (φ ++ [dd]) H4 H' ∧ keptL stq kp1 = true, fun H' hN' => ?_, fun u2 Hz hz => ?_⟩
          · obtain ⟨kd3, l2, hk3, slx, xx, k2⟩ := hN'
            exact ⟨us.length - (j + 1), by omega, rfl, hltj, stq, kd3, done2 ++ qs, wq, l2, hk3, slx, xx, k2, hb2, by rw [List.append_assoc]; exact hzs⟩
          · obtain ⟨⟨d1, hd1, rd1⟩, hch1⟩ := walk1.yields j _ _ _ _ u2 Hz hltj ltj hz
            have ed1 : d1 = us[j] := by rw [List.getElem?_eq_getElem hltj] at hd1; exact (Option.some.inj hd1).symm
            subst ed1
            have lz : Lk P w K T φ ρ H1 (wipeE env1 vs1) (L2.wipe σ2 vs1) dd Hz stj kd2 ∧ Sl K (φ ++ [dd]) ρ Hz (wipeE env (own.map (·.2))) (L2.wipe σ (own.map (·.2))) ∧ Ext (φ ++ [dd]) H4 Hz := by
              rcases hch1 with rfl | ⟨pp, oo, hp0, hoo, rfl⟩
              · exact ⟨lj, slj, xj⟩
              · exact ⟨lj.step (lj.ws.new hp0 hoo) (.new hp0), slj.ext (.new hp0) lj.ws.fl, xj.trans (.new hp0)⟩
            obtain ⟨lz, slz, xz⟩ := lz
            rw [← hF1] at hq
            simp only at hq
            split at hq
            case h_2 => cases hq
            rename_i env2 hb3
            refine ⟨φ ++ [dd], ρ, _, stj, us[j], env2, lz.ws, lz.sl, rd1, hb3, fun σ3 sl3 w3 => ⟨(w3 _ hown1).trans (wipe_wipe fun _ h => h), ?_⟩⟩
            split at hq
            · rename_i s3 hc3
              split at hq
              case h_2 => cases hq
              rename_i y fr s4 he4
              split at hq
              case isFalse => cases hq
              rename_i hk4
              cases hq
              refine ⟨φ ++ [dd], ρ, env2, stj, true, s3, lz.ws, sl3, hc3, fun H6 p6 => iteT ⟨φ ++ [dd], ρ, env2, s3, _, stq, p6.ws, p6.sl, he4, fun v7 H7 p7 => ?_⟩⟩
              have l7 := (lz.step p6.ws p6.ext).step p7.ws p7.ext
              have x7 : Ext (φ ++ [dd]) Hz H7 := (p6.ext.trans p7.ext).more lz.ws.sub
              have s7 := (slz.ext x7 lz.ws.fl)
              obtain ⟨k, hk, hkk, room⟩ := key_next (y := y) (done := done ++ done2) (more := wq ++ ws') hks (by rw [← hys, ← hzs]; simp) hkd2 hkl
              refine ⟨k, _, _, keyD_v p7.rr hk, l7.at', room, kd2 ++ [k], l7.push k, by rw [← List.append_assoc]; exact hkk, s7.ext (.at hdd2) l7.ws.fl, (xz.trans x7).trans (.at hdd2), hk4⟩
            · rename_i s3 hc3
              split at hq
              case isFalse => cases hq
              rename_i hk4
              cases hq
              refine ⟨φ ++ [dd], ρ, env2, stj, false, stq, lz.ws, sl3, hc3, fun H6 p6 => iteF ⟨kd2, lz.step p6.ws p6.ext, by rw [List.append_nil]; exact hkd2, slz.ext (p6.ext.more lz.ws.sub) lz.ws.fl, xz.trans (p6.ext.more lz.ws.sub), hk4⟩⟩
            · cases hq
        · have ej : j = us.length := by omega
          subst ej
          refine .inl ⟨walk1.stops _ _ _ _ ltj, ?_⟩
          rw [List.drop_length] at hrest2
          simp only [compL] at hrest2
          cases hrest2
          rw [List.append_nil] at hzs
          subst hzs
          exact ⟨kd2, lj.slots slj, hkd2, hk5⟩
      · rename_i s1 hc1
        split at ha
        case isFalse => cases ha
        rename_i hk2
        cases ha
        exact ⟨φ ++ [dd], ρ, env1, stc, false, sta, ly.ws, sl2, hc1, fun H3 p3 => iteF ⟨kd, ly.step p3.ws p3.ext, by rw [List.append_nil]; exact hkd, hk2⟩⟩
      · cases ha
  · have ei : i = xs.length := by omega
    subst ei
    refine .inl ⟨walk.stops _ _ _ _ lt, ?_⟩
    rw [List.drop_length] at hrest
    simp only [compL] at hrest
    cases hrest
    rw [List.append_nil] at hys
    subst hys
    have hkq : kd = ks := Option.some.inj (hkd.symm.trans hks)
    subst hkq
    refine ⟨dd, _, _, rfl, l.at', ?_, kq _ _ ⟨l.ws.weak (fun a ha => List.mem_append_left _ ha) sub, p.sl.ext (l.gr sub).ext p.ws.fl, p.ext.trans l.ext, .int _, fun d e => by cases e⟩⟩
    have q := dedK_len kd []
    simp only [List.length_nil] at q
    omega
end Ev
set_option linter.all false
set_option maxRecDepth 100000
set_option maxHeartbeats 4000000
/-! EvL: a lambda of one parameter, called. -/
namespace Ev
open PySem PySem.Spec L2
/-- the names of a lambda of one parameter x (a local, or a cell): the others are captured or global -/
structure Lm (sc scope : Scope) (x : Str) : Prop where
  kind : scope.kind = .function
  co : scope.isCoroutine = false
  gen : scope.isGenerator = false
  par : scope.names.lookup x = some .local ∨ scope.names.lookup x = some .cell
  loc : ∀ y ∈ scope.names, y.2 = .local → y.1 = x
  cel : scope.names.filter (fun y => y.2 == .cell) = if scope.names.lookup x = some .cell then [(x, .cell)] else []
  free : ∀ y ∈ scope.names, y.2 = .free → sc.names.lookup y.1 = some .cell ∨ sc.names.lookup y.1 = some .free
def lmB (sc scope : Scope) (x : Str) : Bool :=
  decide (scope.kind = .function) && !scope.isCoroutine && !scope.isGenerator && (decide (scope.names.lookup x = some .local) || decide (scope.names.lookup x = some .cell)) &&
  scope.names.all (fun y => !decide (y.2 = .local) || decide (y.1 = x)) && decide (scope.names.filter (fun y => y.2 == .cell) = if scope.names.lookup x = some .cell then [(x, .cell)] else []) &&
  scope.names.all fun y => !decide (y.2 = .free) || decide (sc.names.lookup y.1 = some .cell) || decide (sc.names.lookup y.1 = some .free)
theorem lm_by {sc scope : Scope} {x : Str} (h : lmB sc scope x = true) : Lm sc scope x := by
  unfold lmB at h
  simp only [Bool.and_eq_true, Bool.or_eq_true, Bool.not_eq_true', decide_eq_true_eq, decide_eq_false_iff_not, List.all_eq_true] at h
  obtain ⟨⟨⟨⟨⟨⟨h1, h2⟩, h3⟩, h4⟩, h5⟩, h6⟩, h7⟩ := h
  refine ⟨h1, h2, h3, h4, fun y hy e => (h5 y hy).resolve_left (fun z => z e), h6, fun y hy e => ?_⟩
  rcases h7 y hy with (z | z) | z
  · exact absurd e z
  · exact .inl z
  · exact .inr z
theorem cellsFrom_nil {cl : List (Str × Addr)} : ∀ {names : List (Str × NameKind)} {n : Nat}, names.filter (fun y => y.2 == .cell) = [] → cellsFrom n names cl = cl
  | [], _, _ => rfl
  | (y, k) :: r, n, h => by
    unfold cellsFrom
    cases hk : k == NameKind.cell with
    | true => rw [List.filter_cons, if_pos hk] at h; cases h
    | false => rw [List.filter_cons, if_neg (by simp [hk])] at h; exact cellsFrom_nil h
theorem cellsFrom_one {x : Str} {cl : List (Str × Addr)} : ∀ {names : List (Str × NameKind)} {n : Nat}, names.filter (fun y => y.2 == .cell) = [(x, .cell)] → cellsFrom n names cl = (x, n) :: cl
  | [], _, h => by cases h
  | (y, k) :: r, n, h => by
    unfold cellsFrom
    cases hk : k == NameKind.cell with
    | true =>
      rw [List.filter_cons, if_pos hk] at h
      injection h with h1 h2
      injection h1 with h3 h4
      subst h3
      exact cellsFrom_nil h2
    | false => rw [List.filter_cons, if_neg (by simp [hk])] at h; exact cellsFrom_one h
theorem pushCells_nil : ∀ {names : List (Str × NameKind)} {h : Heap}, names.filter (fun y => y.2 == .cell) = [] → pushCells h names = h
  | [], _, _ => rfl
  | (y, k) :: r, n, h => by
    unfold pushCells
    cases hk : k == NameKind.cell with
    | true => rw [List.filter_cons, if_pos hk] at h; cases h
    | false => rw [List.filter_cons, if_neg (by simp [hk])] at h; exact pushCells_nil h
theorem pushCells_one {x : Str} : ∀ {names : List (Str × NameKind)} {h : Heap}, names.filter (fun y => y.2 == .cell) = [(x, .cell)] → pushCells h names = h.push { cls := .type "cell", data := .cell none }
  | [], _, h => by cases h
  | (y, k) :: r, n, h => by
    unfold pushCells
    cases hk : k == NameKind.cell with
    | true =>
      rw [List.filter_cons, if_pos hk] at h
      injection h with h1 h2
      exact pushCells_nil h2
    | false => rw [List.filter_cons, if_neg (by simp [hk])] at h; exact pushCells_one h
/-- the lambda's cells -/
def lmCells (X : Cx) (scope : Scope) (L : Addr) (x : Str) : List (Str × Addr) :=
  if scope.names.lookup x = some .cell then (x, L + 1) :: cloFrom X.env.cells scope.names [] else cloFrom X.env.cells scope.names []
abbrev lmEnv (X : Cx) (scope : Scope) (L f c' : Addr) (x : Str) : PySem.Env := PySem.W.envX (X.env.qual ++ "<lambda>") scope L f (.ref c') (lmCells X scope L x)
/-- the context of the lambda's body -/
def lmCx (X : Cx) (A : Around) (s : Shared) (H : Hp) (scope : Scope) (f c' : Addr) (x : Str) : Cx where
  prog := X.prog
  w := X.w
  K := X.K
  mg := X.mg
  base := X.base
  A := A.deeper (lmEnv X scope s.heap.objs.size f c' x)
  N := X.N
  s_0 := s
  H_0 := H
  env := lmEnv X scope s.heap.objs.size f c' x
  outer := X.stack
  stack := lmEnv X scope s.heap.objs.size f c' x :: X.stack
  ex := []
  fn := fun _ => false
  calm := true
  pn := []
  xe := fun _ _ => False
section
variable {X : Cx} {pins : List (Addr × Obj)} {σ : L2.St} {H : Hp} {s : Shared}
theorem lm_new {E : Value → Shared → Prop} {M : Model} {A : Around} {scope : Scope} {globals : Addr} {cl : List (Str × Addr)} {x : Str} {u : Value} {qual : Str} {func : Option Addr} {code : Value} {builtins : Addr} {Q : PySem.Env → Shared → Prop} {sc : Scope}
    (L : Lm sc scope x)
    (h : ∀ env h' tk, env = newEnv scope s.heap.objs.size globals (if scope.names.lookup x = some .cell then (x, s.heap.objs.size + 1) :: cl else cl) qual func code none builtins →
      (∀ b o, s.heap.get? b = some o → h'.get? b = some o) → h'.Ns s.heap.objs.size (fun y => if scope.names.lookup x = some .cell then none else if y = x then some u else none) →
      (scope.names.lookup x = some .cell → h'.IsCell (s.heap.objs.size + 1) (some u)) → Q env { s with heap := h', toks := tk }) :
    wpAny M A (newFunctionEnv scope globals cl [(x, u)] qual func code none builtins) Q E s := by
  by_cases hx : scope.names.lookup x = some .cell
  · have cel := L.cel
    rw [if_pos hx] at cel
    simp only [newFunctionEnv, Option.isSome_none, Bool.false_eq_true, if_false]
    refine wpAny_bind (wpAny_alloc ?_)
    refine wpAny_bind (wpAny_layCells _ (fun name kind cells => by cases hkc : kind == NameKind.cell <;> simp [hkc]) _ _ _ _ ?_)
    rw [cellsFrom_one cel, pushCells_one cel]
    have e1 : ({ s with heap := s.heap.push { cls := .type "frame", data := .dict #[] } } : Shared).heap.objs.size = s.heap.objs.size + 1 := Heap.size_push ..
    rw [e1]
    have hc : ((s.heap.push { cls := .type "frame", data := .dict #[] }).push { cls := .type "cell", data := .cell none }).IsCell (s.heap.objs.size + 1) none :=
      ⟨{ cls := .type "cell", data := .cell none }, by
        have q := Heap.get?_push_size (o := { cls := .type "cell", data := .cell none }) (s.heap.push { cls := .type "frame", data := .dict #[] }) rfl
        rw [Heap.size_push] at q
        exact q, rfl⟩
    rw [List.forIn_cons]
    refine wpAny_bind (wpAny_bind (wpAny_bind (wpAny_storeName_cell L.kind hx (by simp [newEnv]) hc fun h' hc' hs' => wpAny_pure ?_)))
    simp only [List.forIn_nil]
    refine wpAny_pure (wpAny_pure ?_)
    refine h _ h' _ (by rw [if_pos hx]; rfl) (fun b o e => ?_) ?_ (fun _ => hc')
    · have lt := Heap.lt_size e
      refine hs'.extBut b o (Nat.ne_of_lt (Nat.lt_succ_of_lt lt)) (Heap.get?_push_of_some _ (Heap.get?_push_of_some _ e))
    · refine Heap.Ns.sameBut ?_ hs' (Nat.ne_of_lt (Nat.lt_succ_self _))
      have q : (s.heap.push { cls := .type "frame", data := .dict #[] }).Ns s.heap.objs.size (fun _ => none) := Heap.Ns.new s.heap (.type "frame")
      have e : (fun y => if scope.names.lookup x = some .cell then none else if y = x then some u else none) = (fun _ : Str => (none : Option Value)) := by
        funext y; rw [if_pos hx]
      rw [e]
      exact q.keeps fun b o z => Heap.get?_push_of_some _ z
  · have cel := L.cel
    rw [if_neg hx] at cel
    have hl : scope.names.lookup x = some .local := L.par.resolve_right hx
    refine wpAny_newFunctionEnv (fun y hy e => ?_) (fun y hy => ?_) (fun h' hns hsb => ?_) L.kind
    · have : y ∈ scope.names.filter (fun y => y.2 == .cell) := List.mem_filter.mpr ⟨hy, by rw [e]; rfl⟩
      rw [cel] at this
      cases this
    · rw [List.mem_singleton.mp hy]; exact hl
    · refine h _ h' _ (by rw [if_neg hx]) (fun b o e => hsb.extBut b o (Nat.ne_of_lt (Heap.lt_size e)) (Heap.get?_push_of_some _ e)) ?_ (fun z => absurd z hx)
      have e : (fun y => if scope.names.lookup x = some .cell then none else if y = x then some u else none) = (fun y => [(x, u)].reverse.lookup y) := by
        funext y
        rw [if_neg hx]
        simp only [List.reverse_cons, List.reverse_nil, List.nil_append, List.lookup]
        by_cases hy : y = x
        · rw [if_pos hy, beq_iff_eq.mpr hy]
        · rw [if_neg hy, beq_eq_false_iff_ne.mpr hy]
      rw [e]
      exact hns
theorem Lm.has {X : Cx} {scope : Scope} {x : Str} (L : Lm X.env.scope scope x) (ok : X.Ok) : ∀ y ∈ scope.names, y.2 = .free → ∃ c, X.env.cells.lookup y.1 = some c := fun y hy e => by
  rcases L.free y hy e with k | k
  · exact ok.has _ (.inl k)
  · exact ok.has _ (.inr k)
theorem lm_start {A : Around} {scope : Scope} {x : Str} {f c' : Addr} {h₁ : Heap} {tk i : Nat} {v : V} {u : Value} (I : Inv X pins σ H s) (L : Lm X.env.scope scope x) (hd : A.handled = none) (hfr : A.frames = X.A.frames) (hi : X.N[i]? = some x) (hN : X.N.Nodup) (rv : RelV v u)
    (kp : ∀ b o, s.heap.get? b = some o → h₁.get? b = some o) (hns : h₁.Ns s.heap.objs.size (fun y => if scope.names.lookup x = some .cell then none else if y = x then some u else none))
    (hcl : scope.names.lookup x = some .cell → h₁.IsCell (s.heap.objs.size + 1) (some u)) :
    Inv (lmCx X A s H scope f c' x) [] (σ.set i (some v)) H { s with heap := h₁, toks := tk } := by
  have e0 := I.env0
  have hfree := L.has I.ok
  have cm : ∀ {y c}, (cloFrom X.env.cells scope.names []).lookup y = some c → X.env.cells.lookup y = some c := fun {y c} e => by
    rcases cloFrom_mem (PySem.mem_of_lookup e) with hm | ⟨h1, h2⟩
    · cases hm
    · obtain ⟨c1, hc⟩ := hfree _ h1 rfl
      have hc : X.env.cells.lookup y = some c1 := hc
      have e2 : c = c1 := by rw [h2, hc] <;> rfl
      rw [e2]
      exact hc
  have look : ∀ {y}, scope.names.lookup y = some .free → ∃ c, (cloFrom X.env.cells scope.names []).lookup y = some c := fun {y} hl => mem_lookup (cloFrom_has (cells := X.env.cells) (acc := []) (PySem.mem_of_lookup hl))
  have old : ∀ {y c}, (cloFrom X.env.cells scope.names []).lookup y = some c → c < s.heap.objs.size := fun {y c} e => by
    obtain ⟨v, z⟩ := I.cell y c (cm e)
    exact z.lt
  have cellK : ∀ {c : Addr} {v : Option Value}, s.heap.IsCell c v → h₁.IsCell c v := fun {c v} ⟨o, ho, hd⟩ => ⟨o, kp _ _ ho, hd⟩
  have cs : ∀ {y c}, (lmCells X scope s.heap.objs.size x).lookup y = some c → (scope.names.lookup x = some .cell ∧ y = x ∧ c = s.heap.objs.size + 1) ∨ (cloFrom X.env.cells scope.names []).lookup y = some c := fun {y c} e => by
    unfold lmCells at e
    split at e
    · rename_i hx
      simp only [List.lookup] at e
      split at e
      · rename_i hy
        cases e
        exact .inl ⟨hx, beq_iff_eq.mp hy, rfl⟩
      · exact .inr e
    · exact .inr e
  have noA : ∀ b : Addr, b ∉ (lmCx X A s H scope f c' x).ex := fun b z => absurd (show b ∈ ([] : List Addr) from z) (by simp)
  have notfree : scope.names.lookup x ≠ some .free := fun z => by rcases L.par with p | p <;> rw [p] at z <;> cases z
  have lookC : ∀ {y c}, y ≠ x → (cloFrom X.env.cells scope.names []).lookup y = some c → (lmCells X scope s.heap.objs.size x).lookup y = some c := fun {y c} hy e => by
    unfold lmCells
    split
    · simp only [List.lookup]
      rw [beq_eq_false_iff_ne.mpr hy]
      exact e
    · exact e
  refine ⟨⟨e0.mod, L.kind, rfl, rfl, Nat.le_refl _, fun y z c e1 e2 => ?_, fun y hy => ?_, fun y c z _ => ?_, fun _ => hd, Around.frames_deeper (hfr.trans e0.frames), .inr ⟨rfl, rfl⟩, fun b z => absurd z (noA b), e0.bs, e0.bsz, fun b _ _ => noA b,
      fun b z => absurd z (noA b), e0.funs, e0.frf⟩,
    rfl, e0.bare, Un.kept kp, ⟨_, hns, fun j y v' e1 e2 e3 => ?_⟩, fun y c e => ?_, e0.hok.fresh (Nat.le_refl _), fun y c e => ?_, fun q hq => absurd (show q ∈ ([] : List (Addr × Obj)) ++ [] from hq) (by simp), e0.hok.kept kp, by rw [List.length_set]; exact I.len⟩
  · rcases cs e1 with ⟨_, rfl, h1⟩ | h1
    · rcases cs e2 with ⟨_, rfl, h2⟩ | h2
      · rfl
      · have := old h2
        rw [h1] at this
        exact absurd (Nat.lt_of_succ_lt this) (Nat.lt_irrefl _)
    · rcases cs e2 with ⟨_, rfl, h2⟩ | h2
      · have := old h1
        rw [h2] at this
        exact absurd (Nat.lt_of_succ_lt this) (Nat.lt_irrefl _)
      · exact I.ok.inj y z c (cm h1) (cm h2)
  · have hy : scope.names.lookup y = some .cell ∨ scope.names.lookup y = some .free := hy
    show ∃ c, (lmCells X scope s.heap.objs.size x).lookup y = some c
    rcases hy with hy | hy
    · have hm : (y, NameKind.cell) ∈ scope.names.filter (fun y => y.2 == .cell) := List.mem_filter.mpr ⟨PySem.mem_of_lookup hy, rfl⟩
      rw [L.cel] at hm
      split at hm
      · rename_i hx
        have e : y = x := by
          have := List.mem_singleton.mp hm
          injection this
        subst e
        exact ⟨s.heap.objs.size + 1, by unfold lmCells; rw [if_pos hx]; simp⟩
      · cases hm
    · obtain ⟨c, hc⟩ := look hy
      exact ⟨c, lookC (fun z => notfree (z ▸ hy)) hc⟩
  · have z : false = true := z
    cases z
  · have e1 : X.N[j]? = some y := e1
    have e3 : Vis scope y := e3
    have hlen : σ.length = X.N.length := I.len
    by_cases hy : y = x
    · subst hy
      have hij : i = j := nodup_ix hN hi e1
      subst hij
      have hlt : i < σ.length := by rw [hlen]; exact (List.getElem?_eq_some_iff.mp hi).1
      rw [List.getElem?_set_self hlt] at e2
      cases e2
      rcases L.par with p | p
      · exact ⟨u, rv, .inl ⟨p, by
          show (if scope.names.lookup y = some .cell then none else if y = y then some u else none) = some u
          rw [if_neg (by rw [p]; decide), if_pos rfl]⟩⟩
      · refine ⟨u, rv, .inr ⟨.inl p, s.heap.objs.size + 1, ?_, hcl p⟩⟩
        show (lmCells X scope s.heap.objs.size y).lookup y = _
        unfold lmCells
        rw [if_pos p]
        simp
    · have hij : i ≠ j := fun z => hy (by
        rw [← z, hi] at e1
        exact (Option.some.inj e1).symm)
      rw [List.getElem?_set_ne hij] at e2
      rcases e3 with k | k | k
      · exact absurd (L.loc _ (PySem.mem_of_lookup k) rfl) hy
      · have hm : (y, NameKind.cell) ∈ scope.names.filter (fun y => y.2 == .cell) := List.mem_filter.mpr ⟨PySem.mem_of_lookup k, rfl⟩
        rw [L.cel] at hm
        split at hm
        · have := List.mem_singleton.mp hm
          injection this with h1 h2
          exact absurd h1 hy
        · cases hm
      · obtain ⟨m, hn, hl⟩ := I.loc
        have hvis : Vis X.env.scope y := (L.free _ (PySem.mem_of_lookup k) rfl).elim (fun k => .inr (.inl k)) (fun k => .inr (.inr k))
        obtain ⟨w', r, q⟩ := hl j y v' e1 e2 hvis
        obtain ⟨c2, h2⟩ := look k
        refine ⟨w', r, .inr ⟨.inr k, c2, lookC hy h2, ?_⟩⟩
        have c1 := cm h2
        rcases q with ⟨k', _⟩ | ⟨_, c3, e', z⟩
        · have k' : X.env.scope.names.lookup y = some .local := k'
          rcases L.free _ (PySem.mem_of_lookup k) rfl with k2 | k2 <;> rw [show X.env.scope.names.lookup y = _ from k2] at k' <;> cases k'
        · rw [c1] at e'
          cases e'
          exact cellK z
  · rcases cs e with ⟨hx, _, hc⟩ | hc
    · rw [hc]
      exact ⟨some u, hcl hx⟩
    · obtain ⟨w', z⟩ := I.cell y c (cm hc)
      exact ⟨w', cellK z⟩
  · rcases cs e with ⟨hx, _, hc⟩ | hc
    · rw [hc]
      exact e0.hok.fresh (Nat.le_succ _)
    · exact I.freeC y c (cm hc)
/-- the lambda called -/
theorem lm_run {A : Around} {scope : Scope} {params : Arguments} {body : Expr} {x : Str} {f c' : Addr} {i : Nat} {v : V} {u : Value} {pm ctv : Value} {tb : TE} {Q : VK} (I : Inv X pins σ H s) (L : Lm X.env.scope scope x) (hd : A.handled = none) (hfr : A.frames = X.A.frames) (hdep : A.depth < recursionLimit)
    (hi : X.N[i]? = some x) (hN : X.N.Nodup) (rv : RelV v u)
    (hf : s.heap.get? f = some (PySem.W.kla_obj "<lambda>" (X.env.qual ++ "<lambda>") params body scope (cloFrom X.env.cells scope.names []) pm c' ctv))
    (hbind : ∀ (q : Str) (cl : List (Str × Addr)) (pm cv ctv : Value) (u : Value), bindArgs (PySem.W.kla_fn "<lambda>" q params body scope cl pm cv ctv) ⟨[u], []⟩ = pure [(x, u)])
    (hc : H c' = some (LamX.CodeO c' (X.env.qual ++ "<lambda>")))
    (hbody : PE (lmCx X A s H scope f c' x) body tb) (h : tb (σ.set i (some v)) H Q) :
    codeAny (model X.prog X.w) A (.call (.ref f) ⟨[u], []⟩) (CR L2.CX0 X.stack X.prog X.w H s Q E0) s := by
  obtain ⟨⟨oc, vs, t, hoc, hdc, hvc⟩, _, _⟩ := I.hok c' _ hc
  refine PySem.W.kla_callFunE hdep hf rfl L.co L.gen rfl ⟨c', oc, vs, t, rfl, hoc, hdc, hvc⟩ ?_
  rw [hbind]
  refine wpAny_pure (lm_new L fun env h' tk he kp hns hcl => ⟨I.nolimit.keeps kp, ?_⟩)
  have he2 : env = lmEnv X scope s.heap.objs.size f c' x := he
  rw [he2]
  have J := lm_start (A := A) (f := f) (c' := c') (tk := tk) I L hd hfr hi hN rv kp hns hcl
  refine PySem.W.kla_codeExpr (wpAny_mono (hbody.run [] _ _ H Q J h) (fun v s' hq => ?_) fun e s' hq => hq.elim)
  obtain ⟨w', H', J', rv', q⟩ := hq
  exact ⟨w', H', J'.os, J'.bare, J'.base, J'.hok, rv', q⟩
end
end Ev
set_option linter.all false
set_option maxRecDepth 100000
set_option maxHeartbeats 4000000
/-! EvS: sorted with key= a lambda. -/
namespace Ev
open PySem PySem.Spec L2 PyProof.Rows
section
variable {prog : Program} {w : World} {A : Around} {E : Value → Shared → Prop} {s : Shared}
theorem sorted_shell {src : Value} {kw : List (Str × Value)} {Q : Value → Shared → Prop} {Pu : List Value → Heap → Prop} (ha1 : argsOk "sorted" ⟨[src], kw⟩) (ha2 : ∀ x, argsOk "list.sort" ⟨[.ref x], kw⟩)
    (hcol : ∀ (A' : Around) (E' : Value → Shared → Prop) (Q' : List Value → Shared → Prop), A'.handled = A.handled →
      (∀ (us : List Value) (h' : Heap) (tk : Nat), (∀ b o, s.heap.get? b = some o → h'.get? b = some o) → Pu us h' → Q' us { s with heap := h', toks := tk }) → wpAny (model prog w) A' (collect src) Q' E' s)
    (hP : ∀ us h', Pu us h' → us.length ≤ sizeLine)
    (body : ∀ (us : List Value) (h' : Heap) (tk : Nat), (∀ b o, s.heap.get? b = some o → h'.get? b = some o) → Pu us h' → ∀ E' : Value → Shared → Prop,
      wpAny (model prog w) A.in1.in1 (Builtin.«list.sort» ⟨[.ref h'.objs.size], kw⟩) (fun f s' => f = .done (.ret .none) ∧ Q (.ref h'.objs.size) s') E' { s with heap := h'.push (seqObj "list" us.toArray 0), toks := tk }) :
    wpAny (model prog w) A (call (.builtin "sorted") [src] kw) Q E s := by
  refine call_function_entry_kw kind_sorted plain_sorted entry_sorted ha1 ?_
  unfold Builtin.«sorted»
  refine wpAny_bind (m := checkCount "sorted" 1 1 _) (wpAny_pure ?_)
  refine wpAny_bind (hcol _ _ _ rfl fun us h' tk kp hu => ?_)
  refine wpAny_bind (wpAny_newList ?_ (hP us h' hu))
  have hat : (h'.push (seqObj "list" us.toArray 0)).get? h'.objs.size = some (seqObj "list" us.toArray 0) := Heap.get?_push_size _ rfl
  refine wpAny_bind (wpAny_holding (wpAny_call_entry_kw slot_list_sort ⟨_, hat, rfl⟩ entry_list_sort ?body (ha2 _)))
  case body =>
    refine wpAny_mono (body us h' tk kp hu _) (fun f s' hf => ?_) fun _ _ e => e
    obtain ⟨rfl, hq⟩ := hf
    exact ⟨_, rfl, wpAny_pure ⟨_, rfl, hq⟩⟩
theorem col_list {l : Addr} {vs : List Value} (hl : s.heap.IsList l vs.toArray) (hL : vs.length ≤ sizeLine) (A' : Around) (E' : Value → Shared → Prop) (Q' : List Value → Shared → Prop)
    (h : ∀ (us : List Value) (h' : Heap) (tk : Nat), (∀ b o, s.heap.get? b = some o → h'.get? b = some o) → (us = vs ∧ s.heap.objs.size ≤ h'.objs.size) → Q' us { s with heap := h', toks := tk }) : wpAny (model prog w) A' (collect (.ref l)) Q' E' s := by
  refine collect_list hl (h vs _ s.toks (fun b o e => ?_) ⟨rfl, by rw [Heap.size_update, Heap.size_push]; exact Nat.le_succ _⟩) hL
  have lt := Heap.lt_size e
  exact (Heap.get?_update_ne _ _ _ _ (Nat.ne_of_lt lt)).trans (Heap.get?_push_of_some _ e)
end
/-! ### the order -/
def leK (rev : Bool) (a b : D × Int) : Bool := if rev then decide (b.2 ≤ a.2) else decide (a.2 ≤ b.2)
theorem insK_eq (rev : Bool) (x : D × Int) : ∀ l₁ l₂ : List (D × Int), (∀ b ∈ l₁, leK rev x b = false) → (∀ b ∈ l₂, leK rev x b = true) → insK rev x (l₁ ++ l₂) = l₁ ++ x :: l₂
  | [], [], _, _ => rfl
  | [], y :: l, _, h => by
    have q := h y (List.mem_cons_self ..)
    show (if (if rev then y.2 ≤ x.2 else x.2 ≤ y.2) then x :: y :: l else y :: insK rev x l) = _
    rw [if_pos]
    · rfl
    · unfold leK at q
      cases rev <;> simpa using q
  | y :: l₁, l₂, h, h2 => by
    have q := h y (List.mem_cons_self ..)
    show (if (if rev then y.2 ≤ x.2 else x.2 ≤ y.2) then x :: y :: (l₁ ++ l₂) else y :: insK rev x (l₁ ++ l₂)) = _
    rw [if_neg, insK_eq rev x l₁ l₂ (fun b hb => h b (List.mem_cons_of_mem _ hb)) h2]
    · rfl
    · unfold leK at q
      cases rev <;> simpa using q
theorem leK_trans (rev : Bool) (a b c : D × Int) (h1 : leK rev a b = true) (h2 : leK rev b c = true) : leK rev a c = true := by
  unfold leK at *
  cases rev <;> simp only [if_true, Bool.false_eq_true, if_false, decide_eq_true_eq] at * <;> omega
theorem leK_total (rev : Bool) (a b : D × Int) : (leK rev a b || leK rev b a) = true := by
  unfold leK
  cases rev <;> simp only [if_true, Bool.false_eq_true, if_false, Bool.or_eq_true, decide_eq_true_eq] <;> omega
theorem sortK_eq (rev : Bool) : ∀ l : List (D × Int), l.mergeSort (leK rev) = sortK rev l
  | [] => List.mergeSort_nil
  | x :: l => by
    obtain ⟨l₁, l₂, e1, e2, h⟩ := List.mergeSort_cons (leK_trans rev) (leK_total rev) x l
    have hp := List.pairwise_mergeSort (leK_trans rev) (leK_total rev) (x :: l)
    rw [e1] at hp
    rw [e1]
    show _ = insK rev x (sortK rev l)
    rw [← sortK_eq rev l, e2, insK_eq rev x l₁ l₂ (fun b hb => by simpa using h b hb) fun b hb => ?_]
    exact (List.pairwise_cons.mp (List.pairwise_append.mp hp).2.1).1 b hb
theorem le_data (rev : Bool) : PySem.W.dataLe rev (fun b : D × Int => PyData.int b.2) = leK rev := by
  cases rev with
  | false => rw [PySem.W.dataLe_int (fun b : D × Int => b.2)]; funext a b; rfl
  | true => rw [PySem.W.dataGe_int (fun b : D × Int => b.2)]; funext a b; rfl
/-! ### the keys, one after another -/
def KeysR (F : D → Sto → Option (ER × Sto)) : List D → Sto → List Int → Sto → Prop
  | [], st, [], st' => st = st'
  | d :: ds, st, y :: ys, st' => ∃ st1 fr, F d st = some (.dat (.int y) fr, st1) ∧ KeysR F ds st1 ys st'
  | _, _, _, _ => False
theorem keysR_of (F : D → Sto → Option (ER × Sto)) : ∀ (xs : List D) (st : Sto) (ks : List D) (is : List Int) (st2 : Sto), compL (fun d s => match F d s with
    | some (.dat (.int y) _, s1) => some ([.int y], s1)
    | _ => none) xs st = some (ks, st2) → intsD ks = some is → KeysR F xs st is st2
  | [], st, ks, is, st2, h, hi => by
    simp only [compL] at h
    cases h
    cases hi
    exact rfl
  | d :: ds, st, ks, is, st2, h, hi => by
    simp only [compL] at h
    split at h
    · rename_i ys st1 h1
      split at h1
      · rename_i y fr s1 h2
        cases h1
        split at h
        · rename_i zs st3 h3
          cases h
          simp only [List.singleton_append, intsD, Option.map_eq_some_iff] at hi
          obtain ⟨js, h4, rfl⟩ := hi
          exact ⟨_, fr, h2, keysR_of F ds _ _ _ _ h3 h4⟩
        · cases h
      · cases h1
    · cases h
theorem KeysR.len {F : D → Sto → Option (ER × Sto)} : ∀ {xs : List D} {st : Sto} {is : List Int} {st2 : Sto}, KeysR F xs st is st2 → xs.length = is.length
  | [], _, [], _, _ => rfl
  | _ :: _, _, _ :: _, _, ⟨_, _, _, h⟩ => congrArg (· + 1) h.len
  | [], _, _ :: _, _, h => h.elim
  | _ :: _, _, [], _, h => h.elim
theorem each_vals {K : PySem.W.Frag} {φ : List Addr} {H : Hp} : ∀ (vsV : List V) (us : List Value) (xs : List D) (is : List Int), Vals vsV us → RDs K φ H vsV xs → xs.length = is.length →
    PySem.W.EachIs (fun (u : Value) (b : D × Int) => ∃ v, RelV v u ∧ RD K φ H v b.1) us (xs.zip is)
  | [], _, _, is, .nil, .nil, h => by
    cases is with
    | nil => exact .nil
    | cons _ _ => cases h
  | v :: vs, _, _, is, .cons r rs, .cons d ds, h => by
    cases is with
    | nil => cases h
    | cons i is => exact .cons ⟨v, r, d⟩ (each_vals vs _ _ is rs ds (by simpa using h))
theorem vals_each {K : PySem.W.Frag} {φ : List Addr} {H : Hp} : ∀ {us : List Value} {bs : List (D × Int)}, PySem.W.EachIs (fun (u : Value) (b : D × Int) => ∃ v, RelV v u ∧ RD K φ H v b.1) us bs → ∃ vsV, Vals vsV us ∧ RDs K φ H vsV (bs.map (·.1))
  | _, _, .nil => ⟨[], .nil, .nil⟩
  | _, _, .cons ⟨v, r, d⟩ t => by
    obtain ⟨vs, a, b⟩ := vals_each t
    exact ⟨v :: vs, .cons r a, .cons d b⟩
theorem zip_snd_ints : ∀ {xs : List D} {is : List Int}, xs.length = is.length → (xs.zip is).map (fun b => PyData.int b.2) = is.map PyData.int
  | [], [], _ => rfl
  | _ :: xs, _ :: is, h => by
    simp only [List.zip_cons_cons, List.map_cons]
    rw [zip_snd_ints (by simpa using h)]
  | [], _ :: _, h => by cases h
  | _ :: _, [], h => by cases h

section
variable {X : Cx} {pins : List (Addr × Obj)} {σ : L2.St} {H : Hp} {s : Shared} {G : Pk} {cl : Str → List SV → Sto → Option (ER × Sto)} {T : List (Addr × Str)} {φ ρ : List Addr} {env : Env} {st st2 : Sto}
structure KJ (X : Cx) (pins : List (Addr × Obj)) (σ : L2.St) (T : List (Addr × Str)) (φ ρ : List Addr) (env : Env) (H : Hp) (a kS f : Addr) (fo : Obj) (e1 : Nat) (F : D → Sto → Option (ER × Sto)) (xs : List D) (is : List Int) (st2 : Sto) (j : Nat) (s' : Shared) (Hj : Hp) (stj : Sto) (kA : Array Value) (e : Nat) : Prop where
  I : Inv X pins σ Hj s'
  ws : Ws X.K T φ ρ Hj stj
  sl : Sl X.K φ ρ Hj env σ
  ext : Ext ρ H Hj
  nA : Hj a = none
  nK : Hj kS = none
  nF : Hj f = none
  gK : s'.heap.get? kS = some (seqObj "list" kA e)
  gA : s'.heap.get? a = some (seqObj "list" #[] e1)
  gF : s'.heap.get? f = some fo
  ks : PySem.W.EachIs (fun (v : Value) (n : Int) => ∃ t, v = Value.int n t) kA.toList (is.take j)
  go : KeysR F (xs.drop j) stj (is.drop j) st2
theorem ksk_core {scope : Scope} {params : Arguments} {body : Expr} {x : Str} {f c' : Addr} {i : Nat} {pm ctv : Value} {k' : IE} {rev : Bool} {E : Value → Shared → Prop} {Q : VK} {h' : Heap} {tk : Nat} {us : List Value} {vsV : List V} {xs : List D} {is : List Int}
    (I : Inv X pins σ H s) (ws : Ws X.K T φ ρ H st) (sl : Sl X.K φ ρ H env σ) (L : Lm X.env.scope scope x) (hroom : Room 0 X.A) (hi : X.N[i]? = some x) (hN : X.N.Nodup)
    (hf : s.heap.get? f = some (PySem.W.kla_obj "<lambda>" (X.env.qual ++ "<lambda>") params body scope (cloFrom X.env.cells scope.names []) pm c' ctv)) (hfn : H f = none) (hfr : f ∉ frs X.stack)
    (hbind : ∀ (q : Str) (cl : List (Str × Addr)) (pm cv ctv : Value) (u : Value), bindArgs (PySem.W.kla_fn "<lambda>" q params body scope cl pm cv ctv) ⟨[u], []⟩ = pure [(x, u)])
    (hc : H c' = some (LamX.CodeO c' (X.env.qual ++ "<lambda>")))
    (hbody : ∀ (s : Shared) (H : Hp), PE (lmCx X X.A.in1.in1 s H scope f c' x) body (tF X.K T (evE G cl k')))
    (rv : Vals vsV us) (rd : RDs X.K φ H vsV xs) (hl : xs.length ≤ 1000) (hk : KeysR (fun d s => evE G cl k' (env.set i (some (.dat d))) s) xs st is st2)
    (kp : ∀ b o, s.heap.get? b = some o → h'.get? b = some o) (hsz : s.heap.objs.size ≤ h'.objs.size)
    (hQ : ∀ p H', Post X.K T φ ρ H H' env σ st2 (.dat (.list ((sortK rev (xs.zip is)).map (·.1))) true) (.ref p) → Q (.ref p) H') :
    wpAny (model X.prog X.w) X.A.in1.in1 (ksk_tree h'.objs.size (.ref f) rev) (fun fl s' => fl = .done (.ret .none) ∧ EP X pins σ Q (.ref h'.objs.size) s') E { s with heap := h'.push (seqObj "list" us.toArray 0), toks := tk } := by
  have hlu : us.length = xs.length := by rw [← rv.length, rd.length]
  have hZ : us.length ≤ sizeLine := by rw [hlu, sizeLine_eq]; omega
  have hlk := hk.len
  -- the objects laid ahead of the calls
  generalize ha : h'.objs.size = a
  have hsa : s.heap.objs.size ≤ a := by rw [← ha]; exact hsz
  have ho : (h'.push (seqObj "list" us.toArray 0)).get? a = some (seqObj "list" us.toArray 0) := by rw [← ha]; exact Heap.get?_push_size _ rfl
  generalize hA : h'.push (seqObj "list" us.toArray 0) = hA' at ho
  have kpA : ∀ b o, s.heap.get? b = some o → hA'.get? b = some o := fun b o e => by rw [← hA]; exact Heap.get?_push_of_some _ (kp b o e)
  have szA : hA'.objs.size = a + 1 := by rw [← hA, Heap.size_push, ha]
  obtain ⟨e1, ho1⟩ : ∃ e1, (hA'.update a (Obj.mapSeq fun _ => (#[] : Array Value))).get? a = some (seqObj "list" #[] e1) := ⟨_, get?_update_seq ho fun _ => #[]⟩
  unfold ksk_tree
  refine wpAny_bind (listItems_at ho rfl ?_)
  refine wpAny_bind (listUpdate_at ho rfl ?_ (by rw [List.size_toArray]; exact hZ) (Nat.zero_le _))
  refine wpAny_bind (seqEpoch_at ho1 rfl ?_)
  refine wpAny_bind (wpAny_newTuple ?_ (by show us.length ≤ _; exact hZ))
  refine wpAny_bind (wpAny_newList ?_ (Nat.zero_le _))
  refine wpAny_holding ?_
  generalize hk1 : ((hA'.update a (Obj.mapSeq fun _ => (#[] : Array Value))).push (seqObj "tuple" us.toArray 0)).objs.size = kS
  have eK : kS = a + 2 := by rw [← hk1, Heap.size_push, Heap.size_update, szA]
  have hka : kS ≠ a := by rw [eK]; exact Nat.ne_of_gt (Nat.lt_succ_of_lt (Nat.lt_succ_self a))
  have hsk : s.heap.objs.size ≤ kS := by rw [eK]; exact Nat.le_trans hsa (Nat.le_add_right a 2)
  generalize hB : ((hA'.update a (Obj.mapSeq fun _ => (#[] : Array Value))).push (seqObj "tuple" us.toArray 0)).push (seqObj "list" #[] 0) = hB'
  have kpB : ∀ b o, s.heap.get? b = some o → hB'.get? b = some o := fun b o e => by
    rw [← hB]
    refine Heap.get?_push_of_some _ (Heap.get?_push_of_some _ ?_)
    exact (Heap.get?_update_ne _ _ _ _ (Nat.ne_of_lt (Nat.lt_of_lt_of_le (Heap.lt_size e) hsa))).trans (kpA b o e)
  have atK : hB'.get? kS = some (seqObj "list" #[] 0) := by rw [← hB, ← hk1]; exact Heap.get?_push_size _ rfl
  have atA : hB'.get? a = some (seqObj "list" #[] e1) := by rw [← hB]; exact Heap.get?_push_of_some _ (Heap.get?_push_of_some _ ho1)
  have I4 : Inv X pins σ H { s with heap := hB', toks := tk } := I.kept kpB
  have nA : H a = none := I.hok.fresh hsa
  have nK : H kS = none := I.hok.fresh hsk
  have fpA : ∀ {H' : Hp}, H' a = none → FpOk X pins H' a := fun e => I.fpOk hsa e
  have fpK : ∀ {H' : Hp}, H' kS = none → FpOk X pins H' kS := fun e => I.fpOk hsk e
  have nfA : a ∉ frs X.stack := fun z => by
    rcases List.mem_cons.mp (I.stkSub _ z) with e | e
    · have h1 := I.lt
      rw [← e] at h1
      exact Nat.lt_irrefl _ (Nat.lt_of_lt_of_le h1 hsa)
    · exact I.nofs hsa e
  have nfK : kS ∉ frs X.stack := fun z => by
    rcases List.mem_cons.mp (I.stkSub _ z) with e | e
    · have h1 := I.lt
      rw [← e] at h1
      exact Nat.lt_irrefl _ (Nat.lt_of_lt_of_le h1 hsk)
    · exact I.nofs hsk e
  have hcne : ∀ c o, H c = some o → (∀ xs, o ≠ .lst xs) → c ∉ ρ := fun c o e n z => by
    obtain ⟨ys, q⟩ := ws.rho c z
    rw [e] at q
    exact n ys (Option.some.inj q)
  unfold ksk_rest
  refine wpAny_bind (wpAny_rule ?_)
  first
    | rw [List.forIn_toArray]
    | (rw [← Array.forIn_toList]; simp only [List.toList_toArray])
    | rw [← Array.forIn_toList]
  refine wpAny_bind (ksk_fold (fun j s' => ∃ Hj stj kA e, KJ X pins σ T φ ρ env H a kS f _ e1 (fun d s => evE G cl k' (env.set i (some (.dat d))) s) xs is st2 j s' Hj stj kA e) us 0 _
    ⟨H, st, #[], 0, ⟨I4, ws, sl, .refl _ _, nA, nK, hfn, atK, atA, kpB _ _ hf, .nil, hk⟩⟩ ?step ?done)
  case step =>
    rintro j u s' hu ⟨Hj, stj, kA, e, J⟩
    simp only [Nat.zero_add] at J ⊢
    have hj : j < us.length := (List.getElem?_eq_some_iff.mp hu).1
    have hjx : j < xs.length := by rw [← hlu]; exact hj
    have hji : j < is.length := by rw [← hlk]; exact hjx
    have go := J.go
    rw [List.drop_eq_getElem_cons hjx, List.drop_eq_getElem_cons hji] at go
    obtain ⟨st1, fr, g1, g2⟩ := go
    have hv : ∃ v, vsV[j]? = some v ∧ RelV v u := by
      have hjv : j < vsV.length := by rw [rv.length]; exact hj
      obtain ⟨u', hu', r⟩ := rv.get (List.getElem?_eq_getElem hjv)
      rw [hu] at hu'
      cases hu'
      exact ⟨_, List.getElem?_eq_getElem hjv, r⟩
    obtain ⟨v, hv1, hv2⟩ := hv
    have rdj := rd.ext (J.ext.more ws.sub) ws.fl
    have hvd : RD X.K φ Hj v xs[j] := by
      obtain ⟨d, hd1, hd2⟩ := rdj.getV hv1
      rw [List.getElem?_eq_getElem hjx] at hd1
      cases hd1
      exact hd2
    have hcj : Hj c' = some (LamX.CodeO c' (X.env.qual ++ "<lambda>")) := J.ext.keep _ _ hc (hcne _ _ hc (fun ys z => by cases z)) (fun ps z => by cases z)
    have hz : kA.size ≤ us.length := by
      have h1 := J.ks.length
      rw [Array.length_toList, List.length_take] at h1
      omega
    have run := lm_run (A := X.A.in1.in1) (Q := fun v' H' => ∃ y fr', v' = V.int y ∧ y = is[j] ∧ Post X.K T φ ρ Hj H' (env.set i (some (.dat xs[j]))) (σ.set i (some v)) st1 (.dat (.int y) fr') v') J.I L hroom.hd rfl (by have := hroom.dp; show X.A.depth < _; omega) hi hN hv2 J.gF hbind hcj (hbody s' Hj)
      ⟨φ, ρ, env.set i (some (.dat xs[j])), stj, _, st1, J.ws, J.sl.set (s := .dat xs[j]) hvd, g1, fun v' H' p => ⟨is[j], fr, by cases (show RD X.K φ H' v' (.int is[j]) from p.rr); rfl, rfl, p⟩⟩
    refine wpAny_bind (wpAny_attempt (wpAny_call (codeAny_mono run fun r s2 hq => ?_)))
    match r, hq with
    | .ok (.ret u2), hq =>
      obtain ⟨v', H', os, bare, un, hok, rr, y, fr', ev, ey, p⟩ := hq
      obtain ⟨hh, g, dd, t, os'⟩ := s2
      obtain rfl : os' = s'.os := os
      have I2 : Inv X pins σ H' ⟨hh, g, dd, t, s'.os⟩ := J.I.call (h' := hh) (g' := g) (d' := dd) (t' := t) (ch := []) un hok bare (fun b z => absurd z (by simp))
      subst ev
      obtain ⟨tk2, rfl⟩ : ∃ tk2, u2 = Value.int y tk2 := rr
      have gK2 : hh.get? kS = some (seqObj "list" kA e) := un.keep kS _ J.gK J.nK nfK (by simp)
      have gA2 : hh.get? a = some (seqObj "list" #[] e1) := un.keep a _ J.gA J.nA nfA (by simp)
      have gF2 : hh.get? f = some _ := un.keep f _ J.gF J.nF hfr (by simp)
      have nK2 : H' kS = none := un.free kS _ J.gK J.nK (by simp)
      have nA2 : H' a = none := un.free a _ J.gA J.nA (by simp)
      have nF2 : H' f = none := un.free f _ J.gF J.nF (by simp)
      have s1 := Heap.SameBut.update hh kS (Obj.mapSeq (·.push (Value.int y tk2)))
      obtain ⟨c2, hc2⟩ : ∃ c2, (hh.update kS (Obj.mapSeq (·.push (Value.int y tk2)))).get? kS = some (seqObj "list" (kA.push (Value.int y tk2)) c2) := ⟨_, get?_update_seq gK2 (·.push (Value.int y tk2))⟩
      refine wpAny_bind (listUpdate_at gK2 rfl ?_ (Nat.le_trans hz hZ) (Nat.le_trans (Nat.le_of_eq (Array.size_push ..)) (Nat.succ_le_succ (Nat.le_trans hz hZ))))
      have kpU : ∀ b o, b ∉ [kS] → hh.get? b = some o → (hh.update kS (Obj.mapSeq (·.push (Value.int y tk2)))).get? b = some o := fun b o hb e => (s1.2 b (fun z => hb (by simp [z]))).trans e
      have hfK : f ≠ kS := fun z => by
        have q := Heap.lt_size hf
        rw [z] at q
        exact Nat.lt_irrefl _ (Nat.lt_of_lt_of_le q hsk)
      have I3 : Inv X pins σ H' { heap := hh.update kS (Obj.mapSeq (·.push (Value.int y tk2))), gens := g, drawn := dd, toks := t, os := s'.os } := I2.turnedL (t' := t) kpU (fun b hb => by rw [List.mem_singleton.mp hb]; exact fpK nK2)
      have ek : is.take (j + 1) = is.take j ++ [y] := by rw [List.take_add_one, List.getElem?_eq_getElem hji, ey]; rfl
      refine wpAny_pure ⟨rfl, H', st1, kA.push (Value.int y tk2), c2, ⟨I3, p.ws, J.sl.ext (p.ext.more J.ws.sub) J.ws.fl, J.ext.trans p.ext, nA2, nK2, nF2, hc2, (s1.2 a hka.symm).trans gA2, (s1.2 f hfK).trans gF2, ?_, g2⟩⟩
      rw [ek, Array.toList_push]
      exact PySem.W.each_snoc (R := fun (v : Value) (n : Int) => ∃ t, v = Value.int n t) ⟨tk2, rfl⟩ J.ks
  case done =>
    rintro s' ⟨Hn, stn, kA, e, J⟩
    simp only [Nat.zero_add] at J
    have go := J.go
    rw [List.drop_of_length_le (by omega), List.drop_of_length_le (by omega)] at go
    have go : stn = st2 := go
    subst go
    have ks := J.ks
    rw [List.take_of_length_le (by omega)] at ks
    have hks : PySem.W.EachIs (fun v d => ∃ as, Reads s'.heap v d as) kA.toList ((xs.zip is).map fun b => PyData.int b.2) := by
      rw [zip_snd_ints hlk]
      refine PySem.W.each_map (R := fun v d => ∃ as, Reads s'.heap v d as) PyData.int (ks.mono fun v n ⟨t, e⟩ => ?_)
      subst e
      exact ⟨[], .int _ _⟩
    have hal : PySem.W.AllAlike ((xs.zip is).map fun b => PyData.int b.2) := PySem.W.AllAlike.of fun _ _ => by simp [PySem.W.alike]
    have hsk' : PySem.W.Sortable ((xs.zip is).map fun b => PyData.int b.2) := PySem.W.Sortable.others fun b => ⟨by simp, fun _ => by simp⟩
    have hsz2 : kA.size = us.length := by
      have h1 := ks.length
      rw [Array.length_toList] at h1
      omega
    try dsimp only
    refine wpAny_bind (listItems_at J.gK rfl ?_)
    obtain ⟨G1, g1, g2⟩ := restrict s'.heap fun b => decide (b ≠ kS)
    obtain ⟨G2, g3, g4⟩ := restrict s'.heap fun b => decide (b ≠ kS ∧ b ≠ a)
    refine PySem.W.keyH_end (κ := PySem.W.dataKind s'.heap ((xs.zip is).map fun b => PyData.int b.2)) (h₁ := G1) (fun b o hb e => ?_) (g2 kS (by simp)) J.gK J.gA hka
      (PySem.W.SortsAt.data hks hal hsk' fun d hd => ?_) hsz2 hZ fun h3 tk3 c k3 n3 => ?_
    · by_cases hbk : b = kS
      · rw [hbk, g2 kS (by simp)] at e; cases e
      · rw [g1 b (by simp [hbk])] at e; exact e
    · obtain ⟨b, _, rfl⟩ := List.mem_map.mp hd
      have := hroom.un
      show X.A.units + 2 + (PyData.int b.2).depth < _
      simp only [PyData.depth]
      omega
    · have eo := PySem.W.sortVals_each (κ := PySem.W.dataKind s'.heap ((xs.zip is).map fun b => PyData.int b.2)) (rev := rev) (fun b : D × Int => PySem.W.keyToks (.int b.2)) (each_vals _ _ _ _ rv (rd.ext (J.ext.more ws.sub) ws.fl) hlk)
        (PySem.W.each_of_map (fun b : D × Int => PyData.int b.2) (PySem.W.each_keys hal hks))
      have ed : PySem.W.sortLe (PySem.W.dataKind s'.heap ((xs.zip is).map fun b => PyData.int b.2)).toKeyOrd rev (fun b : D × Int => PySem.W.keyToks (.int b.2)) = leK rev := le_data rev
      rw [ed, sortK_eq] at eo
      obtain ⟨outV, ov, od⟩ := vals_each eo
      have IG : Inv X pins σ Hn { s' with heap := G2 } := J.I.turnedL (t' := s'.toks) (ch := [kS, a]) (fun b o hb e => by rw [g3 b (by simpa using hb)]; exact e) (fun b hb => by
        rcases List.mem_cons.mp hb with z | z
        · rw [z]; exact fpK J.nK
        · rw [List.mem_singleton.mp z]; exact fpA J.nA)
      have k23 : ∀ b o, G2.get? b = some o → h3.get? b = some o := fun b o e => by
        by_cases hb : b ≠ kS ∧ b ≠ a
        · rw [g3 b (by simpa using hb)] at e
          exact k3 b o hb.2 (by rw [g1 b (by simpa using hb.1)]; exact e)
        · rw [g4 b (by simpa using hb)] at e; cases e
      have hlo : outV.length ≤ sizeLine := by
        rw [od.length, List.length_map, ← sortK_eq, List.length_mergeSort, List.length_zip, sizeLine_eq]
        omega
      refine ⟨rfl, .ref a, upd Hn a (.lst outV), IG.laidN (t' := tk3) k23 (g4 a (by simp)) J.nA ⟨hlo, _, c, ov, n3⟩, rfl, ?_⟩
      exact hQ a _ ((Post.lst J.ws J.sl J.nA od).pre J.ext)
end
end Ev
set_option linter.all false
set_option maxRecDepth 100000
set_option maxHeartbeats 4000000
/-! Ev10: statements: what they work out to, and their readings. -/
namespace Ev
open PySem PySem.Spec L2
variable {K : PySem.W.Frag} {T : List (Addr × Str)} {X : Cx} {G : Pk} {cl : Str → List SV → Sto → Option (ER × Sto)}

/-- name = ..: a list just made comes to stand in the store, if its name is one whose list is changed -/
def stoE (mu : List Nat) (i : Nat) (r : ER) (env : Env) (st : Sto) : Env × Sto :=
  match r, mu.contains i with
  | .dat (.list ds) true, true => (env.set i (some (.loc st.length)), st ++ [ds])
  | r, _ => (env.set i (some (svE r)), st)
def keepFl (kp : List (Nat × List D)) : Fl → Bool
  | .nx _ st => keptL st kp
  | .ct _ st => keptL st kp
  | _ => true
section
variable (G : Pk) (cl : Str → List SV → Sto → Option (ER × Sto)) (mu : List Nat)
/-- a, b = x, y: the values, one after another -/
def evP : List (Nat × IE) → Env → Sto → Option (List (Nat × SV) × Sto)
  | [], _, st => some ([], st)
  | (i, e) :: r, env, st => match evE G cl e env st with
    | some (.dat (.list ds) true, st1) => match mu.contains i with
      | true => match evP r env (st1 ++ [ds]) with
        | some (ss, st2) => some ((i, .loc st1.length) :: ss, st2)
        | none => none
      | false => match evP r env st1 with
        | some (ss, st2) => some ((i, .dat (.list ds)) :: ss, st2)
        | none => none
    | some (x, st1) => match evP r env st1 with
      | some (ss, st2) => some ((i, svE x) :: ss, st2)
      | none => none
    | none => none
def setAll : List (Nat × SV) → Env → Env
  | [], env => env
  | (i, s) :: r, env => setAll r (env.set i (some s))
mutual
def evS : IS → Env → Sto → Option Fl
  | .asg (.nm i) e, env, st => match evE G cl e env st with
    | some (r, st1) => let p := stoE mu i r env st1; some (.nx p.1 p.2)
    | none => none
  | .asg (.tp ts) e, env, st => match evE G cl e env st with
    | some (.dat d _, st1) => match bindT (.tp ts) d env with
      | some env1 => some (.nx env1 st1)
      | none => none
    | _ => none
  | .par is es, env, st => match evP G cl mu (is.zip es) env st with
    | some (ss, st1) => some (.nx (setAll ss env) st1)
    | none => none
  | .seti i a e, env, st => match evE G cl e env st with
    | some (.dat d _, st1) => match env[i]? with
      | some (some (.loc n)) => match evE G cl a env st1 with
        | some (.dat (.int k) _, st2) => match st2[n]? with
          | some xs => match ixN xs.length k with
            | some j => some (.nx env (st2.set n (xs.set j d)))
            | none => none
          | none => none
        | _ => none
      | _ => none
    | _ => none
  | .app i e, env, st => match env[i]? with
    | some (some (.loc n)) => match evE G cl e env st with
      | some (.dat d _, st1) => match st1[n]? with
        | some xs => if xs.length < sizeLine then some (.nx env (st1.set n (xs ++ [d]))) else none
        | none => none
      | _ => none
    | _ => none
  | .ins i a e, env, st => match env[i]? with
    | some (some (.loc n)) => match evE G cl a env st with
      | some (.dat (.int k) _, st0) => match evE G cl e env st0 with
        | some (.dat d _, st1) => match st1[n]? with
          | some xs => if xs.length < sizeLine ∧ 0 ≤ k ∧ k < 2 ^ 63 then some (.nx env (st1.set n (xs.take k.toNat ++ d :: xs.drop k.toNat))) else none
          | none => none
        | _ => none
      | _ => none
    | _ => none
  | .exp e, env, st => match evE G cl e env st with
    | some (_, st1) => some (.nx env st1)
    | none => none
  | .ite c a b, env, st => match tstE (evE G cl c env st) with
    | some (true, st1) => evSs a env st1
    | some (false, st1) => evSs b env st1
    | none => none
  | .loop t it b, env, st => match evI G cl it env st with
    | some (xs, kp, st1) => forL (fun d env s => match bindT t d env with
        | some env1 => match evSs b env1 s with
          | some f => if keepFl kp f then some f else none
          | none => none
        | none => none) xs env st1
    | none => none
  | .whl c b, env, st => whlL (fun env st => tstE (evE G cl c env st)) (fun env st => evSs b env st) G.wf env st
  | .ret none, env, st => some (.rt (.dat .none false) st)
  | .ret (some e), env, st => match evE G cl e env st with
    | some (r, st1) => some (.rt r st1)
    | none => none
  | .nev, _, _ => none
  | .pas, env, st => some (.nx env st)
  | .brk, env, st => some (.bk env st)
  | .cnt, env, st => some (.ct env st)
def evSs : List IS → Env → Sto → Option Fl
  | [], env, st => some (.nx env st)
  | s :: ss, env, st => match evS s env st with
    | some (.nx env1 st1) => evSs ss env1 st1
    | r => r
end
end

/-! ### readings -/
/-- the heap and the store go on -/
structure Gs (φ ρ : List Addr) (H : Hp) (φ' ρ' : List Addr) (H' : Hp) : Prop where
  ext : Ext ρ H H'
  pre : ∃ more, φ' = φ ++ more ∧ ρ' = ρ ++ more ∧ ∀ a ∈ more, H a = none
theorem Gs.refl (φ ρ : List Addr) (H : Hp) : Gs φ ρ H φ ρ H := ⟨.refl _ _, [], by simp, by simp, by simp⟩
theorem Gs.of {φ ρ : List Addr} {H H' : Hp} (x : Ext ρ H H') : Gs φ ρ H φ ρ H' := ⟨x, [], by simp, by simp, by simp⟩
theorem Gs.trans {φ ρ φ1 ρ1 φ2 ρ2 : List Addr} {H H1 H2 : Hp} (a : Gs φ ρ H φ1 ρ1 H1) (b : Gs φ1 ρ1 H1 φ2 ρ2 H2) : Gs φ ρ H φ2 ρ2 H2 := by
  obtain ⟨x, m1, rfl, rfl, h1⟩ := a
  obtain ⟨y, m2, rfl, rfl, h2⟩ := b
  refine ⟨⟨fun c o e n t => y.keep c o (x.keep c o e n t) (fun z => ?_) t, fun c e => x.dom c (y.dom c e)⟩, m1 ++ m2, by rw [List.append_assoc], by rw [List.append_assoc], fun c hc => ?_⟩
  · rcases List.mem_append.mp z with z | z
    · exact n z
    · rw [h1 c z] at e; cases e
  · rcases List.mem_append.mp hc with h | h
    · exact h1 c h
    · exact x.dom c (h2 c h)
theorem Gs.gr {φ ρ φ' ρ' : List Addr} {H H' : Hp} (g : Gs φ ρ H φ' ρ' H') (sub : ∀ a ∈ ρ, a ∈ φ) : Gr φ φ' H H' := by
  obtain ⟨x, m, rfl, rfl, h⟩ := g
  exact ⟨x.more sub, m, rfl, h⟩
structure NxP (K : PySem.W.Frag) (T : List (Addr × Str)) (φ ρ : List Addr) (H : Hp) (env' : Env) (st' : Sto) (φ' ρ' : List Addr) (σ' : L2.St) (H' : Hp) : Prop where
  ws : Ws K T φ' ρ' H' st'
  sl : Sl K φ' ρ' H' env' σ'
  gs : Gs φ ρ H φ' ρ' H'
structure RtP (K : PySem.W.Frag) (T : List (Addr × Str)) (φ ρ : List Addr) (H : Hp) (r : ER) (st' : Sto) (φ' ρ' : List Addr) (v : V) (H' : Hp) : Prop where
  post : Post K T φ' ρ' H H' [] [] st' r v
  gs : Gs φ ρ H φ' ρ' H'
def EndOk (K : PySem.W.Frag) (T : List (Addr × Str)) (φ ρ : List Addr) (H : Hp) (D : Ends) : Fl → Prop
  | .nx env' st' => ∀ φ' ρ' σ' H', NxP K T φ ρ H env' st' φ' ρ' σ' H' → D.nx σ' H'
  | .bk env' st' => ∀ φ' ρ' σ' H', NxP K T φ ρ H env' st' φ' ρ' σ' H' → D.bk σ' H'
  | .ct env' st' => ∀ φ' ρ' σ' H', NxP K T φ ρ H env' st' φ' ρ' σ' H' → D.ct σ' H'
  | .rt r st' => ∀ φ' ρ' v H', RtP K T φ ρ H r st' φ' ρ' v H' → D.rt v H'
def tS (K : PySem.W.Frag) (T : List (Addr × Str)) (F : Env → Sto → Option Fl) : TS := fun D σ H =>
  ∃ φ ρ env st f, Ws K T φ ρ H st ∧ Sl K φ ρ H env σ ∧ F env st = some f ∧ EndOk K T φ ρ H D f
theorem impS {s : Stmt} {t t' : TS} (h : PS X s t) (k : ∀ D σ H, t' D σ H → t D σ H) : PS X s t' := ⟨fun pins s σ H D I q => h.run pins s σ H D I (k D σ H q)⟩
theorem impSs {s : List Stmt} {t t' : TS} (h : PSs X s t) (k : ∀ D σ H, t' D σ H → t D σ H) : PSs X s t' := ⟨fun pins s σ H D I q => h.run pins s σ H D I (k D σ H q)⟩
theorem EndOk.pre {φ ρ φ1 ρ1 : List Addr} {H H1 : Hp} {D : Ends} {f : Fl} (g : Gs φ ρ H φ1 ρ1 H1) (h : EndOk K T φ ρ H D f) : EndOk K T φ1 ρ1 H1 D f := by
  cases f with
  | nx e s => exact fun φ' ρ' σ' H' p => h φ' ρ' σ' H' ⟨p.ws, p.sl, g.trans p.gs⟩
  | bk e s => exact fun φ' ρ' σ' H' p => h φ' ρ' σ' H' ⟨p.ws, p.sl, g.trans p.gs⟩
  | ct e s => exact fun φ' ρ' σ' H' p => h φ' ρ' σ' H' ⟨p.ws, p.sl, g.trans p.gs⟩
  | rt r s =>
    refine fun φ' ρ' v H' p => h φ' ρ' v H' ⟨?_, g.trans p.gs⟩
    have q := g.trans p.gs
    refine Post.mk p.post.ws p.post.sl (q.ext.more fun a ha => ?_) p.post.rr fun d e => ?_
    · obtain ⟨_, m, _, e, _⟩ := q
      rw [e]; exact List.mem_append_left _ ha
    · obtain ⟨pp, xs, ds, h1, h2, h3, h4⟩ := p.post.fr d e
      exact ⟨pp, xs, ds, h1, h2, g.ext.dom _ h3, h4⟩
/-- a list just made comes into the store -/
theorem alloc {φ ρ : List Addr} {H H' : Hp} {env : Env} {σ : L2.St} {st' : Sto} {ds : List D} {v : V} (sub : ∀ a ∈ ρ, a ∈ φ) (p : Post K T φ ρ H H' env σ st' (.dat (.list ds) true) v) :
    ∃ q, v = .ref q ∧ Ws K T (φ ++ [q]) (ρ ++ [q]) H' (st' ++ [ds]) ∧ Sl K (φ ++ [q]) (ρ ++ [q]) H' env σ ∧ Gs φ ρ H (φ ++ [q]) (ρ ++ [q]) H' ∧ RS K (φ ++ [q]) (ρ ++ [q]) H' (.loc st'.length) v := by
  obtain ⟨q, xs, ds', e1, rfl, h1, h2, h3, h4, h5⟩ := p.fr _ rfl
  cases e1
  have nq : q ∉ φ := fun z => by
    obtain ⟨ys, e, _⟩ := p.ws.fx q z
    cases p.rr with
    | lst n _ _ => exact n z
  refine ⟨q, rfl, ⟨?_, fun n ds' e => ?_, ?_, fun a ha => ?_, h4.fx, h4.tab⟩, ⟨h5.len, fun i s e => ?_⟩, ⟨p.ext, [q], rfl, rfl, fun a ha => by rw [List.mem_singleton.mp ha]; exact h1⟩, q, ?_, rfl⟩
  · rw [List.length_append, List.length_append, p.ws.len]; rfl
  · by_cases hn : n < st'.length
    · rw [List.getElem?_append_left hn] at e
      obtain ⟨a, ys, a1, a2, a3⟩ := h4.sto n ds' e
      exact ⟨a, ys, by rw [List.getElem?_append_left (by rw [p.ws.len]; exact hn)]; exact a1, a2, a3⟩
    · have en : n = st'.length := by
        have := (List.getElem?_eq_some_iff.mp e).1
        rw [List.length_append] at this
        simp at this; omega
      subst en
      rw [List.getElem?_append_right (Nat.le_refl _), Nat.sub_self] at e
      cases e
      exact ⟨q, xs, by rw [List.getElem?_append_right (by rw [p.ws.len]; exact Nat.le_refl _), p.ws.len, Nat.sub_self]; rfl, h2, h3⟩
  · rw [List.nodup_append]
    exact ⟨p.ws.nd, by simp, fun a ha b hb => by rw [List.mem_singleton.mp hb]; exact fun z => nq (sub q (z ▸ ha))⟩
  · rcases List.mem_append.mp ha with h | h
    · exact List.mem_append_left _ (sub a h)
    · exact List.mem_append_right _ h
  · obtain ⟨u, a1, a2⟩ := h5.get i s e
    refine ⟨u, a1, ?_⟩
    cases s with
    | dat d => exact a2
    | loc n =>
      obtain ⟨a, b1, b2⟩ := a2
      exact ⟨a, by rw [List.getElem?_append_left (List.getElem?_eq_some_iff.mp b1).1]; exact b1, b2⟩
    | scr ns => exact a2
  · rw [List.getElem?_append_right (by rw [p.ws.len]; exact Nat.le_refl _), p.ws.len, Nat.sub_self]; rfl
end Ev
set_option linter.all false
set_option maxRecDepth 100000
set_option maxHeartbeats 8000000
/-! Ev11: each statement's rule. -/
namespace Ev
open PySem PySem.Spec L2
variable {K : PySem.W.Frag} {T : List (Addr × Str)} {X : Cx} {G : Pk} {cl : Str → List SV → Sto → Option (ER × Sto)} {mu : List Nat}

section
variable {φ ρ : List Addr} {H H' : Hp} {st : Sto} {n : Nat} {a : Addr} {ds : List D} {ys : List V}
/-- a list of the store is changed -/
theorem Ws.setN (w : Ws K T φ ρ H st) (ha : ρ[n]? = some a) (r : RDs K φ H ys ds) : Ws K T φ ρ (upd H a (.lst ys)) (st.set n ds) := by
  have am : a ∈ ρ := List.mem_of_getElem? ha
  have x : Ext φ H (upd H a (.lst ys)) := .at (w.sub a am)
  obtain ⟨zs, ez⟩ := w.rho a am
  have nl : n < st.length := by rw [← w.len]; exact (List.getElem?_eq_some_iff.mp ha).1
  refine ⟨by rw [List.length_set]; exact w.len, fun m es e => ?_, w.nd, w.sub, fun b hb => ?_, Tabs_ext (φ := φ) w.tab (.inr ⟨zs, ez⟩)⟩
  · by_cases h : m = n
    · subst h
      rw [List.getElem?_set_self nl] at e
      cases e
      exact ⟨a, ys, ha, upd_same, r.ext x w.fl⟩
    · rw [List.getElem?_set_ne (Ne.symm h)] at e
      obtain ⟨b, us, h1, h2, h3⟩ := w.sto m es e
      have nb : b ≠ a := fun z => h ((List.getElem_inj w.nd).mp ((List.getElem?_eq_some_iff.mp h1).2.trans (z.trans (List.getElem?_eq_some_iff.mp ha).2.symm)))
      exact ⟨b, us, h1, (upd_ne nb).trans h2, h3.ext x w.fl⟩
  · by_cases e : b = a
    · rw [e]; exact ⟨_, upd_same, True.intro⟩
    · obtain ⟨us, h3, m⟩ := w.fx b hb
      exact ⟨us, (upd_ne e).trans h3, m⟩
end
theorem wipe0 : True := True.intro
section
variable {φ ρ : List Addr} {H H1 : Hp} {env : Env} {σ : L2.St} {st st1 : Sto} {D : Ends} {f : Fl}
theorem nx_of {env' : Env} {σ' : L2.St} (w : Ws K T φ ρ H1 st1) (s : Sl K φ ρ H1 env' σ') (x : Ext ρ H H1) : NxP K T φ ρ H env' st1 φ ρ σ' H1 := ⟨w, s, .of x⟩
end
theorem okSs_nil : PSs X [] (tS X.K T (fun env st => evSs G cl mu [] env st)) := by
  refine impSs pss_nil fun D σ H q => ?_
  obtain ⟨φ, ρ, env, st, f, ws, sl, he, k⟩ := q
  simp only [evSs] at he
  cases he
  exact k φ ρ σ H ⟨ws, sl, .refl _ _ _⟩
theorem okSs_cons {s : Stmt} {ss : List Stmt} {s' : IS} {ss' : List IS} (h1 : PS X s (tS X.K T (fun env st => evS G cl mu s' env st))) (h2 : PSs X ss (tS X.K T (fun env st => evSs G cl mu ss' env st))) : PSs X (s :: ss) (tS X.K T (fun env st => evSs G cl mu (s' :: ss') env st)) := by
  refine impSs (pss_cons h1 h2) fun D σ H q => ?_
  obtain ⟨φ, ρ, env, st, f, ws, sl, he, k⟩ := q
  simp only [evSs] at he
  split at he
  · rename_i env1 st1 h3
    exact ⟨φ, ρ, env, st, _, ws, sl, h3, fun φ' ρ' σ' H' p => ⟨φ', ρ', env1, st1, f, p.ws, p.sl, he, k.pre p.gs⟩⟩
  · rename_i h3
    refine ⟨φ, ρ, env, st, f, ws, sl, he, ?_⟩
    cases f with
    | nx e s => exact absurd he (h3 e s)
    | bk e s => exact k
    | ct e s => exact k
    | rt r s => exact k
theorem okS_nev {s : Stmt} : PS X s (tS X.K T (fun env st => evS G cl mu .nev env st)) := by
  refine impS ps_never fun D σ H q => ?_
  obtain ⟨φ, ρ, env, st, f, ws, sl, he, k⟩ := q
  simp only [evS] at he
  cases he
theorem okS_pas {pos : Pos} : PS X (.Pass pos) (tS X.K T (fun env st => evS G cl mu .pas env st)) := by
  refine impS ps_pass fun D σ H q => ?_
  obtain ⟨φ, ρ, env, st, f, ws, sl, he, k⟩ := q
  simp only [evS] at he
  cases he
  exact k φ ρ σ H ⟨ws, sl, .refl _ _ _⟩
theorem okS_brk {pos : Pos} : PS X (.Break pos) (tS X.K T (fun env st => evS G cl mu .brk env st)) := by
  refine impS ps_break fun D σ H q => ?_
  obtain ⟨φ, ρ, env, st, f, ws, sl, he, k⟩ := q
  simp only [evS] at he
  cases he
  exact k φ ρ σ H ⟨ws, sl, .refl _ _ _⟩
theorem okS_cnt {pos : Pos} : PS X (.Continue pos) (tS X.K T (fun env st => evS G cl mu .cnt env st)) := by
  refine impS ps_continue fun D σ H q => ?_
  obtain ⟨φ, ρ, env, st, f, ws, sl, he, k⟩ := q
  simp only [evS] at he
  cases he
  exact k φ ρ σ H ⟨ws, sl, .refl _ _ _⟩
theorem okS_retN {pos : Pos} : PS X (.Return none pos) (tS X.K T (fun env st => evS G cl mu (.ret none) env st)) := by
  refine impS ps_retN fun D σ H q => ?_
  obtain ⟨φ, ρ, env, st, f, ws, sl, he, k⟩ := q
  simp only [evS] at he
  cases he
  exact k φ ρ _ H ⟨.at ws ⟨rfl, fun i s e => by simp at e⟩ .non (fun d e => by cases e), .refl _ _ _⟩
theorem Post.noSl {φ ρ : List Addr} {H H' : Hp} {env : Env} {σ : L2.St} {st' : Sto} {r : ER} {v : V} (p : Post K T φ ρ H H' env σ st' r v) : Post K T φ ρ H H' [] [] st' r v :=
  ⟨p.ws, ⟨rfl, fun i s e => by simp at e⟩, p.ext, p.rr, fun d e => let ⟨q, xs, ds, h1, h2, h3, h4, h5, h6, _⟩ := p.fr d e; ⟨q, xs, ds, h1, h2, h3, h4, h5, h6, rfl, fun i s e => by simp at e⟩⟩
theorem okS_ret {e : Expr} {e' : IE} {pos : Pos} (he : PE X e (tF X.K T (evE G cl e'))) : PS X (.Return (some e) pos) (tS X.K T (fun env st => evS G cl mu (.ret (some e')) env st)) := by
  refine impS (ps_ret he) fun D σ H q => ?_
  obtain ⟨φ, ρ, env, st, f, ws, sl, h, k⟩ := q
  simp only [evS] at h
  split at h
  · rename_i r st1 h1
    cases h
    exact ⟨φ, ρ, env, st, r, st1, ws, sl, h1, fun v H' p => k φ ρ v H' ⟨p.noSl, .of p.ext⟩⟩
  · cases h
theorem okS_exp {e : Expr} {e' : IE} {pos : Pos} (he : PE X e (tF X.K T (evE G cl e'))) (hs : swapsWith e none pos.line X.env = pure false) : PS X (.Expr e pos) (tS X.K T (fun env st => evS G cl mu (.exp e') env st)) := by
  refine impS (ps_expr he hs) fun D σ H q => ?_
  obtain ⟨φ, ρ, env, st, f, ws, sl, h, k⟩ := q
  simp only [evS] at h
  split at h
  · rename_i r st1 h1
    cases h
    exact seq1 ws sl h1 fun u H1 w1 s1 e1 r1 => k φ ρ σ H1 ⟨w1, s1, .of e1⟩
  · cases h
theorem okS_ite {c : Expr} {a b : List Stmt} {c' : IE} {a' b' : List IS} {pos : Pos} (hc : PT X c (tT X.K T (evE G cl c'))) (ha : PSs X a (tS X.K T (fun env st => evSs G cl mu a' env st))) (hb : PSs X b (tS X.K T (fun env st => evSs G cl mu b' env st))) :
    PS X (.If c a b pos) (tS X.K T (fun env st => evS G cl mu (.ite c' a' b') env st)) := by
  refine impS (ps_if hc ha hb) fun D σ H q => ?_
  obtain ⟨φ, ρ, env, st, f, ws, sl, h, k⟩ := q
  simp only [evS] at h
  split at h
  · rename_i st1 h1
    exact seqT ws sl h1 fun H1 w1 s1 e1 => iteT ⟨φ, ρ, env, st1, f, w1, s1, h, k.pre (.of e1)⟩
  · rename_i st1 h1
    exact seqT ws sl h1 fun H1 w1 s1 e1 => iteF ⟨φ, ρ, env, st1, f, w1, s1, h, k.pre (.of e1)⟩
  · cases h

/-! ### assignments -/
theorem okS_asg {i : Nat} {x : Str} {e : Expr} {e' : IE} {p' pos : Pos} (h : PS X (.Assign [.Name x p'] e pos) (tAsg (tF X.K T (evE G cl e')) (gName i))) : PS X (.Assign [.Name x p'] e pos) (tS X.K T (fun env st => evS G cl mu (.asg (.nm i) e') env st)) := by
  refine impS h fun D σ H q => ?_
  obtain ⟨φ, ρ, env, st, f, ws, sl, h, k⟩ := q
  simp only [evS] at h
  split at h
  · rename_i r st1 h1
    cases h
    refine ⟨φ, ρ, env, st, r, st1, ws, sl, h1, fun v H' p => ?_⟩
    unfold stoE at k
    split at k
    · rename_i ds hm
      obtain ⟨q, rfl, w, s, g, rs⟩ := alloc ws.sub p
      exact k _ _ _ _ ⟨w, s.set rs, g⟩
    · exact k _ _ _ _ ⟨p.ws, p.sl.set p.rr, .of p.ext⟩
  · cases h
theorem okS_asgT {ts : List IT} {tg e : Expr} {e' : IE} {pos : Pos} (he : PE X e (tF X.K T (evE G cl e'))) (hg : PG X tg (tG X.K T (.tp ts))) (hs : swapsWithSole [tg] e pos.line X.env = pure false) (hw : swappedStores [tg] e X.env = pure none) (h1 : (assignEach [tg] X.env).map (·.2) = [assign tg X.env]) :
    PS X (.Assign [tg] e pos) (tS X.K T (fun env st => evS G cl mu (.asg (.tp ts) e') env st)) := by
  refine impS (ps_asg he hg hs hw h1) fun D σ H q => ?_
  obtain ⟨φ, ρ, env, st, f, ws, sl, h, k⟩ := q
  simp only [evS] at h
  split at h
  · rename_i d fr st1 h2
    split at h
    · rename_i env1 h3
      cases h
      exact seq1 ws sl h2 fun u H1 w1 s1 e1 r1 => ⟨φ, ρ, env, st1, d, env1, w1, s1, r1, h3, fun σ' sl' _ => k _ _ _ _ ⟨w1, sl', .of e1⟩⟩
    · cases h
  · cases h
/-- the values of a, b = x, y -/
def tP (K : PySem.W.Frag) (T : List (Addr × Str)) (F : Env → Sto → Option (List (Nat × SV) × Sto)) : TA := fun σ H Q =>
  ∃ φ ρ env st ss st', Ws K T φ ρ H st ∧ Sl K φ ρ H env σ ∧ F env st = some (ss, st') ∧
    ∀ vs φ' ρ' H', Ws K T φ' ρ' H' st' → Sl K φ' ρ' H' env σ → Gs φ ρ H φ' ρ' H' → Paired (fun (s : Nat × SV) v => RS K φ' ρ' H' s.2 v) ss vs → Q vs H'
theorem RS.gs {φ ρ φ' ρ' : List Addr} {H H' : Hp} {s : SV} {v : V} (g : Gs φ ρ H φ' ρ' H') (sub : ∀ a ∈ ρ, a ∈ φ) (f : Lst φ H) (r : RS K φ ρ H s v) : RS K φ' ρ' H' s v := by
  have gr := g.gr sub
  cases s with
  | dat d => exact gr.rd f r
  | loc n =>
    obtain ⟨a, h1, h2⟩ := r
    obtain ⟨x, m, rfl, rfl, h⟩ := g
    exact ⟨a, by rw [List.getElem?_append_left (List.getElem?_eq_some_iff.mp h1).1]; exact h1, h2⟩
  | scr ns =>
    obtain ⟨a, e, h⟩ := RS.ext (ρ := ρ) gr.ext f r
    exact ⟨a, e, h⟩
theorem Sl.gs {φ ρ φ' ρ' : List Addr} {H H' : Hp} {env : Env} {σ : L2.St} (g : Gs φ ρ H φ' ρ' H') (sub : ∀ a ∈ ρ, a ∈ φ) (f : Lst φ H) (s : Sl K φ ρ H env σ) : Sl K φ' ρ' H' env σ :=
  ⟨s.len, fun i t e => let ⟨v, h1, h2⟩ := s.get i t e; ⟨v, h1, h2.gs g sub f⟩⟩
theorem okp_nil : PA X [] (tP X.K T (evP G cl mu [])) := by
  refine impA pa_nil fun σ H Q q => ?_
  obtain ⟨φ, ρ, env, st, ss, st', ws, sl, he, k⟩ := q
  simp only [evP] at he
  cases he
  exact k [] φ ρ H ws sl (.refl _ _ _) .nil
theorem okp_cons {i : Nat} {r : List (Nat × IE)} {e : Expr} {es : List Expr} {e' : IE} (hp : pln e = true) (he : PE X e (tF X.K T (evE G cl e'))) (hes : PA X es (tP X.K T (evP G cl mu r))) : PA X (e :: es) (tP X.K T (evP G cl mu ((i, e') :: r))) := by
  refine impA (pa_cons he hes (pln_star hp es _)) fun σ H Q q => ?_
  obtain ⟨φ, ρ, env, st, ss, st', ws, sl, h, k⟩ := q
  simp only [evP] at h
  split at h
  · rename_i ds st1 h1
    split at h
    · split at h
      · rename_i ss2 st2 h2
        cases h
        refine ⟨φ, ρ, env, st, _, st1, ws, sl, h1, fun v H1 p => ?_⟩
        obtain ⟨q, rfl, w, s, g, rs⟩ := alloc ws.sub p
        exact ⟨_, _, env, _, ss2, _, w, s, h2, fun vs φ' ρ' H' w2 s2 g2 pr => k _ φ' ρ' H' w2 s2 (g.trans g2) (.cons (rs.gs g2 w.sub w.fl) pr)⟩
      · cases h
    · split at h
      · rename_i ss2 st2 h2
        cases h
        refine ⟨φ, ρ, env, st, _, st1, ws, sl, h1, fun v H1 p => ?_⟩
        exact ⟨_, _, env, _, ss2, _, p.ws, p.sl, h2, fun vs φ' ρ' H' w2 s2 g2 pr => k _ φ' ρ' H' w2 s2 ((Gs.of p.ext).trans g2) (.cons (RS.gs g2 p.ws.sub p.ws.fl p.rr) pr)⟩
      · cases h
  · rename_i x st1 _ h1
    split at h
    · rename_i ss2 st2 h2
      cases h
      refine ⟨φ, ρ, env, st, _, st1, ws, sl, h1, fun v H1 p => ?_⟩
      exact ⟨_, _, env, _, ss2, _, p.ws, p.sl, h2, fun vs φ' ρ' H' w2 s2 g2 pr => k _ φ' ρ' H' w2 s2 ((Gs.of p.ext).trans g2) (.cons (RS.gs g2 p.ws.sub p.ws.fl p.rr) pr)⟩
    · cases h
  · cases h
theorem evP_keys : ∀ {l : List (Nat × IE)} {env : Env} {st : Sto} {ss : List (Nat × SV)} {st' : Sto}, evP G cl mu l env st = some (ss, st') → ss.map (·.1) = l.map (·.1)
  | [], env, st, ss, st', h => by simp only [evP] at h; cases h; rfl
  | (i, e) :: r, env, st, ss, st', h => by
    simp only [evP] at h
    split at h
    · split at h
      · split at h
        · rename_i h2; cases h; exact congrArg (i :: ·) (evP_keys h2)
        · cases h
      · split at h
        · rename_i h2; cases h; exact congrArg (i :: ·) (evP_keys h2)
        · cases h
    · split at h
      · rename_i h2; cases h; exact congrArg (i :: ·) (evP_keys h2)
      · cases h
    · cases h
theorem okS_par3 {i j l : Nat} {a' b' c' : IE} {st : Stmt} (h : PS X st (tPar3 i j l (tP X.K T (evP G cl mu [(i, a'), (j, b'), (l, c')])))) : PS X st (tS X.K T (fun env st => evS G cl mu (.par [i, j, l] [a', b', c']) env st)) := by
  refine impS h fun D σ H q => ?_
  obtain ⟨φ, ρ, env, st, f, ws, sl, h, k⟩ := q
  simp only [evS] at h
  split at h
  · rename_i ss st1 h1
    cases h
    have h1' : evP G cl mu [(i, a'), (j, b'), (l, c')] env st = some (ss, st1) := h1
    refine ⟨φ, ρ, env, st, ss, st1, ws, sl, h1', fun vs φ' ρ' H' w s g pr => ?_⟩
    obtain ⟨s1, s2, s3, rfl⟩ : ∃ s1 s2 s3, ss = [(i, s1), (j, s2), (l, s3)] := by
      have q := evP_keys h1'
      match ss, q with
      | [(i', s1), (j', s2), (l', s3)], q =>
        simp only [List.map_cons, List.map_nil, List.cons.injEq, and_true] at q
        exact ⟨s1, s2, s3, by rw [q.1, q.2.1, q.2.2]⟩
    cases pr with
    | cons r1 pr =>
      cases pr with
      | cons r2 pr =>
        cases pr with
        | cons r3 pr =>
          cases pr
          exact ⟨_, _, _, rfl, k φ' ρ' _ H' ⟨w, ((s.set r1).set r2).set r3, g⟩⟩
  · cases h
theorem okS_par2 {i j : Nat} {a' b' : IE} {st : Stmt} (h : PS X st (tPar i j (tP X.K T (evP G cl mu [(i, a'), (j, b')])))) : PS X st (tS X.K T (fun env st => evS G cl mu (.par [i, j] [a', b']) env st)) := by
  refine impS h fun D σ H q => ?_
  obtain ⟨φ, ρ, env, st, f, ws, sl, h, k⟩ := q
  simp only [evS] at h
  split at h
  · rename_i ss st1 h1
    cases h
    have h1' : evP G cl mu [(i, a'), (j, b')] env st = some (ss, st1) := h1
    refine ⟨φ, ρ, env, st, ss, st1, ws, sl, h1', fun vs φ' ρ' H' w s g pr => ?_⟩
    obtain ⟨s1, s2, rfl⟩ : ∃ s1 s2, ss = [(i, s1), (j, s2)] := by
      have q := evP_keys h1'
      match ss, q with
      | [(i', s1), (j', s2)], q =>
        simp only [List.map_cons, List.map_nil, List.cons.injEq, and_true] at q
        exact ⟨s1, s2, by rw [q.1, q.2]⟩
    cases pr with
    | cons r1 pr =>
      cases pr with
      | cons r2 pr =>
        cases pr
        exact ⟨_, _, rfl, k φ' ρ' _ H' ⟨w, (s.set r1).set r2, g⟩⟩
  · cases h

/-! ### lists of the store -/
theorem okS_seti {i : Nat} {x : Str} {a e : Expr} {a' e' : IE} {p p2 pos : Pos} (hx : PE X (.Name x p) (tVar i)) (ha : PE X a (tF X.K T (evE G cl a'))) (he : PE X e (tF X.K T (evE G cl e'))) (hs : swapsWithSole [.Subscript (.Name x p) a p2] e pos.line X.env = pure false) (hw : swappedStores [.Subscript (.Name x p) a p2] e X.env = pure none)
    (hass : ∀ v, assign (.Subscript (.Name x p) a p2) X.env v = (do
      let ov ← holding [v] (eval (.Name x p) X.env)
      let iv ← holding [v, ov] (eval a X.env)
      standAt p2
      holding [v, ov, iv] (setItem ov iv v)
      release [v, ov, iv] [])) :
    PS X (.Assign [.Subscript (.Name x p) a p2] e pos) (tS X.K T (fun env st => evS G cl mu (.seti i a' e') env st)) := by
  refine impS (ps_asg he (pg_sub hx ha set_list hass) hs hw rfl) fun D σ H q => ?_
  obtain ⟨φ, ρ, env, st, f, ws, sl, h, k⟩ := q
  simp only [evS] at h
  split at h
  · rename_i d fr st1 h1
    split at h
    · rename_i n hn
      split at h
      · rename_i kk fr2 st2 h2
        split at h
        · rename_i xs h3
          split at h
          · rename_i j h4
            cases h
            refine seq1 ws sl h1 fun u H1 w1 s1 e1 r1 => ?_
            obtain ⟨v, hv, ad, had, rfl⟩ := s1.get i _ hn
            refine ⟨.ref ad, hv, seq1 w1 s1 h2 fun u2 H2 w2 s2 e2 r2 => ?_⟩
            cases (show RD X.K φ H2 u2 (.int kk) from r2)
            obtain ⟨ad', ys, h5, h6, h7⟩ := w2.sto n xs h3
            rw [had] at h5; cases h5
            have am : ad ∈ ρ := List.mem_of_getElem? had
            have ru : RD X.K φ H2 u d := RD.ext (e2.more w1.sub) w1.fl r1
            refine ⟨ad, ys, kk, j, rfl, rfl, h6, by rw [h7.length]; exact h4, k φ ρ σ _ ⟨w2.setN had (h7.set ru j), s2.ext (.at (w2.sub _ am)) w2.fl, .of ((e1.trans e2).trans (.at am))⟩⟩
          · cases h
        · cases h
      · cases h
    · cases h
  · cases h
theorem loc_push {i : Nat} {n : Nat} {φ ρ : List Addr} {H : Hp} {env : Env} {σ : L2.St} {st : Sto} (ws : Ws K T φ ρ H st) (sl : Sl K φ ρ H env σ) (hn : env[i]? = some (some (.loc n))) : ∃ ad, σ[i]? = some (some (.ref ad)) ∧ ρ[n]? = some ad := by
  obtain ⟨v, hv, ad, had, rfl⟩ := sl.get i _ hn
  exact ⟨ad, hv, had⟩
theorem okS_app {i : Nat} {x : Str} {e : Expr} {e' : IE} {p apos cpos pos : Pos} (hx : PE X (.Name x p) (tVar i)) (he : PE X e (tF X.K T (evE G cl e'))) (hp : pln e = true) (hl : (apos.endLine == cpos.line) = true) :
    PS X (.Expr (.Call (.Attribute (.Name x p) "append" apos) [e] [] cpos) pos) (tS X.K T (fun env st => evS G cl mu (.app i e') env st)) := by
  refine impS (ps_expr (pe_bm PySem.F.plainAttrs_list PySem.F.slot_list_append PySem.F.type_list_append mt_append hx (pa_cons he pa_nil (pln_star hp _ _)) (by rfl) (by rw [pln_star hp]; rfl) hl (pln_star hp _ _) (by rfl)) (by rfl)) fun D σ H q => ?_
  obtain ⟨φ, ρ, env, st, f, ws, sl, h, k⟩ := q
  simp only [evS] at h
  split at h
  · rename_i n hn
    split at h
    · rename_i d fr st1 h1
      split at h
      · rename_i xs h3
        split at h
        · rename_i hlen
          cases h
          obtain ⟨ad, hv, had⟩ := loc_push ws sl hn
          obtain ⟨ys0, hys0⟩ := ws.rho ad (List.mem_of_getElem? had)
          refine ⟨.ref ad, hv, .inl ⟨rfl, ys0, .inl (.inl hys0)⟩, seq1 ws sl h1 fun u H1 w1 s1 e1 r1 => ?_⟩
          obtain ⟨ad', ys, h5, h6, h7⟩ := w1.sto n xs h3
          rw [had] at h5; cases h5
          have am : ad ∈ ρ := List.mem_of_getElem? had
          exact ⟨ad, ys, u, rfl, rfl, h6, by rw [h7.length]; exact hlen, k φ ρ σ _ ⟨w1.setN had (h7.append (.cons r1 .nil)), s1.ext (.at (w1.sub _ am)) w1.fl, .of (e1.trans (.at am))⟩⟩
        · cases h
      · cases h
    · cases h
  · cases h
theorem okS_ins {i : Nat} {x : Str} {a e : Expr} {a' e' : IE} {p apos cpos pos : Pos} (hx : PE X (.Name x p) (tVar i)) (ha : PE X a (tF X.K T (evE G cl a'))) (he : PE X e (tF X.K T (evE G cl e'))) (hp1 : pln a = true) (hp : pln e = true) (hl : (apos.endLine == cpos.line) = true) :
    PS X (.Expr (.Call (.Attribute (.Name x p) "insert" apos) [a, e] [] cpos) pos) (tS X.K T (fun env st => evS G cl mu (.ins i a' e') env st)) := by
  refine impS (ps_expr (pe_bm PySem.F.plainAttrs_list PySem.F.slot_list_insert PySem.F.type_list_insert mt_insert hx (pa_cons ha (pa_cons he pa_nil (pln_star hp _ _)) (pln_star hp1 _ _)) (by rfl) (by rw [pln_star hp1, pln_star hp]; rfl) hl (pln_star hp1 _ _) (by rw [pln_star hp]; rfl)) (by rfl)) fun D σ H q => ?_
  obtain ⟨φ, ρ, env, st, f, ws, sl, h, k⟩ := q
  simp only [evS] at h
  split at h
  · rename_i n hn
    split at h
    · rename_i kk fr0 st0 h0
      split at h
      · rename_i d fr st1 h1
        split at h
        · rename_i xs h3
          split at h
          · rename_i hlen
            cases h
            obtain ⟨ad, hv, had⟩ := loc_push ws sl hn
            obtain ⟨ys0, hys0⟩ := ws.rho ad (List.mem_of_getElem? had)
            refine ⟨.ref ad, hv, .inl ⟨rfl, ys0, .inl (.inl hys0)⟩, seq2 ws sl h0 h1 fun u0 u H1 w1 s1 e1 r0 r1 => ?_⟩
            cases (show RD X.K φ H1 u0 (.int kk) from r0)
            obtain ⟨ad', ys, h5, h6, h7⟩ := w1.sto n xs h3
            rw [had] at h5; cases h5
            have am : ad ∈ ρ := List.mem_of_getElem? had
            have rr : RDs X.K φ H1 (ys.take kk.toNat ++ [u] ++ ys.drop kk.toNat) (xs.take kk.toNat ++ d :: xs.drop kk.toNat) := by
              rw [List.append_assoc]
              exact (h7.take _).append (.cons r1 (h7.drop _))
            exact ⟨ad, ys, kk, u, rfl, rfl, h6, by rw [h7.length]; exact hlen.1, hlen.2.1, hlen.2.2, k φ ρ σ _ ⟨w1.setN had rr, s1.ext (.at (w1.sub _ am)) w1.fl, .of (e1.trans (.at am))⟩⟩
          · cases h
        · cases h
      · cases h
    · cases h
  · cases h

/-! ### loops -/
theorem okS_loop {tg iter : Expr} {body : List Stmt} {t : IT} {it : II} {b' : List IS} {pos : Pos} (hp : PassesOwn (model X.prog X.w) X.A X.env X.xe) (hc : X.calm = true) (hi : PI X tg iter (tI X.K T (evI G cl it))) (hg : PG X tg (tG X.K T t)) (hb : PSs X body (tS X.K T (fun env st => evSs G cl mu b' env st))) (hs : pln iter = true) :
    PS X (.For tg iter body [] pos) (tS X.K T (fun env st => evS G cl mu (.loop t it b') env st)) := by
  refine impS (ps_for hp hc hi hg hb (fun x => pln_fold hs _ x)) fun D σ H q => ?_
  obtain ⟨φ, ρ, env, st, f, ws, sl, h, k⟩ := q
  simp only [evS] at h
  split at h
  · rename_i xs kp st1 h1
    generalize hF : (fun (d : Ev.D) (env : Env) (s : Sto) => match bindT t d env with
        | some env1 => match evSs G cl mu b' env1 s with
          | some f => if keepFl kp f then some f else none
          | none => none
        | none => none) = F at h
    refine ⟨φ, ρ, env, st, xs, kp, st1, ws, sl, h1, fun J H1 p kk walk => ?_⟩
    have k1 : EndOk X.K T φ ρ H1 D f := k.pre (.of p.ext)
    have sub := p.ws.sub
    refine ⟨fun i m σ' Hh => m = xs.length - i ∧ i ≤ xs.length ∧ ∃ φ' ρ' env' st', Ws X.K T φ' ρ' Hh st' ∧ Sl X.K φ' ρ' Hh env' σ' ∧ Gs φ ρ H1 φ' ρ' Hh ∧ keptL st' kp = true ∧ forL F (xs.drop i) env' st' = some f,
      ⟨xs.length, by simp, Nat.zero_le _, φ, ρ, env, st1, p.ws, p.sl, .refl _ _ _, kk, h⟩, ?_⟩
    rintro i m σ' Hh ⟨rfl, hi, φ', ρ', env', st', w', s', g', kc, hf⟩
    have lt : Lt X.K T φ ρ H1 kp φ' ρ' Hh st' := ⟨w', kc, g'.gr sub, by obtain ⟨_, m, _, e, _⟩ := g'; exact ⟨m, e⟩⟩
    by_cases hlt : i < xs.length
    · refine .inr ⟨walk.goes i _ _ _ _ hlt lt, ?_⟩
      rw [show xs.drop i = xs[i] :: xs.drop (i + 1) from List.drop_eq_getElem_cons hlt] at hf
      simp only [forL] at hf
      refine ⟨fun σ2 H2 => ∃ e s, (F xs[i] env' st' = some (.nx e s) ∨ F xs[i] env' st' = some (.ct e s)) ∧ ∃ φ2 ρ2, Ws X.K T φ2 ρ2 H2 s ∧ Sl X.K φ2 ρ2 H2 e σ2 ∧ Gs φ ρ H1 φ2 ρ2 H2 ∧ keptL s kp = true, fun σ2 H2 hN => ?_, fun u Hy hy => ?_⟩
      · obtain ⟨e, s, he, φ2, ρ2, w2, s2, g2, k2⟩ := hN
        refine ⟨xs.length - (i + 1), by omega, rfl, hlt, φ2, ρ2, e, s, w2, s2, g2, k2, ?_⟩
        rcases he with he | he <;> (rw [he] at hf; exact hf)
      · obtain ⟨⟨d0, hd0, rd0⟩, hch⟩ := walk.yields i _ _ _ _ u Hy hlt lt hy
        have ed : d0 = xs[i] := by rw [List.getElem?_eq_getElem hlt] at hd0; exact (Option.some.inj hd0).symm
        subst ed
        obtain ⟨wy, sy, gy⟩ : Ws X.K T φ' ρ' Hy st' ∧ Sl X.K φ' ρ' Hy env' σ' ∧ Gs φ ρ H1 φ' ρ' Hy := by
          rcases hch with rfl | ⟨pp, oo, hp0, hoo, rfl⟩
          · exact ⟨w', s', g'⟩
          · exact ⟨w'.new hp0 hoo, s'.ext (.new hp0) w'.fl, g'.trans (.of (.new hp0))⟩
        have key : ∀ {r : Option Fl}, F xs[i] env' st' = r → r ≠ none := fun {r} e z => by rw [e, z] at hf; cases hf
        have hFx := (congrFun (congrFun (congrFun hF xs[i]) env') st').symm
        split at hFx
        · rename_i env1 hb1
          split at hFx
          · rename_i f0 hf0
            split at hFx
            · rename_i hk0
              refine ⟨φ', ρ', env', st', xs[i], env1, wy, sy, rd0, hb1, fun σ2 sl2 _ => ⟨φ', ρ', env1, st', f0, wy, sl2, hf0, ?_⟩⟩
              cases f0 with
              | nx e s => exact fun φ2 ρ2 σ3 H3 q => ⟨e, s, .inl hFx, φ2, ρ2, q.ws, q.sl, gy.trans q.gs, hk0⟩
              | ct e s => exact fun φ2 ρ2 σ3 H3 q => ⟨e, s, .inr hFx, φ2, ρ2, q.ws, q.sl, gy.trans q.gs, hk0⟩
              | bk e s =>
                rw [hFx] at hf
                cases hf
                exact fun φ2 ρ2 σ3 H3 q => k1 φ2 ρ2 σ3 H3 ⟨q.ws, q.sl, gy.trans q.gs⟩
              | rt r s =>
                rw [hFx] at hf
                cases hf
                exact k1.pre gy
            · exact absurd rfl (key hFx)
          · exact absurd rfl (key hFx)
        · exact absurd rfl (key hFx)
    · have e : i = xs.length := by omega
      subst e
      refine .inl ⟨walk.stops _ _ _ _ lt, ?_⟩
      rw [List.drop_length] at hf
      simp only [forL] at hf
      cases hf
      exact k1 φ' ρ' σ' Hh ⟨w', s', g'⟩
  · cases h
theorem okS_whl {c : Expr} {body : List Stmt} {c' : IE} {b' : List IS} {pos : Pos} (hp : PassesOwn (model X.prog X.w) X.A X.env X.xe) (hc : PT X c (tT X.K T (evE G cl c'))) (hb : PSs X body (tS X.K T (fun env st => evSs G cl mu b' env st))) :
    PS X (.While c body [] pos) (tS X.K T (fun env st => evS G cl mu (.whl c' b') env st)) := by
  refine impS (ps_while hp hc hb) fun D σ H q => ?_
  obtain ⟨φ, ρ, env, st, f, ws, sl, h, k⟩ := q
  simp only [evS] at h
  refine ⟨fun m σ' Hh => ∃ φ' ρ' env' st', Ws X.K T φ' ρ' Hh st' ∧ Sl X.K φ' ρ' Hh env' σ' ∧ Gs φ ρ H φ' ρ' Hh ∧ whlL (fun env st => tstE (evE G cl c' env st)) (fun env st => evSs G cl mu b' env st) m env' st' = some f,
    ⟨G.wf, φ, ρ, env, st, ws, sl, .refl _ _ _, h⟩, ?_⟩
  rintro m σ' Hh ⟨φ', ρ', env', st', w', s', g', hf⟩
  cases m with
  | zero => simp only [whlL] at hf; cases hf
  | succ m =>
    simp only [whlL] at hf
    split at hf
    · rename_i st1 h1
      refine seqT w' s' h1 fun H1 w1 s1 e1 => iteT ⟨fun σ2 H2 => ∃ e s, (evSs G cl mu b' env' st1 = some (.nx e s) ∨ evSs G cl mu b' env' st1 = some (.ct e s)) ∧ ∃ φ2 ρ2, Ws X.K T φ2 ρ2 H2 s ∧ Sl X.K φ2 ρ2 H2 e σ2 ∧ Gs φ ρ H φ2 ρ2 H2, fun σ2 H2 hN => ?_, ?_⟩
      · obtain ⟨e, s, he, φ2, ρ2, w2, s2, g2⟩ := hN
        refine ⟨m, Nat.lt_succ_self m, φ2, ρ2, e, s, w2, s2, g2, ?_⟩
        rcases he with he | he <;> (rw [he] at hf; exact hf)
      · have g1 := g'.trans (Gs.of e1)
        cases hbd : evSs G cl mu b' env' st1 with
        | none => rw [hbd] at hf; cases hf
        | some f0 =>
          refine ⟨φ', ρ', env', st1, f0, w1, s1, hbd, ?_⟩
          cases f0 with
          | nx e s => exact fun φ2 ρ2 σ3 H3 q => ⟨e, s, .inl rfl, φ2, ρ2, q.ws, q.sl, g1.trans q.gs⟩
          | ct e s => exact fun φ2 ρ2 σ3 H3 q => ⟨e, s, .inr rfl, φ2, ρ2, q.ws, q.sl, g1.trans q.gs⟩
          | bk e s =>
            rw [hbd] at hf
            cases hf
            exact fun φ2 ρ2 σ3 H3 q => k φ2 ρ2 σ3 H3 ⟨q.ws, q.sl, g1.trans q.gs⟩
          | rt r s =>
            rw [hbd] at hf
            cases hf
            exact k.pre g1
    · rename_i st1 h1
      cases hf
      exact seqT w' s' h1 fun H1 w1 s1 e1 => iteF (k φ' ρ' σ' H1 ⟨w1, s1, g'.trans (.of e1)⟩)
    · cases hf
end Ev
set_option linter.all false
set_option maxRecDepth 100000
set_option maxHeartbeats 4000000
/-! EvM: a lambda is made; sorted, as a rule. -/
namespace Ev
open PySem PySem.Spec L2 PyProof.Rows
section
variable {X : Cx} {pins : List (Addr × Obj)} {σ : L2.St} {H : Hp} {s : Shared} {T : List (Addr × Str)}
/-- what the making of a lambda does to what is tracked -/
def MadeL (H H1 : Hp) (P c' : Addr) (q : Str) : Prop := H1 = H ∨ ∃ (tb more : Array Value), H P = some (.tbl tb) ∧ H c' = none ∧ H1 = upd (upd H P (.tbl (tb ++ more))) c' (LamX.CodeO c' q)
theorem lm_make {cd P : Addr} {params : Arguments} {body : Expr} {scope : Scope} {pos : Pos} {E : Value → Shared → Prop} {Q : Value → Shared → Prop} {q : Str} (hq : X.env.qual ++ "<lambda>" = q) (I : Inv X pins σ H s) (TB : LamX.TabB X.base X.mg cd P) (hcode : X.env.code = .ref cd)
    (hm : (P, q) ∈ T) (hu : ∀ p ∈ T, p.1 = P → p.2 = q) (hT : LamX.Tabs T H) (hdef : defaultsOf params X.env = ([], [])) (hfree : ∀ y ∈ scope.names, y.2 = .free → ∃ c, X.env.cells.lookup y.1 = some c)
    (h : ∀ (f c' : Addr) (pm ctv : Value) (H1 : Hp) (s' : Shared), Inv X pins σ H1 s' → MadeL H H1 P c' q → LamX.Tabs T H1 →
      s'.heap.get? f = some (PySem.W.kla_obj "<lambda>" q params body scope (cloFrom X.env.cells scope.names []) pm c' ctv) → H1 f = none → f ∉ frs X.stack → H1 c' = some (LamX.CodeO c' q) → s'.heap.objs.size = f + 1 → Q (.ref f) s') :
    wpAny (model X.prog X.w) X.A (eval (.Lambda params body scope pos) X.env) Q E s := by
  subst hq
  obtain ⟨tb, tP, tOk, tIn⟩ := hT _ hm
  have gP : s.heap.get? P = some { cls := .none, data := .fields tb } := I.hok P _ tP
  have bP : s.heap.BuiltinsAt X.mg P := TB.bm.keeps I.bk
  have out : ∀ f, s.heap.objs.size ≤ f → f ∉ frs X.stack := fun f hf z => by
    rcases List.mem_cons.mp (I.stkSub _ z) with e | e
    · have lt := I.lt
      rw [← e] at lt
      exact absurd (Nat.lt_of_lt_of_le lt hf) (Nat.lt_irrefl _)
    · exact I.nofs hf e
  refine PySem.W.kla_eval hdef ?_
  cases hca : codeAmong pos tb.toList with
  | some cv =>
    obtain ⟨c', rfl, at'⟩ := tIn pos cv hca
    refine PySem.W.kla_makeFunctionHit (mg := X.mg) (c := cd) (P := P) (ps := tb) (closure_ok hfree) I.ok.glob (I.mod.glob.keeps I.bk) hcode (TB.code.keeps I.bk) gP tOk hca bP fun ctv h' tk hx hsz => ?_
    exact h h'.objs.size c' _ ctv H _ (I.kept (t' := tk) fun b o e => Heap.get?_push_of_some _ (hx b o e)) (.inl rfl) hT (Heap.get?_push_size _ rfl) (I.hok.fresh hsz) (out _ hsz) at' (Heap.size_push ..)
  | none =>
    refine PySem.W.kla_makeFunction (mg := X.mg) (c := cd) (P := P) (ps := tb) (closure_ok hfree) I.ok.glob (I.mod.glob.keeps I.bk) hcode (TB.code.keeps I.bk) gP tOk hca TB.gP bP fun c' ctv h' tk hx hge hlt hrec htb => ?_
    obtain ⟨c2, oc, vs, t, e2, hoc, hd, hv⟩ := hrec
    cases e2
    have nc : H c' = none := I.hok.fresh hge
    have hsz : s.heap.objs.size ≤ h'.objs.size := Nat.le_trans hge (Nat.le_of_lt hlt)
    have made : MadeL H (upd (upd H P (.tbl (tb ++ #[rawInt pos.line, rawInt pos.col, .ref c']))) c' (LamX.CodeO c' (X.env.qual ++ "<lambda>"))) P c' (X.env.qual ++ "<lambda>") := .inr ⟨tb, _, tP, nc, rfl⟩
    have I1 := LamX.inv_table (t' := tk) (more := #[rawInt pos.line, rawInt pos.col, .ref c']) (h' := h'.push (PySem.W.kla_obj "<lambda>" (X.env.qual ++ "<lambda>") params body scope (cloFrom X.env.cells scope.names []) ((X.mg "__name__").getD .none) c' ctv)) I tP
      (fun b o hb e => Heap.get?_push_of_some _ (hx b o hb e)) (Heap.get?_push_of_some _ htb) hge ⟨oc, vs, t, Heap.get?_push_of_some _ hoc, hd, hv⟩
    have same : ∀ b o, H b = some o → (∀ ps, o ≠ .tbl ps) → upd (upd H P (.tbl (tb ++ #[rawInt pos.line, rawInt pos.col, .ref c']))) c' (LamX.CodeO c' (X.env.qual ++ "<lambda>")) b = some o := fun b o e n => by
      have hb : b ≠ P := fun z => by rw [z, tP] at e; exact n _ (Option.some.inj e).symm
      rw [upd_ne (ne_of_none e nc), upd_ne hb]
      exact e
    have lst : (tb ++ #[rawInt pos.line, rawInt pos.col, .ref c']).toList = tb.toList ++ [rawInt pos.line, rawInt pos.col, .ref c'] := by simp
    refine h h'.objs.size c' _ ctv _ _ I1 made (fun p hp => ?_) (Heap.get?_push_size _ rfl) ?_ (out _ hsz) upd_same (Heap.size_push ..)
    · by_cases hb : p.1 = P
      · refine ⟨tb ++ #[rawInt pos.line, rawInt pos.col, .ref c'], by rw [hb, upd_ne (ne_of_none tP nc), upd_same], by rw [lst]; exact PySem.TriplesOk_snoc _ _ _ _ tOk, fun p' cv hcv => ?_⟩
        rw [hu p hp hb]
        rw [lst] at hcv
        rcases LamX.among_app _ tOk hcv with z | z
        · obtain ⟨c0, k1, k2⟩ := tIn p' cv z
          exact ⟨c0, k1, same _ _ k2 (LamX.codeO_ne)⟩
        · exact ⟨c', z, upd_same⟩
      · obtain ⟨t2, k1, k2, k3⟩ := hT p hp
        refine ⟨t2, by rw [upd_ne (ne_of_none k1 nc), upd_ne hb]; exact k1, k2, fun p' cv hcv => ?_⟩
        obtain ⟨c0, k4, k5⟩ := k3 p' cv hcv
        exact ⟨c0, k4, same _ _ k5 (LamX.codeO_ne)⟩
    · rw [upd_ne (Nat.ne_of_gt hlt), upd_ne (Nat.ne_of_gt (Nat.lt_of_lt_of_le (Heap.lt_size gP) hsz))]
      exact I.hok.fresh hsz
theorem MadeL.ext {H1 : Hp} {P c' : Addr} {q : Str} {ρ : List Addr} (m : MadeL H H1 P c' q) : Ext ρ H H1 := by
  rcases m with rfl | ⟨tb, more, h1, h2, rfl⟩
  · exact .refl _ _
  · refine ⟨fun b o e _ n => ?_, fun b e => ?_⟩
    · have hb : b ≠ P := fun z => by rw [z, h1] at e; exact n _ (Option.some.inj e).symm
      rw [upd_ne (ne_of_none e h2), upd_ne hb]
      exact e
    · by_cases z : b = c'
      · rw [z]; exact h2
      · rw [upd_ne z] at e
        by_cases z2 : b = P
        · rw [z2, upd_same] at e; cases e
        · rw [upd_ne z2] at e; exact e
theorem MadeL.ws {K : PySem.W.Frag} {H1 : Hp} {P c' : Addr} {q : Str} {φ ρ : List Addr} {st : Sto} (m : MadeL H H1 P c' q) (t : LamX.Tabs T H1) (w : Ws K T φ ρ H st) : Ws K T φ ρ H1 st := by
  have x : Ext φ H H1 := m.ext
  refine ⟨w.len, fun n ds e => ?_, w.nd, w.sub, fun a ha => ?_, t, fun a ps e => ?_⟩
  · obtain ⟨a, xs, h1, h2, h3⟩ := w.sto n ds e
    exact ⟨a, xs, h1, (m.ext (ρ := [])).keep _ _ h2 (by simp) (fun _ z => by cases z), h3.ext x w.fl⟩
  · obtain ⟨u, e, mu⟩ := w.fx a ha
    exact ⟨u, (m.ext (ρ := [])).keep _ _ e (by simp) (fun _ z => by subst z; exact mu), mu⟩
  · rcases m with rfl | ⟨tb, more, h1, h2, rfl⟩
    · exact w.tab.2 a ps e
    · by_cases z : a = c'
      · rw [z, upd_same] at e
        exact absurd (Option.some.inj e) (LamX.codeO_ne ps)
      · rw [upd_ne z] at e
        by_cases z2 : a = P
        · rw [z2]; exact w.tab.2 P tb h1
        · rw [upd_ne z2] at e; exact w.tab.2 a ps e
end
theorem sortE_some {F : D → Sto → Option (ER × Sto)} {rev : Bool} {xs : List D} {st st2 : Sto} {r : ER} (h : sortE F rev xs st = some (r, st2)) : ∃ is, KeysR F xs st is st2 ∧ xs.length ≤ 1000 ∧ r = .dat (.list ((sortK rev (xs.zip is)).map (·.1))) true := by
  unfold sortE at h
  split at h
  · rename_i ks st2 h1
    split at h
    · rename_i is h2
      split at h
      · rename_i hl
        cases h
        exact ⟨is, keysR_of F _ _ _ _ _ h1 h2, hl, rfl⟩
      · cases h
    · cases h
  · cases h
/-- where lambdas may be made -/
structure LamI (X : Cx) (T : List (Addr × Str)) (q : Str) : Prop where
  ex : ∃ c P, X.env.code = .ref c ∧ LamX.TabB X.base X.mg c P ∧ (P, q) ∈ T ∧ ∀ p ∈ T, p.1 = P → p.2 = q
  q : X.env.qual ++ "<lambda>" = q
/-- a lambda of one parameter, plainly -/
def lamP (x : Str) (p : Arguments) : Bool := match p with
  | ⟨[], [⟨y, _, _⟩], none, [], [], none, []⟩ => decide (x = y)
  | _ => false
theorem lamP_bind {x : Str} {params : Arguments} {body : Expr} {scope : Scope} (h : lamP x params = true) (q : Str) (cl : List (Str × Addr)) (pm cv ctv : Value) (u : Value) : bindArgs (PySem.W.kla_fn "<lambda>" q params body scope cl pm cv ctv) ⟨[u], []⟩ = pure [(x, u)] := by
  unfold lamP at h
  split at h
  · have h := of_decide_eq_true h
    subst h
    have hx : (x == x) = true := beq_self_eq_true x
    unfold bindArgs
    simp [PySem.W.kla_fn, seqItems?, List.lookup]
    rfl
  · cases h
theorem lamP_dflt {x : Str} {params : Arguments} {env : PySem.Env} (h : lamP x params = true) : defaultsOf params env = ([], []) := by
  unfold lamP at h
  split at h
  · rfl
  · cases h
/-- the keywords of the sort -/
def kwS (rev : Bool) (kws : List Keyword) (params : Arguments) (body : Expr) (scope : Scope) : Prop :=
  (∃ lp kp, kws = [⟨some (Str.ofString "key"), .Lambda params body scope lp, kp⟩] ∧ rev = false) ∨
  (∃ lp kp b j bp kp2, kws = [⟨some (Str.ofString "key"), .Lambda params body scope lp, kp⟩, ⟨some (Str.ofString "reverse"), .Constant (.bool b) j bp, kp2⟩] ∧ rev = b)
section
variable {X : Cx} {G : Pk} {cl : Str → List SV → Sto → Option (ER × Sto)} {T : List (Addr × Str)} {q x : Str} {params : Arguments} {body : Expr} {scope : Scope} {kws : List Keyword} {rev : Bool} {i : Nat} {k' a' : IE}
/-- the keywords evaluated: the lambda f, and what is handed on -/
theorem kws_run {pins : List (Addr × Obj)} {σ : L2.St} {H : Hp} {s : Shared} {pos : Pos} {R : List Value → Shared → Prop} (hk : kwS rev kws params body scope) (I : Inv X pins σ H s) (lam : LamI X T q) (L : Lm X.env.scope scope x) (hp : lamP x params = true) (hT : LamX.Tabs T H)
    (h : ∀ (f c' P : Addr) (pm ctv : Value) (H1 : Hp) (s' : Shared) (kvs : List Value), Inv X pins σ H1 s' → MadeL H H1 P c' q → LamX.Tabs T H1 →
      s'.heap.get? f = some (PySem.W.kla_obj "<lambda>" (X.env.qual ++ "<lambda>") params body scope (cloFrom X.env.cells scope.names []) pm c' ctv) → H1 f = none → f ∉ frs X.stack → H1 c' = some (LamX.CodeO c' (X.env.qual ++ "<lambda>")) → s'.heap.objs.size = f + 1 →
      (∀ (src : Value), argsOk "sorted" ⟨[src], ((backToKw pos (keywordEach kws X.env)).filterMap (·.1)).zip kvs⟩) → (∀ (src : Value), argsOk "list.sort" ⟨[src], ((backToKw pos (keywordEach kws X.env)).filterMap (·.1)).zip kvs⟩) →
      (∀ a, Builtin.«list.sort» ⟨[.ref a], ((backToKw pos (keywordEach kws X.env)).filterMap (·.1)).zip kvs⟩ = ksk_tree a (.ref f) rev) → R kvs s') :
    wpAny (model X.prog X.w) X.A (evalAll ((backToKw pos (keywordEach kws X.env)).map (·.2))) R X.xe s := by
  obtain ⟨cd, P, hcode, TB, hm, hu⟩ := lam.ex
  have hq := lam.q
  rcases hk with ⟨lp, kp, rfl, rfl⟩ | ⟨lp, kp, b, j, bp, kp2, rfl, rfl⟩
  · show wpAny _ _ (evalAll [(do let v ← eval (.Lambda params body scope lp) X.env; standAt pos; pure v)]) _ _ s
    refine wpAny_evalAll_cons (wpAny_bind (lm_make hq I TB hcode hm hu hT (lamP_dflt hp) (L.has I.ok) fun f c' pm ctv H1 s' I1 m t hf hn hfr hc hsf => wpAny_bind (wpAny_standAt (wpAny_pure (wpAny_evalAll_nil ?_)))))
    exact h f c' P pm ctv H1 s' _ I1 m t (by rw [hq]; exact hf) hn hfr (by rw [hq]; exact hc) hsf (fun src => ksk_s1 _ _) (fun src => ksk_l1 _ _) fun a => ksk_t1 _ _
  · show wpAny _ _ (evalAll [(do let v ← eval (.Lambda params body scope lp) X.env; standAt pos; pure v), (do let v ← eval (.Constant (.bool rev) j bp) X.env; standAt pos; pure v)]) _ _ s
    refine wpAny_evalAll_cons (wpAny_bind (lm_make hq I TB hcode hm hu hT (lamP_dflt hp) (L.has I.ok) fun f c' pm ctv H1 s' I1 m t hf hn hfr hc hsf => wpAny_bind (wpAny_standAt (wpAny_pure ?_))))
    refine wpAny_evalAll_cons (wpAny_bind (Constant_bool (wpAny_bind (wpAny_standAt (wpAny_pure (wpAny_evalAll_nil ?_))))))
    exact h f c' P pm ctv H1 s' _ I1 m t (by rw [hq]; exact hf) hn hfr (by rw [hq]; exact hc) hsf (fun src => ksk_s2 _ _ _) (fun src => ksk_l2 _ _ _) fun a => ksk_t2 _ _ _
theorem kws_flat (hk : kwS rev kws params body scope) (pos : Pos) (env : PySem.Env) : (backToKw pos (keywordEach kws env)).all (·.1.isSome) = true ∧ (backToKw pos (keywordEach kws env)).any (·.1.isNone) = false := by
  rcases hk with ⟨lp, kp, rfl, rfl⟩ | ⟨lp, kp, b, j, bp, kp2, rfl, rfl⟩ <;> exact ⟨rfl, rfl⟩
theorem ok_sortl {a : Expr} {p pos : Pos} (hk : kwS rev kws params body scope) (lam : LamI X T q) (L : Lm X.env.scope scope x) (hp : lamP x params = true) (hg : Gl X "sorted") (hm : X.mg "sorted" = none) (hroom : Room 0 X.A) (hi : X.N[i]? = some x) (hN : X.N.Nodup)
    (ha : PE X a (tF X.K T (evE G cl a'))) (hpl : pln a = true)
    (hbody : ∀ (s : Shared) (H : Hp) (f c' : Addr), PE (lmCx X X.A.in1.in1 s H scope f c' x) body (tF X.K T (evE G cl k'))) :
    PE X (.Call (.Name "sorted" p) [a] kws pos) (tF X.K T (evE G cl (.sortl a' i k' rev))) := by
  refine ⟨fun pins s σ H Q I qq => ?_⟩
  obtain ⟨φ, ρ, env, st, x0, st', ws, sl, he, k⟩ := qq
  simp only [evE] at he
  split at he
  · rename_i xr st1 h1
    split at he
    · rename_i xs h2
      obtain ⟨is, hkeys, hlen, rfl⟩ := sortE_some he
      refine wpAny_Call_Name_kw (ld_blt I hg hm boot_sorted ?_ (by decide) (by decide))
      have hargs := pa_cons (es := []) ha pa_nil (pln_star hpl _ _)
      refine PyProof.Rows.callWith_kw (thn (hargs.run pos pins s σ H (fun vs H1 => ∃ v, vs = [v] ∧ PostB X.K T φ ρ H H1 env σ st1 ∧ RR X.K φ ρ H1 xr v) I (seq1 ws sl h1 fun u H1 w1 s1 e1 r1 => ⟨u, rfl, ⟨w1, s1, e1⟩, r1⟩)) fun us s1 q1 => ?_) (by rw [pln_star hpl]; rfl) (by rw [pln_star hpl]; rfl) (kws_flat hk pos _).1 (kws_flat hk pos _).2
      obtain ⟨vs, H1, I1, rvs, v, rfl, pb, rr⟩ := q1
      cases rvs with
      | cons r0 rn =>
        cases rn
        refine kws_run hk I1 lam L hp pb.ws.tab.1 fun f c' P pm ctv H2 s2 kvs I2 made tabs hf hfn hfr hc hsf ao1 ao2 ht => ?_
        have w2 := made.ws tabs pb.ws
        have x2 : Ext φ H1 H2 := made.ext
        have rr2 := RS.ext x2 pb.ws.fl rr
        obtain ⟨l, vsV, rfl, hsq, rds⟩ := rd_view w2 rr2 h2
        obtain rfl : _ = Value.ref l := r0
        obtain ⟨its, rvl, hl, hz⟩ := I2.list (.inl (.inl hsq))
        refine sorted_shell (Pu := fun us h' => us = its ∧ s2.heap.objs.size ≤ h'.objs.size) (ao1 _) (fun x => ao2 _) (fun A' E' Q' _ hq => col_list hl.isList (by rw [← rvl.length]; exact hz) A' E' Q' hq) (fun us h' hu => by rw [hu.1, ← rvl.length]; exact hz) (fun us h' tk kp hu E' => ?_)
        obtain ⟨rfl, hsz⟩ := hu
        rw [ht]
        exact ksk_core I2 w2 (pb.sl.ext x2 pb.ws.fl) L hroom hi hN hf hfn hfr (lamP_bind hp) hc (fun s H => hbody s H f c') rvl rds hlen hkeys kp hsz fun p H' pp => k _ _ (pp.pre (pb.ext.trans made.ext))
    · cases he
  · cases he
theorem vals_nats : ∀ (l : List Value) (off : Nat), (∀ (j : Nat) v, l[j]? = some v → ∃ t, v = Value.int ((off + j : Nat) : Int) t) → Vals ((List.range' off l.length).map fun k => V.int ((k : Nat) : Int)) l
  | [], _, _ => .nil
  | v :: l, off, h => by
    have h0 := h 0 v rfl
    rw [List.length_cons, List.range'_succ, List.map_cons]
    refine .cons h0 (vals_nats l (off + 1) fun j u hu => ?_)
    have := h (j + 1) u (by simpa using hu)
    rw [show off + 1 + j = off + (j + 1) by omega]
    exact this
theorem rds_nats {K : PySem.W.Frag} {φ : List Addr} {H : Hp} : ∀ (l : List Nat), RDs K φ H (l.map fun k => V.int ((k : Nat) : Int)) (l.map fun k => PyData.int (0 + ((k : Nat) : Int)))
  | [] => .nil
  | k :: l => by
    refine .cons ?_ (rds_nats l)
    show RD K φ H (V.int ((k : Nat) : Int)) (PyData.int (0 + ((k : Nat) : Int)))
    rw [Int.zero_add]
    exact .int _
theorem ok_sortr {a : Expr} {p p2 pos2 pos : Pos} (hk : kwS rev kws params body scope) (lam : LamI X T q) (L : Lm X.env.scope scope x) (hp : lamP x params = true) (hg : Gl X "sorted") (hm : X.mg "sorted" = none) (hgr : Gl X "range") (hmr : X.mg "range" = none) (hroom : Room 0 X.A) (hi : X.N[i]? = some x) (hN : X.N.Nodup)
    (ha : PE X a (tF X.K T (evE G cl a'))) (hpl : pln a = true)
    (hbody : ∀ (s : Shared) (H : Hp) (f c' : Addr), PE (lmCx X X.A.in1.in1 s H scope f c' x) body (tF X.K T (evE G cl k'))) :
    PE X (.Call (.Name "sorted" p) [.Call (.Name "range" p2) [a] [] pos2] kws pos) (tF X.K T (evE G cl (.sortr a' i k' rev))) := by
  refine ⟨fun pins s σ H Q I qq => ?_⟩
  obtain ⟨φ, ρ, env, st, x0, st', ws, sl, he, k⟩ := qq
  simp only [evE] at he
  split at he
  · rename_i n fr st1 h1
    split at he
    · rename_i hn
      obtain ⟨is, hkeys, hlen, rfl⟩ := sortE_some he
      refine wpAny_Call_Name_kw (ld_blt I hg hm boot_sorted ?_ (by decide) (by decide))
      have hargs := pa_cons (es := []) ha pa_nil (pln_star hpl _ _)
      refine PyProof.Rows.callWith_kw ?_ rfl rfl (kws_flat hk pos _).1 (kws_flat hk pos _).2
      show wpAny _ _ (spliced ((false, eval (.Call (.Name "range" p2) [a] [] pos2) X.env) :: backTo pos (starEach [] X.env))) _ _ s
      refine Calls.spliced_cons (Call_ (ld_blt I hgr hmr boot_range (PyProof.Rows.callWith_type1 (thn (hargs.run pos2 pins s σ H (fun vs H1 => vs = [V.int n] ∧ PostB X.K T φ ρ H H1 env σ st1) I (seq1 ws sl h1 fun u H1 w1 s1 e1 r1 => ⟨by cases (show RD X.K φ H1 u (.int n) from r1); rfl, ⟨w1, s1, e1⟩⟩)) fun us s1 q1 => ?_) (pln_star hpl _ _) rfl)))
      obtain ⟨vs, H1, I1, rvs, rfl, pb⟩ := q1
      cases rvs with
      | cons r0 rn =>
        cases rn
        obtain ⟨t, rfl⟩ := r0
        refine call_range_1 ?_
        refine Calls.spliced_nil ?_
        -- the range stands, pinned
        have kp0 : ∀ b o, s1.heap.get? b = some o → (s1.heap.push { cls := .type "range", data := .fields #[.int 0 s1.toks, .int n t, .int 1 (s1.toks + 1)] }).get? b = some o := fun b o e => Heap.get?_push_of_some _ e
        have I1' : Inv X pins σ H1 { s1 with heap := s1.heap.push { cls := .type "range", data := .fields #[.int 0 s1.toks, .int n t, .int 1 (s1.toks + 1)] }, toks := s1.toks + 1 + 1 } := I1.kept kp0
        have I1p : Inv X ((s1.heap.objs.size, { cls := .type "range", data := .fields #[.int 0 s1.toks, .int n t, .int 1 (s1.toks + 1)] }) :: pins) σ H1 { s1 with heap := s1.heap.push { cls := .type "range", data := .fields #[.int 0 s1.toks, .int n t, .int 1 (s1.toks + 1)] }, toks := s1.toks + 1 + 1 } := by
          refine I1'.pins_of fun pp hpp => ?_
          rcases List.mem_cons.mp hpp with rfl | hpp
          · exact ⟨Heap.get?_push_size _ rfl, I1.hok.fresh (Nat.le_refl _), Nat.ne_of_gt I1.lt, I1.nofs (Nat.le_refl _), fun v z => by cases z⟩
          · exact I1'.pin pp (List.mem_append_right _ hpp)
        refine kws_run hk I1p lam L hp pb.ws.tab.1 fun f c' P pm ctv H2 s2 kvs I2 made tabs hf hfn hfr hc hsf ao1 ao2 ht => ?_
        have w2 := made.ws tabs pb.ws
        have x2 : Ext φ H1 H2 := made.ext
        have hr := (I2.pin (s1.heap.objs.size, { cls := .type "range", data := .fields #[.int 0 s1.toks, .int n t, .int 1 (s1.toks + 1)] }) (List.mem_append_right _ (List.mem_cons_self ..))).1
        have hr : IsRange s2.heap s1.heap.objs.size 0 n 1 s1.toks t (s1.toks + 1) := hr
        have hsm : Builtin.Range.small 0 n 1 = true := small_one (by omega) (by omega) (by omega) (by omega)
        have hrs : Builtin.Range.rangeSize 0 n 1 = (n.toNat : Nat) := by rw [rangeSize_one]; split <;> omega
        refine wpAny_mono (Q := EP X ((s1.heap.objs.size, { cls := .type "range", data := .fields #[.int 0 s1.toks, .int n t, .int 1 (s1.toks + 1)] }) :: pins) σ Q) ?_ (fun v s' hv => ?_) (fun _ _ z => z)
        · refine sorted_shell (Pu := fun us h' => Vals ((List.range' 0 n.toNat).map fun k => V.int ((k : Nat) : Int)) us ∧ s2.heap.objs.size ≤ h'.objs.size) (ao1 _) (fun x => ao2 _) (fun A' E' Q' hA hq => ?_) (fun us h' hu => ?_) (fun us h' tk kp hu E' => ?_)
          · refine collect_range (hA.trans hroom.hd) hr hsm hrs (by omega) fun h' tk acc kp hacc => hq _ _ _ kp ⟨?_, ?_⟩
            · have hz : acc.toList.length = n.toNat := by rw [Array.length_toList]; exact hacc.1
              rw [← hz]
              refine vals_nats acc.toList 0 fun j v hv => ?_
              obtain ⟨t', e⟩ := hacc.2 j v (by simpa using hv)
              refine ⟨t', ?_⟩
              rw [e]
              congr 1
              omega
            · rw [hsf]
              exact Heap.lt_size (kp f _ hf)
          · rw [← hu.1.length, List.length_map, List.length_range', sizeLine_eq]
            omega
          · rw [ht]
            refine ksk_core I2 w2 (pb.sl.ext x2 pb.ws.fl) L hroom hi hN hf hfn hfr (lamP_bind hp) hc (fun s H => hbody s H f c') hu.1 (xs := rngD 0 n) ?_ hlen hkeys kp hu.2 fun p H' pp => k _ _ (pp.pre (pb.ext.trans made.ext))
            unfold rngD
            rw [Int.sub_zero, List.range_eq_range']
            exact rds_nats _
        · obtain ⟨w', H', I', r', q'⟩ := hv
          exact ⟨w', H', I'.pins_of fun p hp => I'.pin p (List.mem_append_right _ (List.mem_cons_of_mem _ hp)), r', q'⟩
    · cases he
  · cases he
end
end Ev
set_option linter.all false
set_option maxRecDepth 100000
set_option maxHeartbeats 8000000
/-! EvQ: rows sorted; how many a set holds, as an expression. -/
namespace Ev
open PySem PySem.Spec L2
variable {K : PySem.W.Frag} {T : List (Addr × Str)} {X : Cx} {G : Pk} {cl : Str → List SV → Sto → Option (ER × Sto)}
/-! ### the order -/
theorem leD_sort (rev : Bool) : leD rev = W.sortLe (PyProof.Rows.listOrd PyProof.Rows.itemOrd) rev (fun d : D => W.keyToks d) := rfl
theorem leD_trans (rev : Bool) (a b c : D) (h1 : leD rev a b = true) (h2 : leD rev b c = true) : leD rev a c = true := by
  rw [leD_sort] at *
  exact (W.sortLe_total _ rev _).trans a b c h1 h2
theorem leD_total (rev : Bool) (a b : D) : (leD rev a b || leD rev b a) = true := by
  rw [leD_sort, Bool.or_eq_true]
  exact (W.sortLe_total _ rev _).total a b
theorem insD_eq (rev : Bool) (x : D) : ∀ l₁ l₂ : List D, (∀ b ∈ l₁, leD rev x b = false) → (∀ b ∈ l₂, leD rev x b = true) → insD rev x (l₁ ++ l₂) = l₁ ++ x :: l₂
  | [], [], _, _ => rfl
  | [], y :: l, _, h => by
    show (if leD rev x y = true then x :: y :: l else y :: insD rev x l) = _
    rw [if_pos (h y (List.mem_cons_self ..))]
    rfl
  | y :: l₁, l₂, h, h2 => by
    show (if leD rev x y = true then x :: y :: (l₁ ++ l₂) else y :: insD rev x (l₁ ++ l₂)) = _
    rw [if_neg (by rw [h y (List.mem_cons_self ..)]; exact Bool.false_ne_true), insD_eq rev x l₁ l₂ (fun b hb => h b (List.mem_cons_of_mem _ hb)) h2]
    rfl
theorem srtD_eq (rev : Bool) : ∀ l : List D, l.mergeSort (leD rev) = srtD rev l
  | [] => List.mergeSort_nil
  | x :: l => by
    obtain ⟨l₁, l₂, e1, e2, h⟩ := List.mergeSort_cons (leD_trans rev) (leD_total rev) x l
    have hp := List.pairwise_mergeSort (leD_trans rev) (leD_total rev) (x :: l)
    rw [e1] at hp
    rw [e1]
    show _ = insD rev x (srtD rev l)
    rw [← srtD_eq rev l, e2, insD_eq rev x l₁ l₂ (fun b hb => by simpa using h b hb) fun b hb => ?_]
    exact (List.pairwise_cons.mp (List.pairwise_append.mp hp).2.1).1 b hb
theorem depth_all : ∀ {xs : List D} {d : D}, d ∈ xs → d.depth ≤ PyData.depthAll xs
  | x :: xs, d, h => by
    simp only [PyData.depthAll]
    rcases List.mem_cons.mp h with e | e
    · rw [e]; exact Nat.le_max_left _ _
    · exact Nat.le_trans (depth_all e) (Nat.le_max_right _ _)
/-! ### the values -/
abbrev Rv (K : PySem.W.Frag) (φ : List Addr) (H : Hp) (u : Value) (d : D) : Prop := ∃ v, RelV v u ∧ RD K φ H v d
theorem each_rd {φ : List Addr} {H : Hp} : ∀ {vs : List V} {us : List Value} {ds : List D}, Vals vs us → RDs K φ H vs ds → W.EachIs (Rv K φ H) us ds
  | [], [], [], .nil, .nil => .nil
  | v :: vs, u :: us, d :: ds, .cons a b, .cons c e => .cons ⟨v, a, c⟩ (each_rd b e)
theorem rd_each {φ : List Addr} {H : Hp} : ∀ {us : List Value} {ds : List D}, W.EachIs (Rv K φ H) us ds → ∃ vs, Vals vs us ∧ RDs K φ H vs ds
  | _, _, .nil => ⟨[], .nil, .nil⟩
  | _, _, .cons ⟨v, a, c⟩ t => by
    obtain ⟨vs, b, e⟩ := rd_each t
    exact ⟨v :: vs, .cons a b, .cons c e⟩
theorem each_read {φ : List Addr} {H : Hp} {pins : List (Addr × Obj)} {σ : L2.St} {s : Shared} (I : Inv X pins σ H s) : ∀ {us : List Value} {ds : List D}, PyData.canLayAll0 ds = true → W.EachIs (Rv X.K φ H) us ds → W.EachIs (fun v b => ∃ as, Reads s.heap v ((fun d : D => d) b) as) us ds
  | _, _, _, .nil => .nil
  | _, _, c, .cons ⟨v, a, r⟩ t => by
    simp only [PyData.canLayAll0, Bool.and_eq_true] at c
    exact .cons (Dp.reads I _ v _ (r.dp c.1) a) (each_read I c.2 t)
/-- sorted, upwards or downwards -/
theorem srt_run {pins : List (Addr × Obj)} {s : Shared} {σ : L2.St} {H : Hp} {a : Addr} {ys : List V} {ds : List D} {φ : List Addr} {Q : VK} {rev : Bool} {kw : List (Str × Value)} (hu : X.A.units + 65 < cLine) (I : Inv X pins σ H s) (hp : H a = some (.lst ys)) (rd : RDs X.K φ H ys ds) (al : alkB ds = true) (hl : ds.length ≤ 1000)
    (hk : (rev = false ∧ kw = []) ∨ kw = [(Str.ofString "reverse", .bool rev)])
    (q : ∀ p zs, RDs X.K φ H zs (srtD rev ds) → H p = none → Q (.ref p) (upd H p (.lst zs))) : wpAny (model X.prog X.w) X.A (call (.builtin "sorted") [.ref a] kw) (EP X pins σ Q) X.xe s := by
  obtain ⟨h1, h2, h3, h4⟩ := alk_out al
  obtain ⟨its, rv, pl, hz⟩ := I.list (.inl (.inl hp))
  have e := each_rd rv rd
  have er := each_read I (alk_shAll h1) e
  have hal : W.AllAlike (ds.map fun d => d) := by
    rw [List.map_id']
    exact fun x hx y hy => h3 x hx y hy
  have hsk : W.Sortable (ds.map fun d => d) := by
    rw [List.map_id']
    exact .inl h2
  have hL : ds.length ≤ sizeLine := by rw [sizeLine_eq]; omega
  have hd : ∀ b, b ∈ ds → X.A.units + 2 + b.depth < cLine := fun b hb => by have := depth_all hb; omega
  have fin : ∀ out : List Value, out.length = ds.length → W.EachIs (Rv X.K φ H) out (ds.mergeSort (W.dataLe rev fun d => d)) → EP X pins σ Q (.ref (s.heap.objs.size + 1)) { s with heap := PyProof.Rows.sortedAll s.heap its (List.toArray out) } := fun out ho eo => by
    have ed : W.dataLe rev (fun d : D => d) = leD rev := rfl
    rw [ed, srtD_eq] at eo
    obtain ⟨zs, z1, z2⟩ := rd_each eo
    obtain ⟨ep, he'⟩ := PyProof.Rows.sortedAll_at s.heap its (List.toArray out)
    have hlen : zs.length ≤ sizeLine := by rw [z1.length, ho]; exact hL
    exact ⟨.ref _, upd H (s.heap.objs.size + 1) (.lst zs), I.laid (t' := s.toks) (fun _ _ => PyProof.Rows.sortedAll_old) (Nat.le_succ _) ⟨hlen, out, ep, z1, he'⟩, rfl, q _ zs z2 (I.hok.fresh (Nat.le_succ _))⟩
  rcases hk with ⟨rfl, rfl⟩ | rfl
  · exact W.sorted_data pl.isList e er hal hsk hL hd fin
  · exact W.sorted_rev_data pl.isList e er hal hsk hL hd fin
def rSrt (K : PySem.W.Frag) (rev : Bool) (vs : List V) (H : Hp) (Q : VK) : Prop :=
  ∃ a ys ds φ, vs = [.ref a] ∧ H a = some (.lst ys) ∧ RDs K φ H ys ds ∧ alkB ds = true ∧ ds.length ≤ 1000 ∧ ∀ p zs, RDs K φ H zs (srtD rev ds) → H p = none → Q (.ref p) (upd H p (.lst zs))
theorem cr_srt (hu : X.A.units + 65 < cLine) : CallR X (.builtin "sorted") (rSrt X.K false) := by
  intro pins s σ H vs us Q I r q
  obtain ⟨a, ys, ds, φ, rfl, hp, rd, al, hl, q⟩ := q
  obtain rfl := Vals.ref1 r
  exact srt_run hu I hp rd al hl (.inl ⟨rfl, rfl⟩) q
theorem cr_srtR {rev : Bool} (hu : X.A.units + 65 < cLine) : CallRK X (.builtin "sorted") [Str.ofString "reverse"] (fun vs zs H Q => zs = [.bl rev] ∧ rSrt X.K rev vs H Q) := by
  intro pins s σ H vs zs us ws Q I r rz q
  obtain ⟨rfl, a, ys, ds, φ, rfl, hp, rd, al, hl, q⟩ := q
  obtain rfl := Vals.ref1 r
  obtain ⟨w1, rfl, e1⟩ := vals1 rz
  obtain rfl : w1 = Value.bool rev := e1
  exact srt_run hu I hp rd al hl (.inr rfl) q
theorem srt_read {a' : IE} {rev : Bool} {σ : L2.St} {H : Hp} {Q : VK} (q : tF K T (evE G cl (.srt a' rev)) σ H Q) : tF K T (evE G cl a') σ H fun v H1 => rSrt K rev [v] H1 Q := by
  obtain ⟨φ, ρ, env, st, x, st', ws, sl, he, k⟩ := q
  simp only [evE] at he
  split at he
  · rename_i x1 st1 h1
    split at he
    · rename_i xs h2
      split at he
      · rename_i hc
        cases he
        simp only [Bool.and_eq_true, decide_eq_true_eq] at hc
        refine seq1 ws sl h1 fun u H1 w1 sl1 e1 r1 => ?_
        obtain ⟨p, ys, rfl, hp, rd⟩ := rd_view w1 r1 h2
        exact ⟨p, ys, xs, φ, rfl, hp, rd, hc.1, hc.2, fun p' zs rz hn => k _ _ ((Post.lst w1 sl1 hn rz).pre e1)⟩
      · cases he
    · cases he
  · cases he
theorem ok_srt {a : Expr} {a' : IE} {p pos : Pos} (hu : X.A.units + 65 < cLine) (hg : Gl X "sorted") (hm : X.mg "sorted" = none) (ha : PE X a (tF X.K T (evE G cl a'))) (hp : pln a = true) :
    PE X (.Call (.Name "sorted" p) [a] [] pos) (tF X.K T (evE G cl (.srt a' false))) :=
  imp (pe_callB (cr_srt hu) hg hm PyProof.Rows.boot_sorted (pa_cons ha pa_nil (pln_star hp _ _)) (he := pln_star hp _ _) (hpl := by rfl)) fun σ H Q q => srt_read q
theorem ok_srtR {a : Expr} {a' : IE} {p pos p1 p2 : Pos} {k : Nat} {rev : Bool} (hu : X.A.units + 65 < cLine) (hg : Gl X "sorted") (hm : X.mg "sorted" = none) (ha : PE X a (tF X.K T (evE G cl a'))) (hp : pln a = true) :
    PE X (.Call (.Name "sorted" p) [a] [⟨some (Str.ofString "reverse"), .Constant (.bool rev) k p1, p2⟩] pos) (tF X.K T (evE G cl (.srt a' rev))) :=
  imp (pe_callBK (cr_srtR hu) hg hm PyProof.Rows.boot_sorted (pa_cons ha pa_nil (pln_star hp _ _)) (pk_cons pe_bl pk_nil) (he := by rw [pln_star hp]; rfl) (hpl := by rw [pln_star hp]; rfl)) fun σ H Q q => by
    obtain ⟨φ, ρ, env, st, x, st', ws, sl, he, k⟩ := srt_read q
    exact ⟨φ, ρ, env, st, x, st', ws, sl, he, fun v H1 p => ⟨rfl, k v H1 p⟩⟩
/-! ### how many a set holds -/
theorem ok_card {elt tg iter tg1 iter1 : Expr} {ifs ifs1 : List Expr} {scope : Scope} {own : List (Str × Nat)} {vs1 : List Nat} {pos p cpos : Pos} {t t1 : IT} {it it1 : II} {cs cs1 : List IE} {e : IE} (hgl : Gl X "len") (hml : X.mg "len" = none) (hc : X.calm = true) (hN : X.N.Nodup) (hi : PI X tg iter (tI X.K T (evI G cl it))) (ok : BlkOk X.N X.env.scope scope own)
    (hv : ∀ i ∈ vs1, i ∈ own.map (·.2))
    (hg : ∀ (s : Shared) (H : Hp) (C : Addr) (cl : List (Str × Addr)) (fp : List Addr), PG (X.blk s H scope (compEnvC scope cl C X.env) fp) tg (tG X.K T t))
    (ht : ∀ (s : Shared) (H : Hp) (C : Addr) (cc : List (Str × Addr)) (fp : List Addr), PTs (X.blk s H scope (compEnvC scope cc C X.env) fp) ifs (tCs X.K T (evCs G cl cs)))
    (hi1 : ∀ (s : Shared) (H : Hp) (C : Addr) (cc : List (Str × Addr)) (fp : List Addr), PI (X.blk s H scope (compEnvC scope cc C X.env) fp) tg1 iter1 (tI X.K T (evI G cl it1)))
    (hg1 : ∀ (s : Shared) (H : Hp) (C : Addr) (cl : List (Str × Addr)) (fp : List Addr), PG (X.blk s H scope (compEnvC scope cl C X.env) fp) tg1 (tG X.K T t1))
    (ht1 : ∀ (s : Shared) (H : Hp) (C : Addr) (cc : List (Str × Addr)) (fp : List Addr), PTs (X.blk s H scope (compEnvC scope cc C X.env) fp) ifs1 (tCs X.K T (evCs G cl cs1)))
    (he : ∀ (s : Shared) (H : Hp) (C : Addr) (cc : List (Str × Addr)) (fp : List Addr), PE (X.blk s H scope (compEnvC scope cc C X.env) fp) elt (tF X.K T (evE G cl e)))
    (hs : pln iter = true) (hs1 : pln iter1 = true) (hown : ∀ i ∈ slT t, i ∈ own.map (·.2)) (hown1 : ∀ i ∈ slT t1, i ∈ vs1) :
    PE X (.Call (.Name "len" p) [scx elt tg iter tg1 iter1 ifs ifs1 scope pos] [] cpos) (tF X.K T (evE G cl (.card own vs1 t it cs t1 it1 cs1 e))) :=
  imp (pe_callB cr_lenN hgl hml boot_len (pa_cons (pe_sc2 hc hN hi ok hv ⟨fun s H C cl fp => hg s H C cl fp, fun s H C cl fp => ht s H C cl fp, fun s H C cl fp => hi1 s H C cl fp, fun s H C cl fp => hg1 s H C cl fp, fun s H C cl fp => ht1 s H C cl fp, fun s H C cl fp => he s H C cl fp⟩ (fun x => pln_fold hs _ x) (fun env x => pln_fold hs1 _ x)) pa_nil)) fun σ H Q q => card_read hown hown1 σ H Q q
end Ev
set_option linter.all false
set_option maxRecDepth 100000
set_option maxHeartbeats 8000000
/-! Ev12: a function's text held against its program in the small language: expressions. -/
namespace Ev
open PySem PySem.Spec L2

structure Sx where
  N : List Str
  sc : Scope
  tg : Str → Bool
  q : Option Str
def visB (sc : Scope) (x : Str) : Bool := match sc.names.lookup x with
  | some .local => true
  | some .cell => true
  | some .free => true
  | _ => false
def gloB (sc : Scope) (x : Str) : Bool := match sc.names.lookup x with
  | some .globalImplicit => true
  | _ => false
def ownB (sc : Scope) (x : Str) : Bool := match sc.names.lookup x with
  | some .local => true
  | some .cell => true
  | _ => false
def nmB (x : Str) : Bool := !(x == ("__debug__" : Str)) && !(x == ("__classdict__" : Str))
def tyB (t : String) : Bool := ["int", "bool", "tuple", "str", "list", "dict"].contains t
def Sx.blk (s : Sx) (scope : Scope) : Sx := ⟨s.N, relS scope s.sc, ownB scope, none⟩
/-- a lambda's names -/
def Sx.lam (s : Sx) (scope : Scope) : Sx := ⟨s.N, scope, fun _ => false, none⟩
mutual
def chT : IT → Sx → Expr → Bool
  | .nm i, s, e => match e with
    | .Name x _ => decide (s.N[i]? = some x) && s.tg x
    | _ => false
  | .tp ts, s, e => match e with
    | .Tuple es _ _ => decide (es.length = ts.length) && chTs ts s es
    | _ => false
def chTs : List IT → Sx → List Expr → Bool
  | [], _, es => match es with
    | [] => true
    | _ => false
  | t :: ts, s, es => match es with
    | e :: es => plnT e && chT t s e && chTs ts s es
    | [] => false
end
section
variable (fs : List (Str × List Str)) (bl : List Str) (G : Pk)
def glB (s : Sx) (x : Str) : Bool := gloB s.sc x && nmB x
def blB (s : Sx) (x : Str) : Bool := gloB s.sc x && nmB x && bl.contains x
mutual
def chE : IE → Sx → Expr → Bool
  | .int i, _, e => match e with
    | .Constant (.int j) _ _ => decide (i = j)
    | _ => false
  | .str x, _, e => match e with
    | .Constant (.str y) _ _ => decide (x = y)
    | _ => false
  | .bl b, _, e => match e with
    | .Constant (.bool c) _ _ => b == c
    | _ => false
  | .non, _, e => match e with
    | .Constant .none _ _ => true
    | _ => false
  | .slot i, s, e => match e with
    | .Name x _ => decide (s.N[i]? = some x) && visB s.sc x && nmB x
    | _ => false
  | .con y, s, e => match e with
    | .Name x _ => decide (x = y) && glB s x && (G.con y).isSome
    | _ => false
  | .tup es, s, e => match e with
    | .Tuple l _ _ => chEs es s l
    | _ => false
  | .lst es, s, e => match e with
    | .List l _ => chEs es s l
    | _ => false
  | .bin o a b, s, e => match e with
    | .BinOp l op r _ => decide (o = op) && chE a s l && chE b s r
    | _ => false
  | .neg a, s, e => match e with
    | .UnaryOp .USub l _ => chE a s l
    | _ => false
  | .no a, s, e => match e with
    | .UnaryOp .Not l _ => chE a s l
    | _ => false
  | .land a b, s, e => match e with
    | .BoolOp .And [l, r] _ => chE a s l && chE b s r
    | .BoolOp .And (l :: r :: q :: rest) p => chE a s l && chE b s (.BoolOp .And (r :: q :: rest) p)
    | _ => false
  | .lor a b, s, e => match e with
    | .BoolOp .Or [l, r] _ => chE a s l && chE b s r
    | .BoolOp .Or (l :: r :: q :: rest) p => chE a s l && chE b s (.BoolOp .Or (r :: q :: rest) p)
    | _ => false
  | .cmp o a b, s, e => match e with
    | .Compare l [op] [r] _ => decide (o = op) && pln r && chE a s l && chE b s r
    | _ => false
  | .cmp2 o p a b c, s, e => match e with
    | .Compare l [op, oq] [m, r] _ => decide (o = op) && decide (p = oq) && pln r && chE a s l && chE b s m && chE c s r
    | _ => false
  | .ite c a b, s, e => match e with
    | .IfExp t x y _ => chE c s t && chE a s x && chE b s y
    | _ => false
  | .call f es, s, e => match e with
    | .Call (.Name g _) (l :: ls) [] _ => decide (f = g) && glB s f && decide ((fs.lookup f).map List.length = some es.length) && (l :: ls).all pln && chEs es s (l :: ls)
    | .Call (.Name g _) [] [] _ => decide (f = g) && glB s f && decide (fs.lookup f = some []) && es.isEmpty
    | _ => false
  | .blt f es, s, e => match e with
    | .Call (.Name g _) (l :: ls) [] _ => decide (g = f.nm) && blB bl s g && (l :: ls).all pln && chEs es s (l :: ls)
    | _ => false
  | .isi a t, s, e => match e with
    | .Call (.Name g _) [l, .Name h _] [] _ => decide (g = "isinstance") && blB bl s g && decide (h = Str.ofString t) && blB bl s h && tyB t && pln l && chE a s l
    | _ => false
  | .idx a b, s, e => match e with
    | .Subscript l r _ => pln r && chE a s l && chE b s r
    | _ => false
  | .cut a lo hi, s, e => match e with
    | .Subscript l (.Slice x y none _) _ => chE a s l && chO lo s x && chO hi s y
    | _ => false
  | .rev _, _, _ => false
  | .look g a, s, e => match e with
    | .Subscript (.Name h _) r _ => decide (g = h) && glB s h && (G.dic g).isSome && pln r && chE a s r
    | _ => false
  | .mth _ _ _, _, _ => false
  | .callk f ks es ix, s, e => match e with
    | .Call (.Name g _) [] kws _ => decide (f = g) && glB s f && decide ((f, ks, ix) ∈ G.kc) && decide (kws.map (·.arg) = ks.map some) && decide (es.length = ks.length) && chKs es s kws
    | _ => false
  | .lc own t it cs e', s, e => match e with
    | .ListComp elt [⟨tg, iter, ifs, 0⟩] scope _ => blkC s.N s.sc scope own && pln iter && (slT t).all (own.map (·.2)).contains && chI it s tg iter && chT t (s.blk scope) tg && chCs cs (s.blk scope) ifs && chE e' (s.blk scope) elt
    | _ => false
  | .lc2 own vs1 t it cs t1 it1 cs1 e', s, e => match e with
    | .ListComp elt [⟨tg, iter, ifs, 0⟩, ⟨tg1, iter1, ifs1, 0⟩] scope _ => blkC s.N s.sc scope own && pln iter && pln iter1 && (slT t).all (own.map (·.2)).contains && vs1.all (own.map (·.2)).contains && (slT t1).all vs1.contains &&
        chI it s tg iter && chT t (s.blk scope) tg && chCs cs (s.blk scope) ifs && chI it1 (s.blk scope) tg1 iter1 && chT t1 (s.blk scope) tg1 && chCs cs1 (s.blk scope) ifs1 && chE e' (s.blk scope) elt
    | _ => false
  | .sortl a i k rev, s, e => match e with
    | .Call (.Name g _) [l] [⟨some kn, .Lambda params body scope _, _⟩] _ => decide (g = "sorted") && blB bl s g && pln l && s.q.isSome && chE a s l && decide (kn = Str.ofString "key") && !rev &&
        lamP ((s.N[i]?).getD "") params && lmB s.sc scope ((s.N[i]?).getD "") && (s.N[i]?).isSome && chE k (s.lam scope) body
    | .Call (.Name g _) [l] [⟨some kn, .Lambda params body scope _, _⟩, ⟨some rn, .Constant (.bool b) _ _, _⟩] _ => decide (g = "sorted") && blB bl s g && pln l && s.q.isSome && chE a s l && decide (kn = Str.ofString "key") && (rev == b) &&
        lamP ((s.N[i]?).getD "") params && lmB s.sc scope ((s.N[i]?).getD "") && (s.N[i]?).isSome && chE k (s.lam scope) body && decide (rn = Str.ofString "reverse")
    | _ => false
  | .sortr a i k rev, s, e => match e with
    | .Call (.Name g _) [.Call (.Name h _) [l] [] _] [⟨some kn, .Lambda params body scope _, _⟩] _ => decide (g = "sorted") && blB bl s g && decide (h = "range") && blB bl s h && pln l && s.q.isSome && chE a s l && decide (kn = Str.ofString "key") && !rev &&
        lamP ((s.N[i]?).getD "") params && lmB s.sc scope ((s.N[i]?).getD "") && (s.N[i]?).isSome && chE k (s.lam scope) body
    | .Call (.Name g _) [.Call (.Name h _) [l] [] _] [⟨some kn, .Lambda params body scope _, _⟩, ⟨some rn, .Constant (.bool b) _ _, _⟩] _ => decide (g = "sorted") && blB bl s g && decide (h = "range") && blB bl s h && pln l && s.q.isSome && chE a s l && decide (kn = Str.ofString "key") && (rev == b) &&
        lamP ((s.N[i]?).getD "") params && lmB s.sc scope ((s.N[i]?).getD "") && (s.N[i]?).isSome && chE k (s.lam scope) body && decide (rn = Str.ofString "reverse")
    | _ => false
  | .indx a b, s, e => match e with
    | .Call (.Attribute (.Name x p) m ap) [r] [] cp => decide (m = "index") && pln r && (ap.endLine == cp.line) && chE a s (.Name x p) && chE b s r
    | _ => false
  | .card own vs1 t it cs t1 it1 cs1 e', s, e => match e with
    | .Call (.Name g _) [.SetComp elt [⟨tg, iter, ifs, 0⟩, ⟨tg1, iter1, ifs1, 0⟩] scope _] [] _ => decide (g = "len") && blB bl s g && (blkC s.N s.sc scope own && pln iter && pln iter1 && (slT t).all (own.map (·.2)).contains && vs1.all (own.map (·.2)).contains && (slT t1).all vs1.contains &&
        chI it s tg iter && chT t (s.blk scope) tg && chCs cs (s.blk scope) ifs && chI it1 (s.blk scope) tg1 iter1 && chT t1 (s.blk scope) tg1 && chCs cs1 (s.blk scope) ifs1 && chE e' (s.blk scope) elt)
    | _ => false
  | .srt a rev, s, e => match e with
    | .Call (.Name g _) [l] [] _ => decide (g = "sorted") && blB bl s g && pln l && !rev && chE a s l
    | .Call (.Name g _) [l] [⟨some rn, .Constant (.bool b) _ _, _⟩] _ => decide (g = "sorted") && blB bl s g && pln l && decide (rn = Str.ofString "reverse") && (rev == b) && chE a s l
    | _ => false
  | .slen i, s, e => match e with
    | .Call (.Name g _) [.Name x _] [] _ => decide (g = "len") && blB bl s g && decide (s.N[i]? = some x) && visB s.sc x && nmB x
    | _ => false
  | .sidx i a, s, e => match e with
    | .Subscript (.Name x _) r _ => decide (s.N[i]? = some x) && visB s.sc x && nmB x && pln r && chE a s r
    | _ => false
def chEs : List IE → Sx → List Expr → Bool
  | [], _, es => match es with
    | [] => true
    | _ => false
  | a :: as, s, es => match es with
    | e :: es => pln e && chE a s e && chEs as s es
    | [] => false
def chKs : List IE → Sx → List Keyword → Bool
  | [], _, es => match es with
    | [] => true
    | _ => false
  | a :: as, s, es => match es with
    | ⟨_, e, _⟩ :: es => chE a s e && chKs as s es
    | [] => false
def chO : Option IE → Sx → Option Expr → Bool
  | none, _, x => match x with
    | none => true
    | _ => false
  | some a, s, x => match x with
    | some e => chE a s e
    | none => false
def chCs : List IE → Sx → List Expr → Bool
  | [], _, es => match es with
    | [] => true
    | _ => false
  | [c], s, es => match es with
    | [e] => chE c s e
    | _ => false
  | _, _, _ => false
def chI : II → Sx → Expr → Expr → Bool
  | .of a, s, _, e => chE a s e
  | .rng es, s, _, e => match e with
    | .Call (.Name g _) [x] [] _ => decide (g = "range") && blB bl s g && decide (es.length = 1) && chEs es s [x]
    | .Call (.Name g _) [x, y] [] _ => decide (g = "range") && blB bl s g && decide (es.length = 2) && chEs es s [x, y]
    | _ => false
  | .enm a, s, tg, e => match tg with
    | .Tuple .. => match e with
      | .Call (.Name g _) [x] [] _ => decide (g = "enumerate") && blB bl s g && pln x && chE a s x
      | _ => false
    | _ => false
  | .zip a b, s, tg, e => match tg with
    | .Tuple .. => match e with
      | .Call (.Name g _) [x, y] [] _ => decide (g = "zip") && blB bl s g && pln x && pln y && chE a s x && chE b s y
      | _ => false
    | _ => false
end
end

structure Gd (fs : List (Str × List Str)) (bl : List Str) (G : Pk) (T : List (Addr × Str)) (n : Nat) (cl : Str → List SV → Sto → Option (ER × Sto)) (s : Sx) (X : Cx) : Prop where
  N : X.N = s.N
  sc : X.env.scope = s.sc
  nd : X.N.Nodup
  tg : ∀ x, s.tg x = true → Loc X.env.scope x ∧ (X.fn x = true ∨ X.env.scope.names.lookup x = some .local)
  calm : X.calm = true
  room : Room n X.A
  gu : X.A.guards = some []
  ck : ClOk X.prog X.w X.K X.mg X.base T n cl fs G.kc
  bl : ∀ x ∈ bl, X.mg x = none
  con : ∀ x d, G.con x = some d → ∃ u v, X.mg x = some u ∧ RelV v u ∧ ∀ φ H, RD X.K φ H v d
  dic : ∀ g kvs, G.dic g = some kvs → ∃ p, X.mg g = some (.ref p) ∧ ∀ k d, kvs.lookup k = some d → ∃ v, KDct X.K X.w p k v ∧ ∀ φ H, RD X.K φ H v d
  lam : ∀ q, s.q = some q → LamI X T q ∧ Room (n + 1) X.A
section
variable {fs : List (Str × List Str)} {bl : List Str} {G : Pk} {T : List (Addr × Str)} {n : Nat} {cl : Str → List SV → Sto → Option (ER × Sto)} {s : Sx} {X : Cx}
theorem Gd.vis (g : Gd fs bl G T n cl s X) {x : Str} (h : visB s.sc x = true) : Vis X.env.scope x := by
  unfold visB at h
  rw [← g.sc] at h
  split at h
  · exact .inl (by assumption)
  · exact .inr (.inl (by assumption))
  · exact .inr (.inr (by assumption))
  · cases h
theorem nm1 {x : Str} (h : nmB x = true) : (x == ("__debug__" : Str)) = false := by
  simp only [nmB, Bool.and_eq_true, Bool.not_eq_true'] at h; exact h.1
theorem nm2 {x : Str} (h : nmB x = true) : (x == ("__classdict__" : Str)) = false := by
  simp only [nmB, Bool.and_eq_true, Bool.not_eq_true'] at h; exact h.2
theorem Gd.gl (g : Gd fs bl G T n cl s X) {x : Str} (h : gloB s.sc x = true) : Gl X x := by
  unfold gloB at h
  rw [← g.sc] at h
  split at h
  · assumption
  · cases h
theorem Gd.bt (g : Gd fs bl G T n cl s X) {x : Str} (h : blB bl s x = true) : Gl X x ∧ X.mg x = none := by
  simp only [blB, Bool.and_eq_true] at h
  exact ⟨g.gl h.1.1, g.bl x (by simpa using h.2)⟩
theorem Gd.var (g : Gd fs bl G T n cl s X) {x : Str} {i : Nat} {pos : Pos} (h1 : s.N[i]? = some x) (h2 : visB s.sc x = true) (h3 : nmB x = true) : PE X (.Name x pos) (tVar i) :=
  pe_var (by rw [g.N]; exact h1) (g.vis h2) (nm1 h3) (nm2 h3)
theorem Gd.u (g : Gd fs bl G T n cl s X) : X.A.units + 65 < cLine := by have := g.room.un; omega
/-- a comprehension's block -/
theorem Gd.blk (g : Gd fs bl G T n cl s X) {scope : Scope} (st : Shared) (H : Hp) (C : Addr) (cc : List (Str × Addr)) (fp : List Addr) : Gd fs bl G T n cl (s.blk scope) (X.blk st H scope (compEnvC scope cc C X.env) fp) := by
  have hsc : (compEnvC scope cc C X.env).scope = relS scope s.sc := by rw [← g.sc]; rfl
  refine ⟨g.N, hsc, g.nd, fun x h => ?_, g.calm, g.room, g.gu, g.ck, g.bl, g.con, g.dic, fun q z => by cases z⟩
  have h : ownB scope x = true := h
  show Loc (compEnvC scope cc C X.env).scope x ∧ ((scope.names.lookup x == some .cell) = true ∨ (compEnvC scope cc C X.env).scope.names.lookup x = some .local)
  rw [hsc]
  unfold ownB at h
  split at h
  · rename_i hl
    have e := lookup_relS_keep (sc := s.sc) (k := .local) (by decide) hl
    exact ⟨.inl e, .inr e⟩
  · rename_i hl
    have e := lookup_relS_keep (sc := s.sc) (k := .cell) (by decide) hl
    exact ⟨.inr e, .inl (by rw [hl]; rfl)⟩
  · cases h
/-- a lambda's body -/
theorem Gd.lm (g : Gd fs bl G T n cl s X) {scope : Scope} (hr : Room (n + 1) X.A) (st : Shared) (H : Hp) (f c' : Addr) (x : Str) : Gd fs bl G T n cl (s.lam scope) (lmCx X X.A.in1.in1 st H scope f c' x) :=
  ⟨g.N, rfl, g.nd, (fun x h => by cases h), rfl, ⟨hr.hd, by have := hr.dp; show X.A.depth + 1 + 3 * n + 5 < _; omega, by have := hr.un; show X.A.units + 1 + 1 + 3 + 16 * n + 200 < _; omega⟩, g.gu, g.ck, g.bl, g.con, g.dic, fun q z => by cases z⟩
mutual
theorem sndT : ∀ (t : IT) (s : Sx) (X : Cx) (e : Expr), Gd fs bl G T n cl s X → chT t s e = true → PG X e (tG X.K T t)
  | .nm i, s, X, e, g, h => by
    simp only [chT] at h
    split at h
    · simp only [Bool.and_eq_true, decide_eq_true_eq] at h
      obtain ⟨h1, h2⟩ := g.tg _ h.2
      exact okg_nm g.nd (by rw [g.N]; exact h.1) h1 h2
    · cases h
  | .tp ts, s, X, e, g, h => by
    simp only [chT] at h
    split at h
    · simp only [Bool.and_eq_true, decide_eq_true_eq] at h
      obtain ⟨h1, h2⟩ := sndTs ts s X _ g h.2
      exact okg_tp g.calm h1 h.1 h2
    · cases h
theorem sndTs : ∀ (ts : List IT) (s : Sx) (X : Cx) (es : List Expr), Gd fs bl G T n cl s X → chTs ts s es = true → es.all plnT = true ∧ PGs X es (tGs X.K T ts)
  | [], s, X, es, g, h => by
    simp only [chTs] at h
    split at h
    · exact ⟨rfl, okgs_nil⟩
    · cases h
  | t :: ts, s, X, es, g, h => by
    simp only [chTs] at h
    split at h
    · simp only [Bool.and_eq_true] at h
      obtain ⟨h1, h2⟩ := sndTs ts s X _ g h.2
      exact ⟨by rw [List.all_cons, h.1.1, h1]; rfl, okgs_cons h.1.1 (sndT t s X _ g h.1.2) h2⟩
    · cases h
end
end
end Ev
set_option linter.all false
set_option maxRecDepth 100000
set_option maxHeartbeats 8000000
/-! Ev13: what the static check is good for: expressions. -/
namespace Ev
open PySem PySem.Spec L2
def isBO : Expr → Bool
  | .BoolOp .. => true
  | _ => false
structure Ok (T : List (Addr × Str)) (F : Env → Sto → Option (ER × Sto)) (X : Cx) (e : Expr) : Prop where
  pe : PE X e (tF X.K T F)
  pt : PT X e (tT X.K T F)
  pw : isBO e = true → PW X e (tT X.K T F)
theorem Ok.pl {T : List (Addr × Str)} {F : Env → Sto → Option (ER × Sto)} {X : Cx} {e : Expr} (he : PE X e (tF X.K T F)) (h : ∀ whole, isTrue e X.env whole = (do let v ← whole; standAt e.pos; holding [v] (truthy v))) (hb : isBO e = false) : Ok T F X e :=
  ⟨he, pt_plain he h, fun z => by rw [hb] at z; cases z⟩
theorem Ok.tt {T : List (Addr × Str)} {F : Env → Sto → Option (ER × Sto)} {X : Cx} {e : Expr} (he : PE X e (tF X.K T F)) (h : PT X e (tT X.K T F)) (hb : isBO e = false) : Ok T F X e :=
  ⟨he, h, fun z => by rw [hb] at z; cases z⟩
variable {fs : List (Str × List Str)} {bl : List Str} {G : Pk} {T : List (Addr × Str)} {n : Nat} {cl : Str → List SV → Sto → Option (ER × Sto)}
theorem ty_facts {t : String} (h : tyB t = true) : bootBuiltins (Str.ofString t) = some (.type t) ∧ Str.ofString t ≠ "__name__" ∧ (Str.ofString t == ("__debug__" : Str)) = false := by
  simp only [tyB, List.contains_eq_mem, List.mem_cons, List.not_mem_nil, or_false, decide_eq_true_eq] at h
  rcases h with rfl | rfl | rfl | rfl | rfl | rfl <;> decide +kernel
theorem all_mem {xs ys : List Nat} (h : xs.all ys.contains = true) : ∀ i ∈ xs, i ∈ ys := fun i hi => by
  have := List.all_eq_true.mp h i hi
  simpa using this
mutual
theorem snd : ∀ (c : IE) (s : Sx) (X : Cx) (e : Expr), Gd fs bl G T n cl s X → chE fs bl G c s e = true → Ok T (evE G cl c) X e
  | .int i, s, X, e, g, h => by
    simp only [chE] at h
    split at h
    · simp only [decide_eq_true_eq] at h
      subst h
      exact .pl (ok_const pe_int (fun env st => by simp only [evE]) fun φ H => .int _) (by intro _; rfl) rfl
    · cases h
  | .str x, s, X, e, g, h => by
    simp only [chE] at h
    split at h
    · simp only [decide_eq_true_eq] at h
      subst h
      exact .pl (ok_const pe_str (fun env st => by simp only [evE]) fun φ H => .str _) (by intro _; rfl) rfl
    · cases h
  | .bl b, s, X, e, g, h => by
    simp only [chE] at h
    split at h
    · have h := eq_of_beq h
      subst h
      exact .pl (ok_const pe_bl (fun env st => by simp only [evE]) fun φ H => .bl _) (by intro _; rfl) rfl
    · cases h
  | .non, s, X, e, g, h => by
    simp only [chE] at h
    split at h
    · exact .pl (ok_const pe_non (fun env st => by simp only [evE]) fun φ H => .non) (by intro _; rfl) rfl
    · cases h
  | .slot i, s, X, e, g, h => by
    simp only [chE] at h
    split at h
    · simp only [Bool.and_eq_true, decide_eq_true_eq] at h
      exact .pl (ok_slot (g.var h.1.1 h.1.2 h.2)) (by intro _; rfl) rfl
    · cases h
  | .con y, s, X, e, g, h => by
    simp only [chE] at h
    split at h
    · simp only [Bool.and_eq_true, decide_eq_true_eq, glB] at h
      obtain ⟨⟨rfl, h1, h2⟩, h3⟩ := h
      obtain ⟨d, hd⟩ := Option.isSome_iff_exists.mp h3
      obtain ⟨u, v, hu, r, rd⟩ := g.con _ d hd
      exact .pl (ok_con (pe_glob (g.gl h1) hu r (nm1 h2)) hd rd) (by intro _; rfl) rfl
    · cases h
  | .tup es, s, X, e, g, h => by
    simp only [chE] at h
    split at h
    · exact .pl (ok_tup (sndEs es s X _ g h).2.2) (by intro _; rfl) rfl
    · cases h
  | .lst es, s, X, e, g, h => by
    simp only [chE] at h
    split at h
    · exact .pl (ok_lst (sndEs es s X _ g h).2.2) (by intro _; rfl) rfl
    · cases h
  | .bin o a b, s, X, e, g, h => by
    simp only [chE] at h
    split at h
    · simp only [Bool.and_eq_true, decide_eq_true_eq] at h
      obtain ⟨⟨rfl, h1⟩, h2⟩ := h
      exact .pl (ok_bin (snd a s X _ g h1).pe (snd b s X _ g h2).pe) (by intro _; rfl) rfl
    · cases h
  | .neg a, s, X, e, g, h => by
    simp only [chE] at h
    split at h
    · exact .pl (ok_neg (snd a s X _ g h).pe) (by intro _; rfl) rfl
    · cases h
  | .no a, s, X, e, g, h => by
    simp only [chE] at h
    split at h
    · have i := snd a s X _ g h
      exact .tt (ok_no i.pe) (okT_no i.pt) rfl
    · cases h
  | .land a b, s, X, e, g, h => by
    simp only [chE] at h
    split at h
    · simp only [Bool.and_eq_true] at h
      have i := snd a s X _ g h.1
      have j := snd b s X _ g h.2
      exact ⟨ok_land i.pe (pe_one j.pe), (okW_land (rest := []) i.pt (pw_and1 j.pt)).pt, fun _ => okW_land (rest := []) i.pt (pw_and1 j.pt)⟩
    · simp only [Bool.and_eq_true] at h
      have i := snd a s X _ g h.1
      have j := snd b s X _ g h.2
      have w := okW_land i.pt (j.pw rfl)
      exact ⟨ok_land i.pe j.pe, w.pt, fun _ => w⟩
    · cases h
  | .lor a b, s, X, e, g, h => by
    simp only [chE] at h
    split at h
    · simp only [Bool.and_eq_true] at h
      have i := snd a s X _ g h.1
      have j := snd b s X _ g h.2
      exact ⟨ok_lor i.pe (pe_one j.pe), (okW_lor (rest := []) i.pt (pw_or1 j.pt)).pt, fun _ => okW_lor (rest := []) i.pt (pw_or1 j.pt)⟩
    · simp only [Bool.and_eq_true] at h
      have i := snd a s X _ g h.1
      have j := snd b s X _ g h.2
      have w := okW_lor i.pt (j.pw rfl)
      exact ⟨ok_lor i.pe j.pe, w.pt, fun _ => w⟩
    · cases h
  | .cmp o a b, s, X, e, g, h => by
    simp only [chE] at h
    split at h
    · simp only [Bool.and_eq_true, decide_eq_true_eq] at h
      obtain ⟨⟨⟨rfl, h1⟩, h2⟩, h3⟩ := h
      have i := snd a s X _ g h2
      have j := snd b s X _ g h3
      exact .tt (ok_cmp g.u i.pe j.pe h1) (okT_cmp g.u i.pe j.pe h1) rfl
    · cases h
  | .cmp2 o p a b c, s, X, e, g, h => by
    simp only [chE] at h
    split at h
    · simp only [Bool.and_eq_true, decide_eq_true_eq] at h
      obtain ⟨⟨⟨⟨⟨rfl, rfl⟩, h1⟩, h2⟩, h3⟩, h4⟩ := h
      have i := snd a s X _ g h2
      have j := snd b s X _ g h3
      have l := snd c s X _ g h4
      exact .tt (ok_cmp2 g.u i.pe j.pe l.pe h1) (okT_cmp2 g.u i.pe j.pe l.pe h1) rfl
    · cases h
  | .ite c a b, s, X, e, g, h => by
    simp only [chE] at h
    split at h
    · simp only [Bool.and_eq_true] at h
      have i := snd c s X _ g h.1.1
      have j := snd a s X _ g h.1.2
      have l := snd b s X _ g h.2
      exact .tt (ok_ite i.pt j.pe l.pe) (okT_ite i.pt j.pt l.pt) rfl
    · cases h
  | .call f es, s, X, e, g, h => by
    simp only [chE] at h
    split at h
    · simp only [Bool.and_eq_true, decide_eq_true_eq, glB] at h
      obtain ⟨⟨⟨⟨rfl, h1, h2⟩, h3⟩, h4⟩, h5⟩ := h
      cases hf : fs.lookup f with
      | none => rw [hf] at h3; cases h3
      | some ps =>
        rw [hf] at h3
        have hl : ps.length = es.length := by simpa using h3
        exact .pl (ok_call g.ck hf g.room g.gu (g.gl h1) (nm1 h2) hl (sndEs es s X _ g h5).2.1 h4) (by intro _; rfl) rfl
    · simp only [Bool.and_eq_true, decide_eq_true_eq, glB] at h
      obtain ⟨⟨⟨rfl, h1, h2⟩, h3⟩, h4⟩ := h
      cases es with
      | nil => exact .pl (ok_call0 g.ck h3 g.room g.gu (g.gl h1) (nm1 h2)) (by intro _; rfl) rfl
      | cons _ _ => cases h4
    · cases h
  | .blt f es, s, X, e, g, h => by
    simp only [chE] at h
    split at h
    · simp only [Bool.and_eq_true, decide_eq_true_eq] at h
      obtain ⟨⟨⟨rfl, h1⟩, h4⟩, h5⟩ := h
      exact .pl (ok_blt g.calm g.gu g.u (g.bt h1).1 (g.bt h1).2 (sndEs es s X _ g h5).2.1 h4) (by intro _; rfl) rfl
    · cases h
  | .isi a t, s, X, e, g, h => by
    simp only [chE] at h
    split at h
    · simp only [Bool.and_eq_true, decide_eq_true_eq] at h
      obtain ⟨⟨⟨⟨⟨⟨rfl, h1⟩, rfl⟩, h2⟩, h3⟩, h4⟩, h5⟩ := h
      obtain ⟨f1, f2, f3⟩ := ty_facts h3
      exact .pl (ok_isi (g.bt h1).1 (g.bt h1).2 (g.bt h2).1 (g.bt h2).2 f1 f2 f3 (snd a s X _ g h5).pe h4) (by intro _; rfl) rfl
    · cases h
  | .idx a b, s, X, e, g, h => by
    simp only [chE] at h
    split at h
    · simp only [Bool.and_eq_true] at h
      exact .pl (ok_idx (snd a s X _ g h.1.2).pe (snd b s X _ g h.2).pe h.1.1) (by intro _; rfl) rfl
    · cases h
  | .cut a lo hi, s, X, e, g, h => by
    simp only [chE] at h
    split at h
    · simp only [Bool.and_eq_true] at h
      exact .pl (ok_cut (snd a s X _ g h.1.1).pe (sndO lo s X _ g h.1.2) (sndO hi s X _ g h.2)) (by intro _; rfl) rfl
    · cases h
  | .rev a, s, X, e, g, h => by simp only [chE] at h; cases h
  | .look gg a, s, X, e, g, h => by
    simp only [chE] at h
    split at h
    · simp only [Bool.and_eq_true, decide_eq_true_eq, glB] at h
      obtain ⟨⟨⟨⟨rfl, h1, h2⟩, h3⟩, h4⟩, h5⟩ := h
      obtain ⟨kvs, hd⟩ := Option.isSome_iff_exists.mp h3
      obtain ⟨p, hp, hv⟩ := g.dic _ kvs hd
      exact .pl (ok_look (p2 := default) (g.gl h1) hp (nm1 h2) hd hv (snd a s X _ g h5).pe h4) (by intro _; rfl) rfl
    · cases h
  | .mth m a es, s, X, e, g, h => by simp only [chE] at h; cases h
  | .callk f ks es ix, s, X, e, g, h => by
    simp only [chE] at h
    split at h
    · simp only [Bool.and_eq_true, decide_eq_true_eq, glB] at h
      obtain ⟨⟨⟨⟨⟨rfl, h1, h2⟩, h3⟩, h4⟩, h5⟩, h6⟩ := h
      exact .pl (ok_callk g.ck h3 g.room g.gu (g.gl h1) (nm1 h2) h4 h5 (sndKs es s X _ g h6)) (by intro _; rfl) rfl
    · cases h
  | .lc own t it cs e', s, X, e, g, h => by
    simp only [chE] at h
    split at h
    · simp only [Bool.and_eq_true] at h
      obtain ⟨⟨⟨⟨⟨⟨h1, h2⟩, h3⟩, h4⟩, h5⟩, h6⟩, h7⟩ := h
      refine .pl (ok_lc g.calm g.nd (sndI it s X _ _ g h4) (blkOk_by (by rw [g.N, g.sc]; exact h1)) (fun st H C cc fp => sndT t _ _ _ (g.blk st H C cc fp) h5)
        (fun st H C cc fp => sndCs cs _ _ _ (g.blk st H C cc fp) h6) (fun st H C cc fp => (snd e' _ _ _ (g.blk st H C cc fp) h7).pe) h2 (all_mem h3)) (by intro _; rfl) rfl
    · cases h
  | .lc2 own vs1 t it cs t1 it1 cs1 e', s, X, e, g, h => by
    simp only [chE] at h
    split at h
    · simp only [Bool.and_eq_true] at h
      obtain ⟨⟨⟨⟨⟨⟨⟨⟨⟨⟨⟨⟨h1, h2⟩, h3⟩, h4⟩, h5⟩, h6⟩, h7⟩, h8⟩, h9⟩, ha⟩, hb⟩, hc⟩, hd⟩ := h
      refine .pl (ok_lc2 g.calm g.nd (sndI it s X _ _ g h7) (blkOk_by (by rw [g.N, g.sc]; exact h1)) (all_mem h5) (fun st H C cc fp => sndT t _ _ _ (g.blk st H C cc fp) h8)
        (fun st H C cc fp => sndCs cs _ _ _ (g.blk st H C cc fp) h9) (fun st H C cc fp => sndI it1 _ _ _ _ (g.blk st H C cc fp) ha) (fun st H C cc fp => sndT t1 _ _ _ (g.blk st H C cc fp) hb)
        (fun st H C cc fp => sndCs cs1 _ _ _ (g.blk st H C cc fp) hc) (fun st H C cc fp => (snd e' _ _ _ (g.blk st H C cc fp) hd).pe) h2 h3 (all_mem h4) (all_mem h6)) (by intro _; rfl) rfl
    · cases h
  | .sortl a i k rev, s, X, e, g, h => by
    simp only [chE] at h
    split at h
    · simp only [Bool.and_eq_true, decide_eq_true_eq, Bool.not_eq_true'] at h
      obtain ⟨⟨⟨⟨⟨⟨⟨⟨⟨⟨rfl, h1⟩, h3⟩, h4⟩, h5⟩, rfl⟩, h7⟩, h8⟩, h9⟩, ha⟩, hb⟩ := h
      obtain ⟨x, hx⟩ := Option.isSome_iff_exists.mp ha
      rw [hx] at h8 h9
      obtain ⟨q, hq⟩ := Option.isSome_iff_exists.mp h4
      obtain ⟨lam, hr⟩ := g.lam q hq
      exact .pl (ok_sortl (.inl ⟨_, _, rfl, h7⟩) lam (lm_by (by rw [g.sc]; exact h9)) h8 (g.bt h1).1 (g.bt h1).2 (g.room.mono (Nat.zero_le _)) (by rw [g.N]; exact hx) g.nd (snd a s X _ g h5).pe h3 (fun st H f c' => (snd k _ _ _ (g.lm hr st H f c' x) hb).pe)) (by intro _; rfl) rfl
    · simp only [Bool.and_eq_true, decide_eq_true_eq, Bool.not_eq_true'] at h
      obtain ⟨⟨⟨⟨⟨⟨⟨⟨⟨⟨⟨rfl, h1⟩, h3⟩, h4⟩, h5⟩, rfl⟩, h7⟩, h8⟩, h9⟩, ha⟩, hb⟩, rfl⟩ := h
      obtain ⟨x, hx⟩ := Option.isSome_iff_exists.mp ha
      rw [hx] at h8 h9
      obtain ⟨q, hq⟩ := Option.isSome_iff_exists.mp h4
      obtain ⟨lam, hr⟩ := g.lam q hq
      exact .pl (ok_sortl (.inr ⟨_, _, _, _, _, _, rfl, eq_of_beq h7⟩) lam (lm_by (by rw [g.sc]; exact h9)) h8 (g.bt h1).1 (g.bt h1).2 (g.room.mono (Nat.zero_le _)) (by rw [g.N]; exact hx) g.nd (snd a s X _ g h5).pe h3 (fun st H f c' => (snd k _ _ _ (g.lm hr st H f c' x) hb).pe)) (by intro _; rfl) rfl
    · cases h
  | .sortr a i k rev, s, X, e, g, h => by
    simp only [chE] at h
    split at h
    · simp only [Bool.and_eq_true, decide_eq_true_eq, Bool.not_eq_true'] at h
      obtain ⟨⟨⟨⟨⟨⟨⟨⟨⟨⟨⟨⟨rfl, h1⟩, rfl⟩, h2⟩, h3⟩, h4⟩, h5⟩, rfl⟩, h7⟩, h8⟩, h9⟩, ha⟩, hb⟩ := h
      obtain ⟨x, hx⟩ := Option.isSome_iff_exists.mp ha
      rw [hx] at h8 h9
      obtain ⟨q, hq⟩ := Option.isSome_iff_exists.mp h4
      obtain ⟨lam, hr⟩ := g.lam q hq
      exact .pl (ok_sortr (.inl ⟨_, _, rfl, h7⟩) lam (lm_by (by rw [g.sc]; exact h9)) h8 (g.bt h1).1 (g.bt h1).2 (g.bt h2).1 (g.bt h2).2 (g.room.mono (Nat.zero_le _)) (by rw [g.N]; exact hx) g.nd (snd a s X _ g h5).pe h3 (fun st H f c' => (snd k _ _ _ (g.lm hr st H f c' x) hb).pe)) (by intro _; rfl) rfl
    · simp only [Bool.and_eq_true, decide_eq_true_eq, Bool.not_eq_true'] at h
      obtain ⟨⟨⟨⟨⟨⟨⟨⟨⟨⟨⟨⟨⟨rfl, h1⟩, rfl⟩, h2⟩, h3⟩, h4⟩, h5⟩, rfl⟩, h7⟩, h8⟩, h9⟩, ha⟩, hb⟩, rfl⟩ := h
      obtain ⟨x, hx⟩ := Option.isSome_iff_exists.mp ha
      rw [hx] at h8 h9
      obtain ⟨q, hq⟩ := Option.isSome_iff_exists.mp h4
      obtain ⟨lam, hr⟩ := g.lam q hq
      exact .pl (ok_sortr (.inr ⟨_, _, _, _, _, _, rfl, eq_of_beq h7⟩) lam (lm_by (by rw [g.sc]; exact h9)) h8 (g.bt h1).1 (g.bt h1).2 (g.bt h2).1 (g.bt h2).2 (g.room.mono (Nat.zero_le _)) (by rw [g.N]; exact hx) g.nd (snd a s X _ g h5).pe h3 (fun st H f c' => (snd k _ _ _ (g.lm hr st H f c' x) hb).pe)) (by intro _; rfl) rfl
    · cases h
  | .indx a b, s, X, e, g, h => by
    simp only [chE] at h
    split at h
    · simp only [Bool.and_eq_true, decide_eq_true_eq] at h
      obtain ⟨⟨⟨⟨rfl, h1⟩, h2⟩, h3⟩, h4⟩ := h
      exact .pl (ok_indx g.u (snd a s X _ g h3).pe (snd b s X _ g h4).pe h1 h2) (by intro _; rfl) rfl
    · cases h
  | .card own vs1 t it cs t1 it1 cs1 e', s, X, e, g, h => by
    simp only [chE] at h
    split at h
    · rw [Bool.and_eq_true, Bool.and_eq_true] at h
      obtain ⟨⟨h0, hb0⟩, h⟩ := h
      simp only [decide_eq_true_eq] at h0
      subst h0
      simp only [Bool.and_eq_true] at h
      obtain ⟨⟨⟨⟨⟨⟨⟨⟨⟨⟨⟨⟨h1, h2⟩, h3⟩, h4⟩, h5⟩, h6⟩, h7⟩, h8⟩, h9⟩, ha⟩, hb⟩, hc⟩, hd⟩ := h
      refine .pl (ok_card (g.bt hb0).1 (g.bt hb0).2 g.calm g.nd (sndI it s X _ _ g h7) (blkOk_by (by rw [g.N, g.sc]; exact h1)) (all_mem h5) (fun st H C cc fp => sndT t _ _ _ (g.blk st H C cc fp) h8)
        (fun st H C cc fp => sndCs cs _ _ _ (g.blk st H C cc fp) h9) (fun st H C cc fp => sndI it1 _ _ _ _ (g.blk st H C cc fp) ha) (fun st H C cc fp => sndT t1 _ _ _ (g.blk st H C cc fp) hb)
        (fun st H C cc fp => sndCs cs1 _ _ _ (g.blk st H C cc fp) hc) (fun st H C cc fp => (snd e' _ _ _ (g.blk st H C cc fp) hd).pe) h2 h3 (all_mem h4) (all_mem h6)) (by intro _; rfl) rfl
    · cases h
  | .srt a rev, s, X, e, g, h => by
    simp only [chE] at h
    split at h
    · simp only [Bool.and_eq_true, decide_eq_true_eq, Bool.not_eq_true'] at h
      obtain ⟨⟨⟨⟨rfl, h1⟩, h2⟩, rfl⟩, h3⟩ := h
      exact .pl (ok_srt g.u (g.bt h1).1 (g.bt h1).2 (snd a s X _ g h3).pe h2) (by intro _; rfl) rfl
    · simp only [Bool.and_eq_true, decide_eq_true_eq] at h
      obtain ⟨⟨⟨⟨⟨rfl, h1⟩, h2⟩, rfl⟩, h4⟩, h3⟩ := h
      rw [eq_of_beq h4]
      exact .pl (ok_srtR g.u (g.bt h1).1 (g.bt h1).2 (snd a s X _ g h3).pe h2) (by intro _; rfl) rfl
    · cases h
  | .slen i, s, X, e, g, h => by
    simp only [chE] at h
    split at h
    · simp only [Bool.and_eq_true, decide_eq_true_eq] at h
      obtain ⟨⟨⟨⟨rfl, h1⟩, h2⟩, h3⟩, h4⟩ := h
      exact .pl (ok_slen (g.bt h1).1 (g.bt h1).2 (g.var h2 h3 h4) rfl) (by intro _; rfl) rfl
    · cases h
  | .sidx i a, s, X, e, g, h => by
    simp only [chE] at h
    split at h
    · simp only [Bool.and_eq_true, decide_eq_true_eq] at h
      obtain ⟨⟨⟨⟨h1, h2⟩, h3⟩, h4⟩, h5⟩ := h
      exact .pl (ok_sidx (g.var h1 h2 h3) (snd a s X _ g h5).pe h4) (by intro _; rfl) rfl
    · cases h
theorem sndEs : ∀ (cs : List IE) (s : Sx) (X : Cx) (es : List Expr), Gd fs bl G T n cl s X → chEs fs bl G cs s es = true → es.all pln = true ∧ PA X es (tFs X.K T (evEs G cl cs)) ∧ PA X es (tDs X.K T (evDs G cl cs))
  | [], s, X, es, g, h => by
    simp only [chEs] at h
    split at h
    · exact ⟨rfl, oks_nil, okd_nil⟩
    · cases h
  | a :: as, s, X, es, g, h => by
    simp only [chEs] at h
    split at h
    · simp only [Bool.and_eq_true] at h
      have i := snd a s X _ g h.1.2
      obtain ⟨j1, j2, j3⟩ := sndEs as s X _ g h.2
      exact ⟨by rw [List.all_cons, h.1.1, j1]; rfl, oks_cons h.1.1 i.pe j2, okd_cons h.1.1 i.pe j3⟩
    · cases h
theorem sndKs : ∀ (cs : List IE) (s : Sx) (X : Cx) (es : List Keyword), Gd fs bl G T n cl s X → chKs fs bl G cs s es = true → PK X es (tFs X.K T (evEs G cl cs))
  | [], s, X, es, g, h => by
    simp only [chKs] at h
    split at h
    · exact okk_nil
    · cases h
  | a :: as, s, X, es, g, h => by
    simp only [chKs] at h
    split at h
    · simp only [Bool.and_eq_true] at h
      exact okk_cons (snd a s X _ g h.1).pe (sndKs as s X _ g h.2)
    · cases h
theorem sndO : ∀ (c : Option IE) (s : Sx) (X : Cx) (e : Option Expr), Gd fs bl G T n cl s X → chO fs bl G c s e = true → PO X e (tOO X.K T (evO G cl c))
  | none, s, X, e, g, h => by
    simp only [chO] at h
    split at h
    · exact oko_none
    · cases h
  | some a, s, X, e, g, h => by
    simp only [chO] at h
    split at h
    · exact oko_some (snd a s X _ g h).pe
    · cases h
theorem sndCs : ∀ (cs : List IE) (s : Sx) (X : Cx) (es : List Expr), Gd fs bl G T n cl s X → chCs fs bl G cs s es = true → PTs X es (tCs X.K T (evCs G cl cs))
  | [], s, X, es, g, h => by
    simp only [chCs] at h
    split at h
    · exact okc_nil
    · cases h
  | [c], s, X, es, g, h => by
    simp only [chCs] at h
    split at h
    · exact okc_one (snd c s X _ g h).pt
    · cases h
  | _ :: _ :: _, s, X, es, g, h => by simp only [chCs] at h; cases h
theorem sndI : ∀ (c : II) (s : Sx) (X : Cx) (tg e : Expr), Gd fs bl G T n cl s X → chI fs bl G c s tg e = true → PI X tg e (tI X.K T (evI G cl c))
  | .of a, s, X, tg, e, g, h => by
    simp only [chI] at h
    exact oki_of (snd a s X _ g h).pe
  | .rng es, s, X, tg, e, g, h => by
    simp only [chI] at h
    split at h
    · simp only [Bool.and_eq_true, decide_eq_true_eq] at h
      obtain ⟨⟨⟨rfl, h1⟩, h2⟩, h3⟩ := h
      obtain ⟨j1, j2, j3⟩ := sndEs es s X _ g h3
      simp only [List.all_cons, List.all_nil, Bool.and_true] at j1
      exact oki_rng1 (g.bt h1).1 (g.bt h1).2 j3 h2 j1
    · simp only [Bool.and_eq_true, decide_eq_true_eq] at h
      obtain ⟨⟨⟨rfl, h1⟩, h2⟩, h3⟩ := h
      obtain ⟨j1, j2, j3⟩ := sndEs es s X _ g h3
      simp only [List.all_cons, List.all_nil, Bool.and_true, Bool.and_eq_true] at j1
      exact oki_rng2 (g.bt h1).1 (g.bt h1).2 j3 h2 j1.1 j1.2
    · cases h
  | .enm a, s, X, tg, e, g, h => by
    simp only [chI] at h
    split at h
    · split at h
      · simp only [Bool.and_eq_true, decide_eq_true_eq] at h
        obtain ⟨⟨⟨rfl, h1⟩, h2⟩, h3⟩ := h
        exact oki_enm (g.bt h1).1 (g.bt h1).2 (snd a s X _ g h3).pe h2
      · cases h
    · cases h
  | .zip a b, s, X, tg, e, g, h => by
    simp only [chI] at h
    split at h
    · split at h
      · simp only [Bool.and_eq_true, decide_eq_true_eq] at h
        obtain ⟨⟨⟨⟨⟨rfl, h1⟩, h2⟩, h3⟩, h4⟩, h5⟩ := h
        exact oki_zip (g.bt h1).1 (g.bt h1).2 (snd a s X _ g h4).pe (snd b s X _ g h5).pe h2 h3
      · cases h
    · cases h
end
end Ev
set_option linter.all false
set_option maxRecDepth 100000
set_option maxHeartbeats 8000000
/-! Ev14: the check of statements, and what it is good for. -/
namespace Ev
open PySem PySem.Spec L2
def isCp : Expr → Bool
  | .ListComp .. => true
  | .SetComp .. => true
  | .DictComp .. => true
  | _ => false
def isTp : Expr → Bool
  | .Tuple .. => true
  | _ => false
def locB (sc : Scope) (x : Str) : Bool := match sc.names.lookup x with
  | some .local => true
  | _ => false
/-- does the comprehension hand its list over to the name? -/
def swB (sc : Scope) (y : Str) (py : Pos) (scope : Scope) (pos : Pos) : Bool :=
  locB sc y && (py.line == pos.line) && !(scope.names.any fun (n, k) => n == y && (k == .local || k == .cell))
theorem sw_no {e : Expr} {t : Option Expr} {l : Nat} {env : PySem.Env} (h : isCp e = false) : swapsWith e t l env = pure false := by
  cases e <;> first | rfl | cases h
theorem sw_nm {y : Str} {py : Pos} {l : Nat} {env : PySem.Env} (hk : env.scope.kind = .function) {elt : Expr} {gs : List Comprehension} {scope : Scope} {pos : Pos} (h : swB env.scope y py scope pos = false) :
    swapsWith (.ListComp elt gs scope pos) (some (.Name y py)) l env = pure false := by
  have hb : env.blockKind = .function := by unfold Env.blockKind; rw [hk]; rfl
  unfold swB locB at h
  unfold swapsWith
  simp only [hb, Expr.pos]
  cases e : env.scope.names.lookup y with
  | none =>
    have ky : env.kindOf y = none := e
    simp only [ky]
    rfl
  | some k =>
    have ky : env.kindOf y = some k := e
    rw [e] at h
    simp only [ky]
    cases k with
    | «local» =>
      simp only [Bool.true_and] at h
      show pure (true && true && _ && _) = _
      rw [Bool.true_and, Bool.true_and, h]
    | _ => rfl
theorem sw_sole {tg e : Expr} {l : Nat} {env : PySem.Env} (h : ∀ x p, tg ≠ .Name x p) : swapsWithSole [tg] e l env = pure false := by
  show swapsWith e (some tg) l env = pure false
  by_cases hc : isCp e = false
  · exact sw_no hc
  · cases e <;> first | (exact absurd rfl hc) | skip
    all_goals (cases tg <;> first | rfl | exact absurd rfl (h _ _))
theorem swp_no {tg e : Expr} {env : PySem.Env} (h : isTp e = false) : swappedStores [tg] e env = pure none := by
  cases tg <;> cases e <;> first | rfl | cases h
/-- a, b = .. -/
def parB (sc : Scope) (ts vs : List Expr) (line : Nat) : Bool :=
  (ts.all fun t => match t with
    | .Name id pos => locB sc id && (pos.line == line)
    | _ => false) && vs.all pln && !(vs.all (foldedForSure 8)) && !(vs.all (constantsAlone 8))
theorem loc_of {sc : Scope} {x : Str} (h : locB sc x = true) : sc.names.lookup x = some .local := by
  unfold locB at h
  split at h
  · assumption
  · cases h
theorem any_star {vs : List Expr} (h : vs.all pln = true) : (vs.any fun | .Starred .. => true | _ => false) = false := by
  induction vs with
  | nil => rfl
  | cons v vs ih =>
    rw [List.all_cons, Bool.and_eq_true] at h
    rw [List.any_cons, ih h.2]
    cases v <;> first | rfl | (exact absurd h.1 Bool.false_ne_true)
section
variable (fs : List (Str × List Str)) (bl : List Str) (G : Pk)
mutual
def chS : IS → Sx → Stmt → Bool
  | .asg (.nm i) e, s, st => match st with
    | .Assign [.Name x p] v pos => decide (s.N[i]? = some x) && s.tg x && chE fs bl G e s v && (match v with
      | .ListComp elt gs scope lp => !swB s.sc x p scope lp || (match e with
        | .lc .. => true
        | .lc2 .. => true
        | _ => false)
      | _ => !isCp v)
    | _ => false
  | .asg (.tp ts) e, s, st => match st with
    | .Assign [tg] v pos => isTp tg && !isTp v && chT (.tp ts) s tg && chE fs bl G e s v
    | _ => false
  | .par is es, s, st => match st with
    | .Assign [.Tuple [.Name x px, .Name y py] _ _] (.Tuple [a, b] _ _) _ => decide (is.map (s.N[·]?) = [some x, some y]) && is.Nodup && decide (x ≠ y) && parB s.sc [.Name x px, .Name y py] [a, b] px.line && decide (es.length = 2) && chEs fs bl G es s [a, b]
    | .Assign [.Tuple [.Name x px, .Name y py, .Name z pz] _ _] (.Tuple [a, b, c] _ _) _ => decide (is.map (s.N[·]?) = [some x, some y, some z]) && is.Nodup && decide ([x, y, z].Nodup) && parB s.sc [.Name x px, .Name y py, .Name z pz] [a, b, c] px.line && decide (es.length = 3) && chEs fs bl G es s [a, b, c]
    | _ => false
  | .seti i a e, s, st => match st with
    | .Assign [.Subscript (.Name x p) l _] v _ => decide (s.N[i]? = some x) && visB s.sc x && nmB x && pln l && chE fs bl G a s l && chE fs bl G e s v
    | _ => false
  | .app i e, s, st => match st with
    | .Expr (.Call (.Attribute (.Name x p) m ap) [v] [] cp) _ => decide (m = "append") && decide (s.N[i]? = some x) && visB s.sc x && nmB x && pln v && (ap.endLine == cp.line) && chE fs bl G e s v
    | _ => false
  | .ins i a e, s, st => match st with
    | .Expr (.Call (.Attribute (.Name x p) m ap) [u, v] [] cp) _ => decide (m = "insert") && decide (s.N[i]? = some x) && visB s.sc x && nmB x && pln u && pln v && (ap.endLine == cp.line) && chE fs bl G a s u && chE fs bl G e s v
    | _ => false
  | .exp e, s, st => match st with
    | .Expr v _ => !isCp v && chE fs bl G e s v
    | _ => false
  | .ite c a b, s, st => match st with
    | .If t x y _ => chE fs bl G c s t && chSs a s x && chSs b s y
    | _ => false
  | .loop t it b, s, st => match st with
    | .For tg iter body [] _ => pln iter && chT t s tg && chI fs bl G it s tg iter && chSs b s body
    | _ => false
  | .whl c b, s, st => match st with
    | .While t body [] _ => chE fs bl G c s t && chSs b s body
    | _ => false
  | .ret none, s, st => match st with
    | .Return none _ => true
    | _ => false
  | .ret (some e), s, st => match st with
    | .Return (some v) _ => chE fs bl G e s v
    | _ => false
  | .pas, _, st => match st with
    | .Pass _ => true
    | _ => false
  | .brk, _, st => match st with
    | .Break _ => true
    | _ => false
  | .cnt, _, st => match st with
    | .Continue _ => true
    | _ => false
  | .nev, _, _ => true
def chSs : List IS → Sx → List Stmt → Bool
  | [], _, sts => match sts with
    | [] => true
    | _ => false
  | a :: as, s, sts => match sts with
    | st :: sts => chS a s st && chSs as s sts
    | [] => false
end
end
section
variable {fs : List (Str × List Str)} {bl : List Str} {G : Pk} {T : List (Addr × Str)} {n : Nat} {cl : Str → List SV → Sto → Option (ER × Sto)} {mu : List Nat} {s : Sx} {X : Cx}
theorem pairs_of {sc : Scope} {env : PySem.Env} (hs : env.scope = sc) (hk : sc.kind = .function) {x y : Str} {px py pt : Pos} {a b : Expr} {kt k2 : Nat} {pt2 : Pos} (hxy : x ≠ y) (h : parB sc [.Name x px, .Name y py] [a, b] px.line = true) :
    swappedStores [.Tuple [.Name x px, .Name y py] kt pt] (.Tuple [a, b] k2 pt2) env = pure (some [x, y]) := by
  have hb : env.blockKind = .function := by unfold Env.blockKind; rw [hs, hk]; rfl
  simp only [parB, List.all_cons, List.all_nil, Bool.and_true, Bool.and_eq_true, Bool.not_eq_true'] at h
  obtain ⟨⟨⟨⟨⟨h1, h2⟩, h3, h4⟩, h5⟩, h6⟩, h7⟩ := h
  have kx : env.kindOf x = some .local := by show env.scope.names.lookup x = _; rw [hs]; exact loc_of h1
  have ky : env.kindOf y = some .local := by show env.scope.names.lookup y = _; rw [hs]; exact loc_of h3
  have st : ([a, b].any fun | .Starred .. => true | _ => false) = false := any_star (by simp only [List.all_cons, List.all_nil, Bool.and_true, Bool.and_eq_true]; exact h5)
  have f1 : [a, b].all (foldedForSure 8) = false := by simp only [List.all_cons, List.all_nil, Bool.and_true]; exact h6
  have f2 : [a, b].all (constantsAlone 8) = false := by simp only [List.all_cons, List.all_nil, Bool.and_true]; exact h7
  have ed : [x, y].eraseDups.length = 2 := by
    rw [List.eraseDups_cons, List.filter_cons, if_pos (by simp only [Bool.not_eq_true', beq_eq_false_iff_ne]; exact fun e => hxy e.symm)]
    rfl
  unfold swappedStores
  simp only [hb, st, f1, f2, List.filterMap_cons, List.filterMap_nil, kx, ky, h4, h2, ed, List.head?_cons, Option.map_some, Option.getD_some, Expr.pos, beq_self_eq_true, Bool.and_self, Bool.true_and, if_true]
  refine (if_neg (by simp)).trans ?_
  refine (if_neg fun z => ?_).trans rfl
  exact Bool.false_ne_true (st.symm.trans z)
theorem threes_of {sc : Scope} {env : PySem.Env} (hs : env.scope = sc) (hk : sc.kind = .function) {x y z : Str} {px py pz pt : Pos} {a b c : Expr} {kt k2 : Nat} {pt2 : Pos} (hn : [x, y, z].Nodup) (h : parB sc [.Name x px, .Name y py, .Name z pz] [a, b, c] px.line = true) :
    swappedStores [.Tuple [.Name x px, .Name y py, .Name z pz] kt pt] (.Tuple [a, b, c] k2 pt2) env = pure (some [x, y, z]) := by
  have hb : env.blockKind = .function := by unfold Env.blockKind; rw [hs, hk]; rfl
  simp only [parB, List.all_cons, List.all_nil, Bool.and_true, Bool.and_eq_true, Bool.not_eq_true'] at h
  obtain ⟨⟨⟨⟨⟨h1, h2⟩, ⟨h3, h4⟩, h8, h9⟩, h5⟩, h6⟩, h7⟩ := h
  have kx : env.kindOf x = some .local := by show env.scope.names.lookup x = _; rw [hs]; exact loc_of h1
  have ky : env.kindOf y = some .local := by show env.scope.names.lookup y = _; rw [hs]; exact loc_of h3
  have kz : env.kindOf z = some .local := by show env.scope.names.lookup z = _; rw [hs]; exact loc_of h8
  have st : ([a, b, c].any fun | .Starred .. => true | _ => false) = false := any_star (by simp only [List.all_cons, List.all_nil, Bool.and_true, Bool.and_eq_true]; exact h5)
  have f1 : [a, b, c].all (foldedForSure 8) = false := by simp only [List.all_cons, List.all_nil, Bool.and_true]; exact h6
  have f2 : [a, b, c].all (constantsAlone 8) = false := by simp only [List.all_cons, List.all_nil, Bool.and_true]; exact h7
  simp only [List.nodup_cons, List.mem_cons, List.not_mem_nil, or_false, not_or, not_false_eq_true, List.nodup_nil, and_true] at hn
  have ed : [x, y, z].eraseDups.length = 3 := by
    rw [List.eraseDups_cons, List.filter_cons, if_pos (by simp only [Bool.not_eq_true', beq_eq_false_iff_ne]; exact fun e => hn.1.1 e.symm), List.filter_cons, if_pos (by simp only [Bool.not_eq_true', beq_eq_false_iff_ne]; exact fun e => hn.1.2 e.symm),
      List.filter_nil, List.eraseDups_cons, List.filter_cons, if_pos (by simp only [Bool.not_eq_true', beq_eq_false_iff_ne]; exact fun e => hn.2 e.symm)]
    rfl
  unfold swappedStores
  simp only [hb, st, f1, f2, List.filterMap_cons, List.filterMap_nil, kx, ky, kz, h4, h2, h9, ed, List.head?_cons, Option.map_some, Option.getD_some, Expr.pos, beq_self_eq_true, Bool.and_self, Bool.true_and, if_true]
  refine (if_neg (by simp)).trans ?_
  refine (if_neg fun z => ?_).trans rfl
  exact Bool.false_ne_true (st.symm.trans z)
theorem assign_sub {x : Str} {p p2 : Pos} {a : Expr} {env : PySem.Env} (hp : pln a = true) (v : Value) : assign (.Subscript (.Name x p) a p2) env v = (do
      let ov ← holding [v] (eval (.Name x p) env)
      let iv ← holding [v, ov] (eval a env)
      standAt p2
      holding [v, ov, iv] (setItem ov iv v)
      release [v, ov, iv] []) := by
  cases a <;> first | rfl | (exact absurd (show false = true from hp) Bool.false_ne_true)
theorem map_two {N : List Str} {is : List Nat} {x y : Str} (h : is.map (N[·]?) = [some x, some y]) : ∃ i j, is = [i, j] ∧ N[i]? = some x ∧ N[j]? = some y := by
  match is, h with
  | [i, j], h =>
    simp only [List.map_cons, List.map_nil, List.cons.injEq, and_true] at h
    exact ⟨i, j, rfl, h.1, h.2⟩
  | [], h => simp at h
  | [_], h => simp at h
  | _ :: _ :: _ :: _, h => simp at h
theorem map_three {N : List Str} {is : List Nat} {x y z : Str} (h : is.map (N[·]?) = [some x, some y, some z]) : ∃ i j l, is = [i, j, l] ∧ N[i]? = some x ∧ N[j]? = some y ∧ N[l]? = some z := by
  match is, h with
  | [i, j, l], h =>
    simp only [List.map_cons, List.map_nil, List.cons.injEq, and_true] at h
    exact ⟨i, j, l, rfl, h.1, h.2.1, h.2.2⟩
  | [], h => simp at h
  | [_], h => simp at h
  | [_, _], h => simp at h
  | _ :: _ :: _ :: _ :: _, h => simp at h
theorem sndPar2 {i j : Nat} {es : List IE} {a b : Expr} (g : Gd fs bl G T n cl s X) (hl : es.length = 2) (h : chEs fs bl G es s [a, b] = true) :
    ∃ a' b', es = [a', b'] ∧ PA X [a, b] (tP X.K T (evP G cl mu [(i, a'), (j, b')])) := by
  match es, hl with
  | [a', b'], _ =>
    simp only [chEs, Bool.and_eq_true, and_true] at h
    exact ⟨a', b', rfl, okp_cons h.1.1 (snd a' s X _ g h.1.2).pe (okp_cons h.2.1 (snd b' s X _ g h.2.2).pe okp_nil)⟩
theorem sndPar3 {i j l : Nat} {es : List IE} {a b c : Expr} (g : Gd fs bl G T n cl s X) (hl : es.length = 3) (h : chEs fs bl G es s [a, b, c] = true) :
    ∃ a' b' c', es = [a', b', c'] ∧ PA X [a, b, c] (tP X.K T (evP G cl mu [(i, a'), (j, b'), (l, c')])) := by
  match es, hl with
  | [a', b', c'], _ =>
    simp only [chEs, Bool.and_eq_true, and_true] at h
    exact ⟨a', b', c', rfl, okp_cons h.1.1 (snd a' s X _ g h.1.2).pe (okp_cons h.2.1.1 (snd b' s X _ g h.2.1.2).pe (okp_cons h.2.2.1 (snd c' s X _ g h.2.2.2).pe okp_nil))⟩
theorem asg_lc {i : Nat} {y : Str} {py : Pos} {e' : IE} {elt : Expr} {gs : List Comprehension} {scope : Scope} {pos spos : Pos} (g : Gd fs bl G T n cl s X) (hk : s.sc.kind = .function) (hi : s.N[i]? = some y) (hsw : swB s.sc y py scope pos = true)
    (hlc : (match e' with | .lc .. => true | .lc2 .. => true | _ => false) = true) (h : chE fs bl G e' s (.ListComp elt gs scope pos) = true) :
    PS X (.Assign [.Name y py] (.ListComp elt gs scope pos) spos) (tAsg (tF X.K T (evE G cl e')) (gName i)) := by
  simp only [swB, Bool.and_eq_true, Bool.not_eq_true'] at hsw
  have hyl : X.env.scope.names.lookup y = some .local := by rw [g.sc]; exact loc_of hsw.1.1
  have sw := sw_true (elt := elt) (gs := gs) (l := spos.line) (by rw [g.sc]; exact hk) hyl hsw.1.2 hsw.2
  have hi : X.N[i]? = some y := by rw [g.N]; exact hi
  cases e' with
  | lc own t it cs e1 =>
    simp only [chE] at h
    split at h
    · rename_i heq
      cases heq
      simp only [Bool.and_eq_true] at h
      obtain ⟨⟨⟨⟨⟨⟨h1, h2⟩, h3⟩, h4⟩, h5⟩, h6⟩, h7⟩ := h
      exact impS (ps_setLc g.calm g.nd hi hyl sw (sndI it s X _ _ g h4) (blkOk_by (by rw [g.N, g.sc]; exact h1)) (fun st H C cc fp => sndT t _ _ _ (g.blk st H C cc fp) h5)
        (fun st H C cc fp => sndCs cs _ _ _ (g.blk st H C cc fp) h6) (fun st H C cc fp => (snd e1 _ _ _ (g.blk st H C cc fp) h7).pe) (fun x => pln_fold h2 _ x)) fun D σ H q => lc_read (all_mem h3) σ H _ q
    · cases h
  | lc2 own vs1 t it cs t1 it1 cs1 e1 =>
    simp only [chE] at h
    split at h
    · rename_i heq
      cases heq
      simp only [Bool.and_eq_true] at h
      obtain ⟨⟨⟨⟨⟨⟨⟨⟨⟨⟨⟨⟨h1, h2⟩, h3⟩, h4⟩, h5⟩, h6⟩, h7⟩, h8⟩, h9⟩, ha⟩, hb⟩, hc⟩, hd⟩ := h
      exact impS (ps_setLc2 g.calm g.nd hi hyl sw (sndI it s X _ _ g h7) (blkOk_by (by rw [g.N, g.sc]; exact h1)) (all_mem h5) (fun st H C cc fp => sndT t _ _ _ (g.blk st H C cc fp) h8)
        (fun st H C cc fp => sndCs cs _ _ _ (g.blk st H C cc fp) h9) (fun st H C cc fp => sndI it1 _ _ _ _ (g.blk st H C cc fp) ha) (fun st H C cc fp => sndT t1 _ _ _ (g.blk st H C cc fp) hb)
        (fun st H C cc fp => sndCs cs1 _ _ _ (g.blk st H C cc fp) hc) (fun st H C cc fp => (snd e1 _ _ _ (g.blk st H C cc fp) hd).pe) (fun x => pln_fold h2 _ x) (fun env x => pln_fold h3 _ x)) fun D σ H q => lc2_read (all_mem h4) (all_mem h6) σ H _ q
    · cases h
  | _ => cases hlc
mutual
theorem sndS : ∀ (c : IS) (s : Sx) (X : Cx) (st : Stmt), Gd fs bl G T n cl s X → s.sc.kind = .function → X.xe = (fun _ _ => False) → chS fs bl G c s st = true → PS X st (tS X.K T (fun env st => evS G cl mu c env st))
  | .asg (.nm i) e, s, X, st, g, hk, hx, h => by
    simp only [chS] at h
    split at h
    · simp only [Bool.and_eq_true, decide_eq_true_eq] at h
      obtain ⟨⟨⟨h1, h2⟩, h3⟩, h4⟩ := h
      obtain ⟨t1, t2⟩ := g.tg _ h2
      refine okS_asg ?_
      split at h4
      · rename_i elt gs scope lp
        rw [Bool.or_eq_true, Bool.not_eq_true'] at h4
        cases hsw : swB s.sc _ _ scope lp with
        | false => exact ps_set g.nd (by rw [g.N]; exact h1) t1 (snd e s X _ g h3).pe (sw_nm (by rw [g.sc]; exact hk) (by rw [g.sc]; exact hsw)) t2
        | true =>
          rw [hsw] at h4
          exact asg_lc g hk h1 hsw (h4.resolve_left (fun z => Bool.noConfusion z)) h3
      · exact ps_set g.nd (by rw [g.N]; exact h1) t1 (snd e s X _ g h3).pe (sw_no (by simpa using h4)) t2
    · cases h
  | .asg (.tp ts) e, s, X, st, g, hk, hx, h => by
    simp only [chS] at h
    split at h
    · rename_i tg v pos
      simp only [Bool.and_eq_true, Bool.not_eq_true'] at h
      obtain ⟨⟨⟨h1, h2⟩, h3⟩, h4⟩ := h
      have hn : ∀ x p, tg ≠ .Name x p := fun x p z => by rw [z] at h1; cases h1
      have ha : (assignEach [tg] X.env).map (·.2) = [assign tg X.env] := by cases tg <;> first | rfl | cases h1
      exact okS_asgT (snd e s X _ g h4).pe (sndT _ s X _ g h3) (sw_sole hn) (swp_no h2) ha
    · cases h
  | .par is es, s, X, st, g, hk, hx, h => by
    simp only [chS] at h
    split at h
    · rename_i x px y py kt pt a b k2 pt2 pos
      simp only [Bool.and_eq_true, decide_eq_true_eq] at h
      obtain ⟨⟨⟨⟨⟨h1, h2⟩, h3⟩, h4⟩, h5⟩, h6⟩ := h
      obtain ⟨i, j, rfl, hi, hj⟩ := map_two h1
      obtain ⟨a', b', rfl, ha⟩ := sndPar2 (i := i) (j := j) (mu := mu) g h5 h6
      have h4' := h4
      simp only [parB, List.all_cons, List.all_nil, Bool.and_true, Bool.and_eq_true] at h4'
      have hij : i ≠ j := by simpa using h2
      exact okS_par2 (ps_par g.calm g.nd (by rw [g.N]; exact hi) (by rw [g.N]; exact hj) hij (by rw [g.sc]; exact loc_of h4'.1.1.1.1.1) (by rw [g.sc]; exact loc_of h4'.1.1.1.2.1) ha (pairs_of g.sc hk h3 h4))
    · rename_i x px y py z pz kt pt a b c k2 pt2 pos
      simp only [Bool.and_eq_true, decide_eq_true_eq] at h
      obtain ⟨⟨⟨⟨⟨h1, h2⟩, h3⟩, h4⟩, h5⟩, h6⟩ := h
      obtain ⟨i, j, l, rfl, hi, hj, hl⟩ := map_three h1
      obtain ⟨a', b', c', rfl, ha⟩ := sndPar3 (i := i) (j := j) (l := l) (mu := mu) g h5 h6
      have h4' := h4
      simp only [parB, List.all_cons, List.all_nil, Bool.and_true, Bool.and_eq_true] at h4'
      have hij : (i ≠ j ∧ i ≠ l) ∧ j ≠ l := by simpa using h2
      exact okS_par3 (ps_par3 g.calm g.nd (by rw [g.N]; exact hi) (by rw [g.N]; exact hj) (by rw [g.N]; exact hl) hij.1.1 hij.1.2 hij.2 (by rw [g.sc]; exact loc_of h4'.1.1.1.1.1) (by rw [g.sc]; exact loc_of h4'.1.1.1.2.1.1) (by rw [g.sc]; exact loc_of h4'.1.1.1.2.2.1) ha (threes_of g.sc hk h3 h4))
    · cases h
  | .seti i a e, s, X, st, g, hk, hx, h => by
    simp only [chS] at h
    split at h
    · simp only [Bool.and_eq_true, decide_eq_true_eq] at h
      obtain ⟨⟨⟨⟨⟨h1, h2⟩, h3⟩, h4⟩, h5⟩, h6⟩ := h
      exact okS_seti (g.var h1 h2 h3) (snd a s X _ g h5).pe (snd e s X _ g h6).pe (sw_sole (fun _ _ => Expr.noConfusion)) rfl (fun v => assign_sub h4 v)
    · cases h
  | .app i e, s, X, st, g, hk, hx, h => by
    simp only [chS] at h
    split at h
    · simp only [Bool.and_eq_true, decide_eq_true_eq] at h
      obtain ⟨⟨⟨⟨⟨⟨rfl, h1⟩, h2⟩, h3⟩, h4⟩, h5⟩, h6⟩ := h
      exact okS_app (g.var h1 h2 h3) (snd e s X _ g h6).pe h4 h5
    · cases h
  | .ins i a e, s, X, st, g, hk, hx, h => by
    simp only [chS] at h
    split at h
    · simp only [Bool.and_eq_true, decide_eq_true_eq] at h
      obtain ⟨⟨⟨⟨⟨⟨⟨⟨rfl, h1⟩, h2⟩, h3⟩, h4⟩, h5⟩, h6⟩, h7⟩, h8⟩ := h
      exact okS_ins (g.var h1 h2 h3) (snd a s X _ g h7).pe (snd e s X _ g h8).pe h4 h5 h6
    · cases h
  | .exp e, s, X, st, g, hk, hx, h => by
    simp only [chS] at h
    split at h
    · simp only [Bool.and_eq_true, Bool.not_eq_true'] at h
      exact okS_exp (snd e s X _ g h.2).pe (sw_no h.1)
    · cases h
  | .ite c a b, s, X, st, g, hk, hx, h => by
    simp only [chS] at h
    split at h
    · simp only [Bool.and_eq_true] at h
      exact okS_ite (snd c s X _ g h.1.1).pt (sndSs a s X _ g hk hx h.1.2) (sndSs b s X _ g hk hx h.2)
    · cases h
  | .loop t it b, s, X, st, g, hk, hx, h => by
    simp only [chS] at h
    split at h
    · simp only [Bool.and_eq_true] at h
      exact okS_loop (by rw [hx]; exact .never) g.calm (sndI it s X _ _ g h.1.2) (sndT t s X _ g h.1.1.2) (sndSs b s X _ g hk hx h.2) h.1.1.1
    · cases h
  | .whl c b, s, X, st, g, hk, hx, h => by
    simp only [chS] at h
    split at h
    · simp only [Bool.and_eq_true] at h
      exact okS_whl (by rw [hx]; exact .never) (snd c s X _ g h.1).pt (sndSs b s X _ g hk hx h.2)
    · cases h
  | .ret none, s, X, st, g, hk, hx, h => by
    simp only [chS] at h
    split at h
    · exact okS_retN
    · cases h
  | .ret (some e), s, X, st, g, hk, hx, h => by
    simp only [chS] at h
    split at h
    · exact okS_ret (snd e s X _ g h).pe
    · cases h
  | .pas, s, X, st, g, hk, hx, h => by
    simp only [chS] at h
    split at h
    · exact okS_pas
    · cases h
  | .brk, s, X, st, g, hk, hx, h => by
    simp only [chS] at h
    split at h
    · exact okS_brk
    · cases h
  | .cnt, s, X, st, g, hk, hx, h => by
    simp only [chS] at h
    split at h
    · exact okS_cnt
    · cases h
  | .nev, s, X, st, g, hk, hx, h => okS_nev
theorem sndSs : ∀ (cs : List IS) (s : Sx) (X : Cx) (sts : List Stmt), Gd fs bl G T n cl s X → s.sc.kind = .function → X.xe = (fun _ _ => False) → chSs fs bl G cs s sts = true → PSs X sts (tS X.K T (fun env st => evSs G cl mu cs env st))
  | [], s, X, sts, g, hk, hx, h => by
    simp only [chSs] at h
    split at h
    · exact okSs_nil
    · cases h
  | a :: as, s, X, sts, g, hk, hx, h => by
    simp only [chSs] at h
    split at h
    · simp only [Bool.and_eq_true] at h
      exact okSs_cons (sndS a s X _ g hk hx h.1) (sndSs as s X _ g hk hx h.2)
    · cases h
end
end
end Ev
set_option linter.all false
set_option maxRecDepth 100000
set_option maxHeartbeats 4000000
/-! Ev15: functions: what they work out to, and that they keep it. -/
namespace Ev
open PySem PySem.Spec L2
/-- what a call leaves: the store as far as the caller knows it -/
def finR (base : Nat) : ER → Sto → Option (ER × Sto)
  | .dat d fr, st => some (.dat d fr, st.take base)
  | .loc n, st => if n < base then some (.loc n, st.take base) else
    match st[n]? with
    | some ds => some (.dat (.list ds) true, st.take base)
    | none => none
  | .scr ns, st => some (.scr ns, st.take base)
def finF (base : Nat) : Option Fl → Option (ER × Sto)
  | some (.nx _ st) => some (.dat .none false, st.take base)
  | some (.rt r st) => finR base r st
  | _ => none
def evF (G : Pk) : Nat → Str → List SV → Sto → Option (ER × Sto)
  | 0, _, _, _ => none
  | n + 1, f, args, st => match G.fn f with
    | some F => if args.length = F.ps then finF st.length (evSs G (evF G n) F.mu F.body (args.map some ++ List.replicate (F.len - F.ps) none) st) else none
    | none => none
section
variable {K : PySem.W.Frag} {T : List (Addr × Str)} {φ ρ φ' ρ' : List Addr} {H H' : Hp} {st st' : Sto}
theorem Gs.fxs (g : Gs φ ρ H φ' ρ' H') : ∀ a ∈ φ, a ∈ φ' := fun a ha => by
  obtain ⟨_, m, rfl, _⟩ := g
  exact List.mem_append_left _ ha
theorem Ws.back {m : List Addr} (w : Ws K T (φ ++ m) (ρ ++ m) H' st') (sub : ∀ a ∈ ρ, a ∈ φ) : Ws K T φ ρ H' (st'.take ρ.length) := by
  have hl : ρ.length ≤ st'.length := by rw [← w.len, List.length_append]; omega
  refine ⟨by rw [List.length_take, Nat.min_eq_left hl], fun n ds e => ?_, (List.nodup_append.mp w.nd).1, sub, fun a ha => w.fx a (List.mem_append_left _ ha), w.tab⟩
  have hn : n < ρ.length := by
    have := (List.getElem?_eq_some_iff.mp e).1
    rw [List.length_take] at this
    omega
  rw [List.getElem?_take_of_lt hn] at e
  obtain ⟨a, xs, h1, h2, h3⟩ := w.sto n ds e
  rw [List.getElem?_append_left hn] at h1
  exact ⟨a, xs, h1, h2, h3.weak fun a ha => List.mem_append_left _ ha⟩
theorem Post.back {m : List Addr} {x : ER} {v : V} {r : ER} {st1 : Sto} (g : Gs φ ρ H (φ ++ m) (ρ ++ m) H') (hm : ∀ a ∈ m, H a = none) (sub : ∀ a ∈ ρ, a ∈ φ) (fx : ∀ a ∈ φ, ∃ o, H a = some o ∧ Mo o) (p : Post K T (φ ++ m) (ρ ++ m) H H' [] [] st' x v) (h : finR ρ.length x st' = some (r, st1)) : Post K T φ ρ H H' [] [] st1 r v := by
  have wk : ∀ a ∈ φ, a ∈ φ ++ m := fun a ha => List.mem_append_left _ ha
  have sl0 : ∀ ψ, Sl K ψ ρ H' [] [] := fun ψ => ⟨rfl, fun i s e => by simp at e⟩
  have wb := p.ws.back sub
  cases x with
  | dat d fr =>
    simp only [finR] at h
    cases h
    refine ⟨wb, sl0 _, g.ext, p.rr.weak wk, fun d' e => ?_⟩
    cases e
    obtain ⟨q, xs, ds, h1, h2, h3, h4, h5, h6, h7⟩ := p.fr _ rfl
    have wk2 : ∀ a ∈ φ ++ [q], a ∈ φ ++ m ++ [q] := fun a ha => by
      rcases List.mem_append.mp ha with h | h
      · exact List.mem_append_left _ (wk a h)
      · exact List.mem_append_right _ h
    refine ⟨q, xs, ds, h1, h2, h3, h4, h5.weak wk2, ⟨wb.len, fun n es e => ?_, wb.nd, fun a ha => List.mem_append_left _ (sub a ha), fun a ha => h6.fx a (wk2 a ha), wb.tab⟩, sl0 _⟩
    have hl : ρ.length ≤ st'.length := by rw [← p.ws.len, List.length_append]; omega
    have hn : n < ρ.length := by
      have := (List.getElem?_eq_some_iff.mp e).1
      rw [List.length_take] at this
      omega
    rw [List.getElem?_take_of_lt hn] at e
    obtain ⟨a, xs, k1, k2, k3⟩ := h6.sto n es e
    rw [List.getElem?_append_left hn] at k1
    exact ⟨a, xs, k1, k2, k3.weak wk2⟩
  | loc n =>
    simp only [finR] at h
    split at h
    · rename_i hn
      cases h
      refine ⟨wb, sl0 _, g.ext, ?_, fun d e => by cases e⟩
      obtain ⟨a, h1, h2⟩ := p.rr
      rw [List.getElem?_append_left hn] at h1
      exact ⟨a, h1, h2⟩
    · rename_i hn
      split at h
      · rename_i ds e
        cases h
        obtain ⟨a, h1, h2⟩ := p.rr
        obtain ⟨b, xs, k1, k2, k3⟩ := p.ws.sto n ds e
        rw [h1] at k1
        cases k1
        have hb : a ∈ m := by
          rw [List.getElem?_append_right (by omega)] at h1
          exact List.mem_of_getElem? h1
        have nb := hm a hb
        have nphi : a ∉ φ := fun z => by
          obtain ⟨ys, e, _⟩ := fx a z
          rw [nb] at e; cases e
        have wk2 : ∀ c ∈ φ ++ [a], c ∈ φ ++ m := fun c hc => by
          rcases List.mem_append.mp hc with h | h
          · exact wk c h
          · rw [List.mem_singleton.mp h]; exact List.mem_append_right _ hb
        have w2 : Ws K T (φ ++ [a]) ρ H' (st'.take ρ.length) := by
          refine ⟨wb.len, fun n es e => ?_, wb.nd, fun a ha => List.mem_append_left _ (sub a ha), fun c hc => p.ws.fx c (wk2 c hc), wb.tab⟩
          have hl : ρ.length ≤ st'.length := by rw [← p.ws.len, List.length_append]; omega
          have hn : n < ρ.length := by
            have := (List.getElem?_eq_some_iff.mp e).1
            rw [List.length_take] at this
            omega
          rw [List.getElem?_take_of_lt hn] at e
          obtain ⟨a, xs, k1, k2, k3⟩ := p.ws.sto n es e
          rw [List.getElem?_append_left hn] at k1
          exact ⟨a, xs, k1, k2, k3.weak wk2⟩
        refine ⟨wb, sl0 _, g.ext, ?_, fun d e => ?_⟩
        · rw [h2]
          exact .lst nphi k2 (k3.weak wk)
        · cases e
          exact ⟨a, xs, ds, rfl, h2, nb, k2, k3.weak wk2, w2, sl0 _⟩
      · cases h
  | scr ns =>
    simp only [finR] at h
    cases h
    exact ⟨wb, sl0 _, g.ext, p.rr, fun d e => by cases e⟩
end
/-- the name of a function's lambdas -/
def lamQ (f : Str) : Str := f ++ ".<locals>." ++ "<lambda>"
/-- what is known of the module's functions; cs: code objects with their tables, T: the tables with the names -/
structure FnM (K : PySem.W.Frag) (G : Pk) (fs : List (Str × List Str)) (bl : List Str) (cs : List (Addr × Addr)) (T : List (Addr × Str)) (f : Str) (ps : List Str) (fd : FuncData) (a : Addr) : Prop where
  ok : ∃ (st : Stmt) (F : FnD) (N : List Str) (oc : Value) (od : Option Addr) (kV doc pm : Value) (an : Option Addr) (cdv ct : Value) (osl : Array (Option Value)),
    fd = PySem.W.fnOf f f (defArgs st) (defBody st) (defScope st) .none kV doc pm an cdv ct ∧ K.lookup a = some ⟨oc, od, .func fd, osl⟩ ∧ PySem.W.codeIn K cdv f = true ∧
    FnScope N ps (defScope st) ∧ G.fn f = some F ∧ F.ps = ps.length ∧ F.len = N.length ∧ ps.length ≤ N.length ∧
    chSs fs bl G F.body ⟨N, defScope st, ownB (defScope st), if F.lam = true then some (lamQ f) else none⟩ (defBody st) = true ∧
    (F.lam = true → ∃ c P, cdv = .ref c ∧ (c, P) ∈ cs ∧ (P, lamQ f) ∈ T ∧ ∀ p ∈ T, p.1 = P → p.2 = lamQ f)
/-- what is known of the module -/
structure MdB (K : PySem.W.Frag) (w : World) (mg : Str → Option Value) (G : Pk) (bl : List Str) : Prop where
  bl : ∀ x ∈ bl, mg x = none
  con : ∀ x d, G.con x = some d → ∃ u v, mg x = some u ∧ RelV v u ∧ ∀ φ H, RD K φ H v d
  dic : ∀ g kvs, G.dic g = some kvs → ∃ p, mg g = some (.ref p) ∧ ∀ k d, kvs.lookup k = some d → ∃ v, KDct K w p k v ∧ ∀ φ H, RD K φ H v d
structure MdK (w : World) (K : PySem.W.Frag) (mg : Str → Option Value) (G : Pk) (fs : List (Str × List Str)) (bl : List Str) (cs : List (Addr × Addr)) (T : List (Addr × Str)) : Prop where
  b : MdB K w mg G bl
  fn : ∀ f ps, fs.lookup f = some ps → ∃ a fd, mg f = some (.ref a) ∧ PySem.W.keepIn K (.ref a) = true ∧ Binds K fd ps [] ∧ FnM K G fs bl cs T f ps fd a
  kw : ∀ f ks ix, (f, ks, ix) ∈ G.kc → ∃ ps a fd, mg f = some (.ref a) ∧ PySem.W.keepIn K (.ref a) = true ∧ ix.length = ps.length ∧ (∀ i ∈ ix, i < ks.length) ∧
    (∀ (s : Shared) (ws : List Value), ws.length = ks.length → BindsTo s fd ⟨[], ks.zip ws⟩ (ps.zip (pick ix ws))) ∧ FnM K G fs bl cs T f ps fd a
section
variable {P : Program} {w : World} {K : PySem.W.Frag} {mg : Str → Option Value} {base : Heap} {T : List (Addr × Str)} {G : Pk} {fs : List (Str × List Str)} {bl : List Str} {f : Str} {ps : List Str} {fd : FuncData} {a : Addr} {cs : List (Addr × Addr)}
theorem rrs_slots {φ ρ : List Addr} {H : Hp} (m : Nat) : ∀ {rs : List ER} {vs : List V}, RRs K φ ρ H rs vs → Sl K φ ρ H ((rs.map svE).map some ++ List.replicate m none) (vs.map some ++ List.replicate m none) := by
  intro rs vs r
  refine ⟨by simp only [List.length_append, List.length_map, List.length_replicate]; rw [r.length], fun i s e => ?_⟩
  by_cases hi : i < vs.length
  · have hr : i < rs.length := by rw [r.length]; exact hi
    rw [List.getElem?_append_left (by simpa using hr)] at e
    obtain ⟨x, hx, rr⟩ := RRs.get _ _ _ _ r (List.getElem?_eq_getElem hi)
    rw [List.getElem?_map, List.getElem?_map, hx] at e
    cases e
    refine ⟨vs[i], ?_, ?_⟩
    · rw [List.getElem?_append_left (by simpa using hi), List.getElem?_map, List.getElem?_eq_getElem hi]; rfl
    · cases x <;> exact rr
  · rw [List.getElem?_append_right (by simp only [List.length_map]; rw [r.length]; omega), List.getElem?_replicate] at e
    split at e <;> cases e
theorem run_fn {n : Nat} (mb : MdB K w mg G bl) (tb : ∀ p ∈ cs, LamX.TabB base mg p.1 p.2) (m : FnM K G fs bl cs T f ps fd a) (ck : ClOk P w K mg base T (2 * n) (evF G n) fs G.kc) : FnE P w K mg base (2 * n + 2) a fd ps (spC K T (evF G (n + 1)) f ps.length) := by
  obtain ⟨st, F, N, oc, od, kV, doc, pm, an, cdv, ct, osl, rfl, lk, hcd, S, hF, hps, hlen, hle, hch, hlam⟩ := m.ok
  refine ⟨fun A outer s H us vs Q hr hgu e0 rv hsp args hb => ?_⟩
  obtain ⟨hl, φ, ρ, rs, st0, r, st1, ws, rr, he, k⟩ := hsp
  refine LamX.run_ofS (N := N) lk hcd S hr e0 hb rv hl fun hr' => ?_
  have g : Gd fs bl G T (2 * n) (evF G n) ⟨N, defScope st, ownB (defScope st), if F.lam = true then some (lamQ f) else none⟩ (cxOf CX0 P w K mg base N f (defScope st) a cdv A outer s H E0).nox := by
    refine ⟨rfl, rfl, S.nd, fun x hx => ⟨?_, .inl rfl⟩, rfl, hr'.mono (Nat.le_succ _), hgu, ck, mb.bl, mb.con, mb.dic, fun q hq => ⟨?_, hr'⟩⟩
    rotate_left
    · have hq : (if F.lam = true then some (lamQ f) else none) = some q := hq
      split at hq
      · rename_i hl
        cases hq
        obtain ⟨c, P, rfl, h1, h2, h3⟩ := hlam hl
        exact ⟨⟨c, P, rfl, tb _ h1, h2, h3⟩, rfl⟩
      · cases hq
    have hx : ownB (defScope st) x = true := hx
    unfold ownB at hx
    split at hx
    · exact .inl (by assumption)
    · exact .inr (by assumption)
    · cases hx
  have body := sndSs (mu := F.mu) F.body _ _ _ g S.kind rfl hch
  refine ⟨_, body.nox, φ, ρ, (rs.map svE).map some ++ List.replicate (F.len - F.ps) none, st0, ?_⟩
  simp only [evF, hF] at he
  have hlr : rs.length = ps.length := by rw [rr.length, hl]
  rw [if_pos (by rw [List.length_map, hlr, hps])] at he
  have hst : L2.start N vs = vs.map some ++ List.replicate (F.len - F.ps) none := by
    unfold L2.start
    rw [hlen, hps, hl]
  cases hfl : evSs G (evF G n) F.mu F.body ((rs.map svE).map some ++ List.replicate (F.len - F.ps) none) st0 with
  | none => rw [hfl] at he; cases he
  | some fl =>
    rw [hfl] at he
    refine ⟨fl, ws, by rw [hst]; exact rrs_slots _ rr, hfl, ?_⟩
    cases fl with
    | nx env' st' =>
      intro φ' ρ' σ' H' p
      simp only [finF] at he
      cases he
      obtain ⟨x, mr, rfl, rfl, hm⟩ := p.gs
      refine k .non H' (Post.back (x := .dat .none false) ⟨x, mr, rfl, rfl, hm⟩ hm ws.sub ws.fx (.mk p.ws ⟨rfl, fun i s e => by simp at e⟩ (x.more fun a ha => List.mem_append_left _ ha) RD.non fun d e => by cases e) ?_)
      rw [ws.len]
      rfl
    | rt x' st' =>
      intro φ' ρ' v H' p
      simp only [finF] at he
      obtain ⟨x, mr, rfl, rfl, hm⟩ := p.gs
      exact k v H' (Post.back ⟨x, mr, rfl, rfl, hm⟩ hm ws.sub ws.fx p.post (by rw [ws.len]; exact he))
    | bk env' st' => cases he
    | ct env' st' => cases he
theorem cl_ok (m : MdK w K mg G fs bl cs T) (tb : ∀ p ∈ cs, LamX.TabB base mg p.1 p.2) : ∀ n, ClOk P w K mg base T (2 * n) (evF G n) fs G.kc
  | 0 => by
    refine ⟨fun f ks ix h => ?_, fun f ps h => ?_⟩
    · obtain ⟨ps, a, fd, h1, h2, h3, h4, h5, h6⟩ := m.kw f ks ix h
      exact ⟨ps, a, fd, h1, h2, h3, h4, h5, ⟨fun A outer s H us vs Q hr hgu e0 rv hsp args hb => by
        obtain ⟨hl, φ, ρ, rs, st0, r, st1, ws, rr, he, k⟩ := hsp
        cases he⟩⟩
    · obtain ⟨a, fd, h1, h2, h3, h4⟩ := m.fn f ps h
      exact ⟨a, fd, h1, h2, h3, ⟨fun A outer s H us vs Q hr hgu e0 rv hsp args hb => by
        obtain ⟨hl, φ, ρ, rs, st0, r, st1, ws, rr, he, k⟩ := hsp
        cases he⟩⟩
  | n + 1 => by
    have ih := cl_ok m tb n
    refine ⟨fun f ks ix h => ?_, fun f ps h => ?_⟩
    · obtain ⟨ps, a, fd, h1, h2, h3, h4, h5, h6⟩ := m.kw f ks ix h
      exact ⟨ps, a, fd, h1, h2, h3, h4, h5, run_fn m.b tb h6 ih⟩
    · obtain ⟨a, fd, h1, h2, h3, h4⟩ := m.fn f ps h
      exact ⟨a, fd, h1, h2, h3, run_fn m.b tb h4 ih⟩
end
end Ev
set_option linter.all false
set_option maxRecDepth 100000
set_option maxHeartbeats 4000000
/-! Ev16: a law's row from its function's evaluation. -/
namespace Ev
open PySem PySem.Spec PyProof.Rows L2
section
variable {P : Program} {w : World} {K : PySem.W.Frag} {h : Heap} {a : Addr} {cs : List (Addr × Addr)} {items : List Value} {ns : List Int}
/-- what is tracked as the law begins: the tables, and the script (where it is no written object) -/
structure Beg (P : Program) (w : World) (K : PySem.W.Frag) (h : Heap) (cs : List (Addr × Addr)) (a : Addr) (items : List Value) (ns : List Int) (H : Hp) : Prop where
  tab : ∀ p ∈ cs, H p.2 = some (.tbl #[])
  only : ∀ b, b ∉ cs.map (·.2) → H b = none ∨ (b = a ∧ K.lookup a = none ∧ ∃ o, H b = some (.frz o (.lst (ns.map V.int))))
  scr : ScR K H a ns
  ok : HOk P w H h
theorem beg_of (KX : K.In h) (hT : ∀ p ∈ cs, h.get? p.2 = some { cls := .none, data := .fields #[] }) (ha : h.get? a = some { cls := .type "list", data := .seq items.toArray }) (hi : IntsAre items ns) (hl : ns.length ≤ sizeLine) : ∃ H, Beg P w K h cs a items ns H := by
  have tabAt : ∀ b, b ∈ cs.map (·.2) → h.get? b = some { cls := .none, data := .fields #[] } := by
    intro b hb
    obtain ⟨p, hp, rfl⟩ := List.mem_map.mp hb
    exact hT p hp
  have notTab : a ∉ cs.map (·.2) := by
    intro z
    have q := (tabAt a z).symm.trans ha
    injection q with q
    injection q with _ _ q
    cases q
  have rel := vals_ints hi
  let sh : Option HO := if K.lookup a = none then some (.frz { cls := .type "list", data := .seq items.toArray } (.lst (ns.map V.int))) else none
  refine ⟨fun b => if b ∈ cs.map (·.2) then some (.tbl #[]) else if b = a then sh else none, fun p hp => if_pos (List.mem_map.mpr ⟨p, hp, rfl⟩), fun b hb => ?_, ?_, fun b u e => ?_⟩
  · show (if b ∈ cs.map (·.2) then _ else _) = _ ∨ (_ ∧ _ ∧ ∃ o, (if b ∈ cs.map (·.2) then _ else _) = _)
    rw [if_neg hb]
    by_cases hba : b = a
    · rw [if_pos hba]
      by_cases hk : K.lookup a = none
      · exact .inr ⟨hba, hk, _, if_pos hk⟩
      · exact .inl (if_neg hk)
    · rw [if_neg hba]
      exact .inl rfl
  · cases hk : K.lookup a with
    | none =>
      refine .inl ⟨{ cls := .type "list", data := .seq items.toArray }, ?_⟩
      show (if a ∈ cs.map (·.2) then _ else if a = a then sh else none) = _
      rw [if_neg notTab, if_pos rfl]
      exact if_pos hk
    | some o =>
      have e := KX a o hk
      rw [ha] at e
      cases e
      exact .inr ⟨_, items.toArray, _, hk, rfl, rfl, rfl, by rw [List.size_toArray, hi.length]; exact hl, by simpa using rel⟩
  · have e : (if b ∈ cs.map (·.2) then some (HO.tbl #[]) else if b = a then sh else none) = some u := e
    split at e
    · rename_i hb
      cases e
      exact tabAt b hb
    · split at e
      · rename_i hba
        have e : (if K.lookup a = none then some (HO.frz { cls := .type "list", data := .seq items.toArray } (.lst (ns.map V.int))) else none) = some u := e
        split at e
        · cases e
          rw [hba]
          exact ⟨ha, by rw [List.length_map]; exact hl, items, _, rel, ha⟩
        · cases e
      · cases e
theorem law_run {k : Nat} {mg mb : Str → Option Value} {fa : Addr} {fd : FuncData} {x : Str} {sp : Sp} {s₁ : Shared} {T : List (Addr × Str)}
    (KX : K.In s₁.heap) (nsG : s₁.heap.Ns mainGlobals mg) (nsB : s₁.heap.Ns builtinsNs mb) (bb : ∀ x : Str, x ≠ "__name__" → mb x = bootBuiltins x) (lim : s₁.heap.NoLimit) (g0 : s₁.gens = #[])
    (hT : ∀ p ∈ cs, s₁.heap.get? p.2 = some { cls := .none, data := .fields #[] }) (nT : ∀ p ∈ cs, K.lookup p.2 = none) (C : ∀ p ∈ cs, PySem.W.CodeHd s₁.heap p.1 p.2)
    (bm : ∃ (b : Addr) (ob : Obj), mg "__builtins__" = some (.ref b) ∧ b ≠ builtinsNs ∧ s₁.heap.get? b = some ob ∧ ob.cls = .type "module" ∧ ob.dict = some builtinsNs ∧ ob.data = .plain)
    (ha : s₁.heap.get? a = some { cls := .type "list", data := .seq items.toArray }) (hi : IntsAre items ns) (hl : ns.length ≤ sizeLine) (hr : Room k callerA)
    (F : ∀ base : Heap, K.In base → base.Ns mainGlobals mg → (∀ p ∈ cs, LamX.TabB base mg p.1 p.2) → FnE P w K mg base k fa fd [x] sp) (bind : ∀ u : Value, BindsTo s₁ fd ⟨[u], []⟩ [(x, u)])
    (hsp : ∀ H : Hp, Beg P w K s₁.heap cs a items ns H → sp [.ref a] H (fun v _ => v = .bl true) E0) :
    codeAny (model P w) callerA (.call (.ref fa) ⟨[.ref a], []⟩) (fun r s' => r = .ok (.ret (.bool true)) ∧ OldK s₁.heap s'.heap ∧ s'.os = s₁.os ∧ AllBare s'.gens) s₁ := by
  obtain ⟨H, B⟩ := beg_of (P := P) (w := w) KX hT ha hi hl
  -- what isn't tracked stands in the base
  have shown : ∀ {b : Addr} {o : Obj}, s₁.heap.get? b = some o → H b = none → (hidT s₁.heap H).get? b = some o := fun e n => hidT_get e n
  have plain : ∀ {b : Addr} {o : Obj}, s₁.heap.get? b = some o → (∀ xs n, o.data ≠ .seq xs n) → o.data ≠ .fields #[] → H b = none := by
    intro b o e n1 n2
    by_cases hb : b ∈ cs.map (·.2)
    · obtain ⟨p, hp, rfl⟩ := List.mem_map.mp hb
      have q := e.symm.trans (hT p hp)
      injection q with q
      exact absurd (by rw [q]) n2
    · rcases B.only b hb with z | ⟨rfl, _⟩
      · exact z
      · have q := e.symm.trans ha
        injection q with q
        exact absurd (by rw [q]) (n1 items.toArray 0)
  have ofDict : ∀ {b : Addr} {o : Obj} {es : Array DictEntry} {ep : Nat}, s₁.heap.get? b = some o → o.data = .dict es ep → H b = none := fun e d =>
    plain e (fun xs n z => by rw [d] at z; cases z) (fun z => by rw [d] at z; cases z)
  have nsH : ∀ {b : Addr} {m : Str → Option Value}, s₁.heap.Ns b m → (hidT s₁.heap H).Ns b m := fun q => by
    obtain ⟨o, es, ep, e, d, rest⟩ := q
    exact ⟨o, es, ep, shown e (ofDict e d), d, rest⟩
  have inH : K.In (hidT s₁.heap H) := fun b o e => by
    refine shown (KX b o e) ?_
    by_cases hb : b ∈ cs.map (·.2)
    · obtain ⟨p, hp, rfl⟩ := List.mem_map.mp hb
      rw [nT p hp] at e; cases e
    · rcases B.only b hb with z | ⟨rfl, n, _⟩
      · exact z
      · rw [n] at e; cases e
  have notG : ∀ {b : Addr} {o : Obj}, s₁.heap.get? b = some o → (∀ es ep, o.data ≠ .dict es ep) → b ≠ mainGlobals := by
    intro b o e n z
    obtain ⟨og, es, ep, eg, dg, _⟩ := nsG
    rw [z, eg] at e
    injection e with e
    exact n es ep (e ▸ dg)
  have TB : ∀ p ∈ cs, LamX.TabB (hidT s₁.heap H) mg p.1 p.2 := by
    intro p hp
    refine ⟨?_, ?_, fun z => notG (hT p hp) (fun es ep q => by cases q) z.symm⟩
    · obtain ⟨o, us, file, tf, flags, tg, inF, text, tt, e1, r1, r2, r3, rest⟩ := C p hp
      refine ⟨o, us, file, tf, flags, tg, inF, text, tt, shown e1 (plain e1 (fun xs n z => by rw [r2] at z; cases z) fun z => ?_), r1, r2, r3, rest⟩
      rw [r2] at z
      injection z with z
      rw [z] at r3
      simp at r3
    · obtain ⟨b, ob, b1, b2, b3, b4, b5, b6⟩ := bm
      have dp : ∀ {d : Data}, d = ob.data → d = .plain := fun e => e.trans b6
      refine ⟨b, ob, b1, b2, notG b3 (fun es ep q => by rw [b6] at q; cases q), fun z => ?_, shown b3 (plain b3 (fun xs n z => by rw [b6] at z; cases z) fun z => by rw [b6] at z; cases z), b4, b5, b6⟩
      have q := b3.symm.trans (z ▸ hT p hp)
      injection q with q
      rw [q] at b6
      cases b6
  have md : L2.Mod K mg (hidT s₁.heap H) := by
    obtain ⟨mc, l1, l2⟩ := lim
    exact ⟨inH, nsH nsG, ⟨mb, nsH nsB, bb⟩, mc, nsH l1, l2⟩
  have env : Env0 P w K mg (hidT s₁.heap H) callerA [] s₁ H := { frames := rfl, mod := md, bs := fun b o e => of_hidT e, bsz := Nat.le_of_eq (hidT_size _ _), funs := trivial, frf := fun b hb => absurd (show b ∈ ([] : List Addr) from hb) (by simp), hok := B.ok, bare := .of_eq g0 }
  have run := (F _ inH (nsH nsG) TB).run callerA [] s₁ H [.ref a] [.ref a] (fun v _ => v = .bl true) hr rfl env (.cons rfl .nil) (hsp H B) ⟨[.ref a], []⟩ (bind (.ref a))
  refine codeAny_mono run fun r s' hq => ?_
  match r, hq with
  | .ok (.ret u), ⟨v, H', os, bare, un, hok', rel, q⟩ =>
    have q : v = .bl true := q
    subst q
    obtain rfl : u = Value.bool true := rel
    have stays : ∀ b o, b ∉ cs.map (·.2) → s₁.heap.get? b = some o → s'.heap.get? b = some o := by
      intro b o nb e
      rcases B.only b nb with z | ⟨_, _, ob, z⟩
      · exact un.keep b o e z (fun q => nomatch (show b ∈ ([] : List Addr) from q)) (by simp)
      · have k1 := (B.ok b _ z).1
        rw [e] at k1
        cases k1
        exact (hok' b _ (un.frzs b _ _ z)).1
    have grows : ∀ b, b ∈ cs.map (·.2) → ∃ p ∈ cs, p.2 = b ∧ ∃ more : Array Value, s'.heap.get? b = some { cls := .none, data := .fields more } := by
      intro b hb
      obtain ⟨p, hp, rfl⟩ := List.mem_map.mp hb
      obtain ⟨more, z⟩ := un.tbls p.2 #[] (B.tab p hp)
      exact ⟨p, hp, rfl, _, hok' p.2 _ z⟩
    refine ⟨rfl, ⟨fun b o e => ?_, fun b o e => ?_⟩, os, bare⟩
    · by_cases hb : b ∈ cs.map (·.2)
      · obtain ⟨p, hp, rfl, more, hm⟩ := grows b hb
        rw [hT p hp] at e
        cases e
        exact .inr (.inl ⟨((C p hp).tab (hT p hp)).isCodeTable, rfl, #[], more, rfl, by rw [Array.empty_append]; exact hm⟩)
      · exact .inl (stays b o hb e)
    · by_cases hb : b ∈ cs.map (·.2)
      · obtain ⟨p, hp, rfl, more, hm⟩ := grows b hb
        exact ⟨_, hm⟩
      · exact ⟨o, stays b o hb e⟩
/-- what a law's row asks of the evaluation -/
structure LawE (w : World) (K : PySem.W.Frag) (mg : Str → Option Value) (h : Heap) (k n : Nat) (f x : Str) : Prop where
  ex : ∃ (G : Pk) (fs : List (Str × List Str)) (bl : List Str) (cs : List (Addr × Addr)) (T : List (Addr × Str)),
    (∀ p ∈ cs, h.get? p.2 = some { cls := .none, data := .fields #[] }) ∧ (∀ p ∈ cs, K.lookup p.2 = none) ∧ (∀ p ∈ cs, PySem.W.CodeHd h p.1 p.2) ∧ T.map (·.1) = cs.map (·.2) ∧
    MdK w K mg G fs bl cs T ∧ fs.lookup f = some [x] ∧
    ∀ ns : List Int, ns.length ≤ n → (∀ z ∈ ns, Builtin.Int.intBits z ≤ 1048576) → ∃ fr st', evF G (k + 1) f [.scr ns] [] = some (.dat (.bool true) fr, st')
theorem walk_law {l : PySem.W.OpenLaw} {n k : Nat} {q : Program} {loose : List Str} {XP : (Str → Option Value) → Heap → Prop} {YP : World → Heap → Prop} {d : DefRec} {K : Params → PySem.W.Frag} {x : Str}
    (hn : l.most = some n) (hn2 : n ≤ sizeLine) (hdf : d.params.defaults = []) (hr : Room (2 * k + 2) callerA) (hY : ∀ (w : World) (h : Heap), YP w h → (K w.params).In h)
    (F : ∀ (w : World) (mg : Str → Option Value) (h : Heap), YP w h → (K w.params).In h → h.Ns mainGlobals mg →
      (∀ (f : Str) (a : Addr), ((recsOf q).any fun e => e.name == f) = true → mg f = some (.ref a) → LamX.OwnTab (K w.params) a h) → LawE w (K w.params) mg h k n d.name x) :
    PySem.W.WalkO q loose XP YP l.row.toRowW d [] (fun f vs => PySem.call f vs) := by
  refine Att.attach_callB hn hdf fun w s₀ s₁ mg mb fa o pm cd doc a vs ns G Y ho hd hcd hmg hobj hints hlen hbits hg => ?_
  have KX := hY w _ Y
  have own : ∀ (f : Str) (a : Addr), ((recsOf q).any fun e => e.name == f) = true → mg f = some (.ref a) → LamX.OwnTab (K w.params) a s₁.heap := by
    intro f a hf hma c P o1 fd1 e dd us sl k1 k2 k3 k4 k5
    obtain ⟨dr, hdr, hname⟩ := List.any_eq_true.mp hf
    obtain ⟨a2, o2, fd2, c2, P2, m1, m2, m3, m4, m5, m6⟩ := G.T.tab dr hdr
    rw [beq_iff_eq.mp hname, hma] at m1
    cases m1
    have z1 := m2.symm.trans (KX _ _ k1)
    cases z1
    have z2 := m3.symm.trans k2
    cases z2
    have z3 := m4.symm.trans k3
    cases z3
    obtain ⟨⟨oc, vc, n1, n2, n3, n4⟩, hP⟩ := m6
    have z4 := n1.symm.trans (KX _ _ k4)
    cases z4
    cases n3
    have z5 := n4.symm.trans k5
    cases z5
    exact hP
  obtain ⟨Gp, fs, bl, cs, T, hT, nT, C, hTc, m, hfs, hev⟩ := (F w mg _ Y KX G.T.g own).ex
  obtain ⟨a', fd, e1, e2, hb, hm⟩ := m.fn d.name [x] hfs
  rw [hmg] at e1
  cases e1
  obtain ⟨fr, st', he⟩ := hev ns hlen hbits
  refine law_run (k := 2 * k + 2) (T := T) (sp := spC (K w.params) T (evF Gp (k + 1)) d.name 1) KX G.T.g G.T.b G.T.builtins G.T.nolimit hg hT nT C G.T.bmain hobj hints (Nat.le_trans hlen hn2) hr (fun base inB nsB tb => run_fn m.b tb hm (cl_ok m tb k)) (fun u => hb _ [u] KX rfl) fun H B => ?_
  refine ⟨rfl, [], [], [.scr ns], [], _, _, ⟨rfl, (fun n ds e => by simp at e), List.nodup_nil, (fun a ha => by cases ha), (fun a ha => by cases ha), fun p hp => ?_, fun a ps e => ?_⟩, ⟨⟨a, rfl, B.scr⟩, True.intro⟩, he, fun v H' p => ?_⟩
  · have : p.1 ∈ cs.map (·.2) := by rw [← hTc]; exact List.mem_map.mpr ⟨p, hp, rfl⟩
    obtain ⟨c, hc, e⟩ := List.mem_map.mp this
    exact LamX.TabS.nil (by rw [← e]; exact B.tab c hc)
  · rw [hTc]
    refine Decidable.byContradiction fun hn => ?_
    rcases B.only a hn with z | ⟨_, _, o, z⟩ <;> rw [z] at e <;> cases e
  · cases (show RD (K w.params) [] H' v (.bool true) from p.rr)
    rfl
end
end Ev
set_option linter.all false
set_option maxRecDepth 100000
set_option maxHeartbeats 4000000
namespace Ev
open PySem PySem.Spec L2 PyProof.Rows
/-- a def of the module, as the top wrote it -/
structure FF (K : PySem.W.Frag) (f : Str) (st : Stmt) : Prop where
  ex : ∃ (a : Addr) (oc : Value) (od : Option Addr) (kV doc pm : Value) (an : Option Addr) (cdv ct : Value) (osl : Array (Option Value)),
    PySem.W.nsIn K mainGlobals f = some (some (.ref a)) ∧ K.lookup a = some ⟨oc, od, .func (PySem.W.fnOf f f (defArgs st) (defBody st) (defScope st) .none kV doc pm an cdv ct), osl⟩ ∧ PySem.W.codeIn K cdv f = true ∧ PySem.W.keepIn K (.ref a) = true
theorem ff_mk {K : PySem.W.Frag} {f : Str} {st : Stmt} {a : Addr} {oc : Value} {od : Option Addr} {kV doc pm : Value} {an : Option Addr} {cdv ct : Value} {osl : Array (Option Value)}
    (h1 : PySem.W.nsIn K mainGlobals f = some (some (.ref a))) (h2 : K.lookup a = some ⟨oc, od, .func (PySem.W.fnOf f f (defArgs st) (defBody st) (defScope st) .none kV doc pm an cdv ct), osl⟩) (h3 : PySem.W.codeIn K cdv f = true) (h4 : PySem.W.keepIn K (.ref a) = true) : FF K f st :=
  ⟨a, oc, od, kV, doc, pm, an, cdv, ct, osl, h1, h2, h3, h4⟩
/-- .. that makes lambdas: c its code object, P the table -/
structure FL (K : PySem.W.Frag) (f : Str) (st : Stmt) (c P : Addr) : Prop where
  ex : ∃ (a : Addr) (oc : Value) (od : Option Addr) (kV doc pm : Value) (an : Option Addr) (ct : Value) (osl : Array (Option Value)),
    PySem.W.nsIn K mainGlobals f = some (some (.ref a)) ∧ K.lookup a = some ⟨oc, od, .func (PySem.W.fnOf f f (defArgs st) (defBody st) (defScope st) .none kV doc pm an (.ref c) ct), osl⟩ ∧ PySem.W.codeIn K (.ref c) f = true ∧ PySem.W.keepIn K (.ref a) = true
  lc : ∃ e dd vs sl, K.lookup c = some ⟨e, dd, .fields vs, sl⟩ ∧ vs[11]? = some (.ref P)
  hd : PySem.W.codeHdIn K c P = true
  np : K.lookup P = none
theorem fl_mk {K : PySem.W.Frag} {f : Str} {st : Stmt} {a c P : Addr} {oc : Value} {od : Option Addr} {kV doc pm : Value} {an : Option Addr} {ct : Value} {osl : Array (Option Value)} {e : Value} {dd : Option Addr} {vs : Array Value} {sl : Array (Option Value)}
    (h1 : PySem.W.nsIn K mainGlobals f = some (some (.ref a))) (h2 : K.lookup a = some ⟨oc, od, .func (PySem.W.fnOf f f (defArgs st) (defBody st) (defScope st) .none kV doc pm an (.ref c) ct), osl⟩) (h3 : PySem.W.codeIn K (.ref c) f = true) (h4 : PySem.W.keepIn K (.ref a) = true)
    (h5 : K.lookup c = some ⟨e, dd, .fields vs, sl⟩) (h6 : vs[11]? = some (.ref P)) (h7 : PySem.W.codeHdIn K c P = true) (h8 : K.lookup P = none) : FL K f st c P :=
  ⟨⟨a, oc, od, kV, doc, pm, an, ct, osl, h1, h2, h3, h4⟩, ⟨e, dd, vs, sl, h5, h6⟩, h7, h8⟩
/-- a constant of the module -/
structure CF (K : PySem.W.Frag) (x : Str) (d : D) : Prop where
  ex : ∃ u v, PySem.W.nsIn K mainGlobals x = some (some u) ∧ RelV v u ∧ ∀ φ H, RD K φ H v d
theorem cf_int {K : PySem.W.Frag} {x : Str} {i : Int} {t : Tok} (h : PySem.W.nsIn K mainGlobals x = some (some (.int i t))) : CF K x (.int i) := ⟨_, .int i, h, ⟨t, rfl⟩, fun _ _ => .int i⟩
theorem cf_strs2 {K : PySem.W.Frag} {x a b : Str} {p : Addr} {s t : Tok} {dd : Option Addr} {n : Nat} {sl : Array (Option Value)} (h : PySem.W.nsIn K mainGlobals x = some (some (.ref p))) (h2 : K.lookup p = some ⟨.type "tuple", dd, .seq #[.str a s, .str b t] n, sl⟩) : CF K x (.tuple [.str a, .str b]) :=
  ⟨_, .ref p, h, rfl, fun φ H => .tup (xs := [.str a, .str b]) (.inr ⟨_, _, _, h2, rfl, rfl, (by show 2 ≤ sizeLine; decide), .cons ⟨s, rfl⟩ (.cons ⟨t, rfl⟩ .nil)⟩) (.cons (.str a) (.cons (.str b) .nil))⟩
theorem cf_ints2 {K : PySem.W.Frag} {x : Str} {a b : Int} {p : Addr} {s t : Tok} {dd : Option Addr} {n : Nat} {sl : Array (Option Value)} (h : PySem.W.nsIn K mainGlobals x = some (some (.ref p))) (h2 : K.lookup p = some ⟨.type "tuple", dd, .seq #[.int a s, .int b t] n, sl⟩) : CF K x (.tuple [.int a, .int b]) :=
  ⟨_, .ref p, h, rfl, fun φ H => .tup (xs := [.int a, .int b]) (.inr ⟨_, _, _, h2, rfl, rfl, (by show 2 ≤ sizeLine; decide), .cons ⟨s, rfl⟩ (.cons ⟨t, rfl⟩ .nil)⟩) (.cons (.int a) (.cons (.int b) .nil))⟩
/-- a dict of the module, of two texts to texts -/
structure DF (K : PySem.W.Frag) (w : World) (g : Str) (kvs : List (Str × D)) : Prop where
  ex : ∃ p, PySem.W.nsIn K mainGlobals g = some (some (.ref p)) ∧ ∀ k d, kvs.lookup k = some d → ∃ v, KDct K w p k v ∧ ∀ φ H, RD K φ H v d
theorem df_2 {K : PySem.W.Frag} {w : World} {g a b c d : Str} {p : Addr} {es : Array DictEntry} {n : Nat} {t u : Tok} (h : PySem.W.nsIn K mainGlobals g = some (some (.ref p))) (h2 : K.lookup p = some ⟨.type "dict", none, .dict es n, #[]⟩) (h3 : PySem.W.KeysLit w.params es.toList)
    (h4 : PySem.W.nsIn K p a = some (some (.str c t))) (h5 : PySem.W.nsIn K p b = some (some (.str d u))) : DF K w g [(a, .str c), (b, .str d)] := by
  refine ⟨p, h, fun k x hk => ?_⟩
  simp only [List.lookup] at hk
  split at hk
  · rename_i e
    cases hk
    rw [beq_iff_eq.mp e]
    exact ⟨.str c, ⟨es, n, _, h2, h3, h4, t, rfl⟩, fun _ _ => .str c⟩
  · split at hk
    · rename_i e
      cases hk
      rw [beq_iff_eq.mp e]
      exact ⟨.str d, ⟨es, n, _, h2, h3, h5, u, rfl⟩, fun _ _ => .str d⟩
    · cases hk
/-- what is known of a def's text -/
structure SI (G : Pk) (fs : List (Str × List Str)) (bl : List Str) (f : Str) (ps : List Str) (st : Stmt) (F : FnD) (N : List Str) : Prop where
  S : FnScope N ps (defScope st)
  fn : G.fn f = some F
  p : F.ps = ps.length
  l : F.len = N.length
  le : ps.length ≤ N.length
  ch : chSs fs bl G F.body ⟨N, defScope st, ownB (defScope st), if F.lam = true then some (lamQ f) else none⟩ (defBody st) = true
  b : ∀ (kV doc pm : Value) (an : Option Addr) (cdv ct : Value) (us : List Value), us.length = ps.length → bindArgs (PySem.W.fnOf f f (defArgs st) (defBody st) (defScope st) .none kV doc pm an cdv ct) ⟨us, []⟩ = pure (ps.zip us)
/-- .. and of a call of it by names -/
structure KB (f : Str) (ps : List Str) (st : Stmt) (ks : List Str) (ix : List Nat) : Prop where
  len : ix.length = ps.length
  lt : ∀ i ∈ ix, i < ks.length
  b : ∀ (kV doc pm : Value) (an : Option Addr) (cdv ct : Value) (ws : List Value), ws.length = ks.length → bindArgs (PySem.W.fnOf f f (defArgs st) (defBody st) (defScope st) .none kV doc pm an cdv ct) ⟨[], ks.zip ws⟩ = pure (ps.zip (pick ix ws))
/-- a def: its text and what the top wrote -/
inductive FI (K : PySem.W.Frag) (G : Pk) (fs : List (Str × List Str)) (bl : List Str) (cs : List (Addr × Addr)) (T : List (Addr × Str)) (f : Str) (ps : List Str) (st : Stmt) : Prop
  | plain {F : FnD} {N : List Str} (i : SI G fs bl f ps st F N) (k : FF K f st) (n : F.lam = false) : FI K G fs bl cs T f ps st
  | lam {F : FnD} {N : List Str} {c P : Addr} (i : SI G fs bl f ps st F N) (k : FL K f st c P) (h1 : (c, P) ∈ cs) (h2 : (P, lamQ f) ∈ T) (h3 : ∀ p ∈ T, p.1 = P → p.2 = lamQ f) : FI K G fs bl cs T f ps st
section
variable {w : World} {K : PySem.W.Frag} {mg : Str → Option Value} {h : Heap} {G : Pk} {fs : List (Str × List Str)} {bl : List Str} {cs : List (Addr × Addr)} {T : List (Addr × Str)} {f : Str} {ps : List Str} {st : Stmt}
theorem FI.get (X : K.In h) (G0 : h.Ns mainGlobals mg) (i : FI K G fs bl cs T f ps st) : ∃ (a : Addr) (kV doc pm : Value) (an : Option Addr) (cdv ct : Value), mg f = some (.ref a) ∧ PySem.W.keepIn K (.ref a) = true ∧
    (∀ us : List Value, us.length = ps.length → bindArgs (PySem.W.fnOf f f (defArgs st) (defBody st) (defScope st) .none kV doc pm an cdv ct) ⟨us, []⟩ = pure (ps.zip us)) ∧
    FnM K G fs bl cs T f ps (PySem.W.fnOf f f (defArgs st) (defBody st) (defScope st) .none kV doc pm an cdv ct) a := by
  cases i with
  | plain i k n =>
    rename_i F N
    obtain ⟨a, oc, od, kV, doc, pm, an, cdv, ct, osl, h1, h2, h3, h4⟩ := k.ex
    exact ⟨a, kV, doc, pm, an, cdv, ct, PySem.W.mg_of X G0 h1, h4, i.b kV doc pm an cdv ct, ⟨st, F, N, oc, od, kV, doc, pm, an, cdv, ct, osl, rfl, h2, h3, i.S, i.fn, i.p, i.l, i.le, i.ch, fun z => by rw [n] at z; cases z⟩⟩
  | lam i k q1 q2 q3 =>
    rename_i F N c P
    obtain ⟨a, oc, od, kV, doc, pm, an, ct, osl, h1, h2, h3, h4⟩ := k.ex
    exact ⟨a, kV, doc, pm, an, .ref c, ct, PySem.W.mg_of X G0 h1, h4, i.b kV doc pm an (.ref c) ct, ⟨st, F, N, oc, od, kV, doc, pm, an, .ref c, ct, osl, rfl, h2, h3, i.S, i.fn, i.p, i.l, i.le, i.ch, fun _ => ⟨c, P, rfl, q1, q2, q3⟩⟩⟩
def AllF (K : PySem.W.Frag) (G : Pk) (fs : List (Str × List Str)) (bl : List Str) (cs : List (Addr × Addr)) (T : List (Addr × Str)) : List (Str × List Str) → Prop
  | [] => True
  | (f, ps) :: r => (∃ st, FI K G fs bl cs T f ps st) ∧ AllF K G fs bl cs T r
theorem AllF.get : ∀ {l : List (Str × List Str)}, AllF K G fs bl cs T l → l.lookup f = some ps → ∃ st, FI K G fs bl cs T f ps st
  | [], _, h => by cases h
  | (g, qs) :: r, a, h => by
    simp only [List.lookup] at h
    split at h
    · rename_i e
      cases h
      rw [beq_iff_eq.mp e]
      exact a.1
    · exact AllF.get a.2 h
def AllK (K : PySem.W.Frag) (G : Pk) (fs : List (Str × List Str)) (bl : List Str) (cs : List (Addr × Addr)) (T : List (Addr × Str)) : List (Str × List Str × List Nat) → Prop
  | [] => True
  | (f, ks, ix) :: r => (∃ ps st, FI K G fs bl cs T f ps st ∧ KB f ps st ks ix) ∧ AllK K G fs bl cs T r
theorem AllK.get {ks : List Str} {ix : List Nat} : ∀ {l : List (Str × List Str × List Nat)}, AllK K G fs bl cs T l → (f, ks, ix) ∈ l → ∃ ps st, FI K G fs bl cs T f ps st ∧ KB f ps st ks ix
  | [], _, h => by cases h
  | (g, qs, jx) :: r, a, h => by
    rcases List.mem_cons.mp h with e | h
    · cases e
      exact a.1
    · exact AllK.get a.2 h
def AllB (K : PySem.W.Frag) : List Str → Prop
  | [] => True
  | x :: r => PySem.W.nsIn K mainGlobals x = some none ∧ AllB K r
theorem AllB.get {x : Str} : ∀ {l : List Str}, AllB K l → x ∈ l → PySem.W.nsIn K mainGlobals x = some none
  | [], _, h => by cases h
  | y :: r, a, h => by
    rcases List.mem_cons.mp h with rfl | h
    · exact a.1
    · exact AllB.get a.2 h
def AllC (K : PySem.W.Frag) : List (Str × D) → Prop
  | [] => True
  | (x, d) :: r => CF K x d ∧ AllC K r
theorem AllC.get {x : Str} {d : D} : ∀ {l : List (Str × D)}, AllC K l → l.lookup x = some d → CF K x d
  | [], _, h => by cases h
  | (y, e) :: r, a, h => by
    simp only [List.lookup] at h
    split at h
    · rename_i q
      cases h
      rw [beq_iff_eq.mp q]
      exact a.1
    · exact AllC.get a.2 h
def AllD (K : PySem.W.Frag) (w : World) : List (Str × List (Str × D)) → Prop
  | [] => True
  | (x, d) :: r => DF K w x d ∧ AllD K w r
theorem AllD.get {x : Str} {d : List (Str × D)} : ∀ {l : List (Str × List (Str × D))}, AllD K w l → l.lookup x = some d → DF K w x d
  | [], _, h => by cases h
  | (y, e) :: r, a, h => by
    simp only [List.lookup] at h
    split at h
    · rename_i q
      cases h
      rw [beq_iff_eq.mp q]
      exact a.1
    · exact AllD.get a.2 h
theorem mdk_of {cons : List (Str × D)} {dics : List (Str × List (Str × D))} (X : K.In h) (G0 : h.Ns mainGlobals mg) (ec : ∀ x, G.con x = cons.lookup x) (ed : ∀ x, G.dic x = dics.lookup x) (af : AllF K G fs bl cs T fs) (ak : AllK K G fs bl cs T G.kc) (ab : AllB K bl) (ac : AllC K cons) (ad : AllD K w dics) :
    MdK w K mg G fs bl cs T := by
  refine ⟨⟨fun x hx => PySem.W.mg_none_of X G0 (ab.get hx), fun x d hd => ?_, fun g kvs hd => ?_⟩, fun f ps hf => ?_, fun f ks ix hk => ?_⟩
  · rw [ec] at hd
    obtain ⟨u, v, h1, h2, h3⟩ := (ac.get hd).ex
    exact ⟨u, v, PySem.W.mg_of X G0 h1, h2, h3⟩
  · rw [ed] at hd
    obtain ⟨p, h1, h2⟩ := (ad.get hd).ex
    exact ⟨p, PySem.W.mg_of X G0 h1, h2⟩
  · obtain ⟨st, i⟩ := af.get hf
    obtain ⟨a, kV, doc, pm, an, cdv, ct, h1, h2, h3, h4⟩ := i.get X G0
    exact ⟨a, _, h1, h2, .all h3, h4⟩
  · obtain ⟨ps, st, i, kb⟩ := ak.get hk
    cases i with
    | plain i k n =>
      rename_i F N
      obtain ⟨a, oc, od, kV, doc, pm, an, cdv, ct, osl, h1, h2, h3, h4⟩ := k.ex
      exact ⟨ps, a, _, PySem.W.mg_of X G0 h1, h4, kb.len, kb.lt, fun s ws hw => .of_eq (kb.b kV doc pm an cdv ct ws hw), ⟨st, F, N, oc, od, kV, doc, pm, an, cdv, ct, osl, rfl, h2, h3, i.S, i.fn, i.p, i.l, i.le, i.ch, fun z => by rw [n] at z; cases z⟩⟩
    | lam i k q1 q2 q3 =>
      rename_i F N c P
      obtain ⟨a, oc, od, kV, doc, pm, an, ct, osl, h1, h2, h3, h4⟩ := k.ex
      exact ⟨ps, a, _, PySem.W.mg_of X G0 h1, h4, kb.len, kb.lt, fun s ws hw => .of_eq (kb.b kV doc pm an (.ref c) ct ws hw), ⟨st, F, N, oc, od, kV, doc, pm, an, .ref c, ct, osl, rfl, h2, h3, i.S, i.fn, i.p, i.l, i.le, i.ch, fun _ => ⟨c, P, rfl, q1, q2, q3⟩⟩⟩
end
end Ev
set_option linter.all false
set_option maxRecDepth 1000000
set_option maxHeartbeats 4000000
/-! W1: what the helpers that the laws share work out to, over any package that has them. -/
namespace Wl
open PySem PySem.Spec L2 Ev
def i_pen : FnD := ⟨1, 1, [], false,
  [(.ret (some (.lst [(.blt .max [(.int 0), (.bin .Sub (.slot 0) (.bin .Pow (.int 10) (.int 18)))]), (.bin .Add (.bin .Mod (.slot 0) (.int 2147483629)) (.int 1)), (.int 0)])))]⟩
def i_cell_at : FnD := ⟨2, 2, [], false,
  [(.ite (.cmp .Lt (.slot 1) (.slen 0)) [(.ret (some (.sidx 0 (.slot 1))))] []), (.ret (some (.int 0)))]⟩
def i_board : FnD := ⟨2, 10, [0, 2], false,
  [(.par [6, 7] [(.idx (.lst [(.int 100), (.int 30), (.int 12), (.int 100)]) (.call ("_law_draw" : Str) [(.slot 0), (.int 4)])), (.bin .Add (.int 3) (.call ("_law_draw" : Str) [(.slot 0), (.bin .Sub (.slot 1) (.int 2))]))]), (.asg (.nm 2) (.lst [])), (.loop (.nm 3) (.rng [(.int 30)]) [(.asg (.nm 8) (.tup [(.call ("_law_draw" : Str) [(.slot 0), (.slot 6)]), (.call ("_law_draw" : Str) [(.slot 0), (.slot 6)])])), (.ite (.land (.cmp .Lt (.blt .len [(.slot 2)]) (.slot 7)) (.call ("_law_fits" : Str) [(.slot 2), (.slot 8)])) [(.app 2 (.slot 8))] [])]), (.ite (.cmp .Lt (.blt .len [(.slot 2)]) (.int 3)) [(.asg (.nm 2) (.lst [(.tup [(.int 28), (.int 35)]), (.tup [(.int 29), (.int 28)]), (.tup [(.int 32), (.int 37)]), (.tup [(.int 12), (.int 11)])])), (.asg (.nm 2) (.cut (.bin .Add (.slot 2) (.lst [(.tup [(.int 32), (.int 30)]), (.tup [(.int 39), (.int 11)]), (.tup [(.int 19), (.int 9)]), (.tup [(.int 5), (.int 34)])])) none (some (.slot 7))))] []), (.asg (.nm 4) (.call ("_law_draw" : Str) [(.slot 0), (.int 6)])), (.asg (.nm 5) (.lc [(("_law_spot_here" : Str), 8)] (.nm 8) (.of (.slot 2)) [] (.idx (.lst [(.str ("left" : Str)), (.str ("right" : Str))]) (.call ("_law_draw" : Str) [(.slot 0), (.int 2)])))), (.ite (.cmp .Lt (.slot 4) (.int 2)) [(.asg (.nm 5) (.bin .Mult (.lst [(.idx (.lst [(.str ("left" : Str)), (.str ("right" : Str))]) (.slot 4))]) (.blt .len [(.slot 2)])))] []), (.ret (some (.blt .tup [(.lc [(("_law_spot_here" : Str), 8), (("_law_way" : Str), 9)] (.tp [(.nm 8), (.nm 9)]) (.zip (.slot 2) (.slot 5)) [] (.bin .Add (.slot 8) (.tup [(.slot 9)])))])))]⟩
def i_chart : FnD := ⟨1, 8, [2, 3, 6], false,
  [(.par [2, 3] [(.lst []), (.lst [])]), (.loop (.nm 1) (.rng [(.blt .len [(.slot 0)])]) [(.loop (.nm 4) (.of (.lc [(("_law_other" : Str), 4)] (.nm 4) (.rng [(.blt .len [(.slot 0)])]) [(.cmp .NotEq (.slot 4) (.slot 1))] (.slot 4))) [(.asg (.nm 5) (.call ("_law_far" : Str) [(.slot 0), (.slot 1), (.slot 4)])), (.asg (.nm 6) (.ite (.cmp .Gt (.call ("_law_cross" : Str) [(.tup [(.int 1000), (.int 1)]), (.slot 5)]) (.int 0)) (.slot 2) (.slot 3))), (.asg (.nm 7) (.int 0)), (.whl (.land (.cmp .Lt (.slot 7) (.blt .len [(.slot 6)])) (.cmp .Gt (.call ("_law_cross" : Str) [(.idx (.idx (.slot 6) (.slot 7)) (.int 0)), (.slot 5)]) (.int 0))) [(.asg (.nm 7) (.bin .Add (.slot 7) (.int 1)))]), (.ins 6 (.slot 7) (.tup [(.slot 5), (.slot 1), (.slot 4)]))])]), (.ret (some (.bin .Add (.slot 2) (.slot 3))))]⟩
def i_pick : FnD := ⟨2, 2, [0], false,
  [(.ret (some (.idx (.slot 1) (.call ("_law_draw" : Str) [(.slot 0), (.blt .len [(.slot 1)])]))))]⟩
def i_draw : FnD := ⟨2, 4, [0], false,
  [(.ite (.cmp .Gt (.idx (.slot 0) (.int 0)) (.int 0)) [(.asg (.nm 3) (.bin .Mod (.idx (.slot 0) (.int 0)) (.slot 1))), (.seti 0 (.int 0) (.bin .FloorDiv (.idx (.slot 0) (.int 0)) (.slot 1))), (.ret (some (.slot 3)))] []), (.seti 0 (.int 2) (.bin .Add (.idx (.slot 0) (.int 2)) (.int 1))), (.seti 0 (.int 1) (.bin .Mod (.bin .Add (.bin .Add (.bin .Mult (.idx (.slot 0) (.int 1)) (.int 48271)) (.bin .Mult (.int 1009) (.idx (.slot 0) (.int 2)))) (.int 7)) (.int 2147483647))), (.asg (.nm 2) (.bin .Mod (.bin .Add (.bin .Add (.bin .Mult (.idx (.slot 0) (.int 1)) (.idx (.slot 0) (.int 1))) (.bin .Mult (.int 69621) (.idx (.slot 0) (.int 1)))) (.int 11)) (.int 2147483629))), (.asg (.nm 2) (.bin .Mod (.bin .Add (.bin .Mult (.slot 2) (.slot 2)) (.bin .Mult (.int 40014) (.slot 2))) (.int 2147483587))), (.ret (some (.bin .Mod (.bin .FloorDiv (.slot 2) (.int 16)) (.slot 1))))]⟩
def i_same : FnD := ⟨2, 2, [], false,
  [(.ret (some (.cmp .Eq (.blt .rep [(.slot 0)]) (.blt .rep [(.slot 1)]))))]⟩
def i_fits : FnD := ⟨2, 8, [3], false,
  [(.asg (.nm 2) (.bin .Add (.blt .lst [(.slot 0)]) (.lst [(.slot 1)]))), (.asg (.nm 3) (.lst [])), (.loop (.nm 4) (.rng [(.blt .len [(.slot 2)])]) [(.loop (.nm 5) (.rng [(.slot 4)]) [(.asg (.nm 6) (.call ("_law_far" : Str) [(.slot 2), (.slot 5), (.slot 4)])), (.ite (.cmp .Eq (.slot 6) (.tup [(.int 0), (.int 0)])) [(.ret (some (.bl false)))] []), (.ite (.cmp .NotEq (.lc [(("_law_other" : Str), 7)] (.nm 7) (.of (.slot 3)) [(.cmp .Eq (.call ("_law_cross" : Str) [(.slot 6), (.slot 7)]) (.int 0))] (.slot 7)) (.lst [])) [(.ret (some (.bl false)))] []), (.app 3 (.slot 6))])]), (.ret (some (.bl true)))]⟩
def i_far : FnD := ⟨3, 3, [], false,
  [(.ret (some (.tup [(.bin .Sub (.idx (.idx (.slot 0) (.slot 2)) (.int 0)) (.idx (.idx (.slot 0) (.slot 1)) (.int 0))), (.bin .Sub (.idx (.idx (.slot 0) (.slot 2)) (.int 1)) (.idx (.idx (.slot 0) (.slot 1)) (.int 1)))])))]⟩
def i_cross : FnD := ⟨2, 2, [], false,
  [(.ret (some (.bin .Sub (.bin .Mult (.idx (.slot 0) (.int 0)) (.idx (.slot 1) (.int 1))) (.bin .Mult (.idx (.slot 0) (.int 1)) (.idx (.slot 1) (.int 0))))))]⟩

section
variable {G : Pk}
theorem evF_s {n : Nat} {f : Str} {args : List SV} {st : Sto} {F : FnD} (hF : G.fn f = some F) (hl : args.length = F.ps) :
    evF G (n + 1) f args st = finF st.length (evSs G (evF G n) F.mu F.body (args.map some ++ List.replicate (F.len - F.ps) none) st) := by
  simp only [evF, hF, if_pos hl]
section
variable {cl : Str → List SV → Sto → Option (ER × Sto)} {mu : List Nat}
theorem evSs_nx {s : IS} {ss : List IS} {env e1 : Ev.Env} {st s1 : Sto} (h : evS G cl mu s env st = some (.nx e1 s1)) : evSs G cl mu (s :: ss) env st = evSs G cl mu ss e1 s1 := by
  simp only [evSs, h]
theorem evSs_rt {s : IS} {ss : List IS} {env : Ev.Env} {st s1 : Sto} {r : ER} (h : evS G cl mu s env st = some (.rt r s1)) : evSs G cl mu (s :: ss) env st = some (.rt r s1) := by
  simp only [evSs, h]
theorem evSs_app : ∀ {xs ys : List IS} {env e1 : Ev.Env} {st s1 : Sto}, evSs G cl mu xs env st = some (.nx e1 s1) → evSs G cl mu (xs ++ ys) env st = evSs G cl mu ys e1 s1
  | [], ys, env, e1, st, s1, h => by
    simp only [evSs] at h
    cases h
    rfl
  | x :: xs, ys, env, e1, st, s1, h => by
    simp only [evSs] at h
    split at h
    · rename_i e2 s2 h2
      rw [List.cons_append, evSs_nx h2]
      exact evSs_app h
    · rename_i r hr
      exact absurd h (hr e1 s1)
end
theorem set_last {α : Type} (st : List α) (p q : α) : (st ++ [p]).set st.length q = st ++ [q] := by
  rw [List.set_append_right _ _ (Nat.le_refl _), Nat.sub_self]
  rfl
theorem get_last {α : Type} (st : List α) (p : α) : (st ++ [p])[st.length]? = some p := by
  rw [List.getElem?_append_right (Nat.le_refl _), Nat.sub_self]
  rfl
theorem cell_ok (hF : G.fn "_law_cell_at" = some i_cell_at) (n : Nat) (ns : List Int) (k : Nat) (st : Sto) : ∃ c : Int, evF G (n + 1) "_law_cell_at" [.scr ns, .dat (.int k)] st = some (.dat (.int c) false, st) := by
  rw [evF_s hF rfl]
  by_cases h : k < ns.length
  · refine ⟨ns[k], ?_⟩
    have h2 : (k : Int) < (ns.length : Int) := by omega
    simp [i_cell_at, evSs, evS, evE, tstE, rdE, cmpD, truD, finF, finR, erS, h, h2, atI_nat]
  · refine ⟨0, ?_⟩
    have h2 : ¬ (k : Int) < (ns.length : Int) := by omega
    simp [i_cell_at, evSs, evS, evE, tstE, rdE, cmpD, truD, finF, finR, erS, h, h2]
/-- a pen: what is left of the cell, the mixed state, how often it was drawn -/
structure Pen (l : List D) (m : Int) : Prop where
  ex : ∃ a b c : Int, l = [.int a, .int b, .int c] ∧ 0 ≤ a ∧ 0 ≤ b ∧ b < 2147483650 ∧ 0 ≤ c ∧ c ≤ m
theorem pen_ok (hF : G.fn "_law_pen" = some i_pen) (n : Nat) (c : Int) (st : Sto) : ∃ l, Pen l 0 ∧ evF G (n + 1) "_law_pen" [.dat (.int c)] st = some (.dat (.list l) true, st) := by
  refine ⟨[.int (if c - 10 ^ 18 > 0 then c - 10 ^ 18 else 0), .int (c % 2147483629 + 1), .int 0], ⟨_, _, _, rfl, by split <;> omega, by omega, by omega, by omega, by omega⟩, ?_⟩
  rw [evF_s hF rfl]
  simp [i_pen, evSs, evS, evE, evDs, evEs, rdEs, tstE, rdE, bltD, binD, truD, finF, finR, erS, sizeLine]
def drawB (b c am : Int) : Int :=
  let b1 := (b * 48271 + 1009 * c + 7) % 2147483647
  let m := (b1 * b1 + 69621 * b1 + 11) % 2147483629
  let m2 := (m * m + 40014 * m) % 2147483587
  m2 / 16 % am
/-- a draw: a number below am; the pen is used once more -/
theorem draw_ok (hF : G.fn "_law_draw" = some i_draw) (n : Nat) (st : Sto) (i : Nat) (l : List D) (m am : Int) (hi : st[i]? = some l) (hp : Pen l m) (hm0 : m ≤ 1000000) (hm : 0 < am) (hm2 : am ≤ 10 ^ 11) :
    ∃ (r : Int) (l' : List D), 0 ≤ r ∧ r < am ∧ Pen l' (m + 1) ∧ evF G (n + 1) "_law_draw" [.loc i, .dat (.int am)] st = some (.dat (.int r) false, st.set i l') := by
  obtain ⟨a, b, c, rfl, ha, hb, hb2, hc, hc2⟩ := hp.ex
  obtain ⟨hlt, hat⟩ := List.getElem?_eq_some_iff.mp hi
  rw [evF_s hF rfl]
  by_cases h : 0 < a
  · refine ⟨a % am, [.int (a / am), .int b, .int c], Int.emod_nonneg _ (by omega), Int.emod_lt_of_pos _ hm, ⟨_, _, _, rfl, Int.ediv_nonneg ha (by omega), hb, hb2, hc, by omega⟩, ?_⟩
    have hd : am < 1267650600228229401496703205376 := by omega
    simp [i_draw, evSs, evS, evE, tstE, rdE, cmpD, truD, finF, finR, erS, svE, binD, idxD, atI, ixN, stoE, hlt, hat, h, hm, hd]
    exact List.take_of_length_le (by simp)
  · have h0 : a = 0 := by omega
    subst h0
    clear hi
    refine ⟨drawB b (c + 1) am, [.int 0, .int ((b * 48271 + 1009 * (c + 1) + 7) % 2147483647), .int (c + 1)], Int.emod_nonneg _ (by omega), Int.emod_lt_of_pos _ hm, ⟨_, _, _, rfl, by omega, Int.emod_nonneg _ (by omega), by omega, by omega, by omega⟩, ?_⟩
    have q1 : ∀ x : Int, -18446744073709551616 < x % 2147483647 := fun x => by omega
    have q2 : ∀ x : Int, x % 2147483647 < 18446744073709551616 := fun x => by omega
    have q3 : ∀ x : Int, -18446744073709551616 < x % 2147483629 := fun x => by omega
    have q4 : ∀ x : Int, x % 2147483629 < 18446744073709551616 := fun x => by omega
    simp [i_draw, evSs, evS, evE, tstE, rdE, cmpD, truD, finF, finR, erS, svE, binD, idxD, atI, ixN, stoE, hat, hm, drawB, hlt, q1, q2, q3, q4]
    exact List.take_of_length_le (by simp)
theorem cross_ok (hF : G.fn "_law_cross" = some i_cross) (n : Nat) (st : Sto) (a b c d : Int) (ha : -18446744073709551616 < a ∧ a < 18446744073709551616) (hb : -18446744073709551616 < b ∧ b < 18446744073709551616) :
    evF G (n + 1) "_law_cross" [.dat (.tuple [.int a, .int b]), .dat (.tuple [.int c, .int d])] st = some (.dat (.int (a * d - b * c)) false, st) := by
  rw [evF_s hF rfl]
  simp [i_cross, evSs, evS, evE, rdE, finF, finR, erS, binD, idxD, atI, ixN, ha, hb]
theorem same_ok (hF : G.fn "_law_same" = some i_same) (n : Nat) (st : Sto) (a : D) (h : okRep a = true) : evF G (n + 1) "_law_same" [.dat a, .dat a] st = some (.dat (.bool true) false, st) := by
  rw [evF_s hF rfl]
  simp [i_same, evSs, evS, evE, evEs, rdEs, rdE, finF, finR, erS, svE, bltD, h, cmpD]
end
end Wl
set_option linter.all false
set_option maxRecDepth 1000000
set_option maxHeartbeats 4000000
/-! W2: pins that fit. -/
namespace Wl
open PySem PySem.Spec L2 Ev
/-- a place, told by the first two items of a tuple -/
def At (d : D) (p : Int × Int) : Prop := ∃ r, d = .tuple (.int p.1 :: .int p.2 :: r)
abbrev pr (p : Int × Int) : D := .tuple [.int p.1, .int p.2]
theorem At.pr (p : Int × Int) : At (pr p) p := ⟨[], rfl⟩
def gapP (p q : Int × Int) : Int × Int := (q.1 - p.1, q.2 - p.2)
def crossP (p q : Int × Int) : Int := p.1 * q.2 - p.2 * q.1
section
variable {G : Pk}
theorem far_ok (hF : G.fn "_law_far" = some i_far) (n : Nat) (st : Sto) (d u v : D) (i j : Int) (p q : Int × Int) (h1 : idxD d (.int i) = some u) (h2 : idxD d (.int j) = some v) (hu : At u p) (hv : At v q) :
    evF G (n + 1) "_law_far" [.dat d, .dat (.int i), .dat (.int j)] st = some (.dat (pr (gapP p q)) false, st) := by
  obtain ⟨r1, rfl⟩ := hu
  obtain ⟨r2, rfl⟩ := hv
  rw [evF_s hF rfl]
  have e0 : ∀ (x y : D) (r : List D), idxD (.tuple (x :: y :: r)) (.int 0) = some x := fun x y r => by
    have : (0 : Int) < ((r.length + 1 + 1 : Nat) : Int) := by omega
    simp only [idxD, atI, ixN, List.length_cons]
    rw [if_pos (by omega), if_pos this]
    rfl
  have e1 : ∀ (x y : D) (r : List D), idxD (.tuple (x :: y :: r)) (.int 1) = some y := fun x y r => by
    have : (1 : Int) < ((r.length + 1 + 1 : Nat) : Int) := by omega
    simp only [idxD, atI, ixN, List.length_cons]
    rw [if_pos (by omega), if_pos this]
    rfl
  simp [i_far, evSs, evS, evE, evDs, rdE, finF, finR, erS, binD, h1, h2, e0, e1, pr, gapP, sizeLine]
theorem idx_list {ds : List D} {k : Nat} {d : D} (h : ds[k]? = some d) : idxD (.list ds) (.int (k : Nat)) = some d := by
  obtain ⟨hk, e⟩ := List.getElem?_eq_some_iff.mp h
  simp only [idxD, atI, ixN]
  rw [if_pos (by omega), if_pos (by omega)]
  exact h
theorem idx_tup {ds : List D} {k : Nat} {d : D} (h : ds[k]? = some d) : idxD (.tuple ds) (.int (k : Nat)) = some d := by
  obtain ⟨hk, e⟩ := List.getElem?_eq_some_iff.mp h
  simp only [idxD, atI, ixN]
  rw [if_pos (by omega), if_pos (by omega)]
  exact h
/-- the ways that lie along a way -/
def alongP (w : Int × Int) (ws : List (Int × Int)) : List (Int × Int) := ws.filter fun z => crossP w z == 0
/-- the gaps from earlier pins to the pin k, added to ws; none where one is none or lies along another -/
def addP (q : Int × Int) : List (Int × Int) → List (Int × Int) → Option (List (Int × Int))
  | [], ws => some ws
  | p :: ps, ws => if gapP p q = (0, 0) then none else if (alongP (gapP p q) ws).isEmpty then addP q ps (ws ++ [gapP p q]) else none
def fitP : List (Int × Int) → List (Int × Int) → List (Int × Int) → Bool
  | _, [], _ => true
  | done, q :: qs, ws => match addP q done ws with
    | some ws' => fitP (done ++ [q]) qs ws'
    | none => false
/-- small enough to be multiplied -/
def Sm (p : Int × Int) : Prop := -1000000 < p.1 ∧ p.1 < 1000000 ∧ -1000000 < p.2 ∧ p.2 < 1000000
theorem eqv_pr (p : Int × Int) : PyData.eqv (pr p) (pr (0, 0)) = decide (p = (0, 0)) := by
  obtain ⟨a, b⟩ := p
  by_cases h : (a, b) = ((0 : Int), (0 : Int))
  · obtain ⟨rfl, rfl⟩ := Prod.mk.inj h
    decide +kernel
  · rw [decide_eq_false h]
    have : ¬ (a = 0 ∧ b = 0) := fun z => h (by rw [z.1, z.2])
    simp [PyData.eqv, PyData.eqvAll, pr]
    omega
/-- the list of ways that lie along a way, as the comprehension makes it -/
theorem along_ok (hC : G.fn "_law_cross" = some i_cross) (n : Nat) (env : Ev.Env) (st : Sto) (j : Nat) (ws : List (Int × Int)) (w : Int × Int) (hw : -2000000 < w.1 ∧ w.1 < 2000000 ∧ -2000000 < w.2 ∧ w.2 < 2000000) (h6 : env[6]? = some (some (.dat (pr w)))) (h3 : env[3]? = some (some (.loc j))) (hl : env.length = 8) (hj : st[j]? = some (ws.map pr)) (hz : ws.length ≤ sizeLine) :
    evE G (evF G (n + 1)) (.lc [(("_law_other" : Str), 7)] (.nm 7) (.of (.slot 3)) [(.cmp .Eq (.call ("_law_cross" : Str) [(.slot 6), (.slot 7)]) (.int 0))] (.slot 7)) env st = some (.dat (.list ((alongP w ws).map pr)) true, st) := by
  have kp : keptL st [(j, ws.map pr)] = true := by simp [keptL, hj, eqDs_refl]
  have step : ∀ (F : D → Sto → Option (List D × Sto)), (∀ z ∈ ws, F (pr z) st = some (if crossP w z = 0 then [pr z] else [], st)) → ∀ zs, (∀ z ∈ zs, z ∈ ws) → compL F (zs.map pr) st = some ((alongP w zs).map pr, st) := by
    intro F hF zs
    induction zs with
    | nil => intro _; rfl
    | cons z zs ih =>
      intro h
      have e := ih fun y hy => h y (List.mem_cons_of_mem _ hy)
      simp only [List.map_cons, compL, hF z (h z (List.mem_cons_self ..)), e, alongP, List.filter_cons]
      by_cases hz : crossP w z = 0 <;> simp [hz]
  have h6' : ∀ x : Option SV, ((env.set 7 none).set 7 x)[6]? = some (some (.dat (pr w))) := fun x => by
    rw [List.getElem?_set_ne (by decide), List.getElem?_set_ne (by decide)]; exact h6
  have h7' : ∀ x : Option SV, ((env.set 7 none).set 7 x)[7]? = some x := fun x => by
    rw [List.getElem?_set_self (by simp [hl])]
  have hlen : ((alongP w ws).map pr).length ≤ sizeLine := by
    rw [List.length_map]
    exact Nat.le_trans (List.length_filter_le _ _) hz
  simp only [evE, evI, h3, erS, srcE, hj, Option.map_some]
  rw [step _ (fun z hz => ?_) ws (fun _ h => h)]
  · simp only [hlen, if_true]
  · have hc := cross_ok hC n st w.1 w.2 z.1 z.2 (by omega) (by omega)
    have e7 : bindT (.nm 7) (pr z) (wipeE env [7]) = some ((env.set 7 none).set 7 (some (.dat (pr z)))) := by
      simp [bindT, wipeE, hl]
    have hs : okSh (.int (crossP w z)) = true ∧ okSh (.int 0) = true := ⟨rfl, rfl⟩
    have hq : PyData.eqv (.int (crossP w z)) (.int 0) = decide (crossP w z = 0) := by
      show (crossP w z == 0) = _
      rw [Bool.eq_iff_iff]
      simp
    have hc2 : evF G (n + 1) "_law_cross" [.dat (pr w), .dat (pr z)] st = some (.dat (.int (crossP w z)) false, st) := hc
    simp only [e7, evCs, tstE, evE, evEs, h6', h7', erS, List.map_cons, List.map_nil, svE, hc2, rdE, cmpD, hs, Bool.and_self, if_true, hq, truD, kp]
    by_cases hz0 : crossP w z = 0 <;> (simp [hz0]; exact kp)
end
end Wl
set_option linter.all false
set_option maxRecDepth 1000000
set_option maxHeartbeats 4000000
/-! W3: pins that fit: the loops. -/
namespace Wl
open PySem PySem.Spec L2 Ev
section
variable {G : Pk}
theorem lay_prs : ∀ zs : List (Int × Int), PyData.canLayAll0 (zs.map pr) = true
  | [] => by simp [PyData.canLayAll0]
  | z :: zs => by
    rw [List.map_cons]
    simp only [PyData.canLayAll0, lay_prs zs, Bool.and_true]
    rfl
theorem dep_prs : ∀ zs : List (Int × Int), PyData.depthAll (zs.map pr) ≤ 1
  | [] => by simp [PyData.depthAll]
  | z :: zs => by
    rw [List.map_cons]
    have := dep_prs zs
    have e : (pr z).depth = 1 := rfl
    simp only [PyData.depthAll, e]
    omega
theorem sh_prs (zs : List (Int × Int)) : okSh (.list (zs.map pr)) = true := by
  have h := dep_prs zs
  have h1 : PyData.canLay0 (.list (zs.map pr)) = true := by simp only [PyData.canLay0, lay_prs]
  have h2 : PyData.depth (.list (zs.map pr)) ≤ 64 := by simp only [PyData.depth]; omega
  unfold okSh SeqAt.shaped
  simp [h1, h2]
theorem eqv_nil (zs : List (Int × Int)) : PyData.eqv (.list (zs.map pr)) (.list []) = zs.isEmpty := by
  cases zs <;> rfl
def inB : List IS := [(.asg (.nm 6) (.call ("_law_far" : Str) [(.slot 2), (.slot 5), (.slot 4)])), (.ite (.cmp .Eq (.slot 6) (.tup [(.int 0), (.int 0)])) [(.ret (some (.bl false)))] []), (.ite (.cmp .NotEq (.lc [(("_law_other" : Str), 7)] (.nm 7) (.of (.slot 3)) [(.cmp .Eq (.call ("_law_cross" : Str) [(.slot 6), (.slot 7)]) (.int 0))] (.slot 7)) (.lst [])) [(.ret (some (.bl false)))] []), (.app 3 (.slot 6))]
abbrev envI (s0 s1 : Option SV) (ds : List D) (j : Nat) (at' i : Nat) (w6 w7 : Option SV) : Ev.Env := [s0, s1, some (.dat (.list ds)), some (.loc j), some (.dat (.int (at' : Nat))), some (.dat (.int (i : Nat))), w6, w7]
theorem in_ok (hC : G.fn "_law_cross" = some i_cross) (hR : G.fn "_law_far" = some i_far) (n : Nat) (s0 s1 w6 w7 : Option SV) (ds : List D) (st : Sto) (j at' i : Nat) (ws : List (Int × Int)) (u v : D) (p q : Int × Int) (hi : ds[i]? = some u) (ha : ds[at']? = some v) (hu : At u p) (hv : At v q) (sp : Sm p) (sq : Sm q)
    (hj : st[j]? = some (ws.map pr)) (hz : ws.length < sizeLine) :
    evSs G (evF G (n + 1)) [3] inB (envI s0 s1 ds j at' i w6 w7) st =
      if gapP p q = (0, 0) then some (.rt (.dat (.bool false) false) st)
      else if (alongP (gapP p q) ws).isEmpty = true then some (.nx (envI s0 s1 ds j at' i (some (.dat (pr (gapP p q)))) w7) (st.set j ((ws ++ [gapP p q]).map pr)))
      else some (.rt (.dat (.bool false) false) st) := by
  have hf := far_ok hR n st (.list ds) u v i at' p q (idx_list hi) (idx_list ha) hu hv
  have sg : -2000000 < (gapP p q).1 ∧ (gapP p q).1 < 2000000 ∧ -2000000 < (gapP p q).2 ∧ (gapP p q).2 < 2000000 := by
    obtain ⟨a1, a2, a3, a4⟩ := sp
    obtain ⟨b1, b2, b3, b4⟩ := sq
    simp only [gapP]
    omega
  have hal := along_ok hC n (envI s0 s1 ds j at' i (some (.dat (pr (gapP p q)))) w7) st j ws (gapP p q) sg rfl rfl rfl hj (Nat.le_of_lt hz)
  have e1 : evS G (evF G (n + 1)) [3] (.asg (.nm 6) (.call ("_law_far" : Str) [(.slot 2), (.slot 5), (.slot 4)])) (envI s0 s1 ds j at' i w6 w7) st = some (.nx (envI s0 s1 ds j at' i (some (.dat (pr (gapP p q)))) w7) st) := by
    simp only [evS, evE, evEs, envI, List.getElem?_cons_succ, List.getElem?_cons_zero, erS, List.map_cons, List.map_nil, svE, hf]
    rfl
  have hs2 : (0 + 1 + 1 ≤ sizeLine) = True := eq_true (by decide)
  have hsq : okSh (pr (gapP p q)) = true ∧ okSh (pr (0, 0)) = true := ⟨rfl, rfl⟩
  unfold inB
  rw [evSs_nx e1]
  by_cases h0 : gapP p q = (0, 0)
  · rw [if_pos h0]
    refine evSs_rt ?_
    have he := eqv_pr (gapP p q)
    rw [decide_eq_true h0] at he
    have hz2 : PyData.tuple [.int 0, .int 0] = pr (0, 0) := rfl
    simp only [evS, tstE, evE, evDs, envI, List.getElem?_cons_succ, List.getElem?_cons_zero, erS, rdE, List.length_cons, List.length_nil, hz2, hs2, cmpD, hsq, he, Bool.and_self, if_true, truD, evSs]
  · rw [if_neg h0]
    have he := eqv_pr (gapP p q)
    rw [decide_eq_false h0] at he
    have e2 : evS G (evF G (n + 1)) [3] (.ite (.cmp .Eq (.slot 6) (.tup [(.int 0), (.int 0)])) [(.ret (some (.bl false)))] []) (envI s0 s1 ds j at' i (some (.dat (pr (gapP p q)))) w7) st = some (.nx (envI s0 s1 ds j at' i (some (.dat (pr (gapP p q)))) w7) st) := by
      have hz2 : PyData.tuple [.int 0, .int 0] = pr (0, 0) := rfl
      simp only [evS, tstE, evE, evDs, envI, List.getElem?_cons_succ, List.getElem?_cons_zero, erS, rdE, List.length_cons, List.length_nil, hz2, hs2, cmpD, hsq, he, Bool.and_self, if_true, truD, evSs]
    rw [evSs_nx e2]
    have hcmp : tstE (evE G (evF G (n + 1)) (.cmp .NotEq (.lc [(("_law_other" : Str), 7)] (.nm 7) (.of (.slot 3)) [(.cmp .Eq (.call ("_law_cross" : Str) [(.slot 6), (.slot 7)]) (.int 0))] (.slot 7)) (.lst [])) (envI s0 s1 ds j at' i (some (.dat (pr (gapP p q)))) w7) st) = some (!(alongP (gapP p q) ws).isEmpty, st) := by
      have h1 : okSh (.list []) = true := rfl
      rw [evE, hal]
      simp only [evE, evDs, List.length_nil, Nat.zero_le, if_true, rdE, cmpD, sh_prs, h1, Bool.and_self, eqv_nil, tstE, truD]
    by_cases h1 : (alongP (gapP p q) ws).isEmpty = true
    · rw [if_pos h1]
      have e3 : evS G (evF G (n + 1)) [3] (.ite (.cmp .NotEq (.lc [(("_law_other" : Str), 7)] (.nm 7) (.of (.slot 3)) [(.cmp .Eq (.call ("_law_cross" : Str) [(.slot 6), (.slot 7)]) (.int 0))] (.slot 7)) (.lst [])) [(.ret (some (.bl false)))] []) (envI s0 s1 ds j at' i (some (.dat (pr (gapP p q)))) w7) st = some (.nx (envI s0 s1 ds j at' i (some (.dat (pr (gapP p q)))) w7) st) := by
        simp only [evS, hcmp, h1, Bool.not_true, evSs]
      rw [evSs_nx e3]
      have e4 : evS G (evF G (n + 1)) [3] (.app 3 (.slot 6)) (envI s0 s1 ds j at' i (some (.dat (pr (gapP p q)))) w7) st = some (.nx (envI s0 s1 ds j at' i (some (.dat (pr (gapP p q)))) w7) (st.set j ((ws ++ [gapP p q]).map pr))) := by
        have hlen : (ws.map pr).length < sizeLine := by rw [List.length_map]; exact hz
        simp only [evS, evE, envI, List.getElem?_cons_succ, List.getElem?_cons_zero, erS, hj, hlen, if_true, List.map_append, List.map_cons, List.map_nil]
      rw [evSs_nx e4]
      simp only [evSs]
    · rw [if_neg h1]
      refine evSs_rt ?_
      have h2 : (alongP (gapP p q) ws).isEmpty = false := by simpa using h1
      rw [h2] at hcmp
      simp only [evS, hcmp, Bool.not_false]
      simp [evSs, evS, evE]
end
end Wl
set_option linter.all false
set_option maxRecDepth 1000000
set_option maxHeartbeats 4000000
/-! W4: pins that fit: whole. -/
namespace Wl
open PySem PySem.Spec L2 Ev
section
variable {G : Pk}
def inF (G : Pk) (n : Nat) : D → Ev.Env → Sto → Option Fl := fun d env s => match bindT (.nm 5) d env with
  | some env1 => match evSs G (evF G (n + 1)) [3] inB env1 s with
    | some f => if keepFl [] f = true then some f else none
    | none => none
  | none => none
theorem inner_ok (hC : G.fn "_law_cross" = some i_cross) (hR : G.fn "_law_far" = some i_far) (n : Nat) (s0 s1 w7 : Option SV) (ds : List D) (j at' : Nat) (v : D) (q : Int × Int) (ha : ds[at']? = some v) (hv : At v q) (sq : Sm q) :
    ∀ (rest : List (Int × Int)) (i : Nat) (ws : List (Int × Int)) (st : Sto) (w5 w6 : Option SV), (∀ (k : Nat) p, rest[k]? = some p → ∃ u, ds[i + k]? = some u ∧ At u p ∧ Sm p) → st[j]? = some (ws.map pr) → ws.length + rest.length < sizeLine →
      (∀ ws', addP q rest ws = some ws' → ∃ w5' w6', forL (inF G n) ((List.range' i rest.length).map fun k => PyData.int ((k : Nat) : Int)) [s0, s1, some (.dat (.list ds)), some (.loc j), some (.dat (.int (at' : Nat))), w5, w6, w7] st =
        some (.nx [s0, s1, some (.dat (.list ds)), some (.loc j), some (.dat (.int (at' : Nat))), w5', w6', w7] (st.set j (ws'.map pr)))) ∧
      (addP q rest ws = none → ∃ st', st'.length = st.length ∧ (∀ k, k ≠ j → st'[k]? = st[k]?) ∧ forL (inF G n) ((List.range' i rest.length).map fun k => PyData.int ((k : Nat) : Int)) [s0, s1, some (.dat (.list ds)), some (.loc j), some (.dat (.int (at' : Nat))), w5, w6, w7] st =
        some (.rt (.dat (.bool false) false) st'))
  | [], i, ws, st, w5, w6, hp, hj, hz => by
    refine ⟨fun ws' h => ?_, fun h => by cases h⟩
    cases h
    refine ⟨w5, w6, ?_⟩
    have e : st.set j (ws.map pr) = st := by
      obtain ⟨hl, he⟩ := List.getElem?_eq_some_iff.mp hj
      rw [← he]
      exact List.set_getElem_self hl
    rw [e]
    rfl
  | p :: rest, i, ws, st, w5, w6, hp, hj, hz => by
    obtain ⟨u, hu1, hu2, sp⟩ := hp 0 p rfl
    have hin := in_ok hC hR n s0 s1 w6 w7 ds st j at' i ws u v p q hu1 ha hu2 hv sp sq hj (by simp only [List.length_cons] at hz; omega)
    have hr : (List.range' i (p :: rest).length).map (fun k => PyData.int ((k : Nat) : Int)) = .int (i : Nat) :: (List.range' (i + 1) rest.length).map fun k => PyData.int ((k : Nat) : Int) := by
      rw [List.length_cons, List.range'_succ, List.map_cons]
    have hb : bindT (.nm 5) (.int (i : Nat)) [s0, s1, some (.dat (.list ds)), some (.loc j), some (.dat (.int (at' : Nat))), w5, w6, w7] = some (envI s0 s1 ds j at' i w6 w7) := rfl
    have hlt : j < st.length := (List.getElem?_eq_some_iff.mp hj).1
    rw [hr]
    by_cases h0 : gapP p q = (0, 0)
    · rw [if_pos h0] at hin
      refine ⟨fun ws' h => ?_, fun _ => ⟨st, rfl, fun _ _ => rfl, ?_⟩⟩
      · unfold addP at h
        rw [if_pos h0] at h
        cases h
      · simp only [forL, inF, hb, hin, keepFl, if_true]
    · rw [if_neg h0] at hin
      by_cases h1 : (alongP (gapP p q) ws).isEmpty = true
      · rw [if_pos h1] at hin
        have ih := inner_ok hC hR n s0 s1 w7 ds j at' v q ha hv sq rest (i + 1) (ws ++ [gapP p q]) (st.set j ((ws ++ [gapP p q]).map pr)) (some (.dat (.int (i : Nat)))) (some (.dat (pr (gapP p q))))
          (fun k p' hk => by
            obtain ⟨u', a1, a2, a3⟩ := hp (k + 1) p' (by simpa using hk)
            exact ⟨u', by rw [show i + 1 + k = i + (k + 1) by omega]; exact a1, a2, a3⟩) (List.getElem?_set_self hlt) (by simp only [List.length_append, List.length_cons, List.length_nil] at hz ⊢; omega)
        have ea : addP q (p :: rest) ws = addP q rest (ws ++ [gapP p q]) := by
          rw [addP, if_neg h0, if_pos h1]
        rw [ea]
        have step : ∀ R, forL (inF G n) ((List.range' (i + 1) rest.length).map fun k => PyData.int ((k : Nat) : Int)) (envI s0 s1 ds j at' i (some (.dat (pr (gapP p q)))) w7) (st.set j ((ws ++ [gapP p q]).map pr)) = R →
            forL (inF G n) (.int (i : Nat) :: (List.range' (i + 1) rest.length).map fun k => PyData.int ((k : Nat) : Int)) [s0, s1, some (.dat (.list ds)), some (.loc j), some (.dat (.int (at' : Nat))), w5, w6, w7] st = R := by
          intro R hR'
          have hF : inF G n (.int (i : Nat)) [s0, s1, some (.dat (.list ds)), some (.loc j), some (.dat (.int (at' : Nat))), w5, w6, w7] st = some (.nx (envI s0 s1 ds j at' i (some (.dat (pr (gapP p q)))) w7) (st.set j ((ws ++ [gapP p q]).map pr))) := by
            simp only [inF, hb, hin, keepFl, keptL, if_true]
          rw [forL, hF]
          exact hR'
        refine ⟨fun ws' h => ?_, fun h => ?_⟩
        · obtain ⟨a, b, e⟩ := ih.1 ws' h
          rw [List.set_set] at e
          exact ⟨a, b, step _ e⟩
        · obtain ⟨st', l1, l2, e⟩ := ih.2 h
          exact ⟨st', by rw [l1, List.length_set], fun k hk => by rw [l2 k hk, List.getElem?_set_ne (Ne.symm hk)], step _ e⟩
      · rw [if_neg h1] at hin
        refine ⟨fun ws' h => ?_, fun _ => ⟨st, rfl, fun _ _ => rfl, ?_⟩⟩
        · unfold addP at h
          rw [if_neg h0, if_neg h1] at h
          cases h
        · simp only [forL, inF, hb, hin, keepFl, if_true]
end
end Wl
set_option linter.all false
set_option maxRecDepth 1000000
set_option maxHeartbeats 4000000
/-! W5: pins that fit: the whole function. -/
namespace Wl
open PySem PySem.Spec L2 Ev
section
variable {G : Pk}
theorem rng_nat (m : Nat) : rngD 0 (m : Int) = (List.range' 0 m).map fun k => PyData.int ((k : Nat) : Int) := by
  unfold rngD
  rw [Int.sub_zero, Int.toNat_natCast, List.range_eq_range']
  refine List.map_congr_left fun k _ => ?_
  rw [Int.zero_add]
theorem rngI (n m : Nat) (hm : m < 16777216) (s0 s1 w5 w6 w7 : Option SV) (x3 : Option SV) (x2 : Option SV) (st : Sto) : evI G (evF G (n + 1)) (.rng [(.slot 4)]) [s0, s1, x2, x3, some (.dat (.int (m : Nat))), w5, w6, w7] st = some ((List.range' 0 m).map (fun k => PyData.int ((k : Nat) : Int)), [], st) := by
  have hc : -(2 ^ 62) ≤ ((m : Nat) : Int) ∧ ((m : Nat) : Int) < 2 ^ 62 := by omega
  simp only [evI, evDs, evE, List.getElem?_cons_succ, List.getElem?_cons_zero, erS]
  rw [if_pos hc, rng_nat]
theorem addP_len (q : Int × Int) : ∀ (rest ws ws' : List (Int × Int)), addP q rest ws = some ws' → ws'.length = ws.length + rest.length
  | [], ws, ws', h => by cases h; rfl
  | p :: rest, ws, ws', h => by
    rw [addP] at h
    split at h
    · cases h
    · split at h
      · have := addP_len q rest _ _ h
        rw [this, List.length_append, List.length_cons, List.length_cons, List.length_nil]
        omega
      · cases h
theorem lt_sz {m B : Nat} (h : m < B) (hB : B * B + B < sizeLine) : m < 16777216 := by
  have h2 : sizeLine = 16777216 := PySem.sizeLine_eq
  rw [h2] at hB
  exact Nat.lt_trans h (Nat.lt_of_le_of_lt (Nat.le_add_left B (B * B)) hB)
def outB : List IS := [(.loop (.nm 5) (.rng [(.slot 4)]) inB)]
def outF (G : Pk) (n : Nat) : D → Ev.Env → Sto → Option Fl := fun d env s => match bindT (.nm 4) d env with
  | some env1 => match evSs G (evF G (n + 1)) [3] outB env1 s with
    | some f => if keepFl [] f = true then some f else none
    | none => none
  | none => none
theorem outF_of {n : Nat} {d : D} {env env1 : Ev.Env} {st : Sto} {f : Fl} (h1 : bindT (.nm 4) d env = some env1) (h2 : evSs G (evF G (n + 1)) [3] outB env1 st = some f) (h3 : keepFl [] f = true) : outF G n d env st = some f := by
  unfold outF
  simp only [h1, h2, h3, if_true]
theorem outer_ok (hC : G.fn "_law_cross" = some i_cross) (hR : G.fn "_law_far" = some i_far) (n : Nat) (s0 s1 w7 : Option SV) (ds : List D) (j B : Nat) (hds : ds.length ≤ B) (hB : B * B + B < sizeLine) :
    ∀ (qs done ws : List (Int × Int)) (st : Sto) (w4 w5 w6 : Option SV), (∀ (k : Nat) p, (done ++ qs)[k]? = some p → ∃ u, ds[k]? = some u ∧ At u p ∧ Sm p) → (done ++ qs).length = ds.length → st[j]? = some (ws.map pr) → ws.length ≤ B * done.length →
      ∃ st', st'.length = st.length ∧ (∀ k, k ≠ j → st'[k]? = st[k]?) ∧
        if fitP done qs ws = true then ∃ e', forL (outF G n) ((List.range' done.length qs.length).map fun k => PyData.int ((k : Nat) : Int)) [s0, s1, some (.dat (.list ds)), some (.loc j), w4, w5, w6, w7] st = some (.nx e' st')
        else forL (outF G n) ((List.range' done.length qs.length).map fun k => PyData.int ((k : Nat) : Int)) [s0, s1, some (.dat (.list ds)), some (.loc j), w4, w5, w6, w7] st = some (.rt (.dat (.bool false) false) st')
  | [], done, ws, st, w4, w5, w6, hp, hl, hj, hz => by
    refine ⟨st, rfl, fun _ _ => rfl, ?_⟩
    have hf : fitP done [] ws = true := by simp only [fitP]
    rw [if_pos hf]
    exact ⟨_, rfl⟩
  | q :: qs, done, ws, st, w4, w5, w6, hp, hl, hj, hz => by
    have hdl : done.length < ds.length := by rw [← hl]; simp
    obtain ⟨v, ha, hv, sq⟩ := hp done.length q (by simp)
    have hin := inner_ok hC hR n s0 s1 w7 ds j done.length v q ha hv sq done 0 ws st w5 w6 (fun k p hk => by
      rw [Nat.zero_add]
      exact hp k p (by rw [List.getElem?_append_left (List.getElem?_eq_some_iff.mp hk).1]; exact hk)) hj (by
        have h1 : B * done.length ≤ B * B := Nat.mul_le_mul_left B (Nat.le_of_lt (Nat.lt_of_lt_of_le hdl hds))
        have h2 : done.length ≤ B := Nat.le_of_lt (Nat.lt_of_lt_of_le hdl hds)
        exact Nat.lt_of_le_of_lt (Nat.add_le_add (Nat.le_trans hz h1) h2) hB)
    have hr : (List.range' done.length (q :: qs).length).map (fun k => PyData.int ((k : Nat) : Int)) = .int (done.length : Nat) :: (List.range' (done.length + 1) qs.length).map fun k => PyData.int ((k : Nat) : Int) := by
      rw [List.length_cons, List.range'_succ, List.map_cons]
    have hb : bindT (.nm 4) (.int (done.length : Nat)) [s0, s1, some (.dat (.list ds)), some (.loc j), w4, w5, w6, w7] = some [s0, s1, some (.dat (.list ds)), some (.loc j), some (.dat (.int (done.length : Nat))), w5, w6, w7] := rfl
    have hI : ∀ st, evI G (evF G (n + 1)) (.rng [(.slot 4)]) [s0, s1, some (.dat (.list ds)), some (.loc j), some (.dat (.int (done.length : Nat))), w5, w6, w7] st = some ((List.range' 0 done.length).map (fun k => PyData.int ((k : Nat) : Int)), [], st) := by
      intro st
      exact rngI n _ (lt_sz (Nat.lt_of_lt_of_le hdl hds) hB) _ _ _ _ _ _ _ st
    have hS : ∀ R, forL (inF G n) ((List.range' 0 done.length).map fun k => PyData.int ((k : Nat) : Int)) [s0, s1, some (.dat (.list ds)), some (.loc j), some (.dat (.int (done.length : Nat))), w5, w6, w7] st = R →
        evS G (evF G (n + 1)) [3] (.loop (.nm 5) (.rng [(.slot 4)]) inB) [s0, s1, some (.dat (.list ds)), some (.loc j), some (.dat (.int (done.length : Nat))), w5, w6, w7] st = R := by
      intro R hR'
      rw [evS, hI]
      exact hR'
    have hlt : j < st.length := (List.getElem?_eq_some_iff.mp hj).1
    rw [hr]
    cases he : addP q done ws with
    | none =>
      obtain ⟨st', l1, l2, e⟩ := hin.2 he
      refine ⟨st', l1, l2, ?_⟩
      have hf : fitP done (q :: qs) ws = false := by rw [fitP, he]
      rw [hf, if_neg Bool.false_ne_true]
      have hO : outF G n (.int (done.length : Nat)) [s0, s1, some (.dat (.list ds)), some (.loc j), w4, w5, w6, w7] st = some (.rt (.dat (.bool false) false) st') := by
        have h1 : evSs G (evF G (n + 1)) [3] outB [s0, s1, some (.dat (.list ds)), some (.loc j), some (.dat (.int (done.length : Nat))), w5, w6, w7] st = some (.rt (.dat (.bool false) false) st') := evSs_rt (hS _ e)
        exact outF_of hb h1 rfl
      rw [forL, hO]
    | some ws' =>
      obtain ⟨a, b, e⟩ := hin.1 ws' he
      have hO : outF G n (.int (done.length : Nat)) [s0, s1, some (.dat (.list ds)), some (.loc j), w4, w5, w6, w7] st = some (.nx [s0, s1, some (.dat (.list ds)), some (.loc j), some (.dat (.int (done.length : Nat))), a, b, w7] (st.set j (ws'.map pr))) := by
        have h1 : evSs G (evF G (n + 1)) [3] outB [s0, s1, some (.dat (.list ds)), some (.loc j), some (.dat (.int (done.length : Nat))), w5, w6, w7] st = some (.nx [s0, s1, some (.dat (.list ds)), some (.loc j), some (.dat (.int (done.length : Nat))), a, b, w7] (st.set j (ws'.map pr))) := by
          have h0 := evSs_nx (ss := []) (hS _ e)
          rw [show outB = [(.loop (.nm 5) (.rng [(.slot 4)]) inB)] from rfl, h0]
          simp only [evSs]
        exact outF_of hb h1 rfl
      obtain ⟨st', l1, l2, ih⟩ := outer_ok hC hR n s0 s1 w7 ds j B hds hB qs (done ++ [q]) ws' (st.set j (ws'.map pr)) (some (.dat (.int (done.length : Nat)))) a b (fun k p hk => hp k p (by rw [List.append_assoc] at hk; exact hk)) (by rw [List.append_assoc]; exact hl) (List.getElem?_set_self hlt) (by
        have := addP_len _ _ _ _ he
        rw [List.length_append, List.length_singleton, Nat.mul_succ, this]
        exact Nat.add_le_add hz (Nat.le_of_lt (Nat.lt_of_lt_of_le hdl hds)))
      refine ⟨st', by rw [l1, List.length_set], fun k hk => by rw [l2 k hk, List.getElem?_set_ne (Ne.symm hk)], ?_⟩
      have hf : fitP done (q :: qs) ws = fitP (done ++ [q]) qs ws' := by rw [fitP, he]
      rw [hf]
      rw [List.length_append, List.length_singleton] at ih
      rw [forL, hO]
      exact ih
end
end Wl
set_option linter.all false
set_option maxRecDepth 1000000
set_option maxHeartbeats 4000000
/-! W6: whether a pin fits: the whole function. -/
namespace Wl
open PySem PySem.Spec L2 Ev
theorem take_same {st st' : Sto} (hl : st.length ≤ st'.length) (h : ∀ k, k < st.length → st'[k]? = st[k]?) : st'.take st.length = st := by
  apply List.ext_getElem?
  intro k
  by_cases hk : k < st.length
  · rw [List.getElem?_take_of_lt hk, h k hk]
  · rw [List.getElem?_eq_none (by rw [List.length_take]; omega), List.getElem?_eq_none (by omega)]
section
variable {G : Pk}
theorem rngL (n m : Nat) (hm : m < 16777216) (e : IE) (env : Ev.Env) (st : Sto) (he : evE G (evF G n) e env st = some (.dat (.int (m : Nat)) false, st)) : evI G (evF G n) (.rng [e]) env st = some ((List.range' 0 m).map (fun k => PyData.int ((k : Nat) : Int)), [], st) := by
  have hc : -(2 ^ 62) ≤ ((m : Nat) : Int) ∧ ((m : Nat) : Int) < 2 ^ 62 := by omega
  simp only [evI, evDs, he]
  rw [if_pos hc, rng_nat]
theorem fits_ok (hF : G.fn "_law_fits" = some i_fits) (hC : G.fn "_law_cross" = some i_cross) (hR : G.fn "_law_far" = some i_far) (n : Nat) (st : Sto) (i : Nat) (qs : List (Int × Int)) (p : Int × Int) (hi : st[i]? = some (qs.map pr)) (hs : ∀ q ∈ qs ++ [p], Sm q) (hl : qs.length ≤ 100) :
    evF G (n + 2) "_law_fits" [.loc i, .dat (pr p)] st = some (.dat (.bool (fitP [] (qs ++ [p]) [])) false, st) := by
  have hz : sizeLine = 16777216 := PySem.sizeLine_eq
  have hil : i < st.length := (List.getElem?_eq_some_iff.mp hi).1
  rw [evF_s hF rfl]
  have e1 : evS G (evF G (n + 1)) [3] (.asg (.nm 2) (.bin .Add (.blt .lst [(.slot 0)]) (.lst [(.slot 1)]))) [some (.loc i), some (.dat (pr p)), none, none, none, none, none, none] st =
      some (.nx [some (.loc i), some (.dat (pr p)), some (.dat (.list ((qs ++ [p]).map pr))), none, none, none, none, none] st) := by
    have h1 : (qs.map pr).length + [pr p].length ≤ sizeLine := by rw [List.length_map, hz]; simp only [List.length_cons, List.length_nil]; omega
    have h2 : [pr p].length ≤ sizeLine := by rw [hz]; simp only [List.length_cons, List.length_nil]; omega
    simp only [evS, evE, evEs, evDs, rdEs, rdE, erS, List.getElem?_cons_succ, List.getElem?_cons_zero, hi, Option.map_some, bltD, h2, if_true, binD, h1]
    rw [List.map_append]
    rfl
  have e2 : evS G (evF G (n + 1)) [3] (.asg (.nm 3) (.lst [])) [some (.loc i), some (.dat (pr p)), some (.dat (.list ((qs ++ [p]).map pr))), none, none, none, none, none] st =
      some (.nx [some (.loc i), some (.dat (pr p)), some (.dat (.list ((qs ++ [p]).map pr))), some (.loc st.length), none, none, none, none] (st ++ [[]])) := by
    have h2 : ([] : List D).length ≤ sizeLine := by rw [hz]; exact Nat.zero_le _
    simp only [evS, evE, evDs, h2, if_true]
    rfl
  have hlen : ((qs ++ [p]).map pr).length = qs.length + 1 := by rw [List.length_map, List.length_append, List.length_singleton]
  obtain ⟨st', l1, l2, ho⟩ := outer_ok hC hR n (some (.loc i)) (some (.dat (pr p))) none ((qs ++ [p]).map pr) st.length 200 (by rw [hlen]; omega) (by rw [hz]; omega) (qs ++ [p]) [] [] (st ++ [[]]) none none none
    (fun k q hk => ⟨pr q, by rw [List.getElem?_map]; rw [List.nil_append] at hk; rw [hk]; rfl, At.pr q, hs q (List.mem_of_getElem? hk)⟩) (by rw [hlen, List.nil_append, List.length_append, List.length_singleton]) (get_last _ _) (Nat.zero_le _)
  have hb : evE G (evF G (n + 1)) (.blt .len [(.slot 2)]) [some (.loc i), some (.dat (pr p)), some (.dat (.list ((qs ++ [p]).map pr))), some (.loc st.length), none, none, none, none] (st ++ [[]]) = some (.dat (.int (((qs ++ [p]).length : Nat) : Int)) false, st ++ [[]]) := by
    simp only [evE, evEs, rdEs, rdE, erS, List.getElem?_cons_succ, List.getElem?_cons_zero, bltD, List.length_map]
  have hI := rngL (G := G) (n + 1) (qs ++ [p]).length (by rw [List.length_append, List.length_singleton]; omega) (.blt .len [(.slot 2)]) _ _ hb
  have hS : ∀ R, forL (outF G n) ((List.range' 0 (qs ++ [p]).length).map fun k => PyData.int ((k : Nat) : Int)) [some (.loc i), some (.dat (pr p)), some (.dat (.list ((qs ++ [p]).map pr))), some (.loc st.length), none, none, none, none] (st ++ [[]]) = R →
      evS G (evF G (n + 1)) [3] (.loop (.nm 4) (.rng [(.blt .len [(.slot 2)])]) outB) [some (.loc i), some (.dat (pr p)), some (.dat (.list ((qs ++ [p]).map pr))), some (.loc st.length), none, none, none, none] (st ++ [[]]) = R := by
    intro R hR'
    rw [evS, hI]
    exact hR'
  have ht : st'.take st.length = st := take_same (by rw [l1, List.length_append]; omega) fun k hk => by
    rw [l2 k (Nat.ne_of_lt hk), List.getElem?_append_left hk]
  have hbody : i_fits.body = (.asg (.nm 2) (.bin .Add (.blt .lst [(.slot 0)]) (.lst [(.slot 1)]))) :: (.asg (.nm 3) (.lst [])) :: [(.loop (.nm 4) (.rng [(.blt .len [(.slot 2)])]) outB), (.ret (some (.bl true)))] := rfl
  show finF st.length (evSs G (evF G (n + 1)) [3] i_fits.body [some (.loc i), some (.dat (pr p)), none, none, none, none, none, none] st) = _
  rw [hbody, evSs_nx e1, evSs_nx e2]
  cases hf : fitP [] (qs ++ [p]) [] with
  | true =>
    rw [hf, if_pos rfl] at ho
    obtain ⟨e', ho⟩ := ho
    rw [evSs_nx (hS _ ho)]
    simp only [evSs, evS, evE, finF, finR, ht]
  | false =>
    rw [hf, if_neg Bool.false_ne_true] at ho
    rw [evSs_rt (hS _ ho)]
    simp only [finF, finR, ht]
end
end Wl
set_option linter.all false
set_option maxRecDepth 1000000
set_option maxHeartbeats 4000000
/-! W7: the boards that are drawn. -/
namespace Wl
open PySem PySem.Spec L2 Ev
def lapB : List IS := [(.asg (.nm 8) (.tup [(.call ("_law_draw" : Str) [(.slot 0), (.slot 6)]), (.call ("_law_draw" : Str) [(.slot 0), (.slot 6)])])), (.ite (.land (.cmp .Lt (.blt .len [(.slot 2)]) (.slot 7)) (.call ("_law_fits" : Str) [(.slot 2), (.slot 8)])) [(.app 2 (.slot 8))] [])]
/-- a place on the field -/
def In (p : Int × Int) : Prop := 0 ≤ p.1 ∧ p.1 < 100 ∧ 0 ≤ p.2 ∧ p.2 < 100
theorem In.sm {p : Int × Int} (h : In p) : Sm p := by
  obtain ⟨a, b, c, d⟩ := h
  unfold Sm
  omega
/-- places that fit, at most k -/
structure Fit (qs : List (Int × Int)) (k : Nat) : Prop where
  fit : fitP [] qs [] = true
  len : qs.length ≤ k
  pl : ∀ q ∈ qs, In q
section
variable {G : Pk}
/-- a pen within a store -/
abbrev Sp (st0 : Sto) (i : Nat) (l : List D) (ex : Sto) : Sto := st0.set i l ++ ex
theorem Sp.at {st0 : Sto} {i : Nat} {l : List D} {ex : Sto} (h : i < st0.length) : (Sp st0 i l ex)[i]? = some l := by
  rw [List.getElem?_append_left (by rw [List.length_set]; exact h), List.getElem?_set_self h]
theorem Sp.put {st0 : Sto} {i : Nat} {l l' : List D} {ex : Sto} (h : i < st0.length) : (Sp st0 i l ex).set i l' = Sp st0 i l' ex := by
  unfold Sp
  rw [List.set_append_left _ _ (by rw [List.length_set]; exact h), List.set_set]
theorem Sp.ex {st0 : Sto} {i : Nat} {l : List D} {ex : Sto} (k : Nat) : (Sp st0 i l ex)[st0.length + k]? = ex[k]? := by
  unfold Sp
  rw [List.getElem?_append_right (by rw [List.length_set]; omega), List.length_set]
  congr 1
  omega
theorem draw_S (hD : G.fn "_law_draw" = some i_draw) (n : Nat) (st0 : Sto) (i : Nat) (hi : i < st0.length) (l : List D) (ex : Sto) (m am : Int) (hp : Pen l m) (hm0 : m ≤ 1000000) (hm : 0 < am) (hm2 : am ≤ 10 ^ 11) :
    ∃ (r : Int) (l' : List D), 0 ≤ r ∧ r < am ∧ Pen l' (m + 1) ∧ evF G (n + 1) "_law_draw" [.loc i, .dat (.int am)] (Sp st0 i l ex) = some (.dat (.int r) false, Sp st0 i l' ex) := by
  obtain ⟨r, l', h1, h2, h3, h4⟩ := draw_ok hD n (Sp st0 i l ex) i l m am (Sp.at hi) hp hm0 hm hm2
  rw [Sp.put hi] at h4
  exact ⟨r, l', h1, h2, h3, h4⟩
abbrev envB (i : Nat) (most : Int) (j : Nat) (w3 w4 w5 : Option SV) (wide many : Int) (w8 w9 : Option SV) : Ev.Env :=
  [some (.loc i), some (.dat (.int most)), some (.loc j), w3, w4, w5, some (.dat (.int wide)), some (.dat (.int many)), w8, w9]
theorem lap_ok (hF : G.fn "_law_fits" = some i_fits) (hC : G.fn "_law_cross" = some i_cross) (hR : G.fn "_law_far" = some i_far) (hD : G.fn "_law_draw" = some i_draw) (n : Nat) (st0 : Sto) (i : Nat) (hi : i < st0.length) (most wide : Int) (many : Nat) (w3 w4 w5 w8 w9 : Option SV)
    (l : List D) (m : Int) (hp : Pen l m) (hm0 : m ≤ 1000) (hw : 0 < wide) (hw2 : wide ≤ 100) (hmany : many ≤ 8) (qs : List (Int × Int)) (hq : Fit qs many) :
    ∃ l' qs' w8', Pen l' (m + 2) ∧ Fit qs' many ∧ evSs G (evF G (n + 2)) [0, 2] lapB (envB i most st0.length w3 w4 w5 wide (many : Nat) w8 w9) (Sp st0 i l [qs.map pr]) = some (.nx (envB i most st0.length w3 w4 w5 wide (many : Nat) w8' w9) (Sp st0 i l' [qs'.map pr])) := by
  have hz : sizeLine = 16777216 := PySem.sizeLine_eq
  obtain ⟨x, l1, x0, x1, p1, e1⟩ := draw_S hD (n + 1) st0 i hi l [qs.map pr] m wide hp (by omega) hw (by omega)
  obtain ⟨y, l2, y0, y1, p2, e2⟩ := draw_S hD (n + 1) st0 i hi l1 [qs.map pr] (m + 1) wide p1 (by omega) hw (by omega)
  have p2 : Pen l2 (m + 2) := by have e : m + 1 + 1 = m + 2 := by omega
                                 rw [← e]; exact p2
  have hin : In (x, y) := ⟨x0, by show x < 100; omega, y0, by show y < 100; omega⟩
  have a1 : evS G (evF G (n + 2)) [0, 2] (.asg (.nm 8) (.tup [(.call ("_law_draw" : Str) [(.slot 0), (.slot 6)]), (.call ("_law_draw" : Str) [(.slot 0), (.slot 6)])])) (envB i most st0.length w3 w4 w5 wide (many : Nat) w8 w9) (Sp st0 i l [qs.map pr]) =
      some (.nx (envB i most st0.length w3 w4 w5 wide (many : Nat) (some (.dat (pr (x, y)))) w9) (Sp st0 i l2 [qs.map pr])) := by
    have h2 : [PyData.int x, PyData.int y].length ≤ sizeLine := by rw [hz]; simp only [List.length_cons, List.length_nil]; omega
    simp only [evS, evE, evDs, evEs, envB, List.getElem?_cons_succ, List.getElem?_cons_zero, erS, List.map_cons, List.map_nil, svE, e1, e2, h2, if_true]
    rfl
  unfold lapB
  rw [evSs_nx a1]
  have hj : (Sp st0 i l2 [qs.map pr])[st0.length]? = some (qs.map pr) := by
    have := Sp.ex (st0 := st0) (i := i) (l := l2) (ex := [qs.map pr]) 0
    rw [Nat.add_zero] at this
    exact this
  have hlen : evE G (evF G (n + 2)) (.cmp .Lt (.blt .len [(.slot 2)]) (.slot 7)) (envB i most st0.length w3 w4 w5 wide (many : Nat) (some (.dat (pr (x, y)))) w9) (Sp st0 i l2 [qs.map pr]) = some (.dat (.bool (decide (qs.length < many))) false, Sp st0 i l2 [qs.map pr]) := by
    simp only [evE, evEs, rdEs, rdE, envB, List.getElem?_cons_succ, List.getElem?_cons_zero, erS, hj, Option.map_some, bltD, List.length_map, cmpD]
    congr 4
    exact decide_eq_decide.mpr (by omega)
  by_cases hlt : qs.length < many
  · have hfit := fits_ok hF hC hR n (Sp st0 i l2 [qs.map pr]) st0.length qs (x, y) hj (fun q hqm => by
      rcases List.mem_append.mp hqm with h | h
      · exact (hq.pl q h).sm
      · rw [List.mem_singleton.mp h]; exact hin.sm) (by have := hq.len; omega)
    have htst : tstE (evE G (evF G (n + 2)) (.land (.cmp .Lt (.blt .len [(.slot 2)]) (.slot 7)) (.call ("_law_fits" : Str) [(.slot 2), (.slot 8)])) (envB i most st0.length w3 w4 w5 wide (many : Nat) (some (.dat (pr (x, y)))) w9) (Sp st0 i l2 [qs.map pr])) = some (fitP [] (qs ++ [(x, y)]) [], Sp st0 i l2 [qs.map pr]) := by
      rw [evE, hlen]
      simp only [rdE, truD, hlt, decide_true, evE, evEs, envB, List.getElem?_cons_succ, List.getElem?_cons_zero, erS, List.map_cons, List.map_nil, svE, hfit, tstE]
    cases hf : fitP [] (qs ++ [(x, y)]) [] with
    | false =>
      rw [hf] at htst
      refine ⟨l2, qs, some (.dat (pr (x, y))), p2, hq, ?_⟩
      rw [evSs_nx (by rw [evS, htst]; simp only [evSs]; rfl)]
      simp only [evSs]
    | true =>
      rw [hf] at htst
      refine ⟨l2, qs ++ [(x, y)], some (.dat (pr (x, y))), p2, ⟨hf, by rw [List.length_append, List.length_singleton]; omega, fun q hqm => by
        rcases List.mem_append.mp hqm with h | h
        · exact hq.pl q h
        · rw [List.mem_singleton.mp h]; exact hin⟩, ?_⟩
      have happ : evS G (evF G (n + 2)) [0, 2] (.app 2 (.slot 8)) (envB i most st0.length w3 w4 w5 wide (many : Nat) (some (.dat (pr (x, y)))) w9) (Sp st0 i l2 [qs.map pr]) = some (.nx (envB i most st0.length w3 w4 w5 wide (many : Nat) (some (.dat (pr (x, y)))) w9) (Sp st0 i l2 [(qs ++ [(x, y)]).map pr])) := by
        have hl2 : (qs.map pr).length < sizeLine := by rw [List.length_map, hz]; have := hq.len; omega
        have hset : (Sp st0 i l2 [qs.map pr]).set st0.length (qs.map pr ++ [pr (x, y)]) = Sp st0 i l2 [(qs ++ [(x, y)]).map pr] := by
          unfold Sp
          rw [List.set_append_right _ _ (by rw [List.length_set]; exact Nat.le_refl _), List.length_set, Nat.sub_self, List.map_append]
          rfl
        simp only [evS, evE, envB, List.getElem?_cons_succ, List.getElem?_cons_zero, erS, hj, hl2, if_true, hset]
      rw [evSs_nx (by rw [evS, htst]; exact evSs_nx happ)]
      simp only [evSs]
  · refine ⟨l2, qs, some (.dat (pr (x, y))), p2, hq, ?_⟩
    have htst : tstE (evE G (evF G (n + 2)) (.land (.cmp .Lt (.blt .len [(.slot 2)]) (.slot 7)) (.call ("_law_fits" : Str) [(.slot 2), (.slot 8)])) (envB i most st0.length w3 w4 w5 wide (many : Nat) (some (.dat (pr (x, y)))) w9) (Sp st0 i l2 [qs.map pr])) = some (false, Sp st0 i l2 [qs.map pr]) := by
      rw [evE, hlen]
      simp only [rdE, truD, hlt, decide_false, tstE]
    rw [evSs_nx (by rw [evS, htst]; simp only [evSs]; rfl)]
    simp only [evSs]
end
end Wl
set_option linter.all false
set_option maxRecDepth 1000000
set_option maxHeartbeats 4000000
/-! W8: loops; the boards that are drawn, the laps. -/
namespace Wl
open PySem PySem.Spec L2 Ev
/-! rules over variables: nothing is unfolded where they are used -/
theorem r_bin {G : Pk} {cl : Str → List SV → Sto → Option (ER × Sto)} {o : Operator} {a b : IE} {env : Ev.Env} {st st1 st2 : Sto} {x y : ER} {d e r : D} {fr : Bool} (h1 : evE G cl a env st = some (x, st1)) (h2 : evE G cl b env st1 = some (y, st2)) (h3 : rdE st2 x = some d) (h4 : rdE st2 y = some e) (h5 : binD o d e = some (r, fr)) : evE G cl (.bin o a b) env st = some (.dat r fr, st2) := by
  rw [evE, h1]
  simp only
  rw [h2]
  simp only [h3, h4, h5]
theorem r_cmp {G : Pk} {cl : Str → List SV → Sto → Option (ER × Sto)} {o : CmpOp} {a b : IE} {env : Ev.Env} {st st1 st2 : Sto} {x y : ER} {d e : D} {r : Bool} (h1 : evE G cl a env st = some (x, st1)) (h2 : evE G cl b env st1 = some (y, st2)) (h3 : rdE st2 x = some d) (h4 : rdE st2 y = some e) (h5 : cmpD o d e = some r) : evE G cl (.cmp o a b) env st = some (.dat (.bool r) false, st2) := by
  rw [evE, h1]
  simp only
  rw [h2]
  simp only [h3, h4, h5]
theorem r_idx {G : Pk} {cl : Str → List SV → Sto → Option (ER × Sto)} {a b : IE} {env : Ev.Env} {st st1 st2 : Sto} {x y : ER} {d e r : D} (h1 : evE G cl a env st = some (x, st1)) (h2 : evE G cl b env st1 = some (y, st2)) (h3 : rdE st2 x = some d) (h4 : rdE st2 y = some e) (h5 : idxD d e = some r) : evE G cl (.idx a b) env st = some (.dat r false, st2) := by
  rw [evE, h1]
  simp only
  rw [h2]
  simp only [h3, h4, h5]
theorem r_tst {st : Sto} {F : Option (ER × Sto)} {x : ER} {d : D} {b : Bool} (h1 : F = some (x, st)) (h2 : rdE st x = some d) (h3 : truD d = some b) : tstE F = some (b, st) := by
  rw [h1]
  simp only [tstE, h2, h3]
theorem r_ite {G : Pk} {cl : Str → List SV → Sto → Option (ER × Sto)} {mu : List Nat} {c : IE} {a b : List IS} {env : Ev.Env} {st st1 : Sto} {k : Bool} {f : Option Fl} (h1 : tstE (evE G cl c env st) = some (k, st1)) (h2 : evSs G cl mu (if k = true then a else b) env st1 = f) : evS G cl mu (.ite c a b) env st = f := by
  rw [evS, h1]
  cases k with
  | true => simpa using h2
  | false => simpa using h2
theorem r_iteE {G : Pk} {cl : Str → List SV → Sto → Option (ER × Sto)} {c a b : IE} {env : Ev.Env} {st st1 : Sto} {k : Bool} {f : Option (ER × Sto)} (h1 : tstE (evE G cl c env st) = some (k, st1)) (h2 : evE G cl (if k = true then a else b) env st1 = f) : evE G cl (.ite c a b) env st = f := by
  rw [evE, h1]
  cases k with
  | true => simpa using h2
  | false => simpa using h2
theorem r_asg {G : Pk} {cl : Str → List SV → Sto → Option (ER × Sto)} {mu : List Nat} {i : Nat} {e : IE} {env : Ev.Env} {st st1 : Sto} {r : ER} (h1 : evE G cl e env st = some (r, st1)) : evS G cl mu (.asg (.nm i) e) env st = some (.nx (stoE mu i r env st1).1 (stoE mu i r env st1).2) := by
  rw [evS, h1]
theorem r_call1 {G : Pk} {cl : Str → List SV → Sto → Option (ER × Sto)} {f : Str} {a : IE} {env : Ev.Env} {st st1 : Sto} {x : ER} {R : Option (ER × Sto)} (h1 : evE G cl a env st = some (x, st1)) (h2 : cl f [svE x] st1 = R) : evE G cl (.call f [a]) env st = R := by
  rw [evE, evEs, h1]
  simp only [evEs, List.map_cons, List.map_nil]
  exact h2
theorem r_call2 {G : Pk} {cl : Str → List SV → Sto → Option (ER × Sto)} {f : Str} {a b : IE} {env : Ev.Env} {st st1 st2 : Sto} {x y : ER} {R : Option (ER × Sto)} (h1 : evE G cl a env st = some (x, st1)) (h2 : evE G cl b env st1 = some (y, st2)) (h3 : cl f [svE x, svE y] st2 = R) : evE G cl (.call f [a, b]) env st = R := by
  rw [evE, evEs, h1]
  simp only
  rw [evEs, h2]
  simp only [evEs, List.map_cons, List.map_nil]
  exact h3
theorem r_blt1 {G : Pk} {cl : Str → List SV → Sto → Option (ER × Sto)} {f : Bf} {a : IE} {env : Ev.Env} {st st1 : Sto} {x : ER} {d r : D} {fr : Bool} (h1 : evE G cl a env st = some (x, st1)) (h2 : rdE st1 x = some d) (h3 : bltD f [d] = some (r, fr)) : evE G cl (.blt f [a]) env st = some (.dat r fr, st1) := by
  rw [evE, evEs, h1]
  simp only [evEs, rdEs, h2, h3]
theorem r_slot {G : Pk} {cl : Str → List SV → Sto → Option (ER × Sto)} {i : Nat} {env : Ev.Env} {st : Sto} {s : SV} (h : env[i]? = some (some s)) : evE G cl (.slot i) env st = some (erS s, st) := by
  rw [evE, h]
theorem r_dat {G : Pk} {cl : Str → List SV → Sto → Option (ER × Sto)} {i : Nat} {env : Ev.Env} {st : Sto} {d : D} (h : env[i]? = some (some (.dat d))) : evE G cl (.slot i) env st = some (.dat d false, st) := by
  rw [evE, h]
  rfl
theorem r_loc {G : Pk} {cl : Str → List SV → Sto → Option (ER × Sto)} {i : Nat} {env : Ev.Env} {st : Sto} {k : Nat} (h : env[i]? = some (some (.loc k))) : evE G cl (.slot i) env st = some (.loc k, st) := by
  rw [evE, h]
  rfl
theorem r_int {G : Pk} {cl : Str → List SV → Sto → Option (ER × Sto)} {i : Int} {env : Ev.Env} {st : Sto} : evE G cl (.int i) env st = some (.dat (.int i) false, st) := by
  rw [evE]
theorem r_str {G : Pk} {cl : Str → List SV → Sto → Option (ER × Sto)} {i : Str} {env : Ev.Env} {st : Sto} : evE G cl (.str i) env st = some (.dat (.str i) false, st) := by
  rw [evE]
theorem r_o {G : Pk} {cl : Str → List SV → Sto → Option (ER × Sto)} {e : IE} {env : Ev.Env} {st st1 : Sto} {i : Int} {f : Bool} (h : evE G cl e env st = some (.dat (.int i) f, st1)) : evO G cl (some e) env st = some (some i, st1) := by
  simp only [evO, h]
theorem r_o0 {G : Pk} {cl : Str → List SV → Sto → Option (ER × Sto)} {env : Ev.Env} {st : Sto} : evO G cl none env st = some (none, st) := by
  simp only [evO]
theorem r_cutL {G : Pk} {cl : Str → List SV → Sto → Option (ER × Sto)} {a : IE} {lo hi : Option IE} {env : Ev.Env} {st st1 st2 st3 : Sto} {x : ER} {l h : Option Int} {xs : List D} (h1 : evE G cl a env st = some (x, st1)) (h2 : evO G cl lo env st1 = some (l, st2)) (h3 : evO G cl hi env st2 = some (h, st3)) (h4 : rdE st3 x = some (.list xs)) : evE G cl (.cut a lo hi) env st = some (.dat (.list (cutD xs l h)) true, st3) := by
  rw [evE, h1]
  simp only
  rw [h2]
  simp only
  rw [h3]
  simp only [h4]
theorem r_cutT {G : Pk} {cl : Str → List SV → Sto → Option (ER × Sto)} {a : IE} {lo hi : Option IE} {env : Ev.Env} {st st1 st2 st3 : Sto} {x : ER} {l h : Option Int} {xs : List D} (h1 : evE G cl a env st = some (x, st1)) (h2 : evO G cl lo env st1 = some (l, st2)) (h3 : evO G cl hi env st2 = some (h, st3)) (h4 : rdE st3 x = some (.tuple xs)) : evE G cl (.cut a lo hi) env st = some (.dat (.tuple (cutD xs l h)) false, st3) := by
  rw [evE, h1]
  simp only
  rw [h2]
  simp only
  rw [h3]
  simp only [h4]
theorem r_of {G : Pk} {cl : Str → List SV → Sto → Option (ER × Sto)} {e : IE} {env : Ev.Env} {st st1 : Sto} {x : ER} {xs : List D} {kp : List (Nat × List D)} (h : evE G cl e env st = some (x, st1)) (h2 : srcE st1 x = some (xs, kp)) : evI G cl (.of e) env st = some (xs, kp, st1) := by
  simp only [evI, h, h2]
theorem r_enm {G : Pk} {cl : Str → List SV → Sto → Option (ER × Sto)} {e : IE} {env : Ev.Env} {st st1 : Sto} {x : ER} {xs : List D} {kp : List (Nat × List D)} (h : evE G cl e env st = some (x, st1)) (h2 : srcE st1 x = some (xs, kp)) : evI G cl (.enm e) env st = some (enmD 0 xs, kp, st1) := by
  simp only [evI, h, h2]
theorem r_cs {G : Pk} {cl : Str → List SV → Sto → Option (ER × Sto)} {c : IE} {env : Ev.Env} {st st1 : Sto} {b : Bool} (h : tstE (evE G cl c env st) = some (b, st1)) : evCs G cl [c] env st = some (b, st1) := by
  simp only [evCs, h]
  cases b <;> rfl
theorem r_tup2 {G : Pk} {cl : Str → List SV → Sto → Option (ER × Sto)} {a b : IE} {env : Ev.Env} {st st1 st2 : Sto} {d e : D} {f1 f2 : Bool} (h1 : evE G cl a env st = some (.dat d f1, st1)) (h2 : evE G cl b env st1 = some (.dat e f2, st2)) : evE G cl (.tup [a, b]) env st = some (.dat (.tuple [d, e]) false, st2) := by
  have hl : [d, e].length ≤ sizeLine := by rw [PySem.sizeLine_eq]; simp
  rw [evE, evDs, h1]
  simp only
  rw [evDs, h2]
  simp only [evDs]
  exact if_pos hl
theorem r_tup3 {G : Pk} {cl : Str → List SV → Sto → Option (ER × Sto)} {a b c : IE} {env : Ev.Env} {st st1 st2 st3 : Sto} {d e f : D} {f1 f2 f3 : Bool} (h1 : evE G cl a env st = some (.dat d f1, st1)) (h2 : evE G cl b env st1 = some (.dat e f2, st2)) (h3 : evE G cl c env st2 = some (.dat f f3, st3)) : evE G cl (.tup [a, b, c]) env st = some (.dat (.tuple [d, e, f]) false, st3) := by
  have hl : [d, e, f].length ≤ sizeLine := by rw [PySem.sizeLine_eq]; simp
  rw [evE, evDs, h1]
  simp only
  rw [evDs, h2]
  simp only
  rw [evDs, h3]
  simp only [evDs]
  exact if_pos hl
theorem r_ret {G : Pk} {cl : Str → List SV → Sto → Option (ER × Sto)} {mu : List Nat} {e : IE} {env : Ev.Env} {st st1 : Sto} {r : ER} (h1 : evE G cl e env st = some (r, st1)) : evS G cl mu (.ret (some e)) env st = some (.rt r st1) := by
  rw [evS, h1]
section
variable {G : Pk} {cl : Str → List SV → Sto → Option (ER × Sto)} {mu : List Nat}
def loF (G : Pk) (cl : Str → List SV → Sto → Option (ER × Sto)) (mu : List Nat) (t : IT) (b : List IS) (kp : List (Nat × List D)) : D → Ev.Env → Sto → Option Fl := fun d env s => match bindT t d env with
  | some env1 => match evSs G cl mu b env1 s with
    | some f => if keepFl kp f = true then some f else none
    | none => none
  | none => none
theorem evS_loop {t : IT} {it : II} {b : List IS} {env : Ev.Env} {st st1 : Sto} {xs : List D} {kp : List (Nat × List D)} (h : evI G cl it env st = some (xs, kp, st1)) : evS G cl mu (.loop t it b) env st = forL (loF G cl mu t b kp) xs env st1 := by
  rw [evS, h]
  rfl
theorem loF_nx {t : IT} {b : List IS} {kp : List (Nat × List D)} {d : D} {env env1 e : Ev.Env} {s s' : Sto} (h1 : bindT t d env = some env1) (h2 : evSs G cl mu b env1 s = some (.nx e s')) (h3 : keptL s' kp = true) : loF G cl mu t b kp d env s = some (.nx e s') := by
  unfold loF
  simp only [h1, h2, keepFl, h3, if_true]
theorem loF_rt {t : IT} {b : List IS} {kp : List (Nat × List D)} {d : D} {env env1 : Ev.Env} {s s' : Sto} {r : ER} (h1 : bindT t d env = some env1) (h2 : evSs G cl mu b env1 s = some (.rt r s')) : loF G cl mu t b kp d env s = some (.rt r s') := by
  unfold loF
  simp only [h1, h2, keepFl, if_true]
theorem forL_nx {f : D → Ev.Env → Sto → Option Fl} {d : D} {ds : List D} {env e : Ev.Env} {st s : Sto} (h : f d env st = some (.nx e s)) : forL f (d :: ds) env st = forL f ds e s := by rw [forL, h]
theorem forL_rt {f : D → Ev.Env → Sto → Option Fl} {d : D} {ds : List D} {env : Ev.Env} {st s : Sto} {r : ER} (h : f d env st = some (.rt r s)) : forL f (d :: ds) env st = some (.rt r s) := by rw [forL, h]
end
section
variable {G : Pk} {cl : Str → List SV → Sto → Option (ER × Sto)}
/-- a comprehension's turn -/
def lcF (G : Pk) (cl : Str → List SV → Sto → Option (ER × Sto)) (own : List (Str × Nat)) (t : IT) (cs : List IE) (e : IE) (env : Ev.Env) (kp : List (Nat × List D)) : D → Sto → Option (List D × Sto) := fun d s => match bindT t d (wipeE env (own.map (·.2))) with
  | some env1 => match evCs G cl cs env1 s with
    | some (true, s1) => match evE G cl e env1 s1 with
      | some (.dat y _, s2) => if keptL s2 kp then some ([y], s2) else none
      | _ => none
    | some (false, s1) => if keptL s1 kp then some ([], s1) else none
    | none => none
  | none => none
theorem evE_lc {own : List (Str × Nat)} {t : IT} {it : II} {cs : List IE} {e : IE} {env : Ev.Env} {st st1 st2 : Sto} {xs ys : List D} {kp : List (Nat × List D)} (h : evI G cl it env st = some (xs, kp, st1)) (h2 : compL (lcF G cl own t cs e env kp) xs st1 = some (ys, st2)) (h3 : ys.length ≤ sizeLine) :
    evE G cl (.lc own t it cs e) env st = some (.dat (.list ys) true, st2) := by
  rw [evE, h]
  show (match compL (lcF G cl own t cs e env kp) xs st1 with
    | some (ys, st2) => if ys.length ≤ sizeLine then some (ER.dat (.list ys) true, st2) else none
    | none => none) = _
  rw [h2]
  exact if_pos h3
theorem lcF_yes {own : List (Str × Nat)} {t : IT} {cs : List IE} {e : IE} {env env1 : Ev.Env} {s s1 s2 : Sto} {d y : D} {fr : Bool} {kp : List (Nat × List D)} (h1 : bindT t d (wipeE env (own.map (·.2))) = some env1) (h2 : evCs G cl cs env1 s = some (true, s1)) (h3 : evE G cl e env1 s1 = some (.dat y fr, s2)) (h4 : keptL s2 kp = true) :
    lcF G cl own t cs e env kp d s = some ([y], s2) := by
  unfold lcF
  simp only [h1, h2, h3, h4, if_true]
theorem lcF_no {own : List (Str × Nat)} {t : IT} {cs : List IE} {e : IE} {env env1 : Ev.Env} {s s1 : Sto} {d : D} {kp : List (Nat × List D)} (h1 : bindT t d (wipeE env (own.map (·.2))) = some env1) (h2 : evCs G cl cs env1 s = some (false, s1)) (h4 : keptL s1 kp = true) :
    lcF G cl own t cs e env kp d s = some ([], s1) := by
  unfold lcF
  simp only [h1, h2, h4, if_true]
theorem compL_cons {f : D → Sto → Option (List D × Sto)} {d : D} {ds xs ys : List D} {st s1 s2 : Sto} (h : f d st = some (xs, s1)) (h2 : compL f ds s1 = some (ys, s2)) : compL f (d :: ds) st = some (xs ++ ys, s2) := by
  rw [compL, h]
  simp only [h2]
/-- a comprehension that changes nothing -/
theorem compL_map {f : D → Sto → Option (List D × Sto)} {st : Sto} (g : D → List D) : ∀ ds : List D, (∀ d ∈ ds, f d st = some (g d, st)) → compL f ds st = some (ds.flatMap g, st)
  | [], _ => rfl
  | d :: ds, h => by
    rw [compL_cons (h d (List.mem_cons_self ..)) (compL_map g ds fun x hx => h x (List.mem_cons_of_mem _ hx))]
    rw [List.flatMap_cons]
end
section
variable {G : Pk}
theorem laps_ok (hF : G.fn "_law_fits" = some i_fits) (hC : G.fn "_law_cross" = some i_cross) (hR : G.fn "_law_far" = some i_far) (hD : G.fn "_law_draw" = some i_draw) (n : Nat) (st0 : Sto) (i : Nat) (hi : i < st0.length) (most wide : Int) (many : Nat) (w4 w5 w9 : Option SV)
    (hw : 0 < wide) (hw2 : wide ≤ 100) (hmany : many ≤ 8) : ∀ (ks : List D) (l : List D) (m : Int) (qs : List (Int × Int)) (w3 w8 : Option SV), Pen l m → m + 2 * ks.length ≤ 1000 → Fit qs many →
    ∃ l' qs' w3' w8', Pen l' (m + 2 * ks.length) ∧ Fit qs' many ∧ forL (loF G (evF G (n + 2)) [0, 2] (.nm 3) lapB []) ks (envB i most st0.length w3 w4 w5 wide (many : Nat) w8 w9) (Sp st0 i l [qs.map pr]) =
      some (.nx (envB i most st0.length w3' w4 w5 wide (many : Nat) w8' w9) (Sp st0 i l' [qs'.map pr]))
  | [], l, m, qs, w3, w8, hp, hm, hq => ⟨l, qs, w3, w8, by rw [show m + 2 * (([] : List D).length : Int) = m by simp]; exact hp, hq, rfl⟩
  | k :: ks, l, m, qs, w3, w8, hp, hm, hq => by
    have hlen : (((k :: ks).length : Nat) : Int) = ks.length + 1 := by rw [List.length_cons]; omega
    rw [hlen] at hm
    obtain ⟨l1, q1, u8, p1, f1, e1⟩ := lap_ok hF hC hR hD n st0 i hi most wide many (some (.dat k)) w4 w5 w8 w9 l m hp (by omega) hw hw2 hmany qs hq
    obtain ⟨l2, q2, u3, v8, p2, f2, e2⟩ := laps_ok hF hC hR hD n st0 i hi most wide many w4 w5 w9 hw hw2 hmany ks l1 (m + 2) q1 (some (.dat k)) u8 p1 (by omega) f1
    refine ⟨l2, q2, u3, v8, by rw [hlen]; have e : m + 2 * ((ks.length : Int) + 1) = m + 2 + 2 * ks.length := by omega
                               rw [e]; exact p2, f2, ?_⟩
    rw [forL_nx (loF_nx rfl e1 rfl)]
    exact e2
end
end Wl
set_option linter.all false
set_option maxRecDepth 1000000
set_option maxHeartbeats 4000000
/-! W9: the boards that are drawn: the ways, the end. -/
namespace Wl
open PySem PySem.Spec L2 Ev
def lr (r : Int) : Str := if r = 0 then ("left" : Str) else ("right" : Str)
/-- a way -/
def Wy (x : Str) : Prop := x = ("left" : Str) ∨ x = ("right" : Str)
theorem lr_wy (r : Int) : Wy (lr r) := by unfold lr; split; exact .inl rfl; exact .inr rfl
theorem idx_lr {r : Int} (h0 : 0 ≤ r) (h1 : r < 2) : idxD (.list [.str ("left" : Str), .str ("right" : Str)]) (.int r) = some (.str (lr r)) := by
  have : r = 0 ∨ r = 1 := by omega
  rcases this with rfl | rfl <;> rfl
def zipB : List (Int × Int) → List Str → List D
  | p :: ps, w :: ws => .tuple [.int p.1, .int p.2, .str w] :: zipB ps ws
  | _, _ => []
/-- the board -/
def boD (qs : List (Int × Int)) (ws : List Str) : D := .tuple (zipB qs ws)
structure Bo (qs : List (Int × Int)) (ws : List Str) : Prop where
  fit : Fit qs 8
  few : 3 ≤ qs.length
  len : ws.length = qs.length
  wy : ∀ w ∈ ws, Wy w
section
variable {G : Pk}
theorem kept1 {st0 : Sto} {i : Nat} {l : List D} {ex : Sto} {k : Nat} {xs : List D} (h : ex[k]? = some xs) : keptL (Sp st0 i l ex) [(st0.length + k, xs)] = true := by
  simp only [keptL, Sp.ex, h, eqDs_refl, Bool.and_true]
theorem wayC_ok (hD : G.fn "_law_draw" = some i_draw) (nm : Str) (n : Nat) (st0 : Sto) (i : Nat) (hi : i < st0.length) (ex : Sto) (k : Nat) (xs : List D) (hk : ex[k]? = some xs) (env : Ev.Env) (he : env[0]? = some (some (.loc i))) (hl : env.length = 10) :
    ∀ (ds : List D) (l : List D) (m : Int), Pen l m → m + ds.length ≤ 1000 → ∃ (ws : List Str) (l' : List D), ws.length = ds.length ∧ (∀ w ∈ ws, Wy w) ∧ Pen l' (m + ds.length) ∧
      compL (lcF G (evF G (n + 1)) [(nm, 8)] (.nm 8) [] (.idx (.lst [(.str ("left" : Str)), (.str ("right" : Str))]) (.call ("_law_draw" : Str) [(.slot 0), (.int 2)])) env [(st0.length + k, xs)]) ds (Sp st0 i l ex) = some (ws.map .str, Sp st0 i l' ex)
  | [], l, m, hp, hm => ⟨[], l, rfl, fun _ h => (by cases h), by rw [show m + (([] : List D).length : Int) = m by simp]; exact hp, rfl⟩
  | d :: ds, l, m, hp, hm => by
    have hlen : (((d :: ds).length : Nat) : Int) = ds.length + 1 := by rw [List.length_cons]; omega
    rw [hlen] at hm
    obtain ⟨r, l1, r0, r1, p1, e1⟩ := draw_S hD n st0 i hi l ex m 2 hp (by omega) (by omega) (by omega)
    obtain ⟨ws, l2, a1, a2, p2, e2⟩ := wayC_ok hD nm n st0 i hi ex k xs hk env he hl ds l1 (m + 1) p1 (by omega)
    have p3 : Pen l2 (m + ((d :: ds).length : Nat)) := by
      rw [hlen]
      have e : m + ((ds.length : Int) + 1) = m + 1 + ds.length := by omega
      rw [e]
      exact p2
    have hw : ∀ w ∈ lr r :: ws, Wy w := fun w hw => by
      rcases List.mem_cons.mp hw with h | h
      · rw [h]; exact lr_wy r
      · exact a2 w h
    refine ⟨lr r :: ws, l2, by rw [List.length_cons, a1, List.length_cons], hw, p3, ?_⟩
    have hb : bindT (.nm 8) d (wipeE env ([(nm, 8)].map (·.2))) = some ((env.set 8 none).set 8 (some (.dat d))) := by
      simp [bindT, wipeE, hl]
    have h0 : ((env.set 8 none).set 8 (some (.dat d)))[0]? = some (some (.loc i)) := by
      rw [List.getElem?_set_ne (by decide), List.getElem?_set_ne (by decide)]; exact he
    have h2 : [PyData.str ("left" : Str), PyData.str ("right" : Str)].length ≤ sizeLine := by rw [PySem.sizeLine_eq]; decide
    have hv : evE G (evF G (n + 1)) (.idx (.lst [(.str ("left" : Str)), (.str ("right" : Str))]) (.call ("_law_draw" : Str) [(.slot 0), (.int 2)])) ((env.set 8 none).set 8 (some (.dat d))) (Sp st0 i l ex) = some (.dat (.str (lr r)) false, Sp st0 i l1 ex) := by
      simp only [evE, evDs, evEs, h0, erS, List.map_cons, List.map_nil, svE, h2, if_true, e1, rdE, idx_lr r0 r1]
    exact compL_cons (lcF_yes hb (by simp only [evCs]) hv (kept1 hk)) e2
end
end Wl
set_option linter.all false
set_option maxRecDepth 1000000
set_option maxHeartbeats 4000000
/-! W10: the boards that are drawn: from the places on. -/
namespace Wl
open PySem PySem.Spec L2 Ev
theorem zipB_len : ∀ (qs : List (Int × Int)) (ws : List Str), ws.length = qs.length → (zipB qs ws).length = qs.length
  | [], _, _ => by simp [zipB]
  | q :: qs, [], h => by simp at h
  | q :: qs, w :: ws, h => by simp only [zipB, List.length_cons]; rw [zipB_len qs ws (by simpa using h)]
def tailB (nm nw : Str) : List IS := [(.asg (.nm 4) (.call ("_law_draw" : Str) [(.slot 0), (.int 6)])), (.asg (.nm 5) (.lc [(nm, 8)] (.nm 8) (.of (.slot 2)) [] (.idx (.lst [(.str ("left" : Str)), (.str ("right" : Str))]) (.call ("_law_draw" : Str) [(.slot 0), (.int 2)])))), (.ite (.cmp .Lt (.slot 4) (.int 2)) [(.asg (.nm 5) (.bin .Mult (.lst [(.idx (.lst [(.str ("left" : Str)), (.str ("right" : Str))]) (.slot 4))]) (.blt .len [(.slot 2)])))] []), (.ret (some (.blt .tup [(.lc [(nm, 8), (nw, 9)] (.tp [(.nm 8), (.nm 9)]) (.zip (.slot 2) (.slot 5)) [] (.bin .Add (.slot 8) (.tup [(.slot 9)])))])))]
section
variable {G : Pk}
theorem rep_flat (x : D) : ∀ k : Nat, (List.replicate k [x]).flatten = List.replicate k x
  | 0 => rfl
  | k + 1 => by rw [List.replicate_succ, List.flatten_cons, rep_flat x k, List.replicate_succ]; rfl
theorem one_le : ∀ w : D, [w].length ≤ sizeLine := fun w => by rw [PySem.sizeLine_eq]; simp
theorem three_le (a b c : D) : [a, b].length + [c].length ≤ sizeLine := by rw [PySem.sizeLine_eq]; simp
theorem bind2 (env' : Ev.Env) (hl' : env'.length = 10) (d e : D) : bindT (.tp [(.nm 8), (.nm 9)]) (.tuple [d, e]) env' = some ((env'.set 8 (some (.dat d))).set 9 (some (.dat e))) := by
  simp [bindT, bindTs, hl']
theorem zip1 (n : Nat) (env' : Ev.Env) (hl' : env'.length = 10) (st : Sto) (q : Int × Int) (w : Str) : evE G (evF G n) (.bin .Add (.slot 8) (.tup [(.slot 9)])) ((env'.set 8 (some (.dat (pr q)))).set 9 (some (.dat (.str w)))) st = some (.dat (.tuple [.int q.1, .int q.2, .str w]) false, st) := by
  have h8 : ((env'.set 8 (some (.dat (pr q)))).set 9 (some (.dat (.str w))))[8]? = some (some (.dat (pr q))) := by
    rw [List.getElem?_set_ne (by decide), List.getElem?_set_self (by rw [hl']; decide)]
  have h9 : ((env'.set 8 (some (.dat (pr q)))).set 9 (some (.dat (.str w))))[9]? = some (some (.dat (.str w))) := by
    rw [List.getElem?_set_self (by rw [List.length_set, hl']; decide)]
  simp only [evE, evDs, h8, h9, erS, one_le, if_true, rdE, pr, binD, three_le]
  rfl
/-- places and ways, side by side -/
theorem zip_ok (n : Nat) (nm nw : Str) (env : Ev.Env) (st : Sto) (kp : List (Nat × List D)) (hk : keptL st kp = true) (hl : env.length = 10) :
    ∀ (qs : List (Int × Int)) (ws : List Str), ws.length = qs.length →
      compL (lcF G (evF G n) [(nm, 8), (nw, 9)] (.tp [(.nm 8), (.nm 9)]) [] (.bin .Add (.slot 8) (.tup [(.slot 9)])) env kp) (zipD (qs.map pr) (ws.map .str)) st = some (zipB qs ws, st)
  | [], ws, h => by simp [zipD, zipB, compL]
  | q :: qs, [], h => by simp at h
  | q :: qs, w :: ws, h => by
    have ih := zip_ok n nm nw env st kp hk hl qs ws (by simpa using h)
    have hl' : (wipeE env ([(nm, 8), (nw, 9)].map (·.2))).length = 10 := by simp [wipeE, hl]
    show compL _ (.tuple [pr q, .str w] :: zipD (qs.map pr) (ws.map .str)) st = some (.tuple [.int q.1, .int q.2, .str w] :: zipB qs ws, st)
    exact compL_cons (lcF_yes (bind2 _ hl' _ _) (by simp only [evCs]) (zip1 n _ hl' st q w) hk) ih
abbrev envT (i : Nat) (most : Int) (j : Nat) (w3 : Option SV) (a : Int) (w5 : Option SV) (wide many : Int) (w8 w9 : Option SV) : Ev.Env := envB i most j w3 (some (.dat (.int a))) w5 wide many w8 w9
theorem two_le : [PyData.str ("left" : Str), PyData.str ("right" : Str)].length ≤ sizeLine := by rw [PySem.sizeLine_eq]; decide
theorem t1_ok (hD : G.fn "_law_draw" = some i_draw) (n : Nat) (st0 : Sto) (i : Nat) (hi : i < st0.length) (most wide many : Int) (j : Nat) (w3 w4 w5 w8 w9 : Option SV) (ex : Sto) (l : List D) (m : Int) (hp : Pen l m) (hm : m ≤ 500) :
    ∃ (a : Int) (l1 : List D), 0 ≤ a ∧ Pen l1 (m + 1) ∧ evS G (evF G (n + 1)) [0, 2] (.asg (.nm 4) (.call ("_law_draw" : Str) [(.slot 0), (.int 6)])) (envB i most j w3 w4 w5 wide many w8 w9) (Sp st0 i l ex) =
      some (.nx (envT i most j w3 a w5 wide many w8 w9) (Sp st0 i l1 ex)) := by
  obtain ⟨a, l1, a0, a1, p1, e1⟩ := draw_S hD n st0 i hi l ex m 6 hp (by omega) (by omega) (by omega)
  refine ⟨a, l1, a0, p1, ?_⟩
  simp only [evS, evE, evEs, envB, List.getElem?_cons_succ, List.getElem?_cons_zero, erS, List.map_cons, List.map_nil, svE, e1]
  rfl
theorem t2_ok (hD : G.fn "_law_draw" = some i_draw) (nm : Str) (n : Nat) (st0 : Sto) (i : Nat) (hi : i < st0.length) (most wide many a : Int) (w3 w5 w8 w9 : Option SV) (ex : Sto) (k : Nat) (qs : List (Int × Int)) (hk : ex[k]? = some (qs.map pr)) (hq : qs.length ≤ 8) (l : List D) (m : Int) (hp : Pen l m) (hm : m ≤ 501) :
    ∃ (ws : List Str) (l2 : List D), ws.length = qs.length ∧ (∀ w ∈ ws, Wy w) ∧ Pen l2 (m + qs.length) ∧ evS G (evF G (n + 1)) [0, 2] (.asg (.nm 5) (.lc [(nm, 8)] (.nm 8) (.of (.slot 2)) [] (.idx (.lst [(.str ("left" : Str)), (.str ("right" : Str))]) (.call ("_law_draw" : Str) [(.slot 0), (.int 2)])))) (envT i most (st0.length + k) w3 a w5 wide many w8 w9) (Sp st0 i l ex) =
      some (.nx (envT i most (st0.length + k) w3 a (some (.dat (.list (ws.map .str)))) wide many w8 w9) (Sp st0 i l2 ex)) := by
  obtain ⟨ws, l2, b1, b2, p2, e2⟩ := wayC_ok hD nm n st0 i hi ex k (qs.map pr) hk (envT i most (st0.length + k) w3 a w5 wide many w8 w9) rfl rfl (qs.map pr) l m hp (by rw [List.length_map]; omega)
  rw [List.length_map] at b1 p2
  have hI : evI G (evF G (n + 1)) (.of (.slot 2)) (envT i most (st0.length + k) w3 a w5 wide many w8 w9) (Sp st0 i l ex) = some (qs.map pr, [(st0.length + k, qs.map pr)], Sp st0 i l ex) := by
    simp only [evI, evE, envB, List.getElem?_cons_succ, List.getElem?_cons_zero, erS, srcE, Sp.ex, hk, Option.map_some]
  refine ⟨ws, l2, b1, b2, p2, ?_⟩
  rw [evS, evE_lc hI e2 (by rw [List.length_map, b1, PySem.sizeLine_eq]; omega)]
  rfl
theorem mul_a (k : Nat) (hk : k ≤ 8) : -(2 ^ 63) ≤ ((k : Nat) : Int) ∧ ((k : Nat) : Int) < 2 ^ 63 := by
  refine ⟨by omega, by omega⟩
theorem mul_b (x : D) (k : Nat) (hk : k ≤ 8) : [x].length * ((k : Nat) : Int).toNat ≤ sizeLine := by
  rw [PySem.sizeLine_eq, Int.toNat_natCast, List.length_singleton]
  omega
theorem mul_c (x : D) (k : Nat) (h0 : -(2 ^ 63) ≤ ((k : Nat) : Int) ∧ ((k : Nat) : Int) < 2 ^ 63 ∧ [x].length * ((k : Nat) : Int).toNat ≤ sizeLine) : binD .Mult (.list [x]) (.int (k : Nat)) = some (.list (List.replicate k [x]).flatten, true) := by
  simp only [binD]
  rw [if_pos h0, Int.toNat_natCast]
theorem mul_ok (x : D) (k : Nat) (hk : k ≤ 8) : binD .Mult (.list [x]) (.int (k : Nat)) = some (.list (List.replicate k x), true) :=
  (mul_c x k ⟨(mul_a k hk).1, (mul_a k hk).2, mul_b x k hk⟩).trans (by rw [rep_flat])
theorem len2_ok (n : Nat) (st0 : Sto) (i : Nat) (most wide many : Int) (w3 w4 w5 w8 w9 : Option SV) (ex : Sto) (k : Nat) (qs : List (Int × Int)) (hk : ex[k]? = some (qs.map pr)) (l : List D) :
    evE G (evF G (n + 1)) (.blt .len [(.slot 2)]) (envB i most (st0.length + k) w3 w4 w5 wide many w8 w9) (Sp st0 i l ex) = some (.dat (.int (qs.length : Nat)) false, Sp st0 i l ex) := by
  simp only [evE, evEs, rdEs, rdE, envB, List.getElem?_cons_succ, List.getElem?_cons_zero, erS, Sp.ex, hk, Option.map_some, bltD, List.length_map]
theorem t3a_ok (n : Nat) (st0 : Sto) (i : Nat) (most wide many a : Int) (w3 w5 w8 w9 : Option SV) (ex : Sto) (k : Nat) (qs : List (Int × Int)) (hk : ex[k]? = some (qs.map pr)) (hq : qs.length ≤ 8) (l : List D) (a0 : 0 ≤ a) (ha : a < 2) :
    evS G (evF G (n + 1)) [0, 2] (.asg (.nm 5) (.bin .Mult (.lst [(.idx (.lst [(.str ("left" : Str)), (.str ("right" : Str))]) (.slot 4))]) (.blt .len [(.slot 2)]))) (envT i most (st0.length + k) w3 a w5 wide many w8 w9) (Sp st0 i l ex) =
      some (.nx (envT i most (st0.length + k) w3 a (some (.dat (.list ((List.replicate qs.length (lr a)).map .str)))) wide many w8 w9) (Sp st0 i l ex)) := by
  have hl1 : evE G (evF G (n + 1)) (.lst [(.idx (.lst [(.str ("left" : Str)), (.str ("right" : Str))]) (.slot 4))]) (envT i most (st0.length + k) w3 a w5 wide many w8 w9) (Sp st0 i l ex) = some (.dat (.list [.str (lr a)]) true, Sp st0 i l ex) := by
    simp only [evE, evDs, envB, List.getElem?_cons_succ, List.getElem?_cons_zero, erS, two_le, if_true, rdE, idx_lr a0 ha, one_le]
  have hl2 := len2_ok (G := G) n st0 i most wide many w3 (some (.dat (.int a))) w5 w8 w9 ex k qs hk l
  have hv : evE G (evF G (n + 1)) (.bin .Mult (.lst [(.idx (.lst [(.str ("left" : Str)), (.str ("right" : Str))]) (.slot 4))]) (.blt .len [(.slot 2)])) (envT i most (st0.length + k) w3 a w5 wide many w8 w9) (Sp st0 i l ex) =
      some (.dat (.list ((List.replicate qs.length (lr a)).map .str)) true, Sp st0 i l ex) := by
    rw [List.map_replicate]
    exact r_bin hl1 hl2 rfl rfl (mul_ok _ _ hq)
  rw [evS, hv]
  rfl
theorem t3_ok (n : Nat) (st0 : Sto) (i : Nat) (most wide many a : Int) (w3 w8 w9 : Option SV) (ex : Sto) (k : Nat) (qs : List (Int × Int)) (hk : ex[k]? = some (qs.map pr)) (hq : qs.length ≤ 8) (l : List D) (a0 : 0 ≤ a) (ws : List Str) (b1 : ws.length = qs.length) (b2 : ∀ w ∈ ws, Wy w) :
    ∃ ws' : List Str, ws'.length = qs.length ∧ (∀ w ∈ ws', Wy w) ∧ evS G (evF G (n + 1)) [0, 2] (.ite (.cmp .Lt (.slot 4) (.int 2)) [(.asg (.nm 5) (.bin .Mult (.lst [(.idx (.lst [(.str ("left" : Str)), (.str ("right" : Str))]) (.slot 4))]) (.blt .len [(.slot 2)])))] []) (envT i most (st0.length + k) w3 a (some (.dat (.list (ws.map .str)))) wide many w8 w9) (Sp st0 i l ex) =
      some (.nx (envT i most (st0.length + k) w3 a (some (.dat (.list (ws'.map .str)))) wide many w8 w9) (Sp st0 i l ex)) := by
  have ht : tstE (evE G (evF G (n + 1)) (.cmp .Lt (.slot 4) (.int 2)) (envT i most (st0.length + k) w3 a (some (.dat (.list (ws.map .str)))) wide many w8 w9) (Sp st0 i l ex)) = some (decide (a < 2), Sp st0 i l ex) := by
    simp only [evE, envB, List.getElem?_cons_succ, List.getElem?_cons_zero, erS, rdE, cmpD, tstE, truD]
  by_cases ha : a < 2
  · rw [decide_eq_true ha] at ht
    refine ⟨List.replicate qs.length (lr a), List.length_replicate .., fun w hw => by rw [(List.mem_replicate.mp hw).2]; exact lr_wy a, ?_⟩
    rw [evS, ht]
    show evSs G (evF G (n + 1)) [0, 2] [_] _ _ = _
    rw [evSs_nx (t3a_ok n st0 i most wide many a w3 _ w8 w9 ex k qs hk hq l a0 ha)]
    simp only [evSs]
  · rw [decide_eq_false ha] at ht
    refine ⟨ws, b1, b2, ?_⟩
    rw [evS, ht]
    show evSs G (evF G (n + 1)) [0, 2] [] _ _ = _
    simp only [evSs]
theorem t4_ok (nm nw : Str) (n : Nat) (st0 : Sto) (i : Nat) (most wide many a : Int) (w3 w8 w9 : Option SV) (ex : Sto) (k : Nat) (qs : List (Int × Int)) (hk : ex[k]? = some (qs.map pr)) (hq : qs.length ≤ 8) (l : List D) (ws : List Str) (c1 : ws.length = qs.length) :
    evS G (evF G (n + 1)) [0, 2] (.ret (some (.blt .tup [(.lc [(nm, 8), (nw, 9)] (.tp [(.nm 8), (.nm 9)]) (.zip (.slot 2) (.slot 5)) [] (.bin .Add (.slot 8) (.tup [(.slot 9)])))]))) (envT i most (st0.length + k) w3 a (some (.dat (.list (ws.map .str)))) wide many w8 w9) (Sp st0 i l ex) = some (.rt (.dat (boD qs ws) false) (Sp st0 i l ex)) := by
  have hZ : evI G (evF G (n + 1)) (.zip (.slot 2) (.slot 5)) (envT i most (st0.length + k) w3 a (some (.dat (.list (ws.map .str)))) wide many w8 w9) (Sp st0 i l ex) = some (zipD (qs.map pr) (ws.map .str), [(st0.length + k, qs.map pr)], Sp st0 i l ex) := by
    simp only [evI, evE, envB, List.getElem?_cons_succ, List.getElem?_cons_zero, erS, srcE, Sp.ex, hk, Option.map_some, srcT]
    rfl
  have hzip := zip_ok (G := G) (n + 1) nm nw (envT i most (st0.length + k) w3 a (some (.dat (.list (ws.map .str)))) wide many w8 w9) (Sp st0 i l ex) [(st0.length + k, qs.map pr)] (kept1 hk) rfl qs ws c1
  have hl := zipB_len qs ws c1
  have hv := evE_lc hZ hzip (by rw [hl, PySem.sizeLine_eq]; omega)
  rw [evS, evE, evEs, hv]
  simp only [evEs, rdEs, rdE, bltD]
  rfl
theorem tail_ok (hD : G.fn "_law_draw" = some i_draw) (nm nw : Str) (n : Nat) (st0 : Sto) (i : Nat) (hi : i < st0.length) (most wide many : Int) (w3 w4 w5 w8 w9 : Option SV) (ex : Sto) (k : Nat) (qs : List (Int × Int)) (hk : ex[k]? = some (qs.map pr)) (hq : Fit qs 8) (h3 : 3 ≤ qs.length)
    (l : List D) (m : Int) (hp : Pen l m) (hm : m ≤ 500) :
    ∃ ws l', Bo qs ws ∧ Pen l' (m + 20) ∧ evSs G (evF G (n + 1)) [0, 2] (tailB nm nw) (envB i most (st0.length + k) w3 w4 w5 wide many w8 w9) (Sp st0 i l ex) = some (.rt (.dat (boD qs ws) false) (Sp st0 i l' ex)) := by
  obtain ⟨a, l1, a0, p1, s1⟩ := t1_ok hD n st0 i hi most wide many (st0.length + k) w3 w4 w5 w8 w9 ex l m hp hm
  obtain ⟨ws, l2, b1, b2, p2, s2⟩ := t2_ok hD nm n st0 i hi most wide many a w3 w5 w8 w9 ex k qs hk hq.len l1 (m + 1) p1 (by omega)
  obtain ⟨ws', c1, c2, s3⟩ := t3_ok (G := G) n st0 i most wide many a w3 w8 w9 ex k qs hk hq.len l2 a0 ws b1 b2
  have s4 := t4_ok (G := G) nm nw n st0 i most wide many a w3 w8 w9 ex k qs hk hq.len l2 ws' c1
  obtain ⟨x, y, z, hx⟩ := p2.ex
  have hl8 := hq.len
  refine ⟨ws', l2, ⟨hq, h3, c1, c2⟩, ⟨x, y, z, hx.1, hx.2.1, hx.2.2.1, hx.2.2.2.1, hx.2.2.2.2.1, by have := hx.2.2.2.2.2; omega⟩, ?_⟩
  unfold tailB
  rw [evSs_nx s1, evSs_nx s2, evSs_nx s3, evSs_rt s4]
end
end Wl
set_option linter.all false
set_option maxRecDepth 1000000
set_option maxHeartbeats 4000000
/-! W11: the boards that are drawn: the function whole. -/
namespace Wl
open PySem PySem.Spec L2 Ev
def headS : IS := .par [6, 7] [(.idx (.lst [(.int 100), (.int 30), (.int 12), (.int 100)]) (.call ("_law_draw" : Str) [(.slot 0), (.int 4)])), (.bin .Add (.int 3) (.call ("_law_draw" : Str) [(.slot 0), (.bin .Sub (.slot 1) (.int 2))]))]
def d4I : IE := .lst [(.tup [(.int 28), (.int 35)]), (.tup [(.int 29), (.int 28)]), (.tup [(.int 32), (.int 37)]), (.tup [(.int 12), (.int 11)])]
def e4I : IE := .lst [(.tup [(.int 32), (.int 30)]), (.tup [(.int 39), (.int 11)]), (.tup [(.int 19), (.int 9)]), (.tup [(.int 5), (.int 34)])]
def elseS : IS := .ite (.cmp .Lt (.blt .len [(.slot 2)]) (.int 3)) [(.asg (.nm 2) d4I), (.asg (.nm 2) (.cut (.bin .Add (.slot 2) e4I) none (some (.slot 7))))] []
def i_bo (nm nw : Str) : FnD := ⟨2, 10, [0, 2], false, headS :: (.asg (.nm 2) (.lst [])) :: (.loop (.nm 3) (.rng [(.int 30)]) lapB) :: elseS :: tailB nm nw⟩
def d8 : List (Int × Int) := [(28, 35), (29, 28), (32, 37), (12, 11), (32, 30), (39, 11), (19, 9), (5, 34)]
theorem d8_fit : ∀ k : Nat, 3 ≤ k → k ≤ 8 → Fit (d8.take k) 8 ∧ (d8.take k).length = k := fun k h1 h2 => by
  have : k = 3 ∨ k = 4 ∨ k = 5 ∨ k = 6 ∨ k = 7 ∨ k = 8 := by omega
  have pl : ∀ q ∈ d8, In q := by
    intro q hq
    simp only [d8, List.mem_cons, List.not_mem_nil, or_false] at hq
    rcases hq with rfl | rfl | rfl | rfl | rfl | rfl | rfl | rfl <;> (unfold In; simp)
  rcases this with rfl | rfl | rfl | rfl | rfl | rfl <;> exact ⟨⟨by decide +kernel, by decide, fun q hq => pl q (List.mem_of_mem_take hq)⟩, by decide⟩
section
variable {G : Pk}
theorem head_ok (hD : G.fn "_law_draw" = some i_draw) (n : Nat) (st : Sto) (i : Nat) (hi : i < st.length) (most : Int) (h1 : 3 ≤ most) (h2 : most ≤ 8) (l : List D) (m : Int) (hp : Pen l m) (hm : m ≤ 500) :
    ∃ (wide : Int) (many : Nat) (l' : List D), 0 < wide ∧ wide ≤ 100 ∧ 3 ≤ many ∧ many ≤ 8 ∧ Pen l' (m + 2) ∧ evS G (evF G (n + 1)) [0, 2] headS [some (.loc i), some (.dat (.int most)), none, none, none, none, none, none, none, none] (Sp st i l []) =
      some (.nx [some (.loc i), some (.dat (.int most)), none, none, none, none, some (.dat (.int wide)), some (.dat (.int (many : Nat))), none, none] (Sp st i l' [])) := by
  obtain ⟨r, l1, r0, r1, p1, e1⟩ := draw_S hD n st i hi l [] m 4 hp (by omega) (by omega) (by omega)
  obtain ⟨r', l2, q0, q1, p2, e2⟩ := draw_S hD n st i hi l1 [] (m + 1) (most - 2) p1 (by omega) (by omega) (by omega)
  have p2 : Pen l2 (m + 2) := by have e : m + 1 + 1 = m + 2 := by omega
                                 rw [← e]; exact p2
  obtain ⟨wide, hw0, hw1, hidx⟩ : ∃ wide : Int, 0 < wide ∧ wide ≤ 100 ∧ idxD (.list [.int 100, .int 30, .int 12, .int 100]) (.int r) = some (.int wide) := by
    have : r = 0 ∨ r = 1 ∨ r = 2 ∨ r = 3 := by omega
    rcases this with rfl | rfl | rfl | rfl
    · exact ⟨100, by omega, by omega, rfl⟩
    · exact ⟨30, by omega, by omega, rfl⟩
    · exact ⟨12, by omega, by omega, rfl⟩
    · exact ⟨100, by omega, by omega, rfl⟩
  refine ⟨wide, (3 + r').toNat, l2, hw0, hw1, by omega, by omega, p2, ?_⟩
  have hm' : (((3 + r').toNat : Nat) : Int) = 3 + r' := by omega
  have h4 : [PyData.int 100, PyData.int 30, PyData.int 12, PyData.int 100].length ≤ sizeLine := by rw [PySem.sizeLine_eq]; decide
  have hl : evE G (evF G (n + 1)) (.lst [(.int 100), (.int 30), (.int 12), (.int 100)]) [some (.loc i), some (.dat (.int most)), none, none, none, none, none, none, none, none] (Sp st i l []) = some (.dat (.list [.int 100, .int 30, .int 12, .int 100]) true, Sp st i l []) := by
    simp only [evE, evDs]
    exact if_pos h4
  have hd1 : evE G (evF G (n + 1)) (.call ("_law_draw" : Str) [(.slot 0), (.int 4)]) [some (.loc i), some (.dat (.int most)), none, none, none, none, none, none, none, none] (Sp st i l []) = some (.dat (.int r) false, Sp st i l1 []) :=
    r_call2 (r_loc rfl) r_int e1
  have hsub : evE G (evF G (n + 1)) (.bin .Sub (.slot 1) (.int 2)) [some (.loc i), some (.dat (.int most)), none, none, none, none, none, none, none, none] (Sp st i l1 []) = some (.dat (.int (most - 2)) false, Sp st i l1 []) :=
    r_bin (x := .dat (.int most) false) (y := .dat (.int 2) false) (r_dat rfl) r_int rfl rfl rfl
  have hd2 : evE G (evF G (n + 1)) (.call ("_law_draw" : Str) [(.slot 0), (.bin .Sub (.slot 1) (.int 2))]) [some (.loc i), some (.dat (.int most)), none, none, none, none, none, none, none, none] (Sp st i l1 []) = some (.dat (.int r') false, Sp st i l2 []) :=
    r_call2 (r_loc rfl) hsub e2
  have ha : evE G (evF G (n + 1)) (.bin .Add (.int 3) (.call ("_law_draw" : Str) [(.slot 0), (.bin .Sub (.slot 1) (.int 2))])) [some (.loc i), some (.dat (.int most)), none, none, none, none, none, none, none, none] (Sp st i l1 []) = some (.dat (.int (3 + r')) false, Sp st i l2 []) :=
    r_bin (x := .dat (.int 3) false) (y := .dat (.int r') false) r_int hd2 rfl rfl rfl
  have hx : evE G (evF G (n + 1)) (.idx (.lst [(.int 100), (.int 30), (.int 12), (.int 100)]) (.call ("_law_draw" : Str) [(.slot 0), (.int 4)])) [some (.loc i), some (.dat (.int most)), none, none, none, none, none, none, none, none] (Sp st i l []) = some (.dat (.int wide) false, Sp st i l1 []) :=
    r_idx (x := .dat (.list [.int 100, .int 30, .int 12, .int 100]) true) (y := .dat (.int r) false) hl hd1 rfl rfl hidx
  unfold headS
  rw [hm', evS]
  simp only [List.zip, List.zipWith, evP, hx, ha]
  rfl
theorem else_ok (n : Nat) (st : Sto) (i : Nat) (hi : i < st.length) (most wide : Int) (many : Nat) (w3 w4 w5 w8 w9 : Option SV) (h3 : 3 ≤ many) (h8 : many ≤ 8) (qs : List (Int × Int)) (hq : Fit qs many) (l : List D) :
    ∃ (k : Nat) (ex : Sto) (qs' : List (Int × Int)), ex[k]? = some (qs'.map pr) ∧ Fit qs' 8 ∧ 3 ≤ qs'.length ∧ evS G (evF G (n + 1)) [0, 2] elseS (envB i most st.length w3 w4 w5 wide (many : Nat) w8 w9) (Sp st i l [qs.map pr]) =
      some (.nx (envB i most (st.length + k) w3 w4 w5 wide (many : Nat) w8 w9) (Sp st i l ex)) := by
  have hl0 := len2_ok (G := G) n st i most wide (many : Nat) w3 w4 w5 w8 w9 [qs.map pr] 0 qs rfl l
  rw [Nat.add_zero] at hl0
  have ht : tstE (evE G (evF G (n + 1)) (.cmp .Lt (.blt .len [(.slot 2)]) (.int 3)) (envB i most st.length w3 w4 w5 wide (many : Nat) w8 w9) (Sp st i l [qs.map pr])) = some (decide (((qs.length : Nat) : Int) < 3), Sp st i l [qs.map pr]) :=
    r_tst (d := .bool (decide (((qs.length : Nat) : Int) < 3))) (r_cmp (x := .dat (.int (qs.length : Nat)) false) (y := .dat (.int 3) false) hl0 r_int rfl rfl rfl) rfl rfl
  by_cases hlt : ((qs.length : Nat) : Int) < 3
  · rw [decide_eq_true hlt] at ht
    obtain ⟨f1, f2⟩ := d8_fit many h3 h8
    refine ⟨2, [qs.map pr, (d8.take 4).map pr, (d8.take many).map pr], d8.take many, rfl, f1, by rw [f2]; exact h3, r_ite ht ?_⟩
    have a1 : evE G (evF G (n + 1)) d4I (envB i most st.length w3 w4 w5 wide (many : Nat) w8 w9) (Sp st i l [qs.map pr]) = some (.dat (.list ((d8.take 4).map pr)) true, Sp st i l [qs.map pr]) := by
      have hz : (0 + 1 + 1 ≤ sizeLine) = True := eq_true (by decide)
      have hz4 : (0 + 1 + 1 + 1 + 1 ≤ sizeLine) = True := eq_true (by decide)
      simp only [d4I, evE, evDs, List.length_cons, List.length_nil, hz, if_true, hz4]
      rfl
    have hs1 : stoE [0, 2] 2 (.dat (.list ((d8.take 4).map pr)) true) (envB i most st.length w3 w4 w5 wide (many : Nat) w8 w9) (Sp st i l [qs.map pr]) = (envB i most (st.length + 1) w3 w4 w5 wide (many : Nat) w8 w9, Sp st i l [qs.map pr, (d8.take 4).map pr]) := by
      have e1 : (Sp st i l [qs.map pr]).length = st.length + 1 := by unfold Sp; rw [List.length_append, List.length_set]; rfl
      have e2 : Sp st i l [qs.map pr] ++ [(d8.take 4).map pr] = Sp st i l [qs.map pr, (d8.take 4).map pr] := by unfold Sp; rw [List.append_assoc]; rfl
      show ((envB i most st.length w3 w4 w5 wide (many : Nat) w8 w9).set 2 (some (.loc (Sp st i l [qs.map pr]).length)), Sp st i l [qs.map pr] ++ [(d8.take 4).map pr]) = _
      rw [e1, e2]
      rfl
    have a2 : evE G (evF G (n + 1)) e4I (envB i most (st.length + 1) w3 w4 w5 wide (many : Nat) w8 w9) (Sp st i l [qs.map pr, (d8.take 4).map pr]) = some (.dat (.list ((d8.drop 4).map pr)) true, Sp st i l [qs.map pr, (d8.take 4).map pr]) := by
      have hz : (0 + 1 + 1 ≤ sizeLine) = True := eq_true (by decide)
      have hz4 : (0 + 1 + 1 + 1 + 1 ≤ sizeLine) = True := eq_true (by decide)
      simp only [e4I, evE, evDs, List.length_cons, List.length_nil, hz, if_true, hz4]
      rfl
    have h2s : evE G (evF G (n + 1)) (.slot 2) (envB i most (st.length + 1) w3 w4 w5 wide (many : Nat) w8 w9) (Sp st i l [qs.map pr, (d8.take 4).map pr]) = some (.loc (st.length + 1), Sp st i l [qs.map pr, (d8.take 4).map pr]) := r_loc rfl
    have a3 : evE G (evF G (n + 1)) (.bin .Add (.slot 2) e4I) (envB i most (st.length + 1) w3 w4 w5 wide (many : Nat) w8 w9) (Sp st i l [qs.map pr, (d8.take 4).map pr]) = some (.dat (.list (d8.map pr)) true, Sp st i l [qs.map pr, (d8.take 4).map pr]) := by
      refine r_bin (d := .list ((d8.take 4).map pr)) (e := .list ((d8.drop 4).map pr)) h2s a2 ?_ rfl ?_
      · show ((Sp st i l [qs.map pr, (d8.take 4).map pr])[st.length + 1]?).map PyData.list = _
        rw [Sp.ex]
        rfl
      · have hz : ((d8.take 4).map pr).length + ((d8.drop 4).map pr).length ≤ sizeLine := by rw [PySem.sizeLine_eq]; decide
        simp only [binD]
        rw [if_pos hz]
        rfl
    have h7 : evO G (evF G (n + 1)) (some (.slot 7)) (envB i most (st.length + 1) w3 w4 w5 wide (many : Nat) w8 w9) (Sp st i l [qs.map pr, (d8.take 4).map pr]) = some (some ((many : Nat) : Int), Sp st i l [qs.map pr, (d8.take 4).map pr]) := r_o (r_dat rfl)
    have hcut : cutD (d8.map pr) none (some ((many : Nat) : Int)) = (d8.take many).map pr := by
      have : many = 3 ∨ many = 4 ∨ many = 5 ∨ many = 6 ∨ many = 7 ∨ many = 8 := by omega
      rcases this with rfl | rfl | rfl | rfl | rfl | rfl <;> rfl
    have a4 : evE G (evF G (n + 1)) (.cut (.bin .Add (.slot 2) e4I) none (some (.slot 7))) (envB i most (st.length + 1) w3 w4 w5 wide (many : Nat) w8 w9) (Sp st i l [qs.map pr, (d8.take 4).map pr]) = some (.dat (.list ((d8.take many).map pr)) true, Sp st i l [qs.map pr, (d8.take 4).map pr]) := by
      rw [← hcut]
      exact r_cutL a3 r_o0 h7 rfl
    have hs2 : stoE [0, 2] 2 (.dat (.list ((d8.take many).map pr)) true) (envB i most (st.length + 1) w3 w4 w5 wide (many : Nat) w8 w9) (Sp st i l [qs.map pr, (d8.take 4).map pr]) = (envB i most (st.length + 2) w3 w4 w5 wide (many : Nat) w8 w9, Sp st i l [qs.map pr, (d8.take 4).map pr, (d8.take many).map pr]) := by
      have e1 : (Sp st i l [qs.map pr, (d8.take 4).map pr]).length = st.length + 2 := by unfold Sp; rw [List.length_append, List.length_set]; rfl
      have e2 : Sp st i l [qs.map pr, (d8.take 4).map pr] ++ [(d8.take many).map pr] = Sp st i l [qs.map pr, (d8.take 4).map pr, (d8.take many).map pr] := by unfold Sp; rw [List.append_assoc]; rfl
      show ((envB i most (st.length + 1) w3 w4 w5 wide (many : Nat) w8 w9).set 2 (some (.loc (Sp st i l [qs.map pr, (d8.take 4).map pr]).length)), Sp st i l [qs.map pr, (d8.take 4).map pr] ++ [(d8.take many).map pr]) = _
      rw [e1, e2]
      rfl
    have s1 := r_asg (mu := [0, 2]) (i := 2) a1
    rw [hs1] at s1
    have s2 := r_asg (mu := [0, 2]) (i := 2) a4
    rw [hs2] at s2
    show evSs G (evF G (n + 1)) [0, 2] [_, _] _ _ = _
    rw [evSs_nx s1, evSs_nx s2]
    simp only [evSs]
  · rw [decide_eq_false hlt] at ht
    refine ⟨0, [qs.map pr], qs, rfl, ⟨hq.fit, Nat.le_trans hq.len h8, hq.pl⟩, by omega, r_ite ht ?_⟩
    show evSs G (evF G (n + 1)) [0, 2] [] _ _ = _
    simp only [evSs]
    rfl
theorem board_ok (nm nw : Str) (hB : G.fn "_law_board" = some (i_bo nm nw)) (hF : G.fn "_law_fits" = some i_fits) (hC : G.fn "_law_cross" = some i_cross) (hR : G.fn "_law_far" = some i_far) (hD : G.fn "_law_draw" = some i_draw) (n : Nat) (st : Sto) (i : Nat) (l : List D) (hi : st[i]? = some l) (most : Int) (h1 : 3 ≤ most) (h2 : most ≤ 8) (m : Int) (hp : Pen l m) (hm : m ≤ 400) :
    ∃ qs ws l', Bo qs ws ∧ Pen l' (m + 82) ∧ evF G (n + 3) "_law_board" [.loc i, .dat (.int most)] st = some (.dat (boD qs ws) false, st.set i l') := by
  have hil : i < st.length := (List.getElem?_eq_some_iff.mp hi).1
  have hst : st = Sp st i l [] := by
    unfold Sp
    rw [List.append_nil]
    obtain ⟨h, e⟩ := List.getElem?_eq_some_iff.mp hi
    rw [← e]
    exact (List.set_getElem_self h).symm
  obtain ⟨wide, many, l1, w0, w1, m3, m8, p1, e1⟩ := head_ok hD (n + 1) st i hil most h1 h2 l m hp (by omega)
  have e2 : evS G (evF G (n + 2)) [0, 2] (.asg (.nm 2) (.lst [])) [some (.loc i), some (.dat (.int most)), none, none, none, none, some (.dat (.int wide)), some (.dat (.int (many : Nat))), none, none] (Sp st i l1 []) =
      some (.nx (envB i most st.length none none none wide (many : Nat) none none) (Sp st i l1 [([] : List (Int × Int)).map pr])) := by
    have h0 : evE G (evF G (n + 2)) (.lst []) [some (.loc i), some (.dat (.int most)), none, none, none, none, some (.dat (.int wide)), some (.dat (.int (many : Nat))), none, none] (Sp st i l1 []) = some (.dat (.list []) true, Sp st i l1 []) := by
      simp only [evE, evDs]
      exact if_pos (Nat.zero_le _)
    have s := r_asg (mu := [0, 2]) (i := 2) h0
    have el : (Sp st i l1 []).length = st.length := by unfold Sp; rw [List.length_append, List.length_set]; rfl
    rw [s]
    show some (Fl.nx ([some (.loc i), some (.dat (.int most)), none, none, none, none, some (.dat (.int wide)), some (.dat (.int (many : Nat))), none, none].set 2 (some (.loc (Sp st i l1 []).length))) (Sp st i l1 [] ++ [[]])) = _
    rw [el]
    unfold Sp
    rw [List.append_nil]
    rfl
  have hr : evI G (evF G (n + 2)) (.rng [(.int 30)]) (envB i most st.length none none none wide (many : Nat) none none) (Sp st i l1 [([] : List (Int × Int)).map pr]) = some ((List.range' 0 30).map (fun k => PyData.int ((k : Nat) : Int)), [], Sp st i l1 [([] : List (Int × Int)).map pr]) := rngL (n + 2) 30 (by omega) (.int 30) _ _ r_int
  have h30 : ((List.range' 0 30).map (fun k => PyData.int ((k : Nat) : Int))).length = 30 := by rw [List.length_map, List.length_range']
  obtain ⟨l2, q2, w3, w8, p2, f2, e3⟩ := laps_ok hF hC hR hD n st i hil most wide many none none none w0 w1 m8 _ l1 (m + 2) [] none none p1 (by rw [h30]; omega) ⟨rfl, Nat.zero_le _, fun _ h => by cases h⟩
  rw [h30] at p2
  have p2' : Pen l2 (m + 62) := by
    have e : m + 2 + 2 * ((30 : Nat) : Int) = m + 62 := by omega
    rw [← e]
    exact p2
  obtain ⟨k, ex, q3, hk, f3, c3, e4⟩ := else_ok (G := G) (n + 1) st i hil most wide many w3 none none w8 none m3 m8 q2 f2 l2
  obtain ⟨ws, l3, hb, p3, e5⟩ := tail_ok hD nm nw (n + 1) st i hil most wide (many : Nat) w3 none none w8 none ex k q3 hk f3 c3 l2 (m + 62) p2' (by omega)
  refine ⟨q3, ws, l3, hb, by have e : m + 62 + 20 = m + 82 := by omega
                             rw [← e]; exact p3, ?_⟩
  rw [evF_s hB rfl]
  show finF st.length (evSs G (evF G (n + 2)) [0, 2] (headS :: (.asg (.nm 2) (.lst [])) :: (.loop (.nm 3) (.rng [(.int 30)]) lapB) :: elseS :: tailB nm nw) [some (.loc i), some (.dat (.int most)), none, none, none, none, none, none, none, none] st) = _
  have hst2 : evSs G (evF G (n + 2)) [0, 2] (headS :: (.asg (.nm 2) (.lst [])) :: (.loop (.nm 3) (.rng [(.int 30)]) lapB) :: elseS :: tailB nm nw) [some (.loc i), some (.dat (.int most)), none, none, none, none, none, none, none, none] (Sp st i l []) = some (.rt (.dat (boD q3 ws) false) (Sp st i l3 ex)) := by
    rw [evSs_nx e1, evSs_nx e2, evSs_nx ((evS_loop hr).trans e3), evSs_nx e4, e5]
  rw [← hst] at hst2
  rw [hst2]
  show some (ER.dat (boD q3 ws) false, (Sp st i l3 ex).take st.length) = _
  have : (Sp st i l3 ex).take st.length = st.set i l3 := by
    unfold Sp
    rw [List.take_append_of_le_length (by rw [List.length_set]; exact Nat.le_refl _)]
    rw [List.take_of_length_le (by rw [List.length_set]; exact Nat.le_refl _)]
  rw [this]
end
end Wl
set_option linter.all false
set_option maxRecDepth 1000000
set_option maxHeartbeats 4000000
/-! W12: the chart of all directions: a row. -/
namespace Wl
open PySem PySem.Spec L2 Ev
theorem r_landF {G : Pk} {cl : Str → List SV → Sto → Option (ER × Sto)} {a b : IE} {env : Ev.Env} {st st1 : Sto} {f : Bool} (h1 : evE G cl a env st = some (.dat (.bool false) f, st1)) : evE G cl (.land a b) env st = some (.dat (.bool false) f, st1) := by
  rw [evE, h1]
  rfl
theorem r_landT {G : Pk} {cl : Str → List SV → Sto → Option (ER × Sto)} {a b : IE} {env : Ev.Env} {st st1 : Sto} {f : Bool} {R : Option (ER × Sto)} (h1 : evE G cl a env st = some (.dat (.bool true) f, st1)) (h2 : evE G cl b env st1 = R) : evE G cl (.land a b) env st = R := by
  rw [evE, h1]
  exact h2
theorem r_ins {G : Pk} {cl : Str → List SV → Sto → Option (ER × Sto)} {mu : List Nat} {i : Nat} {a e : IE} {env : Ev.Env} {st : Sto} {n k : Nat} {d : D} {f1 f2 : Bool} {xs : List D} (h0 : env[i]? = some (some (.loc n))) (h1 : evE G cl a env st = some (.dat (.int (k : Nat)) f1, st)) (h2 : evE G cl e env st = some (.dat d f2, st)) (h3 : st[n]? = some xs) (h4 : xs.length < 1000) (h5 : k < 1000) :
    evS G cl mu (.ins i a e) env st = some (.nx env (st.set n (xs.take k ++ d :: xs.drop k))) := by
  have hc : xs.length < sizeLine ∧ 0 ≤ ((k : Nat) : Int) ∧ ((k : Nat) : Int) < 2 ^ 63 := ⟨by rw [PySem.sizeLine_eq]; omega, by omega, by omega⟩
  rw [evS, h0]
  simp only
  rw [h1]
  simp only
  rw [h2]
  simp only
  rw [h3]
  simp only
  rw [if_pos hc, Int.toNat_natCast]
abbrev Row := (Int × Int) × Nat × Nat
def rowD (r : Row) : D := .tuple [pr r.1, .int (r.2.1 : Nat), .int (r.2.2 : Nat)]
def posR (d : Int × Int) : List Row → Nat
  | [] => 0
  | x :: xs => if 0 < crossP x.1 d then posR d xs + 1 else 0
def insR (r : Row) : List Row → List Row
  | [] => [r]
  | x :: xs => if 0 < crossP x.1 r.1 then x :: insR r xs else r :: x :: xs
theorem insR_eq (r : Row) : ∀ rows : List Row, rows.take (posR r.1 rows) ++ r :: rows.drop (posR r.1 rows) = insR r rows
  | [] => rfl
  | x :: xs => by
    simp only [posR, insR]
    by_cases h : 0 < crossP x.1 r.1
    · rw [if_pos h, if_pos h, List.take_succ_cons, List.drop_succ_cons, List.cons_append, insR_eq r xs]
    · rw [if_neg h, if_neg h]
      rfl
theorem posR_le (d : Int × Int) : ∀ rows : List Row, posR d rows ≤ rows.length
  | [] => Nat.le_refl _
  | x :: xs => by
    simp only [posR, List.length_cons]
    split
    · exact Nat.succ_le_succ (posR_le d xs)
    · exact Nat.zero_le _
/-- small enough to be multiplied, twice over -/
def Sm2 (p : Int × Int) : Prop := -2000000 < p.1 ∧ p.1 < 2000000 ∧ -2000000 < p.2 ∧ p.2 < 2000000
theorem sm_gap {p q : Int × Int} (h : Sm p) (g : Sm q) : Sm2 (gapP p q) := by
  obtain ⟨a1, a2, a3, a4⟩ := h
  obtain ⟨b1, b2, b3, b4⟩ := g
  unfold Sm2
  simp only [gapP]
  omega
def whC : IE := .land (.cmp .Lt (.slot 7) (.blt .len [(.slot 6)])) (.cmp .Gt (.call ("_law_cross" : Str) [(.idx (.idx (.slot 6) (.slot 7)) (.int 0)), (.slot 5)]) (.int 0))
def whB : List IS := [(.asg (.nm 7) (.bin .Add (.slot 7) (.int 1)))]
section
variable {G : Pk}
abbrev envC (w0 : SV) (one N : Nat) (w4 w5 : Option SV) (L : Nat) (k : Nat) : Ev.Env := [some w0, some (.dat (.int (one : Nat))), some (.loc N), some (.loc (N + 1)), w4, w5, some (.loc L), some (.dat (.int (k : Nat)))]
theorem cross2 (hC : G.fn "_law_cross" = some i_cross) (n : Nat) (st : Sto) (a b : Int × Int) (h : Sm2 a) : evF G (n + 1) "_law_cross" [.dat (pr a), .dat (pr b)] st = some (.dat (.int (crossP a b)) false, st) := by
  obtain ⟨h1, h2, h3, h4⟩ := h
  exact cross_ok hC n st a.1 a.2 b.1 b.2 (by omega) (by omega)
theorem idx_row0 (r : Row) : idxD (rowD r) (.int 0) = some (pr r.1) := rfl
theorem whC_ok (hC : G.fn "_law_cross" = some i_cross) (n : Nat) (w0 : SV) (one N L : Nat) (w4 : Option SV) (d : Int × Int) (st : Sto) (rows : List Row) (hL : st[L]? = some (rows.map rowD)) (hs : ∀ r ∈ rows, Sm2 r.1) (k : Nat) (hk : k ≤ rows.length) :
    tstE (evE G (evF G (n + 1)) whC (envC w0 one N w4 (some (.dat (pr d))) L k) st) = some (match rows[k]? with | some r => decide (0 < crossP r.1 d) | none => false, st) := by
  have hlen : evE G (evF G (n + 1)) (.blt .len [(.slot 6)]) (envC w0 one N w4 (some (.dat (pr d))) L k) st = some (.dat (.int (rows.length : Nat)) false, st) := by
    refine r_blt1 (x := .loc L) (d := .list (rows.map rowD)) (r_loc rfl) ?_ ?_
    · show (st[L]?).map PyData.list = _
      rw [hL]
      rfl
    · show some (PyData.int ((rows.map rowD).length : Nat), false) = _
      rw [List.length_map]
  have hlt : evE G (evF G (n + 1)) (.cmp .Lt (.slot 7) (.blt .len [(.slot 6)])) (envC w0 one N w4 (some (.dat (pr d))) L k) st = some (.dat (.bool (decide (((k : Nat) : Int) < (rows.length : Nat)))) false, st) :=
    r_cmp (x := .dat (.int (k : Nat)) false) (y := .dat (.int (rows.length : Nat)) false) (r_dat rfl) hlen rfl rfl rfl
  by_cases h : k < rows.length
  · have h' : decide (((k : Nat) : Int) < (rows.length : Nat)) = true := decide_eq_true (by omega)
    rw [h'] at hlt
    have hr : rows[k]? = some rows[k] := List.getElem?_eq_getElem h
    have hx : evE G (evF G (n + 1)) (.idx (.slot 6) (.slot 7)) (envC w0 one N w4 (some (.dat (pr d))) L k) st = some (.dat (rowD rows[k]) false, st) := by
      refine r_idx (x := .loc L) (y := .dat (.int (k : Nat)) false) (d := .list (rows.map rowD)) (e := .int (k : Nat)) (r_loc rfl) (r_dat rfl) ?_ rfl ?_
      · show (st[L]?).map PyData.list = _
        rw [hL]
        rfl
      · exact idx_list (by rw [List.getElem?_map, hr]; rfl)
    have hx0 : evE G (evF G (n + 1)) (.idx (.idx (.slot 6) (.slot 7)) (.int 0)) (envC w0 one N w4 (some (.dat (pr d))) L k) st = some (.dat (pr rows[k].1) false, st) :=
      r_idx (x := .dat (rowD rows[k]) false) (y := .dat (.int 0) false) hx r_int rfl rfl (idx_row0 _)
    have hc : evE G (evF G (n + 1)) (.call ("_law_cross" : Str) [(.idx (.idx (.slot 6) (.slot 7)) (.int 0)), (.slot 5)]) (envC w0 one N w4 (some (.dat (pr d))) L k) st = some (.dat (.int (crossP rows[k].1 d)) false, st) :=
      r_call2 hx0 (r_dat rfl) (cross2 hC n st _ _ (hs _ (List.getElem_mem h)))
    rw [hr]
    exact r_tst (d := .bool (decide (0 < crossP rows[k].1 d))) (r_landT hlt (r_cmp (x := .dat (.int (crossP rows[k].1 d)) false) (y := .dat (.int 0) false) hc r_int rfl rfl rfl)) rfl rfl
  · have h' : decide (((k : Nat) : Int) < (rows.length : Nat)) = false := decide_eq_false (by omega)
    rw [h'] at hlt
    have hr : rows[k]? = none := List.getElem?_eq_none (by omega)
    rw [hr]
    exact r_tst (r_landF hlt) rfl rfl
theorem whB_ok (n : Nat) (w0 : SV) (one N L : Nat) (w4 w5 : Option SV) (st : Sto) (k : Nat) : evSs G (evF G n) [2, 3, 6] whB (envC w0 one N w4 w5 L k) st = some (.nx (envC w0 one N w4 w5 L (k + 1)) st) := by
  have h1 : evE G (evF G n) (.bin .Add (.slot 7) (.int 1)) (envC w0 one N w4 w5 L k) st = some (.dat (.int ((k + 1 : Nat) : Int)) false, st) := by
    refine r_bin (x := .dat (.int (k : Nat)) false) (y := .dat (.int 1) false) (r_dat rfl) r_int rfl rfl ?_
    show some (PyData.int ((k : Int) + 1), false) = _
    congr 3
  unfold whB
  rw [evSs_nx (r_asg h1)]
  simp only [evSs]
  rfl
theorem whl_ok (hC : G.fn "_law_cross" = some i_cross) (n : Nat) (w0 : SV) (one N L : Nat) (w4 : Option SV) (d : Int × Int) (st : Sto) (rows : List Row) (hL : st[L]? = some (rows.map rowD)) (hs : ∀ r ∈ rows, Sm2 r.1) :
    ∀ (post pre : List Row) (fuel : Nat), rows = pre ++ post → post.length < fuel →
      whlL (fun env st => tstE (evE G (evF G (n + 1)) whC env st)) (fun env st => evSs G (evF G (n + 1)) [2, 3, 6] whB env st) fuel (envC w0 one N w4 (some (.dat (pr d))) L pre.length) st = some (.nx (envC w0 one N w4 (some (.dat (pr d))) L (pre.length + posR d post)) st)
  | [], pre, fuel, hr, hf => by
    obtain ⟨f, rfl⟩ : ∃ f, fuel = f + 1 := ⟨fuel - 1, by simp at hf; omega⟩
    have ht := whC_ok hC n w0 one N L w4 d st rows hL hs pre.length (by rw [hr]; simp)
    have hn : rows[pre.length]? = none := List.getElem?_eq_none (by rw [hr]; simp)
    rw [hn] at ht
    rw [whlL, ht]
    rfl
  | x :: post, pre, fuel, hr, hf => by
    obtain ⟨f, rfl⟩ : ∃ f, fuel = f + 1 := ⟨fuel - 1, by simp at hf; omega⟩
    have ht := whC_ok hC n w0 one N L w4 d st rows hL hs pre.length (by rw [hr]; simp)
    have hn : rows[pre.length]? = some x := by rw [hr]; simp
    rw [hn] at ht
    simp only at ht
    rw [whlL, ht]
    by_cases hx : 0 < crossP x.1 d
    · rw [decide_eq_true hx]
      simp only
      rw [whB_ok]
      simp only
      have ih := whl_ok hC n w0 one N L w4 d st rows hL hs post (pre ++ [x]) f (by rw [hr]; simp) (by simp only [List.length_cons] at hf; omega)
      rw [List.length_append, List.length_singleton] at ih
      rw [ih]
      simp only [posR, if_pos hx]
      rw [show pre.length + 1 + posR d post = pre.length + (posR d post + 1) by omega]
    · rw [decide_eq_false hx]
      simp only [posR, if_neg hx]
      rfl
end
end Wl
set_option linter.all false
set_option maxRecDepth 1000000
set_option maxHeartbeats 4000000
/-! W13: the chart of all directions. -/
namespace Wl
open PySem PySem.Spec L2 Ev
theorem zipB_get : ∀ {qs : List (Int × Int)} {ws : List Str} {k : Nat} {q : Int × Int}, ws.length = qs.length → qs[k]? = some q → ∃ w, ws[k]? = some w ∧ (zipB qs ws)[k]? = some (.tuple [.int q.1, .int q.2, .str w])
  | [], _, _, _, _, h => by simp at h
  | _ :: _, [], _, _, h, _ => by simp at h
  | q0 :: qs, w :: ws, 0, q, h, e => by
    cases (show some q0 = some q from e)
    exact ⟨w, rfl, rfl⟩
  | q0 :: qs, w :: ws, k + 1, q, h, e => by
    obtain ⟨w', h1, h2⟩ := zipB_get (k := k) (qs := qs) (ws := ws) (by simpa using h) (by simpa using e)
    exact ⟨w', by simpa using h1, by simpa [zipB] using h2⟩
theorem mem_insR {r x : Row} : ∀ {rows : List Row}, x ∈ insR r rows ↔ x = r ∨ x ∈ rows
  | [] => by simp [insR]
  | y :: ys => by
    simp only [insR]
    split
    · rw [List.mem_cons, mem_insR, List.mem_cons]
      exact or_left_comm
    · rw [List.mem_cons, List.mem_cons]
theorem len_insR (r : Row) : ∀ rows : List Row, (insR r rows).length = rows.length + 1
  | [] => rfl
  | y :: ys => by
    simp only [insR]
    split
    · rw [List.length_cons, len_insR r ys, List.length_cons]
    · rfl
abbrev st0P : Int × Int := (1000, 1)
def gp (qs : List (Int × Int)) (i j : Nat) : Int × Int := gapP (qs.getD i (0, 0)) (qs.getD j (0, 0))
def stepR (qs : List (Int × Int)) (NF : List Row × List Row) (ij : Nat × Nat) : List Row × List Row :=
  if 0 < crossP st0P (gp qs ij.1 ij.2) then (insR (gp qs ij.1 ij.2, ij.1, ij.2) NF.1, NF.2) else (NF.1, insR (gp qs ij.1 ij.2, ij.1, ij.2) NF.2)
/-- what a chart in the making keeps -/
structure Ch (NF : List Row × List Row) (c : Nat) : Prop where
  len : NF.1.length + NF.2.length = c
  sm : ∀ r ∈ NF.1 ++ NF.2, Sm2 r.1
theorem Ch.step {qs : List (Int × Int)} {NF : List Row × List Row} {c : Nat} {ij : Nat × Nat} (h : Ch NF c) (s : Sm2 (gp qs ij.1 ij.2)) : Ch (stepR qs NF ij) (c + 1) := by
  unfold stepR
  split
  · refine ⟨by have := h.len; simp only [len_insR]; omega, fun r hr => ?_⟩
    rcases List.mem_append.mp hr with h1 | h1
    · rcases mem_insR.mp h1 with e | e
      · rw [e]; exact s
      · exact h.sm r (List.mem_append_left _ e)
    · exact h.sm r (List.mem_append_right _ h1)
  · refine ⟨by have := h.len; simp only [len_insR]; omega, fun r hr => ?_⟩
    rcases List.mem_append.mp hr with h1 | h1
    · exact h.sm r (List.mem_append_left _ h1)
    · rcases mem_insR.mp h1 with e | e
      · rw [e]; exact s
      · exact h.sm r (List.mem_append_right _ e)
def rowB : List IS := [(.asg (.nm 5) (.call ("_law_far" : Str) [(.slot 0), (.slot 1), (.slot 4)])), (.asg (.nm 6) (.ite (.cmp .Gt (.call ("_law_cross" : Str) [(.tup [(.int 1000), (.int 1)]), (.slot 5)]) (.int 0)) (.slot 2) (.slot 3))), (.asg (.nm 7) (.int 0)), (.whl whC whB), (.ins 6 (.slot 7) (.tup [(.slot 5), (.slot 1), (.slot 4)]))]
section
variable {G : Pk}
theorem r_call3 {cl : Str → List SV → Sto → Option (ER × Sto)} {f : Str} {a b c : IE} {env : Ev.Env} {st st1 st2 st3 : Sto} {x y z : ER} {R : Option (ER × Sto)} (h1 : evE G cl a env st = some (x, st1)) (h2 : evE G cl b env st1 = some (y, st2)) (h3 : evE G cl c env st2 = some (z, st3)) (h4 : cl f [svE x, svE y, svE z] st3 = R) : evE G cl (.call f [a, b, c]) env st = R := by
  rw [evE, evEs, h1]
  simp only
  rw [evEs, h2]
  simp only
  rw [evEs, h3]
  simp only [evEs, List.map_cons, List.map_nil]
  exact h4
/-- the store with both halves -/
abbrev SC (st : Sto) (NF : List Row × List Row) : Sto := st ++ [NF.1.map rowD, NF.2.map rowD]
theorem SC.near (st : Sto) (NF : List Row × List Row) : (SC st NF)[st.length]? = some (NF.1.map rowD) := by
  rw [List.getElem?_append_right (Nat.le_refl _), Nat.sub_self]
  rfl
theorem SC.far (st : Sto) (NF : List Row × List Row) : (SC st NF)[st.length + 1]? = some (NF.2.map rowD) := by
  rw [List.getElem?_append_right (by omega), show st.length + 1 - st.length = 1 by omega]
  rfl
theorem SC.set1 (st : Sto) (NF : List Row × List Row) (xs : List Row) : (SC st NF).set st.length (xs.map rowD) = SC st (xs, NF.2) := by
  unfold SC
  rw [List.set_append_right _ _ (Nat.le_refl _), Nat.sub_self]
  rfl
theorem SC.set2 (st : Sto) (NF : List Row × List Row) (xs : List Row) : (SC st NF).set (st.length + 1) (xs.map rowD) = SC st (NF.1, xs) := by
  unfold SC
  rw [List.set_append_right _ _ (by omega), show st.length + 1 - st.length = 1 by omega]
  rfl
abbrev envD (b : D) (one N other : Nat) (w5 w6 w7 : Option SV) : Ev.Env := [some (.dat b), some (.dat (.int (one : Nat))), some (.loc N), some (.loc (N + 1)), some (.dat (.int (other : Nat))), w5, w6, w7]
theorem ins_map (r : Row) (rows : List Row) : (rows.map rowD).take (posR r.1 rows) ++ rowD r :: (rows.map rowD).drop (posR r.1 rows) = (insR r rows).map rowD := by
  rw [← insR_eq r rows, List.map_append, List.map_cons, List.map_take, List.map_drop]
theorem row_ok (hC : G.fn "_law_cross" = some i_cross) (hR : G.fn "_law_far" = some i_far) (hW : 100 ≤ G.wf) (n : Nat) (st : Sto) (qs : List (Int × Int)) (ws : List Str) (hl : ws.length = qs.length) (hs : ∀ q ∈ qs, Sm q) (NF : List Row × List Row) (c : Nat) (hc : Ch NF c) (hc2 : c < 90) (one other : Nat) (h1 : one < qs.length) (h2 : other < qs.length) (w5 w6 w7 : Option SV) :
    ∃ w5' w6' w7', evSs G (evF G (n + 1)) [2, 3, 6] rowB (envD (boD qs ws) one st.length other w5 w6 w7) (SC st NF) = some (.nx (envD (boD qs ws) one st.length other w5' w6' w7') (SC st (stepR qs NF (one, other)))) := by
  have e1 : qs[one]? = some qs[one] := List.getElem?_eq_getElem h1
  have e2 : qs[other]? = some qs[other] := List.getElem?_eq_getElem h2
  obtain ⟨u1, _, z1⟩ := zipB_get hl e1
  obtain ⟨u2, _, z2⟩ := zipB_get hl e2
  have hgp : gp qs one other = gapP qs[one] qs[other] := by
    unfold gp
    rw [List.getD_eq_getElem?_getD, List.getD_eq_getElem?_getD, e1, e2]
    rfl
  obtain ⟨d, hd⟩ : ∃ d, d = gp qs one other := ⟨_, rfl⟩
  have hdm : Sm2 d := by rw [hd, hgp]; exact sm_gap (hs _ (List.getElem_mem h1)) (hs _ (List.getElem_mem h2))
  have hf := far_ok hR n (SC st NF) (boD qs ws) _ _ one other qs[one] qs[other] (idx_tup z1) (idx_tup z2) ⟨_, rfl⟩ ⟨_, rfl⟩
  rw [← hgp, ← hd] at hf
  have s1 : evS G (evF G (n + 1)) [2, 3, 6] (.asg (.nm 5) (.call ("_law_far" : Str) [(.slot 0), (.slot 1), (.slot 4)])) (envD (boD qs ws) one st.length other w5 w6 w7) (SC st NF) = some (.nx (envD (boD qs ws) one st.length other (some (.dat (pr d))) w6 w7) (SC st NF)) :=
    r_asg (r_call3 (r_dat rfl) (r_dat rfl) (r_dat rfl) hf)
  have hcr : evE G (evF G (n + 1)) (.call ("_law_cross" : Str) [(.tup [(.int 1000), (.int 1)]), (.slot 5)]) (envD (boD qs ws) one st.length other (some (.dat (pr d))) w6 w7) (SC st NF) = some (.dat (.int (crossP st0P d)) false, SC st NF) :=
    r_call2 (r_tup2 r_int r_int) (r_dat rfl) (cross2 hC n _ st0P d (by unfold Sm2; simp))
  have ht : tstE (evE G (evF G (n + 1)) (.cmp .Gt (.call ("_law_cross" : Str) [(.tup [(.int 1000), (.int 1)]), (.slot 5)]) (.int 0)) (envD (boD qs ws) one st.length other (some (.dat (pr d))) w6 w7) (SC st NF)) = some (decide (0 < crossP st0P d), SC st NF) :=
    r_tst (d := .bool (decide (0 < crossP st0P d))) (r_cmp (x := .dat (.int (crossP st0P d)) false) (y := .dat (.int 0) false) hcr r_int rfl rfl rfl) rfl rfl
  -- the half, its place and what it holds
  have main : ∀ (L : Nat) (rows : List Row) (NF' : List Row × List Row), (SC st NF)[L]? = some (rows.map rowD) → (∀ r ∈ rows, Sm2 r.1) → rows.length < 90 → (SC st NF).set L ((insR (d, one, other) rows).map rowD) = SC st NF' →
      evE G (evF G (n + 1)) (.ite (.cmp .Gt (.call ("_law_cross" : Str) [(.tup [(.int 1000), (.int 1)]), (.slot 5)]) (.int 0)) (.slot 2) (.slot 3)) (envD (boD qs ws) one st.length other (some (.dat (pr d))) w6 w7) (SC st NF) = some (.loc L, SC st NF) →
      evSs G (evF G (n + 1)) [2, 3, 6] rowB (envD (boD qs ws) one st.length other w5 w6 w7) (SC st NF) = some (.nx (envD (boD qs ws) one st.length other (some (.dat (pr d))) (some (.loc L)) (some (.dat (.int (posR d rows : Nat))))) (SC st NF')) := by
    intro L rows NF' hL hsm hlen hset hh
    have s2 : evS G (evF G (n + 1)) [2, 3, 6] (.asg (.nm 6) (.ite (.cmp .Gt (.call ("_law_cross" : Str) [(.tup [(.int 1000), (.int 1)]), (.slot 5)]) (.int 0)) (.slot 2) (.slot 3))) (envD (boD qs ws) one st.length other (some (.dat (pr d))) w6 w7) (SC st NF) = some (.nx (envD (boD qs ws) one st.length other (some (.dat (pr d))) (some (.loc L)) w7) (SC st NF)) := r_asg hh
    have s3 : evS G (evF G (n + 1)) [2, 3, 6] (.asg (.nm 7) (.int 0)) (envD (boD qs ws) one st.length other (some (.dat (pr d))) (some (.loc L)) w7) (SC st NF) = some (.nx (envC (.dat (boD qs ws)) one st.length (some (.dat (.int (other : Nat)))) (some (.dat (pr d))) L 0) (SC st NF)) := r_asg r_int
    have s4 : evS G (evF G (n + 1)) [2, 3, 6] (.whl whC whB) (envC (.dat (boD qs ws)) one st.length (some (.dat (.int (other : Nat)))) (some (.dat (pr d))) L 0) (SC st NF) = some (.nx (envC (.dat (boD qs ws)) one st.length (some (.dat (.int (other : Nat)))) (some (.dat (pr d))) L (posR d rows)) (SC st NF)) := by
      have q := whl_ok hC n (.dat (boD qs ws)) one st.length L (some (.dat (.int (other : Nat)))) d (SC st NF) rows hL hsm rows [] G.wf rfl (by omega)
      rw [List.length_nil, Nat.zero_add] at q
      rw [evS]
      exact q
    have htup : evE G (evF G (n + 1)) (.tup [(.slot 5), (.slot 1), (.slot 4)]) (envC (.dat (boD qs ws)) one st.length (some (.dat (.int (other : Nat)))) (some (.dat (pr d))) L (posR d rows)) (SC st NF) = some (.dat (rowD (d, one, other)) false, SC st NF) := r_tup3 (r_dat rfl) (r_dat rfl) (r_dat rfl)
    have s5 := r_ins (G := G) (cl := evF G (n + 1)) (mu := [2, 3, 6]) (i := 6) (a := .slot 7) (e := .tup [(.slot 5), (.slot 1), (.slot 4)]) (env := envC (.dat (boD qs ws)) one st.length (some (.dat (.int (other : Nat)))) (some (.dat (pr d))) L (posR d rows)) (st := SC st NF) (n := L) (k := posR d rows) rfl (r_dat rfl) htup hL (by rw [List.length_map]; omega) (by have := posR_le d rows; omega)
    have hins := ins_map (d, one, other) rows
    simp only at hins
    rw [hins, hset] at s5
    unfold rowB
    rw [evSs_nx s1, evSs_nx s2, evSs_nx s3, evSs_nx s4, evSs_nx s5]
    simp only [evSs]
  have hlen := hc.len
  by_cases hx : 0 < crossP st0P d
  · have hstep : stepR qs NF (one, other) = (insR (d, one, other) NF.1, NF.2) := by
      unfold stepR
      rw [← hd, if_pos hx]
    rw [decide_eq_true hx] at ht
    have z := main st.length NF.1 _ (SC.near st NF) (fun r hr => hc.sm r (List.mem_append_left _ hr)) (by omega) (SC.set1 st NF _) (r_iteE ht (r_loc rfl))
    exact ⟨some (.dat (pr d)), some (.loc st.length), some (.dat (.int (posR d NF.1 : Nat))), by rw [hstep]; exact z⟩
  · have hstep : stepR qs NF (one, other) = (NF.1, insR (d, one, other) NF.2) := by
      unfold stepR
      rw [← hd, if_neg hx]
    rw [decide_eq_false hx] at ht
    have z := main (st.length + 1) NF.2 _ (SC.far st NF) (fun r hr => hc.sm r (List.mem_append_right _ hr)) (by omega) (SC.set2 st NF _) (r_iteE ht (r_loc rfl))
    exact ⟨some (.dat (pr d)), some (.loc (st.length + 1)), some (.dat (.int (posR d NF.2 : Nat))), by rw [hstep]; exact z⟩
end
end Wl
set_option linter.all false
set_option maxRecDepth 1000000
set_option maxHeartbeats 4000000
/-! W14: the chart of all directions, whole. -/
namespace Wl
open PySem PySem.Spec L2 Ev
def intsN (ks : List Nat) : List D := ks.map fun k => PyData.int ((k : Nat) : Int)
def rowsP (qs : List (Int × Int)) (i : Nat) (ks : List Nat) (NF : List Row × List Row) : List Row × List Row := ks.foldl (fun NF j => stepR qs NF (i, j)) NF
def othersN (n i : Nat) : List Nat := (List.range' 0 n).filter fun j => decide (j ≠ i)
def chartP (qs : List (Int × Int)) (is : List Nat) (NF : List Row × List Row) : List Row × List Row := is.foldl (fun NF i => rowsP qs i (othersN qs.length i) NF) NF
theorem boD_len {qs : List (Int × Int)} {ws : List Str} (h : ws.length = qs.length) : bltD .len [boD qs ws] = some (.int (qs.length : Nat), false) := by
  show some (PyData.int ((zipB qs ws).length : Nat), false) = _
  rw [zipB_len qs ws h]
def chI : II := .of (.lc [(("_law_other" : Str), 4)] (.nm 4) (.rng [(.blt .len [(.slot 0)])]) [(.cmp .NotEq (.slot 4) (.slot 1))] (.slot 4))
section
variable {G : Pk}
abbrev envE (b : D) (w1 : Option SV) (N : Nat) (w4 w5 w6 w7 : Option SV) : Ev.Env := [some (.dat b), w1, some (.loc N), some (.loc (N + 1)), w4, w5, w6, w7]
theorem Ch.rows {qs : List (Int × Int)} {i : Nat} (hs : ∀ j k, Sm2 (gp qs j k)) : ∀ (ks : List Nat) {NF : List Row × List Row} {c : Nat}, Ch NF c → Ch (rowsP qs i ks NF) (c + ks.length)
  | [], NF, c, h => h
  | k :: ks, NF, c, h => by
    have := Ch.rows (i := i) hs ks (h.step (ij := (i, k)) (hs i k))
    rw [show c + 1 + ks.length = c + (k :: ks).length by simp only [List.length_cons]; omega] at this
    exact this
theorem gp_sm {qs : List (Int × Int)} (hs : ∀ q ∈ qs, Sm q) (j k : Nat) : Sm2 (gp qs j k) := by
  have h : ∀ j, Sm (qs.getD j (0, 0)) := fun j => by
    rw [List.getD_eq_getElem?_getD]
    cases e : qs[j]? with
    | none => unfold Sm; simp
    | some q => exact hs q (List.mem_of_getElem? e)
  exact sm_gap (h j) (h k)
theorem rowsL_ok (hC : G.fn "_law_cross" = some i_cross) (hR : G.fn "_law_far" = some i_far) (hW : 100 ≤ G.wf) (n : Nat) (st : Sto) (qs : List (Int × Int)) (ws : List Str) (hl : ws.length = qs.length) (hs : ∀ q ∈ qs, Sm q) (one : Nat) (h1 : one < qs.length) :
    ∀ (ks : List Nat) (NF : List Row × List Row) (c : Nat) (w4 w5 w6 w7 : Option SV), (∀ k ∈ ks, k < qs.length) → Ch NF c → c + ks.length ≤ 90 →
      ∃ v4 v5 v6 v7, forL (loF G (evF G (n + 1)) [2, 3, 6] (.nm 4) rowB []) (intsN ks) (envE (boD qs ws) (some (.dat (.int (one : Nat)))) st.length w4 w5 w6 w7) (SC st NF) = some (.nx (envE (boD qs ws) (some (.dat (.int (one : Nat)))) st.length v4 v5 v6 v7) (SC st (rowsP qs one ks NF)))
  | [], NF, c, w4, w5, w6, w7, _, _, _ => ⟨w4, w5, w6, w7, rfl⟩
  | k :: ks, NF, c, w4, w5, w6, w7, hk, hc, hz => by
    simp only [List.length_cons] at hz
    obtain ⟨v5, v6, v7, e⟩ := row_ok hC hR hW n st qs ws hl hs NF c hc (by omega) one k h1 (hk k (List.mem_cons_self ..)) w5 w6 w7
    obtain ⟨u4, u5, u6, u7, e2⟩ := rowsL_ok hC hR hW n st qs ws hl hs one h1 ks (stepR qs NF (one, k)) (c + 1) (some (.dat (.int (k : Nat)))) v5 v6 v7 (fun x hx => hk x (List.mem_cons_of_mem _ hx)) (hc.step (gp_sm hs one k)) (by omega)
    refine ⟨u4, u5, u6, u7, ?_⟩
    show forL _ (PyData.int ((k : Nat) : Int) :: intsN ks) _ _ = _
    rw [forL_nx (loF_nx (e := envD (boD qs ws) one st.length k v5 v6 v7) (env1 := envD (boD qs ws) one st.length k w5 w6 w7) rfl e rfl)]
    exact e2
theorem others_ok (n : Nat) (nm : Str) (env : Ev.Env) (hl : env.length = 8) (st : Sto) (one : Nat) (h1 : env[1]? = some (some (.dat (.int (one : Nat))))) : ∀ ks : List Nat,
    compL (lcF G (evF G n) [(nm, 4)] (.nm 4) [(.cmp .NotEq (.slot 4) (.slot 1))] (.slot 4) env []) (intsN ks) st = some (intsN (ks.filter fun j => decide (j ≠ one)), st)
  | [] => rfl
  | k :: ks => by
    have ih := others_ok n nm env hl st one h1 ks
    have hb : bindT (.nm 4) (.int ((k : Nat) : Int)) (wipeE env ([(nm, 4)].map (·.2))) = some ((env.set 4 none).set 4 (some (.dat (.int ((k : Nat) : Int))))) := by
      simp [bindT, wipeE, hl]
    have h4 : ((env.set 4 none).set 4 (some (.dat (.int ((k : Nat) : Int)))))[4]? = some (some (.dat (.int ((k : Nat) : Int)))) := by
      rw [List.getElem?_set_self (by rw [List.length_set, hl]; decide)]
    have h1' : ((env.set 4 none).set 4 (some (.dat (.int ((k : Nat) : Int)))))[1]? = some (some (.dat (.int (one : Nat)))) := by
      rw [List.getElem?_set_ne (by decide), List.getElem?_set_ne (by decide)]; exact h1
    have hq : PyData.eqv (.int ((k : Nat) : Int)) (.int ((one : Nat) : Int)) = decide (k = one) := by
      show (((k : Nat) : Int) == ((one : Nat) : Int)) = _
      rw [Bool.eq_iff_iff, beq_iff_eq, decide_eq_true_eq]
      constructor <;> intro h <;> omega
    have hc : cmpD .NotEq (.int ((k : Nat) : Int)) (.int ((one : Nat) : Int)) = some (decide (k ≠ one)) := by
      show some (!PyData.eqv (.int ((k : Nat) : Int)) (.int ((one : Nat) : Int))) = _
      rw [hq, decide_not]
    have ht : evCs G (evF G n) [(.cmp .NotEq (.slot 4) (.slot 1))] ((env.set 4 none).set 4 (some (.dat (.int ((k : Nat) : Int))))) st = some (decide (k ≠ one), st) := by
      exact r_cs (r_tst (st := st) (d := .bool (decide (k ≠ one))) (r_cmp (G := G) (cl := evF G n) (x := .dat (.int ((k : Nat) : Int)) false) (y := .dat (.int ((one : Nat) : Int)) false) (r_dat h4) (r_dat h1') rfl rfl hc) rfl rfl)
    show compL _ (PyData.int ((k : Nat) : Int) :: intsN ks) st = _
    by_cases hx : k ≠ one
    · rw [decide_eq_true hx] at ht
      rw [compL_cons (lcF_yes hb ht (r_dat h4) rfl) ih, List.filter_cons_of_pos (by simpa using hx)]
      rfl
    · rw [decide_eq_false hx] at ht
      rw [compL_cons (lcF_no hb ht rfl) ih, List.filter_cons_of_neg (by simpa using hx)]
      rfl
theorem chI_ok (n : Nat) (st : Sto) (qs : List (Int × Int)) (ws : List Str) (hl : ws.length = qs.length) (hn : qs.length ≤ 8) (one N : Nat) (w4 w5 w6 w7 : Option SV) :
    evI G (evF G n) chI (envE (boD qs ws) (some (.dat (.int (one : Nat)))) N w4 w5 w6 w7) st = some (intsN (othersN qs.length one), [], st) := by
  have hb : evE G (evF G n) (.blt .len [(.slot 0)]) (envE (boD qs ws) (some (.dat (.int (one : Nat)))) N w4 w5 w6 w7) st = some (.dat (.int (qs.length : Nat)) false, st) := r_blt1 (r_dat rfl) rfl (boD_len hl)
  have hI := rngL (G := G) n qs.length (by omega) (.blt .len [(.slot 0)]) _ _ hb
  have hc := others_ok (G := G) n ("_law_other" : Str) (envE (boD qs ws) (some (.dat (.int (one : Nat)))) N w4 w5 w6 w7) rfl st one rfl (List.range' 0 qs.length)
  have hv := evE_lc (own := [(("_law_other" : Str), 4)]) hI hc (by
    rw [PySem.sizeLine_eq]
    unfold intsN
    rw [List.length_map]
    have := List.length_filter_le (fun j => decide (j ≠ one)) (List.range' 0 qs.length)
    rw [List.length_range'] at this
    omega)
  exact r_of hv rfl
theorem othersN_lt {n i k : Nat} (h : k ∈ othersN n i) : k < n := by
  have := (List.mem_filter.mp h).1
  rw [List.mem_range'_1] at this
  omega
theorem othersN_len (n i : Nat) : (othersN n i).length ≤ n := by
  have := List.length_filter_le (fun j => decide (j ≠ i)) (List.range' 0 n)
  rw [List.length_range'] at this
  exact this
theorem chartL_ok (hC : G.fn "_law_cross" = some i_cross) (hR : G.fn "_law_far" = some i_far) (hW : 100 ≤ G.wf) (n : Nat) (st : Sto) (qs : List (Int × Int)) (ws : List Str) (hl : ws.length = qs.length) (hn : qs.length ≤ 8) (hs : ∀ q ∈ qs, Sm q) :
    ∀ (is : List Nat) (NF : List Row × List Row) (c : Nat) (w1 w4 w5 w6 w7 : Option SV), (∀ k ∈ is, k < qs.length) → Ch NF c → c + 8 * is.length ≤ 80 →
      ∃ v1 v4 v5 v6 v7, forL (loF G (evF G (n + 1)) [2, 3, 6] (.nm 1) [(.loop (.nm 4) chI rowB)] []) (intsN is) (envE (boD qs ws) w1 st.length w4 w5 w6 w7) (SC st NF) = some (.nx (envE (boD qs ws) v1 st.length v4 v5 v6 v7) (SC st (chartP qs is NF)))
  | [], NF, c, w1, w4, w5, w6, w7, _, _, _ => ⟨w1, w4, w5, w6, w7, rfl⟩
  | i :: is, NF, c, w1, w4, w5, w6, w7, hk, hc, hz => by
    simp only [List.length_cons] at hz
    have hi := hk i (List.mem_cons_self ..)
    have ho := othersN_len qs.length i
    obtain ⟨v4, v5, v6, v7, e⟩ := rowsL_ok hC hR hW n st qs ws hl hs i hi (othersN qs.length i) NF c w4 w5 w6 w7 (fun k hk => othersN_lt hk) hc (by omega)
    have hc2 : Ch (rowsP qs i (othersN qs.length i) NF) (c + (othersN qs.length i).length) := hc.rows (gp_sm hs) _
    obtain ⟨u1, u4, u5, u6, u7, e2⟩ := chartL_ok hC hR hW n st qs ws hl hn hs is (rowsP qs i (othersN qs.length i) NF) _ (some (.dat (.int (i : Nat)))) v4 v5 v6 v7 (fun x hx => hk x (List.mem_cons_of_mem _ hx)) hc2 (by omega)
    refine ⟨u1, u4, u5, u6, u7, ?_⟩
    have hbody : evSs G (evF G (n + 1)) [2, 3, 6] [(.loop (.nm 4) chI rowB)] (envE (boD qs ws) (some (.dat (.int (i : Nat)))) st.length w4 w5 w6 w7) (SC st NF) = some (.nx (envE (boD qs ws) (some (.dat (.int (i : Nat)))) st.length v4 v5 v6 v7) (SC st (rowsP qs i (othersN qs.length i) NF))) := by
      rw [evSs_nx ((evS_loop (chI_ok (n + 1) (SC st NF) qs ws hl hn i st.length w4 w5 w6 w7)).trans e)]
      simp only [evSs]
    show forL _ (PyData.int ((i : Nat) : Int) :: intsN is) _ _ = _
    rw [forL_nx (loF_nx (e := envE (boD qs ws) (some (.dat (.int (i : Nat)))) st.length v4 v5 v6 v7) (env1 := envE (boD qs ws) (some (.dat (.int (i : Nat)))) st.length w4 w5 w6 w7) rfl hbody rfl)]
    exact e2
/-- the chart: both halves -/
def chart2 (qs : List (Int × Int)) : List Row × List Row := chartP qs (List.range' 0 qs.length) ([], [])
theorem chart_ok (hF : G.fn "_law_chart" = some i_chart) (hC : G.fn "_law_cross" = some i_cross) (hR : G.fn "_law_far" = some i_far) (hW : 100 ≤ G.wf) (n : Nat) (st : Sto) (qs : List (Int × Int)) (ws : List Str) (hl : ws.length = qs.length) (hn : qs.length ≤ 8) (hs : ∀ q ∈ qs, Sm q) :
    evF G (n + 2) "_law_chart" [.dat (boD qs ws)] st = some (.dat (.list (((chart2 qs).1 ++ (chart2 qs).2).map rowD)) true, st) := by
  rw [evF_s hF rfl]
  have e1 : evS G (evF G (n + 1)) [2, 3, 6] (.par [2, 3] [(.lst []), (.lst [])]) [some (.dat (boD qs ws)), none, none, none, none, none, none, none] st = some (.nx (envE (boD qs ws) none st.length none none none none) (SC st ([], []))) := by
    have h0 : ∀ st, evE G (evF G (n + 1)) (.lst []) [some (.dat (boD qs ws)), none, none, none, none, none, none, none] st = some (.dat (.list []) true, st) := fun st => by
      simp only [evE, evDs]
      exact if_pos (Nat.zero_le _)
    rw [evS]
    simp only [List.zip, List.zipWith, evP, h0]
    have hm : [2, 3, 6].contains 2 = true := rfl
    have hm3 : [2, 3, 6].contains 3 = true := rfl
    simp only [hm, hm3, setAll, List.length_append, List.length_cons, List.length_nil, List.append_assoc]
    rfl
  have hb : evE G (evF G (n + 1)) (.blt .len [(.slot 0)]) (envE (boD qs ws) none st.length none none none none) (SC st ([], [])) = some (.dat (.int (qs.length : Nat)) false, SC st ([], [])) := r_blt1 (r_dat rfl) rfl (boD_len hl)
  have hI := rngL (G := G) (n + 1) qs.length (by omega) (.blt .len [(.slot 0)]) _ _ hb
  obtain ⟨v1, v4, v5, v6, v7, e2⟩ := chartL_ok hC hR hW n st qs ws hl hn hs (List.range' 0 qs.length) ([], []) 0 none none none none none (fun k hk => by rw [List.mem_range'_1] at hk; omega) ⟨rfl, fun r hr => by simp at hr⟩ (by rw [List.length_range']; omega)
  rw [show chartP qs (List.range' 0 qs.length) ([], []) = chart2 qs from rfl] at e2
  have hret : evE G (evF G (n + 1)) (.bin .Add (.slot 2) (.slot 3)) (envE (boD qs ws) v1 st.length v4 v5 v6 v7) (SC st (chart2 qs)) = some (.dat (.list (((chart2 qs).1 ++ (chart2 qs).2).map rowD)) true, SC st (chart2 qs)) := by
    refine r_bin (x := .loc st.length) (y := .loc (st.length + 1)) (d := .list ((chart2 qs).1.map rowD)) (e := .list ((chart2 qs).2.map rowD)) (r_loc rfl) (r_loc rfl) ?_ ?_ ?_
    · show ((SC st (chart2 qs))[st.length]?).map PyData.list = _
      rw [SC.near]
      rfl
    · show ((SC st (chart2 qs))[st.length + 1]?).map PyData.list = _
      rw [SC.far]
      rfl
    · have hc : ∀ (is : List Nat) {NF : List Row × List Row} {c : Nat}, Ch NF c → ∃ c', c' ≤ c + 8 * is.length ∧ Ch (chartP qs is NF) c' := by
        intro is
        induction is with
        | nil => intro NF c h; exact ⟨c, by simp, h⟩
        | cons i is ih =>
          intro NF c h
          obtain ⟨c', a, b⟩ := ih (h.rows (i := i) (gp_sm hs) (othersN qs.length i))
          have := othersN_len qs.length i
          exact ⟨c', by simp only [List.length_cons]; omega, b⟩
      obtain ⟨c', a, b⟩ := hc (List.range' 0 qs.length) (NF := ([], [])) (c := 0) ⟨rfl, fun r hr => by simp at hr⟩
      rw [List.length_range'] at a
      have hlen := b.len
      have hz : ((chart2 qs).1.map rowD).length + ((chart2 qs).2.map rowD).length ≤ sizeLine := by
        rw [PySem.sizeLine_eq, List.length_map, List.length_map]
        unfold chart2
        omega
      simp only [binD]
      rw [if_pos hz, List.map_append]
  show finF st.length (evSs G (evF G (n + 1)) [2, 3, 6] ((.par [2, 3] [(.lst []), (.lst [])]) :: (.loop (.nm 1) (.rng [(.blt .len [(.slot 0)])]) [(.loop (.nm 4) chI rowB)]) :: [(.ret (some (.bin .Add (.slot 2) (.slot 3))))]) [some (.dat (boD qs ws)), none, none, none, none, none, none, none] st) = _
  rw [evSs_nx e1, evSs_nx ((evS_loop hI).trans e2), evSs_rt (r_ret hret)]
  show some (ER.dat _ true, (SC st (chart2 qs)).take st.length) = _
  have : (SC st (chart2 qs)).take st.length = st := by
    unfold SC
    rw [List.take_append_of_le_length (Nat.le_refl _), List.take_of_length_le (Nat.le_refl _)]
  rw [this]
end
end Wl
set_option linter.all false
set_option maxRecDepth 1000000
set_option maxHeartbeats 4000000
/-! W15: what the program does with a board: whether it is one. -/
namespace Wl
open PySem PySem.Spec L2 Ev
def i_due : FnD := ⟨2, 6, [2], false,
  [(.asg (.nm 2) (.lst [])), (.loop (.tp [(.nm 3), (.nm 4), (.nm 5)]) (.of (.slot 0)) [(.ite (.cmp .Eq (.slot 4) (.slot 1)) [(.app 2 (.tup [(.slot 5), (.str ("ahead" : Str))]))] [(.ite (.cmp .Eq (.slot 5) (.slot 1)) [(.app 2 (.tup [(.slot 4), (.str ("behind" : Str))]))] [])])]), (.ret (some (.blt .tup [(.slot 2)])))]⟩
def i_meetings : FnD := ⟨2, 6, [], false,
  [(.exp (.call ("need_board" : Str) [(.slot 0)])), (.exp (.call ("need_pin" : Str) [(.slot 0), (.slot 1)])), (.asg (.nm 2) (.lc [(("one" : Str), 3), (("other" : Str), 4)] (.tp [(.nm 3), (.nm 4)]) (.of (.call ("turned_pairs" : Str) [(.slot 0)])) [(.cmp .In (.slot 1) (.tup [(.slot 3), (.slot 4)]))] (.ite (.cmp .Eq (.slot 3) (.slot 1)) (.tup [(.slot 4), (.str ("ahead" : Str))]) (.tup [(.slot 3), (.str ("behind" : Str))])))), (.ret (some (.blt .tup [(.bin .Add (.slot 2) (.lc [(("other" : Str), 4), (("word" : Str), 5)] (.tp [(.nm 4), (.nm 5)]) (.of (.slot 2)) [] (.tup [(.slot 4), (.look ("OTHER_WORD" : Str) (.slot 5))])))])))]⟩
def i_need_board : FnD := ⟨1, 1, [], false,
  [(.ite (.no (.call ("is_board" : Str) [(.slot 0)])) [.nev] [])]⟩
def i_need_pin : FnD := ⟨2, 2, [], false,
  [(.ite (.no (.call ("is_pin_number" : Str) [(.slot 0), (.slot 1)])) [.nev] [])]⟩
def i_turned_pairs : FnD := ⟨1, 14, [], false,
  [(.asg (.nm 1) (.srt (.lc [(("pin" : Str), 9), (("x" : Str), 12), (("y" : Str), 13), (("_" : Str), 7)] (.tp [(.nm 9), (.tp [(.nm 12), (.nm 13), (.nm 7)])]) (.enm (.slot 0)) [] (.tup [(.bin .Sub (.bin .Mult (.con ("START_X" : Str)) (.slot 13)) (.bin .Mult (.con ("START_Y" : Str)) (.slot 12))), (.bin .Mult (.bin .Add (.bin .Mult (.con ("START_X" : Str)) (.slot 12)) (.bin .Mult (.con ("START_Y" : Str)) (.slot 13))) (.con ("FINE" : Str))), (.slot 9)])) false)), (.asg (.nm 2) (.lc2 [(("at" : Str), 3), (("left" : Str), 10), (("along" : Str), 11), (("other" : Str), 8), (("one_left" : Str), 4), (("one_along" : Str), 5), (("one" : Str), 6)] [4, 5, 6] (.tp [(.nm 3), (.tp [(.nm 10), (.nm 11), (.nm 8)])]) (.enm (.slot 1)) [] (.tp [(.nm 4), (.nm 5), (.nm 6)]) (.of (.cut (.slot 1) none (some (.slot 3)))) [] (.tup [(.bin .FloorDiv (.bin .Sub (.slot 11) (.slot 5)) (.bin .Sub (.slot 10) (.slot 4))), (.slot 6), (.slot 8)]))), (.ret (some (.lc [(("_" : Str), 7), (("one" : Str), 6), (("other" : Str), 8)] (.tp [(.nm 7), (.nm 6), (.nm 8)]) (.of (.srt (.slot 2) true)) [] (.tup [(.slot 6), (.slot 8)]))))]⟩
def i_is_board : FnD := ⟨1, 2, [], false,
  [(.ite (.lor (.no (.isi (.slot 0) "tuple")) (.no (.cmp2 .LtE .LtE (.con ("FEWEST_PINS" : Str)) (.blt .len [(.slot 0)]) (.con ("MOST_PINS" : Str))))) [(.ret (some (.bl false)))] []), (.loop (.nm 1) (.of (.slot 0)) [(.ite (.no (.call ("is_pin" : Str) [(.slot 1)])) [(.ret (some (.bl false)))] [])]), (.ret (some (.cmp .Eq (.call ("many_slopes" : Str) [(.slot 0)]) (.bin .FloorDiv (.bin .Mult (.blt .len [(.slot 0)]) (.bin .Sub (.blt .len [(.slot 0)]) (.int 1))) (.int 2)))))]⟩
def i_is_pin_number : FnD := ⟨2, 2, [], false,
  [(.ret (some (.land (.call ("is_whole" : Str) [(.slot 1)]) (.cmp2 .LtE .Lt (.int 0) (.slot 1) (.blt .len [(.slot 0)])))))]⟩
def i_is_pin : FnD := ⟨1, 4, [], false,
  [(.ite (.lor (.no (.isi (.slot 0) "tuple")) (.cmp .NotEq (.blt .len [(.slot 0)]) (.int 3))) [(.ret (some (.bl false)))] []), (.asg (.tp [(.nm 1), (.nm 2), (.nm 3)]) (.slot 0)), (.ite (.lor (.no (.isi (.slot 1) "int")) (.lor (.no (.isi (.slot 2) "int")) (.lor (.cmp .Is (.slot 1) (.bl true)) (.lor (.cmp .Is (.slot 1) (.bl false)) (.lor (.cmp .Is (.slot 2) (.bl true)) (.cmp .Is (.slot 2) (.bl false))))))) [(.ret (some (.bl false)))] []), (.ret (some (.land (.cmp2 .LtE .LtE (.int 0) (.slot 1) (.con ("LAST_PLACE" : Str))) (.land (.cmp2 .LtE .LtE (.int 0) (.slot 2) (.con ("LAST_PLACE" : Str))) (.lor (.cmp .Eq (.slot 3) (.str ("left" : Str))) (.cmp .Eq (.slot 3) (.str ("right" : Str))))))))]⟩
def i_many_slopes : FnD := ⟨1, 7, [], false,
  [(.ret (some (.card [(("at" : Str), 1), (("x" : Str), 5), (("y" : Str), 6), (("_" : Str), 4), (("other_x" : Str), 2), (("other_y" : Str), 3)] [2, 3, 4] (.tp [(.nm 1), (.tp [(.nm 5), (.nm 6), (.nm 4)])]) (.enm (.slot 0)) [] (.tp [(.nm 2), (.nm 3), (.nm 4)]) (.of (.cut (.slot 0) none (some (.slot 1)))) [] (.ite (.cmp .NotEq (.slot 5) (.slot 2)) (.bin .FloorDiv (.bin .Mult (.bin .Sub (.slot 6) (.slot 3)) (.con ("FINE" : Str))) (.bin .Sub (.slot 5) (.slot 2))) .non))))]⟩
def i_is_whole : FnD := ⟨1, 1, [], false,
  [(.ret (some (.land (.isi (.slot 0) "int") (.no (.isi (.slot 0) "bool")))))]⟩

section
variable {G : Pk} {cl : Str → List SV → Sto → Option (ER × Sto)}
def lcG (G : Pk) (cl : Str → List SV → Sto → Option (ER × Sto)) (vs : List Nat) (t : IT) (cs : List IE) (e : IE) (env : Ev.Env) (kp : List (Nat × List D)) : D → Sto → Option (List D × Sto) := fun d s => match bindT t d (wipeE env vs) with
  | some env1 => match evCs G cl cs env1 s with
    | some (true, s1) => match evE G cl e env1 s1 with
      | some (.dat y _, s2) => if keptL s2 kp then some ([y], s2) else none
      | _ => none
    | some (false, s1) => if keptL s1 kp then some ([], s1) else none
    | none => none
  | none => none
theorem lcG_yes {vs : List Nat} {t : IT} {cs : List IE} {e : IE} {env env1 : Ev.Env} {s s1 s2 : Sto} {d y : D} {fr : Bool} {kp : List (Nat × List D)} (h1 : bindT t d (wipeE env vs) = some env1) (h2 : evCs G cl cs env1 s = some (true, s1)) (h3 : evE G cl e env1 s1 = some (.dat y fr, s2)) (h4 : keptL s2 kp = true) :
    lcG G cl vs t cs e env kp d s = some ([y], s2) := by
  unfold lcG
  simp only [h1, h2, h3, h4, if_true]
/-- the outer turn of a comprehension of two fors -/
def lc2F (G : Pk) (cl : Str → List SV → Sto → Option (ER × Sto)) (own : List (Str × Nat)) (vs : List Nat) (t : IT) (cs : List IE) (t1 : IT) (it1 : II) (cs1 : List IE) (e : IE) (env : Ev.Env) (kp : List (Nat × List D)) : D → Sto → Option (List D × Sto) := fun d s => match bindT t d (wipeE env (own.map (·.2))) with
  | some env1 => match evCs G cl cs env1 s with
    | some (true, s1) => match evI G cl it1 env1 s1 with
      | some (zs, kp1, s2) => match compL (lcG G cl vs t1 cs1 e env1 kp1) zs s2 with
        | some (ys, s5) => if keptL s5 kp then some (ys, s5) else none
        | none => none
      | none => none
    | some (false, s1) => if keptL s1 kp then some ([], s1) else none
    | none => none
  | none => none
theorem lc2F_yes {own : List (Str × Nat)} {vs : List Nat} {t t1 : IT} {it1 : II} {cs cs1 : List IE} {e : IE} {env env1 : Ev.Env} {kp kp1 : List (Nat × List D)} {d : D} {s s1 s2 s5 : Sto} {zs ys : List D} (h1 : bindT t d (wipeE env (own.map (·.2))) = some env1) (h2 : evCs G cl cs env1 s = some (true, s1)) (h3 : evI G cl it1 env1 s1 = some (zs, kp1, s2)) (h4 : compL (lcG G cl vs t1 cs1 e env1 kp1) zs s2 = some (ys, s5)) (h5 : keptL s5 kp = true) :
    lc2F G cl own vs t cs t1 it1 cs1 e env kp d s = some (ys, s5) := by
  unfold lc2F
  simp only [h1, h2, h3, h4, h5, if_true]
theorem evE_lc2 {own : List (Str × Nat)} {vs : List Nat} {t t1 : IT} {it it1 : II} {cs cs1 : List IE} {e : IE} {env : Ev.Env} {st st1 st2 : Sto} {xs ys : List D} {kp : List (Nat × List D)} (h : evI G cl it env st = some (xs, kp, st1)) (h2 : compL (lc2F G cl own vs t cs t1 it1 cs1 e env kp) xs st1 = some (ys, st2)) (h3 : ys.length ≤ sizeLine) :
    evE G cl (.lc2 own vs t it cs t1 it1 cs1 e) env st = some (.dat (.list ys) true, st2) := by
  rw [evE, h]
  show (match compL (lc2F G cl own vs t cs t1 it1 cs1 e env kp) xs st1 with
    | some (ys, st2) => if ys.length ≤ sizeLine then some (ER.dat (.list ys) true, st2) else none
    | none => none) = _
  rw [h2]
  exact if_pos h3
theorem evE_card {own : List (Str × Nat)} {vs : List Nat} {t t1 : IT} {it it1 : II} {cs cs1 : List IE} {e : IE} {env : Ev.Env} {st st1 st2 : Sto} {xs ys : List D} {kp : List (Nat × List D)} {ks : List (Option L2.Key)} (h : evI G cl it env st = some (xs, kp, st1)) (h2 : compL (lc2F G cl own vs t cs t1 it1 cs1 e env kp) xs st1 = some (ys, st2)) (h3 : keysD ys = some ks) (h4 : ks.length < 4000) :
    evE G cl (.card own vs t it cs t1 it1 cs1 e) env st = some (.dat (.int ((dedK [] ks).length : Nat)) false, st2) := by
  rw [evE, h]
  show (match compL (lc2F G cl own vs t cs t1 it1 cs1 e env kp) xs st1 with
    | some (ys, st2) => match keysD ys with
      | some ks => if ks.length < 4000 then some (ER.dat (.int ((dedK [] ks).length : Nat)) false, st2) else none
      | none => none
    | none => none) = _
  rw [h2]
  simp only
  rw [h3]
  exact if_pos h4
theorem r_con {x : Str} {d : D} {env : Ev.Env} {st : Sto} (h : G.con x = some d) : evE G cl (.con x) env st = some (.dat d false, st) := by
  rw [evE, h]
theorem r_no {a : IE} {env : Ev.Env} {st st1 : Sto} {b : Bool} (h : tstE (evE G cl a env st) = some (b, st1)) : evE G cl (.no a) env st = some (.dat (.bool (!b)) false, st1) := by
  rw [evE, h]
theorem r_isi {a : IE} {t : String} {env : Ev.Env} {st st1 : Sto} {x : ER} {d : D} {b : Bool} (h : evE G cl a env st = some (x, st1)) (h2 : rdE st1 x = some d) (h3 : isD t d = some b) : evE G cl (.isi a t) env st = some (.dat (.bool b) false, st1) := by
  rw [evE, h]
  simp only [h2, h3]
theorem r_lorT {a b : IE} {env : Ev.Env} {st st1 : Sto} {f : Bool} (h1 : evE G cl a env st = some (.dat (.bool true) f, st1)) : evE G cl (.lor a b) env st = some (.dat (.bool true) f, st1) := by
  rw [evE, h1]
  rfl
theorem r_lorF {a b : IE} {env : Ev.Env} {st st1 : Sto} {f : Bool} {R : Option (ER × Sto)} (h1 : evE G cl a env st = some (.dat (.bool false) f, st1)) (h2 : evE G cl b env st1 = R) : evE G cl (.lor a b) env st = R := by
  rw [evE, h1]
  exact h2
theorem r_cmp2T {o p : CmpOp} {a b c : IE} {env : Ev.Env} {st st1 st2 st3 : Sto} {x y z : ER} {d e f : D} {r : Bool} (h1 : evE G cl a env st = some (x, st1)) (h2 : evE G cl b env st1 = some (y, st2)) (h3 : rdE st2 x = some d) (h4 : rdE st2 y = some e) (h5 : cmpD o d e = some true) (h6 : evE G cl c env st2 = some (z, st3)) (h7 : rdE st3 y = some e) (h8 : rdE st3 z = some f) (h9 : cmpD p e f = some r) : evE G cl (.cmp2 o p a b c) env st = some (.dat (.bool r) false, st3) := by
  rw [evE, h1]
  simp only
  rw [h2]
  simp only [h3, h4, h5]
  rw [h6]
  simp only [h7, h8, h9]
theorem r_bl {b : Bool} {env : Ev.Env} {st : Sto} : evE G cl (.bl b) env st = some (.dat (.bool b) false, st) := by
  rw [evE]
theorem tst_of {a : IE} {env : Ev.Env} {st st1 : Sto} {b f : Bool} (h : evE G cl a env st = some (.dat (.bool b) f, st1)) : tstE (evE G cl a env st) = some (b, st1) := r_tst h rfl rfl
end
abbrev pinD (q : Int × Int) (w : Str) : D := .tuple [.int q.1, .int q.2, .str w]
/-- what the package's constants are -/
structure Cs (G : Pk) : Prop where
  few : G.con "FEWEST_PINS" = some (.int 3)
  most : G.con "MOST_PINS" = some (.int 8)
  fine : G.con "FINE" = some (.int 20000)
  last : G.con "LAST_PLACE" = some (.int 99)
section
variable {G : Pk}
theorem is_pin_ok (hF : G.fn "is_pin" = some i_is_pin) (k : Cs G) (n : Nat) (st : Sto) (q : Int × Int) (w : Str) (hq : In q) (hw : Wy w) : evF G (n + 1) "is_pin" [.dat (pinD q w)] st = some (.dat (.bool true) false, st) := by
  rw [evF_s hF rfl]
  have e0 : [SV.dat (pinD q w)].map some ++ List.replicate (i_is_pin.len - i_is_pin.ps) none = [some (.dat (pinD q w)), none, none, none] := rfl
  rw [e0]
  have s1 : evS G (evF G n) [] (.ite (.lor (.no (.isi (.slot 0) "tuple")) (.cmp .NotEq (.blt .len [(.slot 0)]) (.int 3))) [(.ret (some (.bl false)))] []) [some (.dat (pinD q w)), none, none, none] st = some (.nx [some (.dat (pinD q w)), none, none, none] st) := by
    refine r_ite (k := false) (st1 := st) (tst_of (f := false) (r_lorF (r_no (b := true) (tst_of (f := false) (r_isi (d := pinD q w) (r_dat rfl) rfl (by show kitB "tuple" "tuple" = some true; decide +kernel)))) ?_)) (by simp only [Bool.false_eq_true, if_false, evSs])
    exact r_cmp (d := .int 3) (e := .int 3) (r_blt1 (x := .dat (pinD q w) false) (r_dat rfl) rfl rfl) r_int rfl rfl (by decide +kernel)
  have s2 : evS G (evF G n) [] (.asg (.tp [(.nm 1), (.nm 2), (.nm 3)]) (.slot 0)) [some (.dat (pinD q w)), none, none, none] st = some (.nx [some (.dat (pinD q w)), some (.dat (.int q.1)), some (.dat (.int q.2)), some (.dat (.str w))] st) := by
    rw [evS, r_dat (d := pinD q w) rfl]
    rfl
  have env2 : Ev.Env := [some (.dat (pinD q w)), some (.dat (.int q.1)), some (.dat (.int q.2)), some (.dat (.str w))]
  have nT : ∀ (i : Nat) (x : Int), ([some (.dat (pinD q w)), some (.dat (.int q.1)), some (.dat (.int q.2)), some (.dat (.str w))] : Ev.Env)[i]? = some (some (.dat (.int x))) → evE G (evF G n) (.cmp .Is (.slot i) (.bl true)) [some (.dat (pinD q w)), some (.dat (.int q.1)), some (.dat (.int q.2)), some (.dat (.str w))] st = some (.dat (.bool false) false, st) := fun i x h => r_cmp (d := .int x) (e := .bool true) (r_dat h) r_bl rfl rfl rfl
  have nF : ∀ (i : Nat) (x : Int), ([some (.dat (pinD q w)), some (.dat (.int q.1)), some (.dat (.int q.2)), some (.dat (.str w))] : Ev.Env)[i]? = some (some (.dat (.int x))) → evE G (evF G n) (.cmp .Is (.slot i) (.bl false)) [some (.dat (pinD q w)), some (.dat (.int q.1)), some (.dat (.int q.2)), some (.dat (.str w))] st = some (.dat (.bool false) false, st) := fun i x h => r_cmp (d := .int x) (e := .bool false) (r_dat h) r_bl rfl rfl rfl
  have nI : ∀ (i : Nat) (x : Int), ([some (.dat (pinD q w)), some (.dat (.int q.1)), some (.dat (.int q.2)), some (.dat (.str w))] : Ev.Env)[i]? = some (some (.dat (.int x))) → evE G (evF G n) (.no (.isi (.slot i) "int")) [some (.dat (pinD q w)), some (.dat (.int q.1)), some (.dat (.int q.2)), some (.dat (.str w))] st = some (.dat (.bool false) false, st) := fun i x h => r_no (b := true) (tst_of (f := false) (r_isi (d := .int x) (r_dat h) rfl (by show kitB "int" "int" = some true; decide +kernel)))
  have s3 : evS G (evF G n) [] (.ite (.lor (.no (.isi (.slot 1) "int")) (.lor (.no (.isi (.slot 2) "int")) (.lor (.cmp .Is (.slot 1) (.bl true)) (.lor (.cmp .Is (.slot 1) (.bl false)) (.lor (.cmp .Is (.slot 2) (.bl true)) (.cmp .Is (.slot 2) (.bl false))))))) [(.ret (some (.bl false)))] []) [some (.dat (pinD q w)), some (.dat (.int q.1)), some (.dat (.int q.2)), some (.dat (.str w))] st = some (.nx [some (.dat (pinD q w)), some (.dat (.int q.1)), some (.dat (.int q.2)), some (.dat (.str w))] st) := by
    refine r_ite (k := false) (st1 := st) (tst_of (f := false) (r_lorF (nI 1 q.1 rfl) (r_lorF (nI 2 q.2 rfl) (r_lorF (nT 1 q.1 rfl) (r_lorF (nF 1 q.1 rfl) (r_lorF (nT 2 q.2 rfl) (nF 2 q.2 rfl))))))) (by simp only [Bool.false_eq_true, if_false, evSs])
  have nB : ∀ (i : Nat) (x : Int), 0 ≤ x → x < 100 → ([some (.dat (pinD q w)), some (.dat (.int q.1)), some (.dat (.int q.2)), some (.dat (.str w))] : Ev.Env)[i]? = some (some (.dat (.int x))) → evE G (evF G n) (.cmp2 .LtE .LtE (.int 0) (.slot i) (.con ("LAST_PLACE" : Str))) [some (.dat (pinD q w)), some (.dat (.int q.1)), some (.dat (.int q.2)), some (.dat (.str w))] st = some (.dat (.bool true) false, st) := fun i x h0 h1 h =>
    r_cmp2T (d := .int 0) (e := .int x) (f := .int 99) r_int (r_dat h) rfl rfl (by show some (decide (0 ≤ x)) = _; rw [decide_eq_true h0]) (r_con k.last) rfl rfl (by show some (decide (x ≤ 99)) = _; rw [decide_eq_true (by omega)])
  have s4 : evE G (evF G n) (.land (.cmp2 .LtE .LtE (.int 0) (.slot 1) (.con ("LAST_PLACE" : Str))) (.land (.cmp2 .LtE .LtE (.int 0) (.slot 2) (.con ("LAST_PLACE" : Str))) (.lor (.cmp .Eq (.slot 3) (.str ("left" : Str))) (.cmp .Eq (.slot 3) (.str ("right" : Str)))))) [some (.dat (pinD q w)), some (.dat (.int q.1)), some (.dat (.int q.2)), some (.dat (.str w))] st = some (.dat (.bool true) false, st) := by
    refine r_landT (nB 1 q.1 hq.1 hq.2.1 rfl) (r_landT (nB 2 q.2 hq.2.2.1 hq.2.2.2 rfl) ?_)
    rcases hw with rfl | rfl
    · exact r_lorT (r_cmp (d := .str ("left" : Str)) (e := .str ("left" : Str)) (r_dat rfl) r_str rfl rfl (by decide +kernel))
    · exact r_lorF (f := false) (r_cmp (d := .str ("right" : Str)) (e := .str ("left" : Str)) (r_dat rfl) r_str rfl rfl (by decide +kernel)) (r_cmp (d := .str ("right" : Str)) (e := .str ("right" : Str)) (r_dat rfl) r_str rfl rfl (by decide +kernel))
  show finF st.length (evSs G (evF G n) [] (_ :: _ :: _ :: [.ret (some _)]) _ st) = _
  rw [evSs_nx s1, evSs_nx s2, evSs_nx s3, evSs_rt (r_ret s4)]
  show some (ER.dat (.bool true) false, st.take st.length) = _
  rw [List.take_length]
end
end Wl
set_option linter.all false
set_option maxRecDepth 1000000
set_option maxHeartbeats 4000000
/-! W16: what the program does with a board: its slopes. -/
namespace Wl
open PySem PySem.Spec L2 Ev
def fdv (i j : Int) : Int := if 0 < j then i / j else i.fdiv j
def slopeD (q p : Int × Int) : D := if q.1 = p.1 then .none else .int (fdv ((q.2 - p.2) * 20000) (q.1 - p.1))
def slopesP : List (Int × Int) → List (Int × Int) → List D
  | _, [] => []
  | done, q :: qs => done.map (slopeD q) ++ slopesP (done ++ [q]) qs
theorem zipB_app : ∀ {qs1 : List (Int × Int)} {ws1 : List Str} (qs2 : List (Int × Int)) (ws2 : List Str), ws1.length = qs1.length → zipB (qs1 ++ qs2) (ws1 ++ ws2) = zipB qs1 ws1 ++ zipB qs2 ws2
  | [], [], _, _, _ => by simp [zipB]
  | [], _ :: _, _, _, h => by simp at h
  | _ :: _, [], _, _, h => by simp at h
  | q :: qs1, w :: ws1, qs2, ws2, h => by
    simp only [List.cons_append, zipB]
    rw [zipB_app qs2 ws2 (by simpa using h)]
theorem cut_at (xs : List D) (k : Nat) (h : k ≤ xs.length) : cutD xs none (some ((k : Nat) : Int)) = xs.take k := by
  have e0 : HT.sIx xs.length 0 none = 0 := rfl
  have e1 : HT.sIx xs.length xs.length (some ((k : Nat) : Int)) = k := by
    simp only [HT.sIx]
    split <;> omega
  unfold cutD
  rw [e0, e1, List.drop_zero, Nat.sub_zero]
theorem mulS (i : Int) : binD .Mult (.int i) (.int 20000) = some (.int (i * 20000), false) := by
  simp [binD]
theorem fdivS (i j : Int) (h0 : j ≠ 0) (h1 : -30000 < j) (h2 : j < 30000) : binD .FloorDiv (.int i) (.int j) = some (.int (fdv i j), false) := by
  simp only [binD, fdv]
  by_cases h : 0 < j
  · rw [if_pos ⟨h, by omega⟩, if_pos h]
  · rw [if_neg (fun z => h z.1), if_pos ⟨by omega, by omega⟩, if_neg h]
theorem neS (i j : Int) : cmpD .NotEq (.int i) (.int j) = some (decide (i ≠ j)) := by
  show some (!(i == j)) = _
  congr 1
  rw [Bool.eq_iff_iff]
  simp
section
variable {G : Pk}
def slE : IE := .ite (.cmp .NotEq (.slot 5) (.slot 2)) (.bin .FloorDiv (.bin .Mult (.bin .Sub (.slot 6) (.slot 3)) (.con ("FINE" : Str))) (.bin .Sub (.slot 5) (.slot 2))) .non
abbrev envS (B : D) (k : Int) (p : Int × Int) (w : Str) (q : Int × Int) : Ev.Env := [some (.dat B), some (.dat (.int k)), some (.dat (.int p.1)), some (.dat (.int p.2)), some (.dat (.str w)), some (.dat (.int q.1)), some (.dat (.int q.2))]
theorem slE_ok (c : Cs G) (n : Nat) (st : Sto) (B : D) (k : Int) (p q : Int × Int) (w : Str) (hp : In p) (hq : In q) : evE G (evF G n) slE (envS B k p w q) st = some (.dat (slopeD q p) false, st) := by
  have ht : tstE (evE G (evF G n) (.cmp .NotEq (.slot 5) (.slot 2)) (envS B k p w q) st) = some (decide (q.1 ≠ p.1), st) := tst_of (f := false) (r_cmp (d := .int q.1) (e := .int p.1) (r_dat rfl) (r_dat rfl) rfl rfl (neS _ _))
  obtain ⟨p1, p2, p3, p4⟩ := hp
  obtain ⟨q1, q2, q3, q4⟩ := hq
  by_cases h : q.1 = p.1
  · rw [decide_eq_false (fun z => z h)] at ht
    refine r_iteE ht ?_
    show evE G (evF G n) .non _ _ = _
    rw [evE]
    unfold slopeD
    rw [if_pos h]
  · rw [decide_eq_true h] at ht
    refine r_iteE ht ?_
    show evE G (evF G n) (.bin .FloorDiv _ _) _ _ = _
    unfold slopeD
    rw [if_neg h]
    refine r_bin (d := .int ((q.2 - p.2) * 20000)) (e := .int (q.1 - p.1)) (r_bin (d := .int (q.2 - p.2)) (e := .int 20000) (r_bin (d := .int q.2) (e := .int p.2) (r_dat rfl) (r_dat rfl) rfl rfl rfl) (r_con c.fine) rfl rfl (mulS _)) (r_bin (d := .int q.1) (e := .int p.1) (r_dat rfl) (r_dat rfl) rfl rfl rfl) rfl rfl (fdivS _ _ (by omega) (by omega) (by omega))
theorem slIn_ok (c : Cs G) (n : Nat) (st : Sto) (B : D) (k : Int) (q : Int × Int) (w : Str) (hq : In q) : ∀ (ps : List (Int × Int)) (us : List Str), us.length = ps.length → (∀ p ∈ ps, In p) →
    compL (lcG G (evF G n) [2, 3, 4] (.tp [(.nm 2), (.nm 3), (.nm 4)]) [] slE [some (.dat B), some (.dat (.int k)), none, none, some (.dat (.str w)), some (.dat (.int q.1)), some (.dat (.int q.2))] []) (zipB ps us) st = some (ps.map (slopeD q), st)
  | [], us, _, _ => by simp [zipB, compL]
  | _ :: _, [], h, _ => by simp at h
  | p :: ps, u :: us, h, hp => by
    have ih := slIn_ok c n st B k q w hq ps us (by simpa using h) fun x hx => hp x (List.mem_cons_of_mem _ hx)
    have hb : bindT (.tp [(.nm 2), (.nm 3), (.nm 4)]) (pinD p u) (wipeE [some (.dat B), some (.dat (.int k)), none, none, some (.dat (.str w)), some (.dat (.int q.1)), some (.dat (.int q.2))] [2, 3, 4]) = some (envS B k p u q) := rfl
    exact compL_cons (lcG_yes hb (by simp only [evCs]) (slE_ok c n st B k p q u (hp p (List.mem_cons_self ..)) hq) rfl) ih
abbrev ownS : List (Str × Nat) := [(("at" : Str), 1), (("x" : Str), 5), (("y" : Str), 6), (("_" : Str), 4), (("other_x" : Str), 2), (("other_y" : Str), 3)]
theorem slOut_ok (c : Cs G) (n : Nat) (st : Sto) (qs : List (Int × Int)) (ws : List Str) (hs : ∀ q ∈ qs, In q) : ∀ (qs2 : List (Int × Int)) (ws2 : List Str) (qs1 : List (Int × Int)) (ws1 : List Str), ws1.length = qs1.length → ws2.length = qs2.length → qs = qs1 ++ qs2 → ws = ws1 ++ ws2 →
    compL (lc2F G (evF G n) ownS [2, 3, 4] (.tp [(.nm 1), (.tp [(.nm 5), (.nm 6), (.nm 4)])]) [] (.tp [(.nm 2), (.nm 3), (.nm 4)]) (.of (.cut (.slot 0) none (some (.slot 1)))) [] slE [some (.dat (boD qs ws)), none, none, none, none, none, none] []) (enmD qs1.length (zipB qs2 ws2)) st = some (slopesP qs1 qs2, st)
  | [], _, qs1, ws1, _, _, _, _ => by simp [zipB, enmD, compL, slopesP]
  | _ :: _, [], _, _, _, h, _, _ => by simp at h
  | q :: qs2, w :: ws2, qs1, ws1, h1, h2, hq, hw => by
    have ih := slOut_ok c n st qs ws hs qs2 ws2 (qs1 ++ [q]) (ws1 ++ [w]) (by simp [h1]) (by simpa using h2) (by rw [hq]; simp) (by rw [hw]; simp)
    rw [List.length_append, List.length_singleton] at ih
    have hin : In q := hs q (by rw [hq]; simp)
    have hb : bindT (.tp [(.nm 1), (.tp [(.nm 5), (.nm 6), (.nm 4)])]) (.tuple [.int ((qs1.length : Nat) : Int), pinD q w]) (wipeE [some (.dat (boD qs ws)), none, none, none, none, none, none] (ownS.map (·.2))) = some [some (.dat (boD qs ws)), some (.dat (.int ((qs1.length : Nat) : Int))), none, none, some (.dat (.str w)), some (.dat (.int q.1)), some (.dat (.int q.2))] := rfl
    have hz : zipB qs ws = zipB qs1 ws1 ++ zipB (q :: qs2) (w :: ws2) := by rw [hq, hw]; exact zipB_app _ _ h1
    have hcut : cutD (zipB qs ws) none (some ((qs1.length : Nat) : Int)) = zipB qs1 ws1 := by
      have hl := zipB_len qs1 ws1 h1
      rw [cut_at _ _ (by rw [hz, List.length_append, hl]; omega), hz, List.take_append_of_le_length (by rw [hl]; exact Nat.le_refl _), ← hl, List.take_length]
    have hI : evI G (evF G n) (.of (.cut (.slot 0) none (some (.slot 1)))) [some (.dat (boD qs ws)), some (.dat (.int ((qs1.length : Nat) : Int))), none, none, some (.dat (.str w)), some (.dat (.int q.1)), some (.dat (.int q.2))] st = some (zipB qs1 ws1, [], st) := by
      have e := r_cutT (G := G) (cl := evF G n) (a := .slot 0) (lo := none) (hi := some (.slot 1)) (env := [some (.dat (boD qs ws)), some (.dat (.int ((qs1.length : Nat) : Int))), none, none, some (.dat (.str w)), some (.dat (.int q.1)), some (.dat (.int q.2))]) (st := st) (x := .dat (boD qs ws) false) (r_dat rfl) r_o0 (r_o (r_dat rfl)) rfl
      rw [hcut] at e
      exact r_of e rfl
    have hin' := slIn_ok c n st (boD qs ws) ((qs1.length : Nat) : Int) q w hin qs1 ws1 h1 fun p hp => hs p (by rw [hq]; exact List.mem_append_left _ hp)
    show compL _ (.tuple [.int ((qs1.length : Nat) : Int), pinD q w] :: enmD (qs1.length + 1) (zipB qs2 ws2)) st = some (qs1.map (slopeD q) ++ slopesP (qs1 ++ [q]) qs2, st)
    exact compL_cons (lc2F_yes hb (by simp only [evCs]) hI hin' rfl) ih
end
end Wl
set_option linter.all false
set_option maxRecDepth 1000000
set_option maxHeartbeats 4000000
/-! W17: pairs of pins along unlike directions, and their slopes. -/
namespace Wl
open PySem PySem.Spec L2 Ev
/-- the gaps of all pairs, as they come -/
def gapsP : List (Int × Int) → List (Int × Int) → List (Int × Int)
  | _, [] => []
  | done, q :: qs => done.map (fun p => gapP p q) ++ gapsP (done ++ [q]) qs
abbrev Un (z w : Int × Int) : Prop := crossP w z ≠ 0
theorem along_nil {w : Int × Int} {ws : List (Int × Int)} (h : (alongP w ws).isEmpty = true) : ∀ z ∈ ws, Un z w := fun z hz e => by
  have h0 : alongP w ws = [] := List.isEmpty_iff.mp h
  have : z ∈ alongP w ws := List.mem_filter.mpr ⟨hz, by simpa using e⟩
  rw [h0] at this
  cases this
theorem addP_some (q : Int × Int) : ∀ (ps ws ws' : List (Int × Int)), addP q ps ws = some ws' → ws' = ws ++ ps.map (fun p => gapP p q) ∧ (∀ p ∈ ps, gapP p q ≠ (0, 0)) ∧ (ws.Pairwise Un → ws'.Pairwise Un)
  | [], ws, ws', h => by cases h; exact ⟨by simp, (fun _ h => nomatch h), id⟩
  | p :: ps, ws, ws', h => by
    rw [addP] at h
    split at h
    · cases h
    · rename_i h0
      split at h
      · rename_i h1
        obtain ⟨a, b, c⟩ := addP_some q ps _ _ h
        refine ⟨by rw [a, List.append_assoc]; rfl, fun x hx => ?_, fun hp => c ?_⟩
        · rcases List.mem_cons.mp hx with e | e
          · rw [e]; exact h0
          · exact b x e
        · refine List.pairwise_append.mpr ⟨hp, List.pairwise_singleton _ _, fun z hz w hw => ?_⟩
          rw [List.mem_singleton.mp hw]
          exact along_nil h1 z hz
      · cases h
theorem fitP_un : ∀ (qs done ws : List (Int × Int)), fitP done qs ws = true → ws.Pairwise Un → (ws ++ gapsP done qs).Pairwise Un ∧ ∀ g ∈ gapsP done qs, g ≠ (0, 0)
  | [], done, ws, h, hp => ⟨by simpa [gapsP] using hp, fun _ h => by simp [gapsP] at h⟩
  | q :: qs, done, ws, h, hp => by
    rw [fitP] at h
    cases e : addP q done ws with
    | none => rw [e] at h; cases h
    | some ws' =>
      rw [e] at h
      obtain ⟨a, b, c⟩ := addP_some q done ws ws' e
      obtain ⟨d, f⟩ := fitP_un qs (done ++ [q]) ws' h (c hp)
      refine ⟨by rw [a, List.append_assoc] at d; exact d, fun g hg => ?_⟩
      simp only [gapsP] at hg
      rcases List.mem_append.mp hg with h1 | h1
      · obtain ⟨p, hp, rfl⟩ := List.mem_map.mp h1
        exact b p hp
      · exact f g h1
def glen : Nat → Nat → Nat
  | _, 0 => 0
  | d, m + 1 => d + glen (d + 1) m
theorem gaps_len : ∀ (qs done : List (Int × Int)), (gapsP done qs).length = glen done.length qs.length
  | [], _ => rfl
  | q :: qs, done => by
    simp only [gapsP, List.length_append, List.length_map, List.length_cons, glen]
    rw [gaps_len qs (done ++ [q]), List.length_append, List.length_singleton]
/-- a gap between places of the field -/
def Gp (g : Int × Int) : Prop := -100 < g.1 ∧ g.1 < 100 ∧ -100 < g.2 ∧ g.2 < 100
theorem gp_in {p q : Int × Int} (h : In p) (g : In q) : Gp (gapP p q) := by
  obtain ⟨a, b, c, d⟩ := h
  obtain ⟨e, f, k, l⟩ := g
  unfold Gp
  simp only [gapP]
  omega
theorem gaps_gp : ∀ (qs done : List (Int × Int)), (∀ q ∈ done, In q) → (∀ q ∈ qs, In q) → ∀ g ∈ gapsP done qs, Gp g
  | [], _, _, _, _, h => by simp [gapsP] at h
  | q :: qs, done, h1, h2, g, hg => by
    simp only [gapsP] at hg
    rcases List.mem_append.mp hg with h | h
    · obtain ⟨p, hp, rfl⟩ := List.mem_map.mp h
      exact gp_in (h1 p hp) (h2 q (List.mem_cons_self ..))
    · refine gaps_gp qs (done ++ [q]) (fun x hx => ?_) (fun x hx => h2 x (List.mem_cons_of_mem _ hx)) g h
      rcases List.mem_append.mp hx with e | e
      · exact h1 x e
      · rw [List.mem_singleton.mp e]; exact h2 q (List.mem_cons_self ..)
/-! ### slopes -/
def slK (g : Int × Int) : Option L2.Key := if g.1 = 0 then none else some (.inl (fdv (g.2 * 20000) g.1))
def slDg (g : Int × Int) : D := if g.1 = 0 then .none else .int (fdv (g.2 * 20000) g.1)
theorem slope_g (p q : Int × Int) : slopeD q p = slDg (gapP p q) := by
  unfold slopeD slDg
  by_cases h : q.1 = p.1
  · have h2 : (gapP p q).1 = 0 := by show q.1 - p.1 = 0; omega
    rw [if_pos h, if_pos h2]
  · have h2 : ¬ (gapP p q).1 = 0 := fun z => h (by have : q.1 - p.1 = 0 := z; omega)
    rw [if_neg h, if_neg h2]
    rfl
theorem slopes_g : ∀ (qs done : List (Int × Int)), slopesP done qs = (gapsP done qs).map slDg
  | [], _ => rfl
  | q :: qs, done => by
    simp only [slopesP, gapsP, List.map_append, List.map_map]
    rw [slopes_g qs (done ++ [q])]
    congr 1
    exact List.map_congr_left fun p _ => slope_g p q
theorem keyD_g (g : Int × Int) : keyD (slDg g) = some (slK g) := by
  unfold slDg slK
  split <;> rfl
theorem keysD_g : ∀ gs : List (Int × Int), keysD (gs.map slDg) = some (gs.map slK)
  | [] => rfl
  | g :: gs => by
    rw [List.map_cons, keysD, keyD_g, keysD_g gs]
    rfl
theorem fdv_rest {a b : Int} (h : b ≠ 0) : ∃ r, a = fdv a b * b + r ∧ r.natAbs < b.natAbs := by
  unfold fdv
  by_cases hb : 0 < b
  · rw [if_pos hb]
    refine ⟨a % b, ?_, ?_⟩
    · have := Int.mul_ediv_add_emod a b
      rw [Int.mul_comm] at this
      exact this.symm
    · have h1 := Int.emod_nonneg a h
      have h2 := Int.emod_lt_of_pos a hb
      omega
  · rw [if_neg hb]
    refine ⟨a.fmod b, ?_, ?_⟩
    · have := Int.mul_fdiv_add_fmod a b
      rw [Int.mul_comm] at this
      exact this.symm
    · have h3 : b < 0 := by omega
      have e : a.fmod b = -((-a).fmod (-b)) := by rw [Int.neg_fmod_neg]; omega
      have h1 := Int.fmod_nonneg_of_pos (-a) (b := -b) (by omega)
      have h2 := Int.fmod_lt_of_pos (-a) (b := -b) (by omega)
      omega
theorem mul_bd {x y : Int} {m k : Nat} (h : x.natAbs ≤ m) (g : y.natAbs ≤ k) : (x * y).natAbs ≤ m * k := by
  rw [Int.natAbs_mul]
  exact Nat.mul_le_mul h g
theorem slK_ne {z w : Int × Int} (hz : Gp z) (hw : Gp w) (h : Un z w) : slK z ≠ slK w := fun e => by
  unfold slK at e
  obtain ⟨z1, z2⟩ := z
  obtain ⟨w1, w2⟩ := w
  obtain ⟨a1, a2, a3, a4⟩ := hz
  obtain ⟨b1, b2, b3, b4⟩ := hw
  simp only at e a1 a2 a3 a4 b1 b2 b3 b4
  simp only [Un, crossP] at h
  by_cases h1 : z1 = 0
  · by_cases h2 : w1 = 0
    · subst h1; subst h2
      simp at h
    · rw [if_pos h1, if_neg h2] at e
      cases e
  · by_cases h2 : w1 = 0
    · rw [if_neg h1, if_pos h2] at e
      cases e
    · rw [if_neg h1, if_neg h2] at e
      have e : fdv (z2 * 20000) z1 = fdv (w2 * 20000) w1 := by injection e with e; injection e
      obtain ⟨r, hr1, hr2⟩ := fdv_rest (a := z2 * 20000) h1
      obtain ⟨r', hs1, hs2⟩ := fdv_rest (a := w2 * 20000) h2
      rw [← e] at hs1
      generalize fdv (z2 * 20000) z1 = f at hr1 hs1
      have m1 := mul_bd (x := r) (y := w1) (m := 98) (k := 99) (by omega) (by omega)
      have m2 := mul_bd (x := r') (y := z1) (m := 98) (k := 99) (by omega) (by omega)
      have k1 : z2 * 20000 * w1 = (f * z1 + r) * w1 := by rw [← hr1]
      have k2 : w2 * 20000 * z1 = (f * w1 + r') * z1 := by rw [← hs1]
      rw [Int.add_mul] at k1 k2
      have c1 : z2 * 20000 * w1 = 20000 * (w1 * z2) := by rw [Int.mul_comm z2 20000, Int.mul_assoc, Int.mul_comm z2 w1]
      have c2 : w2 * 20000 * z1 = 20000 * (w2 * z1) := by rw [Int.mul_comm w2 20000, Int.mul_assoc]
      have c3 : f * z1 * w1 = f * w1 * z1 := by rw [Int.mul_assoc, Int.mul_assoc, Int.mul_comm z1 w1]
      rw [c1] at k1
      rw [c2] at k2
      rw [c3] at k1
      omega
theorem hasKey_iff {acc : List (Option L2.Key)} {k : Option L2.Key} : hasKey acc k = true ↔ k ∈ acc := by
  unfold hasKey
  rw [List.any_eq_true]
  constructor
  · rintro ⟨j, hj, e⟩
    rw [← of_decide_eq_true e]
    exact hj
  · intro h
    exact ⟨k, h, by simp⟩
theorem dedK_nodup : ∀ (ks acc : List (Option L2.Key)), (acc ++ ks).Nodup → dedK acc ks = acc ++ ks
  | [], acc, _ => by simp [dedK]
  | k :: ks, acc, h => by
    have hn : ¬ hasKey acc k = true := fun z => by
      have := (List.nodup_append.mp h).2.2 k (hasKey_iff.mp z) k (List.mem_cons_self ..)
      exact this rfl
    rw [dedK, if_neg hn, dedK_nodup ks (acc ++ [k]) (by rw [List.append_assoc]; exact h), List.append_assoc]
    rfl
/-- the slopes of places that fit are all unlike -/
theorem slopes_num {qs : List (Int × Int)} {k : Nat} (h : Fit qs k) : ∃ ks, keysD (slopesP [] qs) = some ks ∧ ks.length = glen 0 qs.length ∧ dedK [] ks = ks := by
  obtain ⟨hu, _⟩ := fitP_un qs [] [] h.fit .nil
  rw [List.nil_append] at hu
  have hg := gaps_gp qs [] (fun _ h => by cases h) h.pl
  refine ⟨(gapsP [] qs).map slK, by rw [slopes_g, keysD_g], by rw [List.length_map, gaps_len]; rfl, dedK_nodup _ [] ?_⟩
  rw [List.nil_append]
  refine List.pairwise_map.mpr ?_
  exact (List.Pairwise.and_mem.mp hu).imp fun {a b} ⟨ha, hb, hab⟩ => slK_ne (hg a ha) (hg b hb) hab
end Wl
set_option linter.all false
set_option maxRecDepth 1000000
set_option maxHeartbeats 4000000
/-! W18: what the program does with a board: it is one; a pin's number. -/
namespace Wl
open PySem PySem.Spec L2 Ev
section
variable {G : Pk}
theorem slopes_ok (hF : G.fn "many_slopes" = some i_many_slopes) (c : Cs G) (n : Nat) (st : Sto) (qs : List (Int × Int)) (ws : List Str) (hb : Bo qs ws) : evF G (n + 1) "many_slopes" [.dat (boD qs ws)] st = some (.dat (.int (glen 0 qs.length : Nat)) false, st) := by
  obtain ⟨ks, k1, k2, k3⟩ := slopes_num hb.fit
  have ho := slOut_ok c n st qs ws hb.fit.pl qs ws [] [] rfl hb.len rfl rfl
  have hI : evI G (evF G n) (.enm (.slot 0)) [some (.dat (boD qs ws)), none, none, none, none, none, none] st = some (enmD 0 (zipB qs ws), [], st) := r_enm (x := .dat (boD qs ws) false) (r_dat rfl) rfl
  have hl : ks.length < 4000 := by
    rw [k2]
    have h3 := hb.few
    have h8 := hb.fit.len
    generalize qs.length = m at h3 h8
    have : m = 3 ∨ m = 4 ∨ m = 5 ∨ m = 6 ∨ m = 7 ∨ m = 8 := by omega
    rcases this with rfl | rfl | rfl | rfl | rfl | rfl <;> decide
  have hv := evE_card hI ho k1 hl
  rw [k3, k2] at hv
  rw [evF_s hF rfl]
  refine Eq.trans (congrArg (finF st.length) (evSs_rt (mu := []) (ss := []) (r_ret hv))) ?_
  show some (ER.dat _ false, st.take st.length) = _
  rw [List.take_length]
theorem pins_ok (hP : G.fn "is_pin" = some i_is_pin) (c : Cs G) (n : Nat) (st : Sto) (B : D) : ∀ (qs : List (Int × Int)) (ws : List Str) (w1 : Option SV), ws.length = qs.length → (∀ q ∈ qs, In q) → (∀ w ∈ ws, Wy w) →
    ∃ v1, forL (loF G (evF G (n + 1)) [] (.nm 1) [(.ite (.no (.call ("is_pin" : Str) [(.slot 1)])) [(.ret (some (.bl false)))] [])] []) (zipB qs ws) [some (.dat B), w1] st = some (.nx [some (.dat B), v1] st)
  | [], _, w1, _, _, _ => ⟨w1, by simp [zipB, forL]⟩
  | _ :: _, [], _, h, _, _ => by simp at h
  | q :: qs, w :: ws, w1, h, hq, hw => by
    obtain ⟨v1, ih⟩ := pins_ok hP c n st B qs ws (some (.dat (pinD q w))) (by simpa using h) (fun x hx => hq x (List.mem_cons_of_mem _ hx)) (fun x hx => hw x (List.mem_cons_of_mem _ hx))
    have hp := is_pin_ok hP c n st q w (hq q (List.mem_cons_self ..)) (hw w (List.mem_cons_self ..))
    have hs : evS G (evF G (n + 1)) [] (.ite (.no (.call ("is_pin" : Str) [(.slot 1)])) [(.ret (some (.bl false)))] []) [some (.dat B), some (.dat (pinD q w))] st = some (.nx [some (.dat B), some (.dat (pinD q w))] st) :=
      r_ite (k := false) (st1 := st) (tst_of (f := false) (r_no (b := true) (tst_of (f := false) (r_call1 (r_dat rfl) hp)))) (by simp only [Bool.false_eq_true, if_false, evSs])
    refine ⟨v1, ?_⟩
    show forL _ (pinD q w :: zipB qs ws) _ _ = _
    rw [forL_nx (loF_nx (s' := st) (e := [some (.dat B), some (.dat (pinD q w))]) (env1 := [some (.dat B), some (.dat (pinD q w))]) rfl (by rw [evSs_nx hs]; simp only [evSs]) rfl)]
    exact ih
theorem half_n {m : Nat} (h3 : 3 ≤ m) (h8 : m ≤ 8) : ∃ x y : Int, binD .Sub (.int (m : Nat)) (.int 1) = some (.int x, false) ∧ binD .Mult (.int (m : Nat)) (.int x) = some (.int y, false) ∧ binD .FloorDiv (.int y) (.int 2) = some (.int (glen 0 m : Nat), false) := by
  have : m = 3 ∨ m = 4 ∨ m = 5 ∨ m = 6 ∨ m = 7 ∨ m = 8 := by omega
  rcases this with rfl | rfl | rfl | rfl | rfl | rfl
  · exact ⟨2, 6, rfl, rfl, rfl⟩
  · exact ⟨3, 12, rfl, rfl, rfl⟩
  · exact ⟨4, 20, rfl, rfl, rfl⟩
  · exact ⟨5, 30, rfl, rfl, rfl⟩
  · exact ⟨6, 42, rfl, rfl, rfl⟩
  · exact ⟨7, 56, rfl, rfl, rfl⟩
theorem is_board_ok (hB : G.fn "is_board" = some i_is_board) (hM : G.fn "many_slopes" = some i_many_slopes) (hP : G.fn "is_pin" = some i_is_pin) (c : Cs G) (n : Nat) (st : Sto) (qs : List (Int × Int)) (ws : List Str) (hb : Bo qs ws) : evF G (n + 2) "is_board" [.dat (boD qs ws)] st = some (.dat (.bool true) false, st) := by
  have h3 := hb.few
  have h8 := hb.fit.len
  have hlen : ∀ w1, evE G (evF G (n + 1)) (.blt .len [(.slot 0)]) [some (.dat (boD qs ws)), w1] st = some (.dat (.int (qs.length : Nat)) false, st) := fun w1 => r_blt1 (x := .dat (boD qs ws) false) (r_dat rfl) rfl (boD_len hb.len)
  have s1 : evS G (evF G (n + 1)) [] (.ite (.lor (.no (.isi (.slot 0) "tuple")) (.no (.cmp2 .LtE .LtE (.con ("FEWEST_PINS" : Str)) (.blt .len [(.slot 0)]) (.con ("MOST_PINS" : Str))))) [(.ret (some (.bl false)))] []) [some (.dat (boD qs ws)), none] st = some (.nx [some (.dat (boD qs ws)), none] st) := by
    refine r_ite (k := false) (st1 := st) (tst_of (f := false) (r_lorF (r_no (b := true) (tst_of (f := false) (r_isi (d := boD qs ws) (r_dat rfl) rfl (by show kitB "tuple" "tuple" = some true; decide +kernel)))) (r_no (b := true) (tst_of (f := false) ?_)))) (by simp only [Bool.false_eq_true, if_false, evSs])
    exact r_cmp2T (d := .int 3) (e := .int (qs.length : Nat)) (f := .int 8) (r_con c.few) (hlen none) rfl rfl (by show some (decide ((3 : Int) ≤ (qs.length : Nat))) = _; rw [decide_eq_true (by omega)]) (r_con c.most) rfl rfl (by show some (decide (((qs.length : Nat) : Int) ≤ 8)) = _; rw [decide_eq_true (by omega)])
  obtain ⟨v1, e2⟩ := pins_ok hP c n st (boD qs ws) qs ws none hb.len hb.fit.pl hb.wy
  have hI : evI G (evF G (n + 1)) (.of (.slot 0)) [some (.dat (boD qs ws)), none] st = some (zipB qs ws, [], st) := r_of (x := .dat (boD qs ws) false) (r_dat rfl) rfl
  obtain ⟨x, y, b1, b2, b3⟩ := half_n h3 h8
  have hm := slopes_ok hM c n st qs ws hb
  have hr : evE G (evF G (n + 1)) (.cmp .Eq (.call ("many_slopes" : Str) [(.slot 0)]) (.bin .FloorDiv (.bin .Mult (.blt .len [(.slot 0)]) (.bin .Sub (.blt .len [(.slot 0)]) (.int 1))) (.int 2))) [some (.dat (boD qs ws)), v1] st = some (.dat (.bool true) false, st) := by
    refine r_cmp (d := .int (glen 0 qs.length : Nat)) (e := .int (glen 0 qs.length : Nat)) (r_call1 (r_dat rfl) hm) (r_bin (d := .int y) (e := .int 2) (r_bin (d := .int (qs.length : Nat)) (e := .int x) (hlen v1) (r_bin (d := .int (qs.length : Nat)) (e := .int 1) (hlen v1) r_int rfl rfl b1) rfl rfl b2) r_int rfl rfl b3) rfl rfl ?_
    show some (((glen 0 qs.length : Nat) : Int) == ((glen 0 qs.length : Nat) : Int)) = _
    rw [beq_self_eq_true]
  rw [evF_s hB rfl]
  show finF st.length (evSs G (evF G (n + 1)) [] (_ :: (.loop (.nm 1) (.of (.slot 0)) _) :: [.ret (some _)]) [some (.dat (boD qs ws)), none] st) = _
  rw [evSs_nx s1, evSs_nx ((evS_loop hI).trans e2), evSs_rt (r_ret hr)]
  show some (ER.dat _ false, st.take st.length) = _
  rw [List.take_length]
theorem need_board_ok (hN : G.fn "need_board" = some i_need_board) (hB : G.fn "is_board" = some i_is_board) (hM : G.fn "many_slopes" = some i_many_slopes) (hP : G.fn "is_pin" = some i_is_pin) (c : Cs G) (n : Nat) (st : Sto) (qs : List (Int × Int)) (ws : List Str) (hb : Bo qs ws) : evF G (n + 3) "need_board" [.dat (boD qs ws)] st = some (.dat .none false, st) := by
  have hs : evS G (evF G (n + 2)) [] (.ite (.no (.call ("is_board" : Str) [(.slot 0)])) [.nev] []) [some (.dat (boD qs ws))] st = some (.nx [some (.dat (boD qs ws))] st) :=
    r_ite (k := false) (st1 := st) (tst_of (f := false) (r_no (b := true) (tst_of (f := false) (r_call1 (r_dat rfl) (is_board_ok hB hM hP c n st qs ws hb))))) (by simp only [Bool.false_eq_true, if_false, evSs])
  rw [evF_s hN rfl]
  show finF st.length (evSs G (evF G (n + 2)) [] [_] [some (.dat (boD qs ws))] st) = _
  rw [evSs_nx hs]
  simp only [evSs, finF, List.take_length]
theorem is_whole_ok (hF : G.fn "is_whole" = some i_is_whole) (n : Nat) (st : Sto) (i : Int) : evF G (n + 1) "is_whole" [.dat (.int i)] st = some (.dat (.bool true) false, st) := by
  rw [evF_s hF rfl]
  have h : evE G (evF G n) (.land (.isi (.slot 0) "int") (.no (.isi (.slot 0) "bool"))) [some (.dat (.int i))] st = some (.dat (.bool true) false, st) :=
    r_landT (f := false) (r_isi (d := .int i) (r_dat rfl) rfl (by show kitB "int" "int" = some true; decide +kernel)) (r_no (b := false) (tst_of (f := false) (r_isi (d := .int i) (r_dat rfl) rfl (by show kitB "int" "bool" = some false; decide +kernel))))
  show finF st.length (evSs G (evF G n) [] [.ret (some _)] [some (.dat (.int i))] st) = _
  rw [evSs_rt (r_ret h)]
  show some (ER.dat _ false, st.take st.length) = _
  rw [List.take_length]
theorem need_pin_ok (hN : G.fn "need_pin" = some i_need_pin) (hI : G.fn "is_pin_number" = some i_is_pin_number) (hW : G.fn "is_whole" = some i_is_whole) (n : Nat) (st : Sto) (qs : List (Int × Int)) (ws : List Str) (hb : Bo qs ws) (k : Nat) (hk : k < qs.length) : evF G (n + 3) "need_pin" [.dat (boD qs ws), .dat (.int (k : Nat))] st = some (.dat .none false, st) := by
  have h1 : evF G (n + 2) "is_pin_number" [.dat (boD qs ws), .dat (.int (k : Nat))] st = some (.dat (.bool true) false, st) := by
    rw [evF_s hI rfl]
    have h : evE G (evF G (n + 1)) (.land (.call ("is_whole" : Str) [(.slot 1)]) (.cmp2 .LtE .Lt (.int 0) (.slot 1) (.blt .len [(.slot 0)]))) [some (.dat (boD qs ws)), some (.dat (.int (k : Nat)))] st = some (.dat (.bool true) false, st) :=
      r_landT (f := false) (r_call1 (r_dat rfl) (is_whole_ok hW n st _)) (r_cmp2T (d := .int 0) (e := .int (k : Nat)) (f := .int (qs.length : Nat)) r_int (r_dat rfl) rfl rfl (by show some (decide ((0 : Int) ≤ (k : Nat))) = _; rw [decide_eq_true (by omega)]) (r_blt1 (x := .dat (boD qs ws) false) (r_dat rfl) rfl (boD_len hb.len)) rfl rfl (by show some (decide (((k : Nat) : Int) < (qs.length : Nat))) = _; rw [decide_eq_true (by omega)]))
    show finF st.length (evSs G (evF G (n + 1)) [] [.ret (some _)] [some (.dat (boD qs ws)), some (.dat (.int (k : Nat)))] st) = _
    rw [evSs_rt (r_ret h)]
    show some (ER.dat _ false, st.take st.length) = _
    rw [List.take_length]
  have hs : evS G (evF G (n + 2)) [] (.ite (.no (.call ("is_pin_number" : Str) [(.slot 0), (.slot 1)])) [.nev] []) [some (.dat (boD qs ws)), some (.dat (.int (k : Nat)))] st = some (.nx [some (.dat (boD qs ws)), some (.dat (.int (k : Nat)))] st) :=
    r_ite (k := false) (st1 := st) (tst_of (f := false) (r_no (b := true) (tst_of (f := false) (r_call2 (r_dat rfl) (r_dat rfl) h1)))) (by simp only [Bool.false_eq_true, if_false, evSs])
  rw [evF_s hN rfl]
  show finF st.length (evSs G (evF G (n + 2)) [] [_] [some (.dat (boD qs ws)), some (.dat (.int (k : Nat)))] st) = _
  rw [evSs_nx hs]
  simp only [evSs, finF, List.take_length]
end
end Wl
set_option linter.all false
set_option maxRecDepth 1000000
set_option maxHeartbeats 4000000
/-! W19: rows sorted: what is known of them. -/
namespace Wl
open PySem PySem.Spec L2 Ev
/-- rows of three numbers -/
abbrev R3 := Int × Int × Int
def t3 (s : R3) : D := .tuple [.int s.1, .int s.2.1, .int s.2.2]
theorem t3_inj {a b : R3} (h : t3 a = t3 b) : a = b := by
  obtain ⟨a1, a2, a3⟩ := a
  obtain ⟨b1, b2, b3⟩ := b
  unfold t3 at h
  injection h with h
  injection h with h1 h
  injection h with h2 h
  injection h with h3 _
  injection h1 with h1
  injection h2 with h2
  injection h3 with h3
  simp only at h1 h2 h3
  rw [h1, h2, h3]
theorem lay_t3 : ∀ zs : List R3, PyData.canLayAll0 (zs.map t3) = true
  | [] => by simp [PyData.canLayAll0]
  | z :: zs => by
    rw [List.map_cons]
    simp only [PyData.canLayAll0, lay_t3 zs, Bool.and_true]
    rfl
theorem dep_t3 : ∀ zs : List R3, PyData.depthAll (zs.map t3) ≤ 1
  | [] => by simp [PyData.depthAll]
  | z :: zs => by
    rw [List.map_cons]
    have := dep_t3 zs
    have e : (t3 z).depth = 1 := rfl
    simp only [PyData.depthAll, e]
    omega
theorem alk_t3 (zs : List R3) : alkB (zs.map t3) = true := by
  have h := dep_t3 zs
  have h1 : PyData.canLay0 (.list (zs.map t3)) = true := by simp only [PyData.canLay0, lay_t3]
  have h2 : PyData.depth (.list (zs.map t3)) ≤ 64 := by simp only [PyData.depth]; omega
  have h3 : okSh (.list (zs.map t3)) = true := by
    unfold okSh SeqAt.shaped
    simp [h1, h2]
  simp only [alkB, h3, Bool.true_and, Bool.and_eq_true, List.all_eq_true, decide_eq_true_eq]
  refine ⟨⟨fun x hx => ?_, fun x hx y hy => ?_⟩, by omega⟩
  · obtain ⟨a, _, rfl⟩ := List.mem_map.mp hx
    rfl
  · obtain ⟨a, _, rfl⟩ := List.mem_map.mp hx
    obtain ⟨b, _, rfl⟩ := List.mem_map.mp hy
    rfl
theorem lt_t3 {a b : R3} (h : a.1 ≠ b.1) : W.dataLt (t3 a) (t3 b) = decide (a.1 < b.1) := by
  unfold t3
  rw [W.dataLt_tuple]
  have q := W.dataLt_cons (x := .int a.1) (y := .int b.1) (by simp [W.alike]) [.int a.2.1, .int a.2.2] [.int b.2.1, .int b.2.2]
  have e : PyData.eqv (.int a.1) (.int b.1) = false := by
    show (a.1 == b.1) = false
    simp [h]
  rw [e] at q
  rw [if_neg Bool.false_ne_true, W.dataLt_int] at q
  exact q
theorem perm_map {α β : Type} (f : α → β) {l : List β} {m : List α} (h : l.Perm (m.map f)) : ∃ m' : List α, l = m'.map f ∧ m'.Perm m := by
  generalize hk : m.map f = k at h
  induction h generalizing m with
  | nil =>
    have : m = [] := List.map_eq_nil_iff.mp hk
    exact ⟨[], rfl, by rw [this]⟩
  | cons x _ ih =>
    cases m with
    | nil => cases hk
    | cons a m =>
      rw [List.map_cons] at hk
      injection hk with h1 h2
      obtain ⟨m', e1, e2⟩ := ih h2
      exact ⟨a :: m', by rw [List.map_cons, ← e1, h1], e2.cons a⟩
  | swap x y l =>
    cases m with
    | nil => cases hk
    | cons a m =>
      cases m with
      | nil => rw [List.map_cons, List.map_nil] at hk; injection hk with _ h; cases h
      | cons b m =>
        rw [List.map_cons, List.map_cons] at hk
        injection hk with h1 h2
        injection h2 with h2 h3
        exact ⟨b :: a :: m, by rw [List.map_cons, List.map_cons, h1, h2, h3], List.Perm.swap a b m⟩
  | trans _ _ ih1 ih2 =>
    obtain ⟨m1, e1, p1⟩ := ih2 hk
    obtain ⟨m2, e2, p2⟩ := ih1 e1.symm
    exact ⟨m2, e2, p2.trans p1⟩
/-- rows sorted: the same rows, in their order -/
theorem srt_t3 (rev : Bool) (zs : List R3) : ∃ zs' : List R3, srtD rev (zs.map t3) = zs'.map t3 ∧ zs'.Perm zs ∧ zs'.Pairwise fun a b => leD rev (t3 a) (t3 b) = true := by
  have hp : (srtD rev (zs.map t3)).Perm (zs.map t3) := by
    rw [← srtD_eq]
    exact List.mergeSort_perm _ _
  obtain ⟨zs', e, p⟩ := perm_map t3 hp
  refine ⟨zs', e, p, ?_⟩
  have hs := List.pairwise_mergeSort (leD_trans rev) (leD_total rev) (zs.map t3)
  rw [srtD_eq, e] at hs
  exact List.pairwise_map.mp hs
theorem le_up {a b : R3} (h : leD false (t3 a) (t3 b) = true) : a.1 ≤ b.1 := by
  by_cases e : a.1 = b.1
  · omega
  · have q : (!W.dataLt (t3 b) (t3 a)) = true := h
    rw [lt_t3 (fun z => e z.symm)] at q
    have : ¬ b.1 < a.1 := by simpa using q
    omega
theorem le_down {a b : R3} (h : leD true (t3 a) (t3 b) = true) : b.1 ≤ a.1 := by
  by_cases e : a.1 = b.1
  · omega
  · have q : (!W.dataLt (t3 a) (t3 b)) = true := h
    rw [lt_t3 e] at q
    have : ¬ a.1 < b.1 := by simpa using q
    omega
end Wl
set_option linter.all false
set_option maxRecDepth 1000000
set_option maxHeartbeats 4000000
/-! W20: all pairs of pins, in the order in which half a turn looks so. -/
namespace Wl
open PySem PySem.Spec L2 Ev
def spR (k : Nat) (q : Int × Int) : R3 := (100 * q.2 - 1 * q.1, (100 * q.1 + 1 * q.2) * 20000, ((k : Nat) : Int))
def spotsP : Nat → List (Int × Int) → List R3
  | _, [] => []
  | k, q :: qs => spR k q :: spotsP (k + 1) qs
def fR (o s : R3) : R3 := (fdv (s.2.1 - o.2.1) (s.1 - o.1), o.2.2, s.2.2)
def foundP : List R3 → List R3 → List R3
  | _, [] => []
  | done, s :: ss => done.map (fun o => fR o s) ++ foundP (done ++ [s]) ss
structure Cs2 (G : Pk) : Prop where
  x : G.con "START_X" = some (.int 100)
  y : G.con "START_Y" = some (.int 1)
theorem mulK (i j : Int) (h : -1000 < i ∧ i < 1000) : binD .Mult (.int i) (.int j) = some (.int (i * j), false) := by
  have hc : (-(2 ^ 64) < i ∧ i < 2 ^ 64) ∨ (-(2 ^ 64) < j ∧ j < 2 ^ 64) := .inl ⟨by omega, by omega⟩
  simp only [binD]
  rw [if_pos hc]
section
variable {G : Pk} {cl : Str → List SV → Sto → Option (ER × Sto)}
theorem r_srt {a : IE} {rev : Bool} {env : Ev.Env} {st st1 : Sto} {x : ER} {xs : List D} (h : evE G cl a env st = some (x, st1)) (h2 : rdE st1 x = some (.list xs)) (h3 : alkB xs = true) (h4 : xs.length ≤ 1000) : evE G cl (.srt a rev) env st = some (.dat (.list (srtD rev xs)) true, st1) := by
  have hc : (alkB xs && decide (xs.length ≤ 1000)) = true := by rw [h3, decide_eq_true h4]; rfl
  rw [evE, h]
  simp only
  rw [h2]
  simp only
  rw [if_pos hc]
def spE : IE := .tup [(.bin .Sub (.bin .Mult (.con ("START_X" : Str)) (.slot 13)) (.bin .Mult (.con ("START_Y" : Str)) (.slot 12))), (.bin .Mult (.bin .Add (.bin .Mult (.con ("START_X" : Str)) (.slot 12)) (.bin .Mult (.con ("START_Y" : Str)) (.slot 13))) (.con ("FINE" : Str))), (.slot 9)]
abbrev envP (B : D) (k : Int) (q : Int × Int) (w : Str) : Ev.Env := [some (.dat B), none, none, none, none, none, none, some (.dat (.str w)), none, some (.dat (.int k)), none, none, some (.dat (.int q.1)), some (.dat (.int q.2))]
abbrev E14 (B : D) : Ev.Env := [some (.dat B), none, none, none, none, none, none, none, none, none, none, none, none, none]
theorem spE_ok (c : Cs G) (c2 : Cs2 G) (n : Nat) (st : Sto) (B : D) (k : Nat) (q : Int × Int) (w : Str) : evE G (evF G n) spE (envP B ((k : Nat) : Int) q w) st = some (.dat (t3 (spR k q)) false, st) := by
  have x1 : ∀ (i : Nat) (v : Int), (envP B ((k : Nat) : Int) q w)[i]? = some (some (.dat (.int v))) → evE G (evF G n) (.bin .Mult (.con ("START_X" : Str)) (.slot i)) (envP B ((k : Nat) : Int) q w) st = some (.dat (.int (100 * v)) false, st) := fun i v h =>
    r_bin (d := .int 100) (e := .int v) (r_con c2.x) (r_dat h) rfl rfl (mulK _ _ (by omega))
  have y1 : ∀ (i : Nat) (v : Int), (envP B ((k : Nat) : Int) q w)[i]? = some (some (.dat (.int v))) → evE G (evF G n) (.bin .Mult (.con ("START_Y" : Str)) (.slot i)) (envP B ((k : Nat) : Int) q w) st = some (.dat (.int (1 * v)) false, st) := fun i v h =>
    r_bin (d := .int 1) (e := .int v) (r_con c2.y) (r_dat h) rfl rfl (mulK _ _ (by omega))
  exact r_tup3 (r_bin (d := .int (100 * q.2)) (e := .int (1 * q.1)) (x1 13 q.2 rfl) (y1 12 q.1 rfl) rfl rfl rfl)
    (r_bin (d := .int (100 * q.1 + 1 * q.2)) (e := .int 20000) (r_bin (d := .int (100 * q.1)) (e := .int (1 * q.2)) (x1 12 q.1 rfl) (y1 13 q.2 rfl) rfl rfl rfl) (r_con c.fine) rfl rfl (mulS _)) (r_dat rfl)
abbrev own1 : List (Str × Nat) := [(("pin" : Str), 9), (("x" : Str), 12), (("y" : Str), 13), (("_" : Str), 7)]
theorem spots_ok (c : Cs G) (c2 : Cs2 G) (n : Nat) (st : Sto) (B : D) : ∀ (qs : List (Int × Int)) (ws : List Str) (k : Nat), ws.length = qs.length →
    compL (lcF G (evF G n) own1 (.tp [(.nm 9), (.tp [(.nm 12), (.nm 13), (.nm 7)])]) [] spE (E14 B) []) (enmD k (zipB qs ws)) st = some ((spotsP k qs).map t3, st)
  | [], _, _, _ => by simp [zipB, enmD, compL, spotsP]
  | _ :: _, [], _, h => by simp at h
  | q :: qs, w :: ws, k, h => by
    have ih := spots_ok c c2 n st B qs ws (k + 1) (by simpa using h)
    have hb : bindT (.tp [(.nm 9), (.tp [(.nm 12), (.nm 13), (.nm 7)])]) (.tuple [.int ((k : Nat) : Int), pinD q w]) (wipeE (E14 B) (own1.map (·.2))) = some (envP B ((k : Nat) : Int) q w) := rfl
    show compL _ (.tuple [.int ((k : Nat) : Int), pinD q w] :: enmD (k + 1) (zipB qs ws)) st = some ([t3 (spR k q)] ++ (spotsP (k + 1) qs).map t3, st)
    exact compL_cons (lcF_yes hb (by simp only [evCs]) (spE_ok c c2 n st B k q w) rfl) ih
/-! ### the pairs' leans -/
abbrev envQ (B L : D) (k : Int) (o : Option SV) (o1 o2 : Option SV) (s : R3) : Ev.Env := [some (.dat B), some (.dat L), none, some (.dat (.int k)), o, o1, o2, none, some (.dat (.int s.2.2)), none, some (.dat (.int s.1)), some (.dat (.int s.2.1)), none, none]
def fdE : IE := .tup [(.bin .FloorDiv (.bin .Sub (.slot 11) (.slot 5)) (.bin .Sub (.slot 10) (.slot 4))), (.slot 6), (.slot 8)]
theorem fdE_ok (n : Nat) (st : Sto) (B L : D) (k : Int) (o s : R3) (h : s.1 - o.1 ≠ 0 ∧ -30000 < s.1 - o.1 ∧ s.1 - o.1 < 30000) : evE G (evF G n) fdE (envQ B L k (some (.dat (.int o.1))) (some (.dat (.int o.2.1))) (some (.dat (.int o.2.2))) s) st = some (.dat (t3 (fR o s)) false, st) :=
  r_tup3 (r_bin (d := .int (s.2.1 - o.2.1)) (e := .int (s.1 - o.1)) (r_bin (d := .int s.2.1) (e := .int o.2.1) (r_dat rfl) (r_dat rfl) rfl rfl rfl) (r_bin (d := .int s.1) (e := .int o.1) (r_dat rfl) (r_dat rfl) rfl rfl rfl) rfl rfl (fdivS _ _ h.1 h.2.1 h.2.2)) (r_dat rfl) (r_dat rfl)
theorem fdIn_ok (n : Nat) (st : Sto) (B L : D) (k : Int) (s : R3) : ∀ os : List R3, (∀ o ∈ os, s.1 - o.1 ≠ 0 ∧ -30000 < s.1 - o.1 ∧ s.1 - o.1 < 30000) →
    compL (lcG G (evF G n) [4, 5, 6] (.tp [(.nm 4), (.nm 5), (.nm 6)]) [] fdE (envQ B L k none none none s) []) (os.map t3) st = some ((os.map fun o => fR o s).map t3, st)
  | [], _ => rfl
  | o :: os, h => by
    have ih := fdIn_ok n st B L k s os fun x hx => h x (List.mem_cons_of_mem _ hx)
    have hb : bindT (.tp [(.nm 4), (.nm 5), (.nm 6)]) (t3 o) (wipeE (envQ B L k none none none s) [4, 5, 6]) = some (envQ B L k (some (.dat (.int o.1))) (some (.dat (.int o.2.1))) (some (.dat (.int o.2.2))) s) := rfl
    exact compL_cons (lcG_yes hb (by simp only [evCs]) (fdE_ok n st B L k o s (h o (List.mem_cons_self ..))) rfl) ih
abbrev own2 : List (Str × Nat) := [(("at" : Str), 3), (("left" : Str), 10), (("along" : Str), 11), (("other" : Str), 8), (("one_left" : Str), 4), (("one_along" : Str), 5), (("one" : Str), 6)]
abbrev E14L (B L : D) : Ev.Env := [some (.dat B), some (.dat L), none, none, none, none, none, none, none, none, none, none, none, none]
theorem found_ok (n : Nat) (st : Sto) (B : D) (L : List R3) (hd : L.Pairwise fun a b => b.1 - a.1 ≠ 0 ∧ -30000 < b.1 - a.1 ∧ b.1 - a.1 < 30000) : ∀ (ss done : List R3), L = done ++ ss →
    compL (lc2F G (evF G n) own2 [4, 5, 6] (.tp [(.nm 3), (.tp [(.nm 10), (.nm 11), (.nm 8)])]) [] (.tp [(.nm 4), (.nm 5), (.nm 6)]) (.of (.cut (.slot 1) none (some (.slot 3)))) [] fdE (E14L B (.list (L.map t3))) []) (enmD done.length (ss.map t3)) st = some ((foundP done ss).map t3, st)
  | [], _, _ => rfl
  | s :: ss, done, hL => by
    have ih := found_ok n st B L hd ss (done ++ [s]) (by rw [hL]; simp)
    rw [List.length_append, List.length_singleton] at ih
    have hb : bindT (.tp [(.nm 3), (.tp [(.nm 10), (.nm 11), (.nm 8)])]) (.tuple [.int ((done.length : Nat) : Int), t3 s]) (wipeE (E14L B (.list (L.map t3))) (own2.map (·.2))) = some (envQ B (.list (L.map t3)) ((done.length : Nat) : Int) none none none s) := rfl
    have hcut : cutD (L.map t3) none (some ((done.length : Nat) : Int)) = done.map t3 := by
      rw [cut_at _ _ (by rw [List.length_map, hL, List.length_append]; omega), ← List.map_take, hL, List.take_append_of_le_length (Nat.le_refl _), List.take_length]
    have hI : evI G (evF G n) (.of (.cut (.slot 1) none (some (.slot 3)))) (envQ B (.list (L.map t3)) ((done.length : Nat) : Int) none none none s) st = some (done.map t3, [], st) := by
      have e := r_cutL (G := G) (cl := evF G n) (a := .slot 1) (lo := none) (hi := some (.slot 3)) (env := envQ B (.list (L.map t3)) ((done.length : Nat) : Int) none none none s) (st := st) (x := .dat (.list (L.map t3)) false) (r_dat rfl) r_o0 (r_o (r_dat rfl)) rfl
      rw [hcut] at e
      exact r_of e rfl
    have hp : ∀ o ∈ done, s.1 - o.1 ≠ 0 ∧ -30000 < s.1 - o.1 ∧ s.1 - o.1 < 30000 := fun o ho => by
      rw [hL] at hd
      exact (List.pairwise_append.mp hd).2.2 o ho s (List.mem_cons_self ..)
    show compL _ (.tuple [.int ((done.length : Nat) : Int), t3 s] :: enmD (done.length + 1) (ss.map t3)) st = some ((done.map (fun o => fR o s) ++ foundP (done ++ [s]) ss).map t3, st)
    rw [List.map_append]
    exact compL_cons (lc2F_yes hb (by simp only [evCs]) hI (fdIn_ok n st B _ _ s done hp) rfl) ih
/-! ### the pairs alone -/
abbrev own3 : List (Str × Nat) := [(("_" : Str), 7), (("one" : Str), 6), (("other" : Str), 8)]
abbrev E14F (B L F : D) : Ev.Env := [some (.dat B), some (.dat L), some (.dat F), none, none, none, none, none, none, none, none, none, none, none]
theorem pairs_ok (n : Nat) (st : Sto) (B L F : D) : ∀ ts : List R3, compL (lcF G (evF G n) own3 (.tp [(.nm 7), (.nm 6), (.nm 8)]) [] (.tup [(.slot 6), (.slot 8)]) (E14F B L F) []) (ts.map t3) st = some (ts.map fun t => pr t.2, st)
  | [] => rfl
  | t :: ts => by
    have ih := pairs_ok n st B L F ts
    have hb : bindT (.tp [(.nm 7), (.nm 6), (.nm 8)]) (t3 t) (wipeE (E14F B L F) (own3.map (·.2))) = some [some (.dat B), some (.dat L), some (.dat F), none, none, none, some (.dat (.int t.2.1)), some (.dat (.int t.1)), some (.dat (.int t.2.2)), none, none, none, none, none] := rfl
    exact compL_cons (lcF_yes hb (by simp only [evCs]) (r_tup2 (r_dat rfl) (r_dat rfl)) rfl) ih
end
end Wl
set_option linter.all false
set_option maxRecDepth 1000000
set_option maxHeartbeats 4000000
/-! W21: all pairs of pins as half a turn looks so: the function whole. -/
namespace Wl
open PySem PySem.Spec L2 Ev
theorem gaps_mem : ∀ {qs done : List (Int × Int)} {p x : Int × Int}, p ∈ done → x ∈ qs → gapP p x ∈ gapsP done qs
  | q :: qs, done, p, x, hp, hx => by
    simp only [gapsP]
    rcases List.mem_cons.mp hx with e | e
    · rw [e]
      exact List.mem_append_left _ (List.mem_map.mpr ⟨p, hp, rfl⟩)
    · exact List.mem_append_right _ (gaps_mem (List.mem_append_left _ hp) e)
theorem fit_ne : ∀ (qs done : List (Int × Int)), (∀ g ∈ gapsP done qs, g ≠ (0, 0)) → qs.Pairwise fun p q => gapP p q ≠ (0, 0)
  | [], _, _ => .nil
  | q :: qs, done, h => by
    refine List.pairwise_cons.mpr ⟨fun x hx => h _ ?_, fit_ne qs (done ++ [q]) fun g hg => h g ?_⟩
    · simp only [gapsP]
      exact List.mem_append_right _ (gaps_mem (by simp) hx)
    · simp only [gapsP]
      exact List.mem_append_right _ hg
theorem spots_mem : ∀ {qs : List (Int × Int)} {k : Nat} {s : R3}, s ∈ spotsP k qs ↔ ∃ i q, qs[i]? = some q ∧ s = spR (k + i) q
  | [], k, s => by simp [spotsP]
  | q :: qs, k, s => by
    simp only [spotsP, List.mem_cons]
    constructor
    · rintro (h | h)
      · exact ⟨0, q, rfl, by rw [h]; rfl⟩
      · obtain ⟨i, p, h1, h2⟩ := spots_mem.mp h
        exact ⟨i + 1, p, by simpa using h1, by rw [h2, show k + 1 + i = k + (i + 1) by omega]⟩
    · rintro ⟨i, p, h1, h2⟩
      cases i with
      | zero =>
        cases (show some q = some p from h1)
        exact .inl h2
      | succ i => exact .inr (spots_mem.mpr ⟨i, p, by simpa using h1, by rw [h2, show k + 1 + i = k + (i + 1) by omega]⟩)
theorem spots_ne : ∀ {qs : List (Int × Int)} {k : Nat}, (∀ q ∈ qs, In q) → (qs.Pairwise fun p q => gapP p q ≠ (0, 0)) → (spotsP k qs).Pairwise fun a b => a.1 ≠ b.1
  | [], _, _, _ => .nil
  | q :: qs, k, h, hp => by
    obtain ⟨h1, h2⟩ := List.pairwise_cons.mp hp
    refine List.pairwise_cons.mpr ⟨fun s hs e => ?_, spots_ne (fun x hx => h x (List.mem_cons_of_mem _ hx)) h2⟩
    obtain ⟨i, p, e1, e2⟩ := spots_mem.mp hs
    have hm := List.mem_of_getElem? e1
    have hn := h1 p hm
    obtain ⟨a1, a2, a3, a4⟩ := h q (List.mem_cons_self ..)
    obtain ⟨b1, b2, b3, b4⟩ := h p (List.mem_cons_of_mem _ hm)
    rw [e2] at e
    simp only [spR] at e
    apply hn
    simp only [gapP]
    have x1 : p.1 - q.1 = 0 := by omega
    have x2 : p.2 - q.2 = 0 := by omega
    rw [x1, x2]
theorem spots_len : ∀ (qs : List (Int × Int)) (k : Nat), (spotsP k qs).length = qs.length
  | [], _ => rfl
  | q :: qs, k => by simp only [spotsP, List.length_cons, spots_len qs (k + 1)]
theorem found_len : ∀ (ss done : List R3), (foundP done ss).length = glen done.length ss.length
  | [], _ => rfl
  | s :: ss, done => by
    simp only [foundP, List.length_append, List.length_map, List.length_cons, glen]
    rw [found_len ss (done ++ [s]), List.length_append, List.length_singleton]
theorem glen_le {m : Nat} (h : m ≤ 8) : glen 0 m ≤ 28 := by
  have : m = 0 ∨ m = 1 ∨ m = 2 ∨ m = 3 ∨ m = 4 ∨ m = 5 ∨ m = 6 ∨ m = 7 ∨ m = 8 := by omega
  rcases this with rfl | rfl | rfl | rfl | rfl | rfl | rfl | rfl | rfl <;> decide
section
variable {G : Pk}
theorem turned_ok (hT : G.fn "turned_pairs" = some i_turned_pairs) (c : Cs G) (c2 : Cs2 G) (n : Nat) (st : Sto) (qs : List (Int × Int)) (ws : List Str) (hb : Bo qs ws) :
    ∃ L T : List R3, L.Perm (spotsP 0 qs) ∧ (L.Pairwise fun a b => a.1 < b.1) ∧ T.Perm (foundP [] L) ∧ (T.Pairwise fun a b => b.1 ≤ a.1) ∧ evF G (n + 1) "turned_pairs" [.dat (boD qs ws)] st = some (.dat (.list (T.map fun t => pr t.2)) true, st) := by
  have h8 := hb.fit.len
  obtain ⟨hu, hne⟩ := fitP_un qs [] [] hb.fit.fit .nil
  have hpn := fit_ne qs [] hne
  obtain ⟨L, eL, pL, sL⟩ := srt_t3 false (spotsP 0 qs)
  have lL : L.length = qs.length := by rw [pL.length_eq, spots_len]
  have nL : L.Pairwise fun a b => a.1 ≠ b.1 := (pL.pairwise_iff (fun {a b} h => fun e => h e.symm)).mpr (spots_ne hb.fit.pl hpn)
  have uL : L.Pairwise fun a b => a.1 < b.1 := (List.Pairwise.and sL nL).imp fun {a b} ⟨h1, h2⟩ => by
    have := le_up h1
    omega
  have bd : ∀ s ∈ L, -100 < s.1 ∧ s.1 < 10000 := fun s hs => by
    obtain ⟨i, q, e1, e2⟩ := spots_mem.mp (pL.mem_iff.mp hs)
    obtain ⟨a1, a2, a3, a4⟩ := hb.fit.pl q (List.mem_of_getElem? e1)
    rw [e2]
    simp only [spR]
    omega
  have dL : L.Pairwise fun a b => b.1 - a.1 ≠ 0 ∧ -30000 < b.1 - a.1 ∧ b.1 - a.1 < 30000 := (List.Pairwise.and_mem.mp uL).imp fun {a b} ⟨ha, hb, hab⟩ => by
    have := bd a ha
    have := bd b hb
    omega
  obtain ⟨T, eT, pT, sT⟩ := srt_t3 true (foundP [] L)
  have dT : T.Pairwise fun a b => b.1 ≤ a.1 := sT.imp fun {a b} h => le_down h
  refine ⟨L, T, pL, uL, pT, dT, ?_⟩
  -- the spots
  have hI1 : evI G (evF G n) (.enm (.slot 0)) (E14 (boD qs ws)) st = some (enmD 0 (zipB qs ws), [], st) := r_enm (x := .dat (boD qs ws) false) (r_dat rfl) rfl
  have v1 := evE_lc hI1 (spots_ok c c2 n st (boD qs ws) qs ws 0 hb.len) (by rw [List.length_map, spots_len, PySem.sizeLine_eq]; omega)
  have w1 := r_srt (rev := false) v1 rfl (alk_t3 _) (by rw [List.length_map, spots_len]; omega)
  rw [eL] at w1
  have s1 : evS G (evF G n) [] (.asg (.nm 1) (.srt (.lc own1 (.tp [(.nm 9), (.tp [(.nm 12), (.nm 13), (.nm 7)])]) (.enm (.slot 0)) [] spE) false)) (E14 (boD qs ws)) st = some (.nx (E14L (boD qs ws) (.list (L.map t3))) st) := r_asg w1
  -- the pairs
  have hI2 : evI G (evF G n) (.enm (.slot 1)) (E14L (boD qs ws) (.list (L.map t3))) st = some (enmD 0 (L.map t3), [], st) := r_enm (x := .dat (.list (L.map t3)) false) (r_dat rfl) rfl
  have fl := found_len L []
  have gl := glen_le (m := L.length) (by omega)
  have v2 := evE_lc2 hI2 (found_ok n st (boD qs ws) L dL L [] rfl) (by rw [List.length_map, fl, PySem.sizeLine_eq]; simp only [List.length_nil]; omega)
  have s2 : evS G (evF G n) [] (.asg (.nm 2) (.lc2 own2 [4, 5, 6] (.tp [(.nm 3), (.tp [(.nm 10), (.nm 11), (.nm 8)])]) (.enm (.slot 1)) [] (.tp [(.nm 4), (.nm 5), (.nm 6)]) (.of (.cut (.slot 1) none (some (.slot 3)))) [] fdE)) (E14L (boD qs ws) (.list (L.map t3))) st = some (.nx (E14F (boD qs ws) (.list (L.map t3)) (.list ((foundP [] L).map t3))) st) := r_asg v2
  have w3 : evE G (evF G n) (.srt (.slot 2) true) (E14F (boD qs ws) (.list (L.map t3)) (.list ((foundP [] L).map t3))) st = some (.dat (.list (T.map t3)) true, st) := by
    rw [← eT]
    exact r_srt (x := .dat (.list ((foundP [] L).map t3)) false) (r_dat rfl) rfl (alk_t3 _) (by rw [List.length_map, fl]; simp only [List.length_nil]; omega)
  have hI3 : evI G (evF G n) (.of (.srt (.slot 2) true)) (E14F (boD qs ws) (.list (L.map t3)) (.list ((foundP [] L).map t3))) st = some (T.map t3, [], st) := r_of w3 rfl
  have v3 := evE_lc hI3 (pairs_ok n st (boD qs ws) (.list (L.map t3)) (.list ((foundP [] L).map t3)) T) (by rw [List.length_map, pT.length_eq, fl, PySem.sizeLine_eq]; simp only [List.length_nil]; omega)
  rw [evF_s hT rfl]
  refine Eq.trans (congrArg (finF st.length) ((evSs_nx s1).trans ((evSs_nx s2).trans (evSs_rt (ss := []) (r_ret v3))))) ?_
  show some (ER.dat _ true, st.take st.length) = _
  rw [List.take_length]
end
end Wl
set_option linter.all false
set_option maxRecDepth 1000000
set_option maxHeartbeats 4000000
/-! W22: directions in half a turn: their order. -/
namespace Wl
open PySem PySem.Spec L2 Ev
def negP (p : Int × Int) : Int × Int := (-p.1, -p.2)
theorem cross_anti (a b : Int × Int) : crossP a b = -crossP b a := by
  simp only [crossP]
  grind
theorem cross_negl (a b : Int × Int) : crossP (negP a) b = -crossP a b := by
  simp only [crossP, negP]
  grind
theorem cross_negr (a b : Int × Int) : crossP a (negP b) = -crossP a b := by
  simp only [crossP, negP]
  grind
theorem gp_neg (qs : List (Int × Int)) (i j : Nat) : gp qs j i = negP (gp qs i j) := by
  simp only [gp, gapP, negP]
  congr 1 <;> omega
theorem cross3 (s a b c : Int × Int) : crossP s b * crossP a c = crossP s a * crossP b c + crossP s c * crossP a b := by
  simp only [crossP]
  grind
theorem tr_pos {s a b c : Int × Int} (ha : 0 < crossP s a) (hb : 0 < crossP s b) (hc : 0 < crossP s c) (h1 : 0 < crossP a b) (h2 : 0 < crossP b c) : 0 < crossP a c := by
  have e := cross3 s a b c
  have p1 := Int.mul_pos ha h2
  have p2 := Int.mul_pos hc h1
  by_cases h : 0 < crossP a c
  · exact h
  · have := Int.mul_nonpos_of_nonneg_of_nonpos (Int.le_of_lt hb) (show crossP a c ≤ 0 by omega)
    omega
theorem tr_neg {s a b c : Int × Int} (ha : crossP s a < 0) (hb : crossP s b < 0) (hc : crossP s c < 0) (h1 : 0 < crossP a b) (h2 : 0 < crossP b c) : 0 < crossP a c := by
  refine tr_pos (s := negP s) (b := b) ?_ ?_ ?_ h1 h2 <;> (rw [cross_negl]; omega)
abbrev Bf (a b : Row) : Prop := 0 < crossP a.1 b.1
theorem insR_pw {P : Row → Prop} (tr : ∀ a b c, P a → P b → P c → Bf a b → Bf b c → Bf a c) {r : Row} (hr : P r) : ∀ {rows : List Row}, (∀ x ∈ rows, P x) → (∀ x ∈ rows, crossP x.1 r.1 ≠ 0) → rows.Pairwise Bf → (insR r rows).Pairwise Bf
  | [], _, _, _ => List.pairwise_singleton _ _
  | x :: xs, h1, h2, h3 => by
    obtain ⟨h4, h5⟩ := List.pairwise_cons.mp h3
    simp only [insR]
    split
    · rename_i hx
      refine List.pairwise_cons.mpr ⟨fun y hy => ?_, insR_pw tr hr (fun y hy => h1 y (List.mem_cons_of_mem _ hy)) (fun y hy => h2 y (List.mem_cons_of_mem _ hy)) h5⟩
      rcases mem_insR.mp hy with e | e
      · rw [e]; exact hx
      · exact h4 y e
    · rename_i hx
      have hrx : Bf r x := by
        have := h2 x (List.mem_cons_self ..)
        show 0 < crossP r.1 x.1
        rw [cross_anti]
        omega
      refine List.pairwise_cons.mpr ⟨fun y hy => ?_, h3⟩
      rcases List.mem_cons.mp hy with e | e
      · rw [e]; exact hrx
      · exact tr r x y hr (h1 x (List.mem_cons_self ..)) (h1 y (List.mem_cons_of_mem _ e)) hrx (h4 y e)
/-- two rows of the same, both in this order, are one -/
theorem uniq {α : Type} {R : α → α → Prop} (as : ∀ a b, R a b → R b a → False) (ir : ∀ a, ¬ R a a) : ∀ {l m : List α}, l.Pairwise R → m.Pairwise R → (∀ a, a ∈ l ↔ a ∈ m) → l = m
  | [], [], _, _, _ => rfl
  | [], b :: m, _, _, h => by have := (h b).mpr (List.mem_cons_self ..); cases this
  | a :: l, [], _, _, h => by have := (h a).mp (List.mem_cons_self ..); cases this
  | a :: l, b :: m, h1, h2, h => by
    obtain ⟨p1, p2⟩ := List.pairwise_cons.mp h1
    obtain ⟨q1, q2⟩ := List.pairwise_cons.mp h2
    have e : a = b := by
      rcases List.mem_cons.mp ((h a).mp (List.mem_cons_self ..)) with e | e
      · exact e
      · rcases List.mem_cons.mp ((h b).mpr (List.mem_cons_self ..)) with e2 | e2
        · exact e2.symm
        · exact (as a b (p1 b e2) (q1 a e)).elim
    subst e
    rw [uniq as ir p2 q2 fun x => ?_]
    constructor
    · intro hx
      rcases List.mem_cons.mp ((h x).mp (List.mem_cons_of_mem _ hx)) with e | e
      · rw [e] at hx
        exact (ir a (p1 a hx)).elim
      · exact e
    · intro hx
      rcases List.mem_cons.mp ((h x).mpr (List.mem_cons_of_mem _ hx)) with e | e
      · rw [e] at hx
        exact (ir a (q1 a hx)).elim
      · exact e
/-! ### no two along one direction -/
theorem gp_at {F : List (Int × Int)} {a b : Nat} {p q : Int × Int} (h1 : F[a]? = some p) (h2 : F[b]? = some q) : gp F a b = gapP p q := by
  unfold gp
  rw [List.getD_eq_getElem?_getD, List.getD_eq_getElem?_getD, h1, h2]
  rfl
theorem gaps_in : ∀ (qs done : List (Int × Int)) (c d : Nat), c < d → d < (done ++ qs).length → done.length ≤ d → gp (done ++ qs) c d ∈ gapsP done qs
  | [], done, c, d, h1, h2, h3 => by rw [List.append_nil] at h2; omega
  | q :: qs, done, c, d, h1, h2, h3 => by
    simp only [gapsP]
    by_cases e : d = done.length
    · subst e
      refine List.mem_append_left _ (List.mem_map.mpr ⟨done[c], List.getElem_mem h1, ?_⟩)
      exact (gp_at (by rw [List.getElem?_append_left h1]; exact List.getElem?_eq_getElem h1) (by rw [List.getElem?_append_right (Nat.le_refl _), Nat.sub_self]; rfl)).symm
    · have := gaps_in qs (done ++ [q]) c d h1 (by simpa using h2) (by rw [List.length_append, List.length_singleton]; omega)
      rw [List.append_assoc] at this
      exact List.mem_append_right _ this
theorem gaps_nc : ∀ (qs done : List (Int × Int)), (gapsP done qs).Pairwise Un → ∀ a b c d : Nat, a < b → c < d → b < (done ++ qs).length → d < (done ++ qs).length → done.length ≤ b → done.length ≤ d → (a, b) ≠ (c, d) → crossP (gp (done ++ qs) a b) (gp (done ++ qs) c d) ≠ 0
  | [], done, _, a, b, c, d, _, _, h3, _, h5, _, _ => by rw [List.append_nil] at h3; omega
  | q :: qs, done, hp, a, b, c, d, h1, h2, h3, h4, h5, h6, hne => by
    simp only [gapsP] at hp
    obtain ⟨p1, p2, p3⟩ := List.pairwise_append.mp hp
    have hF : done ++ q :: qs = (done ++ [q]) ++ qs := by rw [List.append_assoc]; rfl
    have first : ∀ x, x < done.length → gp (done ++ q :: qs) x done.length = gapP (done.getD x (0, 0)) q := fun x hx => by
      rw [gp_at (p := done[x]) (q := q) (by rw [List.getElem?_append_left hx]; exact List.getElem?_eq_getElem hx) (by rw [List.getElem?_append_right (Nat.le_refl _), Nat.sub_self]; rfl)]
      rw [List.getD_eq_getElem?_getD, List.getElem?_eq_getElem hx]
      rfl
    have fm : ∀ x, x < done.length → gp (done ++ q :: qs) x done.length ∈ done.map (fun p => gapP p q) := fun x hx => by
      rw [first x hx, List.getD_eq_getElem?_getD, List.getElem?_eq_getElem hx]
      exact List.mem_map.mpr ⟨done[x], List.getElem_mem hx, rfl⟩
    have rm : ∀ x y, x < y → y < (done ++ q :: qs).length → done.length < y → gp (done ++ q :: qs) x y ∈ gapsP (done ++ [q]) qs := fun x y h1 h2 h3 => by
      rw [hF]
      exact gaps_in qs (done ++ [q]) x y h1 (by rw [← hF]; exact h2) (by rw [List.length_append, List.length_singleton]; omega)
    have both : ∀ x y, x < y → y < done.length → crossP (gp (done ++ q :: qs) x done.length) (gp (done ++ q :: qs) y done.length) ≠ 0 := fun x y h1 h2 => by
      have := List.pairwise_iff_getElem.mp p1 x y (by rw [List.length_map]; omega) (by rw [List.length_map]; omega) h1
      rw [List.getElem_map, List.getElem_map] at this
      rw [first x (by omega), first y h2, List.getD_eq_getElem?_getD, List.getElem?_eq_getElem (by omega : x < done.length), List.getD_eq_getElem?_getD, List.getElem?_eq_getElem h2]
      rw [cross_anti]
      intro z
      exact this (by show crossP (gapP done[y] q) (gapP done[x] q) = 0; simp only [Option.getD_some] at z; omega)
    by_cases eb : b = done.length
    · by_cases ed : d = done.length
      · subst eb
        rw [ed] at h2 hne ⊢
        have : a ≠ c := fun z => hne (by rw [z])
        rcases Nat.lt_or_gt_of_ne this with h | h
        · exact both a c h h2
        · rw [cross_anti]
          have := both c a h h1
          omega
      · subst eb
        have := p3 _ (fm a h1) _ (rm c d h2 h4 (by omega))
        rw [cross_anti]
        have t : crossP (gp (done ++ q :: qs) c d) (gp (done ++ q :: qs) a done.length) ≠ 0 := this
        omega
    · by_cases ed : d = done.length
      · subst ed
        exact p3 _ (fm c h2) _ (rm a b h1 h3 (by omega))
      · have := gaps_nc qs (done ++ [q]) p2 a b c d h1 h2 (by rw [← hF]; exact h3) (by rw [← hF]; exact h4) (by rw [List.length_append, List.length_singleton]; omega) (by rw [List.length_append, List.length_singleton]; omega) hne
        rw [← hF] at this
        exact this
/-- unlike pairs look along unlike directions -/
structure NC (qs : List (Int × Int)) : Prop where
  nc : ∀ i j k l : Nat, i < qs.length → j < qs.length → k < qs.length → l < qs.length → i ≠ j → k ≠ l → (i, j) ≠ (k, l) → (i, j) ≠ (l, k) → crossP (gp qs i j) (gp qs k l) ≠ 0
  ne : ∀ i j : Nat, i < qs.length → j < qs.length → i ≠ j → gp qs i j ≠ (0, 0)
  gp : ∀ i j : Nat, i < qs.length → j < qs.length → Gp (gp qs i j)
theorem nc_of {qs : List (Int × Int)} {k : Nat} (h : Fit qs k) : NC qs := by
  obtain ⟨hu, hn⟩ := fitP_un qs [] [] h.fit .nil
  rw [List.nil_append] at hu
  have up : ∀ a b c d : Nat, a < b → c < d → b < qs.length → d < qs.length → (a, b) ≠ (c, d) → crossP (Wl.gp qs a b) (Wl.gp qs c d) ≠ 0 := fun a b c d h1 h2 h3 h4 h5 => gaps_nc qs [] hu a b c d h1 h2 h3 h4 (Nat.zero_le _) (Nat.zero_le _) h5
  have upn : ∀ a b : Nat, a < b → b < qs.length → Wl.gp qs a b ≠ (0, 0) := fun a b h1 h2 => hn _ (gaps_in qs [] a b h1 h2 (Nat.zero_le _))
  refine ⟨fun i j k l hi hj hk hl h1 h2 h3 h4 => ?_, fun i j hi hj h1 => ?_, fun i j hi hj => ?_⟩
  · rcases Nat.lt_or_gt_of_ne h1 with a | a <;> rcases Nat.lt_or_gt_of_ne h2 with b | b
    · exact up i j k l a b hj hl h3
    · rw [gp_neg qs l k, cross_negr]
      have := up i j l k a b hj hk h4
      omega
    · rw [gp_neg qs j i, cross_negl]
      have := up j i k l a b hi hl (fun z => h4 (by injection z with z1 z2; rw [z1, z2]))
      omega
    · rw [gp_neg qs j i, gp_neg qs l k, cross_negl, cross_negr]
      have := up j i l k a b hi hk (fun z => h3 (by injection z with z1 z2; rw [z1, z2]))
      omega
  · rcases Nat.lt_or_gt_of_ne h1 with a | a
    · exact upn i j a hj
    · intro z
      apply upn j i a hi
      rw [gp_neg qs i j, z]
      rfl
  · have e1 : qs[i]? = some qs[i] := List.getElem?_eq_getElem hi
    have e2 : qs[j]? = some qs[j] := List.getElem?_eq_getElem hj
    rw [gp_at e1 e2]
    exact gp_in (h.pl _ (List.getElem_mem hi)) (h.pl _ (List.getElem_mem hj))
end Wl
set_option linter.all false
set_option maxRecDepth 1000000
set_option maxHeartbeats 4000000
/-! W23: the chart's halves: what is in them, and in which order. -/
namespace Wl
open PySem PySem.Spec L2 Ev
def rowOf (qs : List (Int × Int)) (p : Nat × Nat) : Row := (gp qs p.1 p.2, p.1, p.2)
def allP (n : Nat) : List (Nat × Nat) := (List.range' 0 n).flatMap fun i => (othersN n i).map fun j => (i, j)
theorem allP_mem {n : Nat} {p : Nat × Nat} : p ∈ allP n ↔ p.1 < n ∧ p.2 < n ∧ p.2 ≠ p.1 := by
  unfold allP othersN
  simp only [List.mem_flatMap, List.mem_map, List.mem_filter, List.mem_range'_1, decide_eq_true_eq]
  constructor
  · rintro ⟨i, hi, j, ⟨hj, hne⟩, rfl⟩
    exact ⟨by omega, by omega, hne⟩
  · rintro ⟨h1, h2, h3⟩
    exact ⟨p.1, by omega, p.2, ⟨by omega, h3⟩, rfl⟩
theorem allP_nodup {n : Nat} (h : n ≤ 8) : (allP n).Nodup := by
  have : n = 0 ∨ n = 1 ∨ n = 2 ∨ n = 3 ∨ n = 4 ∨ n = 5 ∨ n = 6 ∨ n = 7 ∨ n = 8 := by omega
  rcases this with rfl | rfl | rfl | rfl | rfl | rfl | rfl | rfl | rfl <;> decide
theorem chart_fold (qs : List (Int × Int)) : ∀ (is : List Nat) (NF : List Row × List Row), chartP qs is NF = (is.flatMap fun i => (othersN qs.length i).map fun j => (i, j)).foldl (stepR qs) NF
  | [], _ => rfl
  | i :: is, NF => by
    rw [List.flatMap_cons, List.foldl_append, List.foldl_map, ← chart_fold qs is]
    rfl
theorem st0_ne {g : Int × Int} (h : Gp g) (h0 : g ≠ (0, 0)) : crossP st0P g ≠ 0 := by
  obtain ⟨a, b⟩ := g
  obtain ⟨h1, h2, h3, h4⟩ := h
  simp only at h1 h2 h3 h4
  simp only [crossP]
  intro e
  apply h0
  have x1 : b = 0 := by omega
  have x2 : a = 0 := by omega
  rw [x1, x2]
/-- what the chart in the making holds -/
structure Cv (qs : List (Int × Int)) (ps : List (Nat × Nat)) (NF : List Row × List Row) : Prop where
  m1 : ∀ r, r ∈ NF.1 ↔ ∃ p ∈ ps, r = rowOf qs p ∧ 0 < crossP st0P (gp qs p.1 p.2)
  m2 : ∀ r, r ∈ NF.2 ↔ ∃ p ∈ ps, r = rowOf qs p ∧ crossP st0P (gp qs p.1 p.2) < 0
  o1 : NF.1.Pairwise Bf
  o2 : NF.2.Pairwise Bf
theorem Cv.step {qs : List (Int × Int)} (hc : NC qs) {ps : List (Nat × Nat)} {NF : List Row × List Row} (v : Cv qs ps NF) (hps : ∀ p ∈ ps, p.1 < qs.length ∧ p.2 < qs.length ∧ p.2 ≠ p.1) {p : Nat × Nat} (hp : p.1 < qs.length ∧ p.2 < qs.length ∧ p.2 ≠ p.1) (hn : p ∉ ps) : Cv qs (ps ++ [p]) (stepR qs NF p) := by
  have h0 := st0_ne (hc.gp p.1 p.2 hp.1 hp.2.1) (hc.ne p.1 p.2 hp.1 hp.2.1 (Ne.symm hp.2.2))
  -- unlike rows of one half
  have un : ∀ x ∈ ps, (0 < crossP st0P (gp qs x.1 x.2) ↔ 0 < crossP st0P (gp qs p.1 p.2)) → crossP (gp qs x.1 x.2) (gp qs p.1 p.2) ≠ 0 := fun x hx hs => by
    obtain ⟨a1, a2, a3⟩ := hps x hx
    refine hc.nc x.1 x.2 p.1 p.2 a1 a2 hp.1 hp.2.1 (Ne.symm a3) (Ne.symm hp.2.2) (fun z => hn ?_) (fun z => ?_)
    · injection z with z1 z2
      have : x = p := Prod.ext z1 z2
      rw [← this]; exact hx
    · injection z with z1 z2
      rw [z1, z2, gp_neg qs p.1 p.2, cross_negr] at hs
      omega
  unfold stepR
  by_cases hx : 0 < crossP st0P (gp qs p.1 p.2)
  · rw [if_pos hx]
    refine ⟨fun r => ?_, fun r => ?_, ?_, v.o2⟩
    · show r ∈ insR (rowOf qs p) NF.1 ↔ _
      rw [mem_insR, v.m1]
      constructor
      · rintro (e | ⟨x, h1, h2⟩)
        · exact ⟨p, by simp, e, hx⟩
        · exact ⟨x, List.mem_append_left _ h1, h2⟩
      · rintro ⟨x, h1, h2⟩
        rcases List.mem_append.mp h1 with h | h
        · exact .inr ⟨x, h, h2⟩
        · rw [List.mem_singleton.mp h] at h2
          exact .inl h2.1
    · rw [v.m2]
      constructor
      · rintro ⟨x, h1, h2⟩
        exact ⟨x, List.mem_append_left _ h1, h2⟩
      · rintro ⟨x, h1, h2⟩
        rcases List.mem_append.mp h1 with h | h
        · exact ⟨x, h, h2⟩
        · rw [List.mem_singleton.mp h] at h2
          omega
    · refine insR_pw (P := fun r => 0 < crossP st0P r.1) (fun a b c => tr_pos) (r := rowOf qs p) hx (fun x hx => ?_) (fun x hxm => ?_) v.o1
      · obtain ⟨y, _, e, h⟩ := (v.m1 x).mp hx
        rw [e]; exact h
      · obtain ⟨y, hy, e, h⟩ := (v.m1 x).mp hxm
        rw [e]
        exact un y hy (by constructor <;> intro _ <;> assumption)
  · rw [if_neg hx]
    have hx' : crossP st0P (gp qs p.1 p.2) < 0 := by omega
    refine ⟨fun r => ?_, fun r => ?_, v.o1, ?_⟩
    · rw [v.m1]
      constructor
      · rintro ⟨x, h1, h2⟩
        exact ⟨x, List.mem_append_left _ h1, h2⟩
      · rintro ⟨x, h1, h2⟩
        rcases List.mem_append.mp h1 with h | h
        · exact ⟨x, h, h2⟩
        · rw [List.mem_singleton.mp h] at h2
          exact absurd h2.2 hx
    · show r ∈ insR (rowOf qs p) NF.2 ↔ _
      rw [mem_insR, v.m2]
      constructor
      · rintro (e | ⟨x, h1, h2⟩)
        · exact ⟨p, by simp, e, hx'⟩
        · exact ⟨x, List.mem_append_left _ h1, h2⟩
      · rintro ⟨x, h1, h2⟩
        rcases List.mem_append.mp h1 with h | h
        · exact .inr ⟨x, h, h2⟩
        · rw [List.mem_singleton.mp h] at h2
          exact .inl h2.1
    · refine insR_pw (P := fun r => crossP st0P r.1 < 0) (fun a b c => tr_neg) (r := rowOf qs p) hx' (fun x hx => ?_) (fun x hxm => ?_) v.o2
      · obtain ⟨y, _, e, h⟩ := (v.m2 x).mp hx
        rw [e]; exact h
      · obtain ⟨y, hy, e, h⟩ := (v.m2 x).mp hxm
        rw [e]
        exact un y hy (by constructor <;> intro _ <;> omega)
theorem Cv.fold {qs : List (Int × Int)} (hc : NC qs) : ∀ (rest ps : List (Nat × Nat)) (NF : List Row × List Row), Cv qs ps NF → (ps ++ rest).Nodup → (∀ p ∈ ps ++ rest, p.1 < qs.length ∧ p.2 < qs.length ∧ p.2 ≠ p.1) → Cv qs (ps ++ rest) (rest.foldl (stepR qs) NF)
  | [], ps, NF, v, _, _ => by rw [List.append_nil]; exact v
  | p :: rest, ps, NF, v, hn, hb => by
    have h1 : p ∉ ps := fun z => by
      have := (List.nodup_append.mp hn).2.2 p z p (List.mem_cons_self ..)
      exact this rfl
    have e : ps ++ p :: rest = (ps ++ [p]) ++ rest := by rw [List.append_assoc]; rfl
    have s := v.step hc (fun x hx => hb x (List.mem_append_left _ hx)) (hb p (by simp)) h1
    have := Cv.fold hc rest (ps ++ [p]) _ s (by rw [← e]; exact hn) (by rw [← e]; exact hb)
    rw [e]
    exact this
/-- the chart -/
theorem chart_cv {qs : List (Int × Int)} (hc : NC qs) (hn : qs.length ≤ 8) : Cv qs (allP qs.length) (chart2 qs) := by
  have h := Cv.fold hc (allP qs.length) [] ([], []) ⟨fun r => by simp, fun r => by simp, .nil, .nil⟩ (by rw [List.nil_append]; exact allP_nodup hn) (fun p hp => by rw [List.nil_append] at hp; exact allP_mem.mp hp)
  rw [List.nil_append] at h
  unfold chart2
  rw [chart_fold]
  exact h
/-- a row the other way about -/
def flipR (r : Row) : Row := (negP r.1, r.2.2, r.2.1)
theorem far_flip {qs : List (Int × Int)} (hc : NC qs) (hn : qs.length ≤ 8) : (chart2 qs).2 = (chart2 qs).1.map flipR := by
  have v := chart_cv hc hn
  refine uniq (R := Bf) (fun a b h1 h2 => ?_) (fun a h => ?_) v.o2 (List.pairwise_map.mpr (v.o1.imp fun {a b} h => ?_)) fun r => ?_
  · have h1 : 0 < crossP a.1 b.1 := h1
    have h2 : 0 < crossP b.1 a.1 := h2
    rw [cross_anti] at h2
    omega
  · have h : 0 < crossP a.1 a.1 := h
    have := cross_anti a.1 a.1
    omega
  · show 0 < crossP (negP a.1) (negP b.1)
    rw [cross_negl, cross_negr]
    have h : 0 < crossP a.1 b.1 := h
    omega
  · rw [v.m2, List.mem_map]
    constructor
    · rintro ⟨p, h1, h2, h3⟩
      obtain ⟨a1, a2, a3⟩ := allP_mem.mp h1
      refine ⟨rowOf qs (p.2, p.1), (v.m1 _).mpr ⟨(p.2, p.1), allP_mem.mpr ⟨a2, a1, Ne.symm a3⟩, rfl, ?_⟩, ?_⟩
      · show 0 < crossP st0P (gp qs p.2 p.1)
        rw [gp_neg qs p.1 p.2, cross_negr]
        omega
      · rw [h2]
        unfold flipR rowOf
        simp only
        rw [← gp_neg]
    · rintro ⟨x, hx, rfl⟩
      obtain ⟨p, h1, h2, h3⟩ := (v.m1 x).mp hx
      obtain ⟨a1, a2, a3⟩ := allP_mem.mp h1
      refine ⟨(p.2, p.1), allP_mem.mpr ⟨a2, a1, Ne.symm a3⟩, ?_, ?_⟩
      · rw [h2]
        unfold flipR rowOf
        simp only
        rw [← gp_neg]
      · show crossP st0P (gp qs p.2 p.1) < 0
        rw [gp_neg qs p.1 p.2, cross_negr]
        omega
end Wl
set_option linter.all false
set_option maxRecDepth 1000000
set_option maxHeartbeats 4000000
/-! W24: half a turn tells the pairs in the chart's order. -/
namespace Wl
open PySem PySem.Spec L2 Ev
def leanP (g : Int × Int) : Int := fdv ((100 * g.1 + g.2) * 20000) (100 * g.2 - g.1)
theorem fdv_pos {a b : Int} (h : 0 < b) : ∃ r, a = fdv a b * b + r ∧ 0 ≤ r ∧ r < b := by
  unfold fdv
  rw [if_pos h]
  refine ⟨a % b, ?_, Int.emod_nonneg _ (by omega), Int.emod_lt_of_pos _ h⟩
  have := Int.mul_ediv_add_emod a b
  rw [Int.mul_comm] at this
  exact this.symm
theorem lean_lt {a b : Int × Int} (ha : Gp a) (hb : Gp b) (ca : 0 < 100 * a.2 - a.1) (cb : 0 < 100 * b.2 - b.1) (h : 0 < crossP b a) : leanP a < leanP b := by
  obtain ⟨a1, a2, a3, a4⟩ := ha
  obtain ⟨b1, b2, b3, b4⟩ := hb
  obtain ⟨ra, ea, na, la⟩ := fdv_pos (a := (100 * a.1 + a.2) * 20000) ca
  obtain ⟨rb, eb, nb, lb⟩ := fdv_pos (a := (100 * b.1 + b.2) * 20000) cb
  unfold leanP
  by_cases hlt : fdv ((100 * a.1 + a.2) * 20000) (100 * a.2 - a.1) < fdv ((100 * b.1 + b.2) * 20000) (100 * b.2 - b.1)
  · exact hlt
  · exfalso
    generalize fdv ((100 * a.1 + a.2) * 20000) (100 * a.2 - a.1) = va at ea hlt
    generalize fdv ((100 * b.1 + b.2) * 20000) (100 * b.2 - b.1) = vb at eb hlt
    have id1 : (100 * b.1 + b.2) * 20000 * (100 * a.2 - a.1) - (100 * a.1 + a.2) * 20000 * (100 * b.2 - b.1) = 200020000 * crossP b a := by
      simp only [crossP]
      grind
    have id2 : (vb * (100 * b.2 - b.1) + rb) * (100 * a.2 - a.1) - (va * (100 * a.2 - a.1) + ra) * (100 * b.2 - b.1) = (vb - va) * ((100 * b.2 - b.1) * (100 * a.2 - a.1)) + rb * (100 * a.2 - a.1) - ra * (100 * b.2 - b.1) := by
      grind
    rw [eb, ea, id2] at id1
    have p0 : 0 < (100 * b.2 - b.1) * (100 * a.2 - a.1) := Int.mul_pos cb ca
    have p1 : (vb - va) * ((100 * b.2 - b.1) * (100 * a.2 - a.1)) ≤ 0 := Int.mul_nonpos_of_nonpos_of_nonneg (by omega) (Int.le_of_lt p0)
    have p2 : 0 ≤ ra * (100 * b.2 - b.1) := Int.mul_nonneg na (by omega)
    have p3 := mul_bd (x := rb) (y := 100 * a.2 - a.1) (m := 9999) (k := 9999) (by omega) (by omega)
    omega
theorem start_iff {g : Int × Int} (h : Gp g) : 0 < crossP st0P g ↔ 0 < 100 * g.2 - g.1 := by
  obtain ⟨h1, h2, h3, h4⟩ := h
  simp only [crossP]
  omega
theorem found_mem : ∀ {ss done : List R3}, ((done ++ ss).Pairwise fun a b => a.1 < b.1) → ∀ t, t ∈ foundP done ss ↔ ∃ o ∈ done ++ ss, ∃ s ∈ ss, o.1 < s.1 ∧ t = fR o s
  | [], done, _, t => by simp [foundP]
  | s0 :: ss, done, hp, t => by
    have hF : done ++ s0 :: ss = (done ++ [s0]) ++ ss := by rw [List.append_assoc]; rfl
    obtain ⟨p1, p2, p3⟩ := List.pairwise_append.mp hp
    obtain ⟨p4, p5⟩ := List.pairwise_cons.mp p2
    simp only [foundP, List.mem_append]
    rw [found_mem (by rw [← hF]; exact hp) t, ← hF]
    constructor
    · rintro (h | ⟨o, ho, s, hs, h1, h2⟩)
      · obtain ⟨o, ho, rfl⟩ := List.mem_map.mp h
        exact ⟨o, .inl ho, s0, List.mem_cons_self .., p3 o ho s0 (List.mem_cons_self ..), rfl⟩
      · exact ⟨o, List.mem_append.mp ho, s, List.mem_cons_of_mem _ hs, h1, h2⟩
    · rintro ⟨o, ho, s, hs, h1, h2⟩
      rcases List.mem_cons.mp hs with e | e
      · rw [e] at h1 h2
        refine .inl (List.mem_map.mpr ⟨o, ?_, h2.symm⟩)
        rcases ho with h | h
        · exact h
        · rcases List.mem_cons.mp h with h | h
          · rw [h] at h1; omega
          · have := p4 o h; omega
      · exact .inr ⟨o, List.mem_append.mpr ho, s, e, h1, h2⟩
theorem found_nodup : ∀ {ss done : List R3}, ((done ++ ss).Pairwise fun a b => a.2.2 ≠ b.2.2) → (foundP done ss).Pairwise fun a b => a.2 ≠ b.2
  | [], _, _ => .nil
  | s0 :: ss, done, hp => by
    have hF : done ++ s0 :: ss = (done ++ [s0]) ++ ss := by rw [List.append_assoc]; rfl
    obtain ⟨p1, p2, p3⟩ := List.pairwise_append.mp hp
    obtain ⟨p4, p5⟩ := List.pairwise_cons.mp p2
    have first : (done.map fun o => fR o s0).Pairwise fun a b => a.2 ≠ b.2 := by
      refine List.pairwise_map.mpr (p1.imp ?_)
      intro a b h e
      apply h
      have e : ((fR a s0).2.1, (fR a s0).2.2) = ((fR b s0).2.1, (fR b s0).2.2) := e
      injection e
    have third : ∀ x ∈ done.map (fun o => fR o s0), ∀ y ∈ foundP (done ++ [s0]) ss, x.2 ≠ y.2 := by
      intro x hx y hy e
      obtain ⟨o, _, rfl⟩ := List.mem_map.mp hx
      have key : ∀ (ss2 done2 : List R3) (y : R3), y ∈ foundP done2 ss2 → ∃ s ∈ ss2, y.2.2 = s.2.2 := by
        intro ss2
        induction ss2 with
        | nil => intro done2 y hy; simp [foundP] at hy
        | cons s ss2 ih =>
          intro done2 y hy
          simp only [foundP] at hy
          rcases List.mem_append.mp hy with h | h
          · obtain ⟨o, _, rfl⟩ := List.mem_map.mp h
            exact ⟨s, List.mem_cons_self .., rfl⟩
          · obtain ⟨s', h1, h2⟩ := ih _ y h
            exact ⟨s', List.mem_cons_of_mem _ h1, h2⟩
      obtain ⟨s, hs, e2⟩ := key ss _ y hy
      have e3 : (fR o s0).2.2 = y.2.2 := by rw [e]
      rw [e2] at e3
      exact p4 s hs e3
    simp only [foundP]
    exact List.pairwise_append.mpr ⟨first, found_nodup (by rw [← hF]; exact hp), third⟩
theorem spots_idx : ∀ {qs : List (Int × Int)} {k : Nat}, (spotsP k qs).Pairwise fun a b => a.2.2 ≠ b.2.2
  | [], _ => .nil
  | q :: qs, k => by
    simp only [spotsP]
    refine List.pairwise_cons.mpr ⟨fun s hs e => ?_, spots_idx⟩
    obtain ⟨i, p, h1, h2⟩ := spots_mem.mp hs
    rw [h2] at e
    have e : ((k : Nat) : Int) = ((k + 1 + i : Nat) : Int) := e
    omega
/-- a told pair as a row of the chart -/
def toRow (qs : List (Int × Int)) (t : R3) : Row := rowOf qs (t.2.1.toNat, t.2.2.toNat)
theorem turned_chart {qs : List (Int × Int)} {k : Nat} (hf : Fit qs k) (hn : qs.length ≤ 8) {L T : List R3} (pL : L.Perm (spotsP 0 qs)) (uL : L.Pairwise fun a b => a.1 < b.1) (pT : T.Perm (foundP [] L)) (dT : T.Pairwise fun a b => b.1 ≤ a.1) :
    T.map (toRow qs) = (chart2 qs).1 ∧ ∀ t ∈ T, t.2 = (((t.2.1.toNat : Nat) : Int), ((t.2.2.toNat : Nat) : Int)) ∧ t.2.1.toNat < qs.length ∧ t.2.2.toNat < qs.length := by
  have hc := nc_of hf
  have v := chart_cv hc hn
  -- what T holds
  have mT : ∀ t, t ∈ T ↔ ∃ i j : Nat, i < qs.length ∧ j < qs.length ∧ 0 < 100 * (gp qs i j).2 - (gp qs i j).1 ∧ t = (leanP (gp qs i j), ((i : Nat) : Int), ((j : Nat) : Int)) := fun t => by
    rw [pT.mem_iff, found_mem (by rw [List.nil_append]; exact uL) t]
    have cmp : ∀ (i j : Nat) (p q : Int × Int), qs[i]? = some p → qs[j]? = some q → fR (spR (0 + i) p) (spR (0 + j) q) = (leanP (gp qs i j), ((i : Nat) : Int), ((j : Nat) : Int)) ∧ ((spR (0 + i) p).1 < (spR (0 + j) q).1 ↔ 0 < 100 * (gp qs i j).2 - (gp qs i j).1) := fun i j p q h1 h2 => by
      rw [gp_at h1 h2]
      constructor
      · simp only [fR, spR, leanP, gapP, Nat.zero_add]
        congr 2
        · omega
        · omega
      · simp only [spR, gapP]
        omega
    constructor
    · rintro ⟨o, ho, s, hs, h1, h2⟩
      rw [List.nil_append] at ho
      obtain ⟨i, p, a1, a2⟩ := spots_mem.mp (pL.mem_iff.mp ho)
      obtain ⟨j, q, b1, b2⟩ := spots_mem.mp (pL.mem_iff.mp hs)
      rw [a2, b2] at h1 h2
      obtain ⟨c1, c2⟩ := cmp i j p q a1 b1
      exact ⟨i, j, (List.getElem?_eq_some_iff.mp a1).1, (List.getElem?_eq_some_iff.mp b1).1, c2.mp h1, by rw [h2, c1]⟩
    · rintro ⟨i, j, hi, hj, h1, h2⟩
      have a1 : qs[i]? = some qs[i] := List.getElem?_eq_getElem hi
      have b1 : qs[j]? = some qs[j] := List.getElem?_eq_getElem hj
      obtain ⟨c1, c2⟩ := cmp i j _ _ a1 b1
      exact ⟨spR (0 + i) qs[i], by rw [List.nil_append]; exact pL.mem_iff.mpr (spots_mem.mpr ⟨i, _, a1, rfl⟩), spR (0 + j) qs[j], pL.mem_iff.mpr (spots_mem.mpr ⟨j, _, b1, rfl⟩), c2.mpr h1, by rw [h2, c1]⟩
  have nL : L.Pairwise fun a b => a.2.2 ≠ b.2.2 := (pL.pairwise_iff (fun {a b} h => fun e => h e.symm)).mpr spots_idx
  have nT : T.Pairwise fun a b => a.2 ≠ b.2 := (pT.pairwise_iff (fun {a b} h => fun e => h e.symm)).mpr (found_nodup (by rw [List.nil_append]; exact nL))
  have shape : ∀ t ∈ T, t.2 = (((t.2.1.toNat : Nat) : Int), ((t.2.2.toNat : Nat) : Int)) ∧ t.2.1.toNat < qs.length ∧ t.2.2.toNat < qs.length := fun t ht => by
    obtain ⟨i, j, hi, hj, _, e⟩ := (mT t).mp ht
    rw [e]
    simp only [Int.toNat_natCast]
    exact ⟨trivial, hi, hj⟩
  refine ⟨uniq (R := Bf) (fun a b h1 h2 => ?_) (fun a h => ?_) (List.pairwise_map.mpr ?_) v.o1 fun r => ?_, shape⟩
  · have h1 : 0 < crossP a.1 b.1 := h1
    have h2 : 0 < crossP b.1 a.1 := h2
    rw [cross_anti] at h2
    omega
  · have h : 0 < crossP a.1 a.1 := h
    have := cross_anti a.1 a.1
    omega
  · refine (List.Pairwise.and_mem.mp (dT.and nT)).imp fun {a b} ⟨ha, hb, hab, hne⟩ => ?_
    obtain ⟨i, j, hi, hj, cij, ea⟩ := (mT a).mp ha
    obtain ⟨k, l, hk, hl, ckl, eb⟩ := (mT b).mp hb
    rw [ea, eb] at hab hne
    show 0 < crossP (toRow qs a).1 (toRow qs b).1
    rw [ea, eb]
    simp only [toRow, rowOf, Int.toNat_natCast]
    have hij : i ≠ j := fun z => by
      rw [z] at cij
      simp only [gp, gapP] at cij
      omega
    have hkl : k ≠ l := fun z => by
      rw [z] at ckl
      simp only [gp, gapP] at ckl
      omega
    have n0 := hc.nc i j k l hi hj hk hl hij hkl (fun z => hne (by injection z with z1 z2; rw [z1, z2])) (fun z => by
      injection z with z1 z2
      rw [z1, z2, gp_neg qs k l] at cij
      simp only [negP] at cij
      omega)
    by_cases hx : 0 < crossP (gp qs i j) (gp qs k l)
    · exact hx
    · have h2 : 0 < crossP (gp qs k l) (gp qs i j) := by rw [cross_anti]; omega
      have := lean_lt (hc.gp i j hi hj) (hc.gp k l hk hl) cij ckl h2
      simp only at hab
      omega
  · rw [List.mem_map, v.m1]
    constructor
    · rintro ⟨t, ht, rfl⟩
      obtain ⟨i, j, hi, hj, cij, e⟩ := (mT t).mp ht
      have hij : i ≠ j := fun z => by
        rw [z] at cij
        simp only [gp, gapP] at cij
        omega
      exact ⟨(i, j), allP_mem.mpr ⟨hi, hj, Ne.symm hij⟩, by rw [e]; simp only [toRow, Int.toNat_natCast], (start_iff (hc.gp i j hi hj)).mpr cij⟩
    · rintro ⟨p, h1, h2, h3⟩
      obtain ⟨a1, a2, a3⟩ := allP_mem.mp h1
      exact ⟨(leanP (gp qs p.1 p.2), ((p.1 : Nat) : Int), ((p.2 : Nat) : Int)), (mT _).mpr ⟨p.1, p.2, a1, a2, (start_iff (hc.gp p.1 p.2 a1 a2)).mp h3, rfl⟩, by rw [h2]; simp only [toRow, Int.toNat_natCast]⟩
end Wl
set_option linter.all false
set_option maxRecDepth 1000000
set_option maxHeartbeats 4000000
/-! W25: meetings, as the law's chart and as the program tell them. -/
namespace Wl
open PySem PySem.Spec L2 Ev
def wordS (b : Bool) : Str := if b then ("ahead" : Str) else ("behind" : Str)
def metD (m : Nat × Bool) : D := .tuple [.int ((m.1 : Nat) : Int), .str (wordS m.2)]
def dueR (pin : Nat) (r : Row) : List (Nat × Bool) := if r.2.1 = pin then [(r.2.2, true)] else if r.2.2 = pin then [(r.2.1, false)] else []
def dueP (pin : Nat) (rows : List Row) : List (Nat × Bool) := rows.flatMap (dueR pin)
def flipB (m : Nat × Bool) : Nat × Bool := (m.1, !m.2)
theorem dueR_flip (pin : Nat) (r : Row) (h : r.2.1 ≠ r.2.2) : dueR pin (flipR r) = (dueR pin r).map flipB := by
  obtain ⟨d, i, j⟩ := r
  have h : i ≠ j := h
  show (if j = pin then [(i, true)] else if i = pin then [(j, false)] else []) = (if i = pin then [(j, true)] else if j = pin then [(i, false)] else []).map flipB
  by_cases h1 : i = pin
  · have h2 : ¬ j = pin := fun z => h (by rw [h1, z])
    rw [if_neg h2, if_pos h1, if_pos h1]
    rfl
  · by_cases h2 : j = pin
    · rw [if_pos h2, if_neg h1, if_pos h2]
      rfl
    · rw [if_neg h2, if_neg h1, if_neg h1, if_neg h2]
      rfl
theorem due_flip (pin : Nat) : ∀ rows : List Row, (∀ r ∈ rows, r.2.1 ≠ r.2.2) → dueP pin (rows.map flipR) = (dueP pin rows).map flipB
  | [], _ => rfl
  | r :: rows, h => by
    have ih := due_flip pin rows fun x hx => h x (List.mem_cons_of_mem _ hx)
    simp only [dueP, List.map_cons, List.flatMap_cons, List.map_append] at ih ⊢
    rw [ih, dueR_flip pin r (h r (List.mem_cons_self ..))]
theorem eqN (i j : Nat) : cmpD .Eq (.int ((i : Nat) : Int)) (.int ((j : Nat) : Int)) = some (decide (i = j)) := by
  show some (((i : Nat) : Int) == ((j : Nat) : Int)) = _
  congr 1
  rw [Bool.eq_iff_iff, beq_iff_eq, decide_eq_true_eq]
  constructor <;> intro h <;> omega
section
variable {G : Pk}
abbrev envU (C : D) (pin N : Nat) (w3 w4 w5 : Option SV) : Ev.Env := [some (.dat C), some (.dat (.int ((pin : Nat) : Int))), some (.loc N), w3, w4, w5]
theorem r_app {cl : Str → List SV → Sto → Option (ER × Sto)} {mu : List Nat} {i n : Nat} {e : IE} {env : Ev.Env} {st st1 : Sto} {d : D} {f : Bool} {xs : List D} (h0 : env[i]? = some (some (.loc n))) (h1 : evE G cl e env st = some (.dat d f, st1)) (h2 : st1[n]? = some xs) (h3 : xs.length < 1000) : evS G cl mu (.app i e) env st = some (.nx env (st1.set n (xs ++ [d]))) := by
  have hc : xs.length < sizeLine := by rw [PySem.sizeLine_eq]; omega
  rw [evS, h0]
  simp only
  rw [h1]
  simp only
  rw [h2]
  simp only
  rw [if_pos hc]
theorem set_lastM (st : Sto) (xs ys : List D) : (st ++ [xs]).set st.length ys = st ++ [ys] := by
  rw [List.set_append_right _ _ (Nat.le_refl _), Nat.sub_self]
  rfl
def dueS2 : IS := .ite (.cmp .Eq (.slot 5) (.slot 1)) [(.app 2 (.tup [(.slot 4), (.str ("behind" : Str))]))] []
def dueS : IS := .ite (.cmp .Eq (.slot 4) (.slot 1)) [(.app 2 (.tup [(.slot 5), (.str ("ahead" : Str))]))] [dueS2]
def dueB : List IS := [dueS]
abbrev envV (C : D) (pin N : Nat) (r : Row) : Ev.Env := envU C pin N (some (.dat (pr r.1))) (some (.dat (.int ((r.2.1 : Nat) : Int)))) (some (.dat (.int ((r.2.2 : Nat) : Int))))
theorem one_nx {cl : Str → List SV → Sto → Option (ER × Sto)} {mu : List Nat} {s : IS} {env e : Ev.Env} {st s1 : Sto} (h : evS G cl mu s env st = some (.nx e s1)) : evSs G cl mu [s] env st = some (.nx e s1) := by
  rw [evSs_nx h]
  simp only [evSs]
theorem nil_nx {cl : Str → List SV → Sto → Option (ER × Sto)} {mu : List Nat} {env : Ev.Env} {st : Sto} : evSs G cl mu [] env st = some (.nx env st) := by
  simp only [evSs]
theorem dueB_ok (n : Nat) (st : Sto) (C : D) (pin : Nat) (r : Row) (acc : List (Nat × Bool)) (ha : acc.length < 900) :
    evSs G (evF G n) [2] dueB (envV C pin st.length r) (st ++ [acc.map metD]) = some (.nx (envV C pin st.length r) (st ++ [(acc ++ dueR pin r).map metD])) := by
  have t1 : tstE (evE G (evF G n) (.cmp .Eq (.slot 4) (.slot 1)) (envV C pin st.length r) (st ++ [acc.map metD])) = some (decide (r.2.1 = pin), st ++ [acc.map metD]) :=
    tst_of (f := false) (r_cmp (d := .int ((r.2.1 : Nat) : Int)) (e := .int ((pin : Nat) : Int)) (r_dat rfl) (r_dat rfl) rfl rfl (eqN _ _))
  have t2 : tstE (evE G (evF G n) (.cmp .Eq (.slot 5) (.slot 1)) (envV C pin st.length r) (st ++ [acc.map metD])) = some (decide (r.2.2 = pin), st ++ [acc.map metD]) :=
    tst_of (f := false) (r_cmp (d := .int ((r.2.2 : Nat) : Int)) (e := .int ((pin : Nat) : Int)) (r_dat rfl) (r_dat rfl) rfl rfl (eqN _ _))
  have hl : (acc.map metD).length < 1000 := by rw [List.length_map]; omega
  have a1 : evS G (evF G n) [2] (.app 2 (.tup [(.slot 5), (.str ("ahead" : Str))])) (envV C pin st.length r) (st ++ [acc.map metD]) = some (.nx (envV C pin st.length r) (st ++ [(acc ++ [(r.2.2, true)]).map metD])) := by
    rw [r_app (n := st.length) rfl (r_tup2 (r_dat rfl) r_str) (get_last _ _) hl, set_lastM, List.map_append]
    rfl
  have a2 : evS G (evF G n) [2] (.app 2 (.tup [(.slot 4), (.str ("behind" : Str))])) (envV C pin st.length r) (st ++ [acc.map metD]) = some (.nx (envV C pin st.length r) (st ++ [(acc ++ [(r.2.1, false)]).map metD])) := by
    rw [r_app (n := st.length) rfl (r_tup2 (r_dat rfl) r_str) (get_last _ _) hl, set_lastM, List.map_append]
    rfl
  refine one_nx ?_
  by_cases h1 : r.2.1 = pin
  · rw [decide_eq_true h1] at t1
    have e : dueR pin r = [(r.2.2, true)] := if_pos h1
    rw [e]
    exact r_ite t1 (one_nx a1)
  · rw [decide_eq_false h1] at t1
    refine r_ite t1 (one_nx ?_)
    by_cases h2 : r.2.2 = pin
    · rw [decide_eq_true h2] at t2
      have e : dueR pin r = [(r.2.1, false)] := (if_neg h1).trans (if_pos h2)
      rw [e]
      exact r_ite t2 (one_nx a2)
    · rw [decide_eq_false h2] at t2
      have e : dueR pin r = [] := (if_neg h1).trans (if_neg h2)
      rw [e, List.append_nil]
      exact r_ite t2 nil_nx
theorem dueR_len (pin : Nat) (r : Row) : (dueR pin r).length ≤ 1 := by
  unfold dueR
  split
  · simp
  · split <;> simp
theorem dueL_ok (n : Nat) (st : Sto) (C : D) (pin : Nat) : ∀ (rows : List Row) (acc : List (Nat × Bool)) (w3 w4 w5 : Option SV), acc.length + rows.length < 900 →
    ∃ v3 v4 v5, forL (loF G (evF G n) [2] (.tp [(.nm 3), (.nm 4), (.nm 5)]) dueB []) (rows.map rowD) (envU C pin st.length w3 w4 w5) (st ++ [acc.map metD]) = some (.nx (envU C pin st.length v3 v4 v5) (st ++ [(acc ++ dueP pin rows).map metD]))
  | [], acc, w3, w4, w5, _ => ⟨w3, w4, w5, by simp [dueP, forL]⟩
  | r :: rows, acc, w3, w4, w5, h => by
    simp only [List.length_cons] at h
    have hd := dueR_len pin r
    obtain ⟨v3, v4, v5, ih⟩ := dueL_ok n st C pin rows (acc ++ dueR pin r) (some (.dat (pr r.1))) (some (.dat (.int ((r.2.1 : Nat) : Int)))) (some (.dat (.int ((r.2.2 : Nat) : Int)))) (by rw [List.length_append]; omega)
    refine ⟨v3, v4, v5, ?_⟩
    have e : acc ++ dueP pin (r :: rows) = (acc ++ dueR pin r) ++ dueP pin rows := by
      simp only [dueP, List.flatMap_cons, List.append_assoc]
    have s := dueB_ok (G := G) n st C pin r acc (by omega)
    show forL _ (rowD r :: rows.map rowD) _ _ = _
    rw [forL_nx (loF_nx (s' := st ++ [(acc ++ dueR pin r).map metD]) (e := envV C pin st.length r) (env1 := envV C pin st.length r) rfl s rfl), e]
    exact ih
theorem due_ok (hF : G.fn "_law_due" = some i_due) (n : Nat) (st : Sto) (rows : List Row) (hr : rows.length < 800) (pin : Nat) : evF G (n + 1) "_law_due" [.dat (.list (rows.map rowD)), .dat (.int ((pin : Nat) : Int))] st = some (.dat (.tuple ((dueP pin rows).map metD)) false, st) := by
  have e1 : evS G (evF G n) [2] (.asg (.nm 2) (.lst [])) [some (.dat (.list (rows.map rowD))), some (.dat (.int ((pin : Nat) : Int))), none, none, none, none] st = some (.nx (envU (.list (rows.map rowD)) pin st.length none none none) (st ++ [([] : List (Nat × Bool)).map metD])) := by
    have h0 : evE G (evF G n) (.lst []) [some (.dat (.list (rows.map rowD))), some (.dat (.int ((pin : Nat) : Int))), none, none, none, none] st = some (.dat (.list []) true, st) := by
      simp only [evE, evDs]
      exact if_pos (Nat.zero_le _)
    exact r_asg (mu := [2]) (i := 2) h0
  have hI : evI G (evF G n) (.of (.slot 0)) (envU (.list (rows.map rowD)) pin st.length none none none) (st ++ [([] : List (Nat × Bool)).map metD]) = some (rows.map rowD, [], st ++ [([] : List (Nat × Bool)).map metD]) := r_of (x := .dat (.list (rows.map rowD)) false) (r_dat rfl) rfl
  obtain ⟨v3, v4, v5, e2⟩ := dueL_ok (G := G) n st (.list (rows.map rowD)) pin rows [] none none none (by simp only [List.length_nil]; omega)
  rw [List.nil_append] at e2
  have hret : evE G (evF G n) (.blt .tup [(.slot 2)]) (envU (.list (rows.map rowD)) pin st.length v3 v4 v5) (st ++ [(dueP pin rows).map metD]) = some (.dat (.tuple ((dueP pin rows).map metD)) false, st ++ [(dueP pin rows).map metD]) := by
    refine r_blt1 (x := .loc st.length) (d := .list ((dueP pin rows).map metD)) (r_loc rfl) ?_ rfl
    show ((st ++ [(dueP pin rows).map metD])[st.length]?).map PyData.list = _
    rw [get_last]
    rfl
  rw [evF_s hF rfl]
  refine Eq.trans (congrArg (finF st.length) ((evSs_nx e1).trans ((evSs_nx ((evS_loop hI).trans e2)).trans (evSs_rt (ss := []) (r_ret hret))))) ?_
  show some (ER.dat _ false, (st ++ [(dueP pin rows).map metD]).take st.length) = _
  rw [List.take_append_of_le_length (Nat.le_refl _), List.take_length]
/-! ### the program's -/
abbrev pairD (p : Nat × Nat) : D := pr (((p.1 : Nat) : Int), ((p.2 : Nat) : Int))
theorem inN (pin i j : Nat) : cmpD .In (.int ((pin : Nat) : Int)) (.tuple [.int ((i : Nat) : Int), .int ((j : Nat) : Int)]) = some (decide (i = pin ∨ j = pin)) := by
  have e : ([PyData.int ((i : Nat) : Int), PyData.int ((j : Nat) : Int)].any fun z => PyData.eqv z (.int ((pin : Nat) : Int))) = decide (i = pin ∨ j = pin) := by
    simp only [List.any_cons, List.any_nil, Bool.or_false]
    show ((((i : Nat) : Int) == ((pin : Nat) : Int)) || (((j : Nat) : Int) == ((pin : Nat) : Int))) = _
    rw [Bool.eq_iff_iff, Bool.or_eq_true, beq_iff_eq, beq_iff_eq, decide_eq_true_eq]
    constructor <;> intro h <;> omega
  have s1 : okSh (.int ((pin : Nat) : Int)) = true := rfl
  have s2 : okSh (.tuple [.int ((i : Nat) : Int), .int ((j : Nat) : Int)]) = true := rfl
  simp only [cmpD, s1, s2, Bool.and_self, if_true, e]
def mtE : IE := .ite (.cmp .Eq (.slot 3) (.slot 1)) (.tup [(.slot 4), (.str ("ahead" : Str))]) (.tup [(.slot 3), (.str ("behind" : Str))])
abbrev envM (B : D) (pin : Nat) (w2 : Option SV) (i j : Nat) : Ev.Env := [some (.dat B), some (.dat (.int ((pin : Nat) : Int))), w2, some (.dat (.int ((i : Nat) : Int))), some (.dat (.int ((j : Nat) : Int))), none]
theorem half_ok (n : Nat) (st : Sto) (B : D) (pin : Nat) : ∀ ps : List (Nat × Nat),
    compL (lcF G (evF G n) [(("one" : Str), 3), (("other" : Str), 4)] (.tp [(.nm 3), (.nm 4)]) [(.cmp .In (.slot 1) (.tup [(.slot 3), (.slot 4)]))] mtE [some (.dat B), some (.dat (.int ((pin : Nat) : Int))), none, none, none, none] []) (ps.map pairD) st = some ((ps.flatMap fun p => dueR pin ((0, 0), p.1, p.2)).map metD, st)
  | [] => rfl
  | p :: ps => by
    have ih := half_ok n st B pin ps
    have hb : bindT (.tp [(.nm 3), (.nm 4)]) (pairD p) (wipeE [some (.dat B), some (.dat (.int ((pin : Nat) : Int))), none, none, none, none] ([(("one" : Str), 3), (("other" : Str), 4)].map (·.2))) = some (envM B pin none p.1 p.2) := rfl
    have hc : evCs G (evF G n) [(.cmp .In (.slot 1) (.tup [(.slot 3), (.slot 4)]))] (envM B pin none p.1 p.2) st = some (decide (p.1 = pin ∨ p.2 = pin), st) :=
      r_cs (tst_of (f := false) (r_cmp (d := .int ((pin : Nat) : Int)) (r_dat rfl) (r_tup2 (r_dat rfl) (r_dat rfl)) rfl rfl (inN pin p.1 p.2)))
    have t1 : tstE (evE G (evF G n) (.cmp .Eq (.slot 3) (.slot 1)) (envM B pin none p.1 p.2) st) = some (decide (p.1 = pin), st) :=
      tst_of (f := false) (r_cmp (d := .int ((p.1 : Nat) : Int)) (e := .int ((pin : Nat) : Int)) (r_dat rfl) (r_dat rfl) rfl rfl (eqN _ _))
    show compL _ (pairD p :: ps.map pairD) st = _
    rw [List.flatMap_cons, List.map_append]
    by_cases h1 : p.1 = pin
    · rw [decide_eq_true (.inl h1)] at hc
      rw [decide_eq_true h1] at t1
      have e : dueR pin ((0, 0), p.1, p.2) = [(p.2, true)] := by
        unfold dueR
        exact if_pos h1
      rw [e]
      exact compL_cons (lcF_yes hb hc (r_iteE t1 (r_tup2 (r_dat rfl) r_str)) rfl) ih
    · rw [decide_eq_false h1] at t1
      by_cases h2 : p.2 = pin
      · rw [decide_eq_true (.inr h2)] at hc
        have e : dueR pin ((0, 0), p.1, p.2) = [(p.1, false)] := by
          unfold dueR
          exact (if_neg h1).trans (if_pos h2)
        rw [e]
        exact compL_cons (lcF_yes hb hc (r_iteE t1 (r_tup2 (r_dat rfl) r_str)) rfl) ih
      · rw [decide_eq_false (fun z => z.elim h1 h2)] at hc
        have e : dueR pin ((0, 0), p.1, p.2) = [] := by
          unfold dueR
          exact (if_neg h1).trans (if_neg h2)
        rw [e]
        exact compL_cons (lcF_no hb hc rfl) ih
def owW : List (Str × D) := [(("ahead" : Str), (.str ("behind" : Str))), (("behind" : Str), (.str ("ahead" : Str)))]
theorem r_look {cl : Str → List SV → Sto → Option (ER × Sto)} {g k : Str} {a : IE} {env : Ev.Env} {st st1 : Sto} {f : Bool} {kvs : List (Str × D)} {d : D} (h1 : evE G cl a env st = some (.dat (.str k) f, st1)) (h2 : G.dic g = some kvs) (h3 : kvs.lookup k = some d) : evE G cl (.look g a) env st = some (.dat d false, st1) := by
  rw [evE, h1]
  simp only
  rw [h2]
  simp only
  rw [h3]
theorem ow_look (b : Bool) : owW.lookup (wordS b) = some (.str (wordS (!b))) := by
  cases b <;> kernel_rfl
theorem flipL_ok (hd : G.dic "OTHER_WORD" = some owW) (n : Nat) (st : Sto) (B H : D) (pin : Nat) : ∀ ms : List (Nat × Bool),
    compL (lcF G (evF G n) [(("other" : Str), 4), (("word" : Str), 5)] (.tp [(.nm 4), (.nm 5)]) [] (.tup [(.slot 4), (.look ("OTHER_WORD" : Str) (.slot 5))]) [some (.dat B), some (.dat (.int ((pin : Nat) : Int))), some (.dat H), none, none, none] []) (ms.map metD) st = some ((ms.map flipB).map metD, st)
  | [] => rfl
  | m :: ms => by
    have ih := flipL_ok hd n st B H pin ms
    have hb : bindT (.tp [(.nm 4), (.nm 5)]) (metD m) (wipeE [some (.dat B), some (.dat (.int ((pin : Nat) : Int))), some (.dat H), none, none, none] ([(("other" : Str), 4), (("word" : Str), 5)].map (·.2))) = some [some (.dat B), some (.dat (.int ((pin : Nat) : Int))), some (.dat H), none, some (.dat (.int ((m.1 : Nat) : Int))), some (.dat (.str (wordS m.2)))] := rfl
    exact compL_cons (lcF_yes hb (by simp only [evCs]) (r_tup2 (r_dat rfl) (r_look (r_dat rfl) hd (ow_look m.2))) rfl) ih
end
end Wl
set_option linter.all false
set_option maxRecDepth 1000000
set_option maxHeartbeats 4000000
/-! W26: meetings: the program tells what the chart tells. -/
namespace Wl
open PySem PySem.Spec L2 Ev
section
variable {G : Pk}
structure Mt (G : Pk) : Prop where
  meet : G.fn "meetings" = some i_meetings
  turn : G.fn "turned_pairs" = some i_turned_pairs
  nb : G.fn "need_board" = some i_need_board
  np : G.fn "need_pin" = some i_need_pin
  isb : G.fn "is_board" = some i_is_board
  sl : G.fn "many_slopes" = some i_many_slopes
  isp : G.fn "is_pin" = some i_is_pin
  ipn : G.fn "is_pin_number" = some i_is_pin_number
  isw : G.fn "is_whole" = some i_is_whole
  cs : Cs G
  cs2 : Cs2 G
  ow : G.dic "OTHER_WORD" = some owW
theorem dueP_len (pin : Nat) : ∀ rows : List Row, (dueP pin rows).length ≤ rows.length
  | [] => Nat.le_refl _
  | r :: rows => by
    have h1 := dueR_len pin r
    have h2 := dueP_len pin rows
    have e : dueP pin (r :: rows) = dueR pin r ++ dueP pin rows := by simp only [dueP, List.flatMap_cons]
    rw [e, List.length_append, List.length_cons]
    omega
theorem near_len {qs : List (Int × Int)} (hc : NC qs) (hn : qs.length ≤ 8) : (chart2 qs).1.length ≤ 64 := by
  have key : ∀ (is : List Nat) (NF : List Row × List Row), (chartP qs is NF).1.length + (chartP qs is NF).2.length ≤ NF.1.length + NF.2.length + 8 * is.length := by
    intro is
    induction is with
    | nil => intro NF; exact Nat.le_add_right _ _
    | cons i is ih =>
      intro NF
      have h1 := ih (rowsP qs i (othersN qs.length i) NF)
      have h2 : ∀ (ks : List Nat) (NF : List Row × List Row), (rowsP qs i ks NF).1.length + (rowsP qs i ks NF).2.length = NF.1.length + NF.2.length + ks.length := by
        intro ks
        induction ks with
        | nil => intro NF; rfl
        | cons k ks ih2 =>
          intro NF
          have := ih2 (stepR qs NF (i, k))
          have e : (stepR qs NF (i, k)).1.length + (stepR qs NF (i, k)).2.length = NF.1.length + NF.2.length + 1 := by
            unfold stepR
            split
            · simp only [len_insR]; omega
            · simp only [len_insR]; omega
          rw [e] at this
          rw [List.length_cons]
          rw [show rowsP qs i (k :: ks) NF = rowsP qs i ks (stepR qs NF (i, k)) from rfl]
          omega
      have h3 := h2 (othersN qs.length i) NF
      have h4 := othersN_len qs.length i
      rw [List.length_cons]
      rw [show chartP qs (i :: is) NF = chartP qs is (rowsP qs i (othersN qs.length i) NF) from rfl]
      omega
  have := key (List.range' 0 qs.length) ([], [])
  rw [List.length_range'] at this
  unfold chart2
  simp only [List.length_nil] at this
  omega
theorem meet_ok (m : Mt G) (n : Nat) (st : Sto) (qs : List (Int × Int)) (ws : List Str) (hb : Bo qs ws) (pin : Nat) (hk : pin < qs.length) :
    evF G (n + 4) "meetings" [.dat (boD qs ws), .dat (.int ((pin : Nat) : Int))] st = some (.dat (.tuple ((dueP pin ((chart2 qs).1 ++ (chart2 qs).2)).map metD)) false, st) := by
  have h8 := hb.fit.len
  have hc := nc_of hb.fit
  have v := chart_cv hc h8
  obtain ⟨L, T, pL, uL, pT, dT, hT⟩ := turned_ok m.turn m.cs m.cs2 (n + 2) st qs ws hb
  obtain ⟨hN, sh⟩ := turned_chart hb.fit h8 pL uL pT dT
  have nl := near_len hc h8
  have dl := dueP_len pin (chart2 qs).1
  have hTD : (T.map fun t => pr t.2) = (T.map fun t => (t.2.1.toNat, t.2.2.toNat)).map pairD := by
    rw [List.map_map]
    refine List.map_congr_left fun t ht => ?_
    rw [(sh t ht).1]
    simp only [Function.comp_def, Int.toNat_natCast]
  have hh : ((T.map fun t => (t.2.1.toNat, t.2.2.toNat)).flatMap fun p => dueR pin ((0, 0), p.1, p.2)) = dueP pin (chart2 qs).1 := by
    rw [← hN]
    unfold dueP
    rw [List.flatMap_map, List.flatMap_map]
    rfl
  have hne : ∀ r ∈ (chart2 qs).1, r.2.1 ≠ r.2.2 := fun r hr => by
    obtain ⟨p, h1, h2, _⟩ := (v.m1 r).mp hr
    rw [h2]
    exact Ne.symm (allP_mem.mp h1).2.2
  have hfin : dueP pin ((chart2 qs).1 ++ (chart2 qs).2) = dueP pin (chart2 qs).1 ++ (dueP pin (chart2 qs).1).map flipB := by
    rw [far_flip hc h8, ← due_flip pin _ hne]
    unfold dueP
    rw [List.flatMap_append]
  -- the body
  have s1 : evS G (evF G (n + 3)) [] (.exp (.call ("need_board" : Str) [(.slot 0)])) [some (.dat (boD qs ws)), some (.dat (.int ((pin : Nat) : Int))), none, none, none, none] st = some (.nx [some (.dat (boD qs ws)), some (.dat (.int ((pin : Nat) : Int))), none, none, none, none] st) := by
    rw [evS, r_call1 (r_dat rfl) (need_board_ok m.nb m.isb m.sl m.isp m.cs n st qs ws hb)]
  have s2 : evS G (evF G (n + 3)) [] (.exp (.call ("need_pin" : Str) [(.slot 0), (.slot 1)])) [some (.dat (boD qs ws)), some (.dat (.int ((pin : Nat) : Int))), none, none, none, none] st = some (.nx [some (.dat (boD qs ws)), some (.dat (.int ((pin : Nat) : Int))), none, none, none, none] st) := by
    rw [evS, r_call2 (r_dat rfl) (r_dat rfl) (need_pin_ok m.np m.ipn m.isw n st qs ws hb pin hk)]
  have hI : evI G (evF G (n + 3)) (.of (.call ("turned_pairs" : Str) [(.slot 0)])) [some (.dat (boD qs ws)), some (.dat (.int ((pin : Nat) : Int))), none, none, none, none] st = some ((T.map fun t => (t.2.1.toNat, t.2.2.toNat)).map pairD, [], st) := by
    rw [← hTD]
    exact r_of (r_call1 (r_dat rfl) hT) rfl
  have v2 := evE_lc hI (half_ok (G := G) (n + 3) st (boD qs ws) pin _) (by rw [hh, List.length_map, PySem.sizeLine_eq]; omega)
  rw [hh] at v2
  have s3 : evS G (evF G (n + 3)) [] (.asg (.nm 2) (.lc [(("one" : Str), 3), (("other" : Str), 4)] (.tp [(.nm 3), (.nm 4)]) (.of (.call ("turned_pairs" : Str) [(.slot 0)])) [(.cmp .In (.slot 1) (.tup [(.slot 3), (.slot 4)]))] mtE)) [some (.dat (boD qs ws)), some (.dat (.int ((pin : Nat) : Int))), none, none, none, none] st = some (.nx [some (.dat (boD qs ws)), some (.dat (.int ((pin : Nat) : Int))), some (.dat (.list ((dueP pin (chart2 qs).1).map metD))), none, none, none] st) := r_asg v2
  have hI2 : evI G (evF G (n + 3)) (.of (.slot 2)) [some (.dat (boD qs ws)), some (.dat (.int ((pin : Nat) : Int))), some (.dat (.list ((dueP pin (chart2 qs).1).map metD))), none, none, none] st = some ((dueP pin (chart2 qs).1).map metD, [], st) := r_of (x := .dat (.list ((dueP pin (chart2 qs).1).map metD)) false) (r_dat rfl) rfl
  have v3 := evE_lc hI2 (flipL_ok m.ow (n + 3) st (boD qs ws) (.list ((dueP pin (chart2 qs).1).map metD)) pin _) (by rw [List.length_map, List.length_map, PySem.sizeLine_eq]; omega)
  have hadd : binD .Add (.list ((dueP pin (chart2 qs).1).map metD)) (.list (((dueP pin (chart2 qs).1).map flipB).map metD)) = some (.list ((dueP pin ((chart2 qs).1 ++ (chart2 qs).2)).map metD), true) := by
    have hz : ((dueP pin (chart2 qs).1).map metD).length + (((dueP pin (chart2 qs).1).map flipB).map metD).length ≤ sizeLine := by
      rw [PySem.sizeLine_eq, List.length_map, List.length_map, List.length_map]
      omega
    simp only [binD]
    rw [if_pos hz, hfin, List.map_append]
  have v4 := r_blt1 (f := .tup) (r_bin (r_dat (G := G) (cl := evF G (n + 3)) (i := 2) (env := [some (.dat (boD qs ws)), some (.dat (.int ((pin : Nat) : Int))), some (.dat (.list ((dueP pin (chart2 qs).1).map metD))), none, none, none]) (st := st) rfl) v3 rfl rfl hadd) rfl rfl
  rw [evF_s m.meet rfl]
  refine Eq.trans (congrArg (finF st.length) ((evSs_nx s1).trans ((evSs_nx s2).trans ((evSs_nx s3).trans (evSs_rt (ss := []) (r_ret v4)))))) ?_
  show some (ER.dat _ false, st.take st.length) = _
  rw [List.take_length]
end
end Wl
set_option linter.all false
set_option maxRecDepth 1000000
set_option maxHeartbeats 4000000
/-! W27: what is shown is not too long. -/
namespace Wl
open PySem PySem.Spec L2 Ev
theorem okRep_of {d : D} (h1 : d.showable = true) (h2 : d.hasDict = false) (h3 : d.depth ≤ 60) (h4 : d.leavesShort 100 = true) (h5 : d.weight ≤ 100000) : okRep d = true := by
  have h := PyData.shown_le 100 (by omega) d h4
  have hz : d.shown.length ≤ sizeLine := by rw [PySem.sizeLine_eq]; omega
  simp only [okRep, h1, h2, decide_eq_true h3, decide_eq_true hz]
  rfl
theorem short_int {i : Int} (h0 : -1000 < i) (h1 : i < 1000) : PyData.leavesShort 100 (.int i) = true ∧ PyData.showable (.int i) = true ∧ PyData.weight (.int i) ≤ i.natAbs + 1 := by
  have := PyData.shown_int_le2 (i := i) (by omega) (by omega)
  have h := Nat.log2_le_self i.natAbs
  refine ⟨by simp only [PyData.leavesShort]; exact decide_eq_true (by omega), by simp only [PyData.showable]; exact decide_eq_true (by omega), ?_⟩
  simp only [PyData.weight]
  split <;> omega
theorem show2 {a : Int} {x : Str} (h : PyData.showable (.int a) = true) : PyData.showable (.tuple [.int a, .str x]) = true := by
  show (PyData.showable (.int a) && (true && true)) = true
  rw [h]
  rfl
theorem show3 {a b : Int} {x : Str} (h : PyData.showable (.int a) = true) (g : PyData.showable (.int b) = true) : PyData.showable (.tuple [.int a, .int b, .str x]) = true := by
  show (PyData.showable (.int a) && (PyData.showable (.int b) && (true && true))) = true
  rw [h, g]
  rfl
theorem lv2 {a : Int} {x : Str} (h : PyData.leavesShort 100 (.int a) = true) (g : PyData.leavesShort 100 (.str x) = true) : PyData.leavesShort 100 (.tuple [.int a, .str x]) = true := by
  show (PyData.leavesShort 100 (.int a) && (PyData.leavesShort 100 (.str x) && true)) = true
  rw [h, g]
  rfl
theorem lv3 {a b : Int} {x : Str} (h : PyData.leavesShort 100 (.int a) = true) (k : PyData.leavesShort 100 (.int b) = true) (g : PyData.leavesShort 100 (.str x) = true) : PyData.leavesShort 100 (.tuple [.int a, .int b, .str x]) = true := by
  show (PyData.leavesShort 100 (.int a) && (PyData.leavesShort 100 (.int b) && (PyData.leavesShort 100 (.str x) && true))) = true
  rw [h, k, g]
  rfl
theorem wt2 {a : Int} {x : Str} : PyData.weight (.tuple [.int a, .str x]) = PyData.weight (.int a) + 1 + (PyData.weight (.str x) + 1 + 0) := by
  simp only [PyData.weight, PyData.weightAll]
theorem wt3 {a b : Int} {x : Str} : PyData.weight (.tuple [.int a, .int b, .str x]) = PyData.weight (.int a) + 1 + (PyData.weight (.int b) + 1 + (PyData.weight (.str x) + 1 + 0)) := by
  simp only [PyData.weight, PyData.weightAll]
theorem short_way {w : Str} (h : Wy w) : PyData.leavesShort 100 (.str w) = true ∧ PyData.weight (.str w) ≤ 10 := by
  rcases h with rfl | rfl <;> exact ⟨by decide +kernel, by decide +kernel⟩
theorem short_word (b : Bool) : PyData.leavesShort 100 (.str (wordS b)) = true ∧ PyData.weight (.str (wordS b)) ≤ 10 := by
  cases b <;> exact ⟨by decide +kernel, by decide +kernel⟩
structure Nice (ds : List D) (w : Nat) : Prop where
  sh : PyData.showableAll ds = true
  nd : PyData.hasDictAll ds = false
  dp : PyData.depthAll ds ≤ 3
  lv : PyData.leavesShortAll 100 ds = true
  wt : PyData.weightAll ds ≤ w
theorem Nice.nil : Nice [] 0 := ⟨rfl, rfl, Nat.zero_le _, rfl, Nat.le_refl _⟩
theorem Nice.cons {d : D} {ds : List D} {w w2 : Nat} (h : Nice ds w) (h1 : d.showable = true) (h2 : d.hasDict = false) (h3 : d.depth ≤ 3) (h4 : d.leavesShort 100 = true) (h5 : d.weight ≤ w2) : Nice (d :: ds) (w2 + 1 + w) := by
  refine ⟨by simp only [PyData.showableAll, h1, h.sh, Bool.and_self], by simp only [PyData.hasDictAll, h2, h.nd, Bool.or_self], ?_, by simp only [PyData.leavesShortAll, h4, h.lv, Bool.and_self], ?_⟩
  · simp only [PyData.depthAll]
    exact Nat.max_le.mpr ⟨h3, h.dp⟩
  · simp only [PyData.weightAll]
    have := h.wt
    omega
theorem nice_met : ∀ ms : List (Nat × Bool), (∀ m ∈ ms, m.1 < 8) → Nice (ms.map metD) (30 * ms.length)
  | [], _ => .nil
  | m :: ms, h => by
    have ih := nice_met ms fun x hx => h x (List.mem_cons_of_mem _ hx)
    have hm := h m (List.mem_cons_self ..)
    obtain ⟨i1, i2, i3⟩ := short_int (i := ((m.1 : Nat) : Int)) (by omega) (by omega)
    obtain ⟨s1, s2⟩ := short_word m.2
    have := ih.cons (d := metD m) (w2 := 29) (show2 i2) rfl (by decide : (1 : Nat) ≤ 3) (lv2 i1 s1) (by unfold metD; rw [wt2]; omega)
    rw [show 29 + 1 + 30 * ms.length = 30 * (m :: ms).length by simp only [List.length_cons]; omega] at this
    exact this
theorem nice_bo : ∀ (qs : List (Int × Int)) (ws : List Str), (∀ q ∈ qs, In q) → (∀ w ∈ ws, Wy w) → Nice (zipB qs ws) (250 * qs.length)
  | [], _, _, _ => by simp only [zipB]; exact .nil
  | _ :: _, [], _, _ => by
    simp only [zipB]
    exact ⟨rfl, rfl, Nat.zero_le _, rfl, Nat.zero_le _⟩
  | q :: qs, w :: ws, h, g => by
    have ih := nice_bo qs ws (fun x hx => h x (List.mem_cons_of_mem _ hx)) (fun x hx => g x (List.mem_cons_of_mem _ hx))
    obtain ⟨a1, a2, a3, a4⟩ := h q (List.mem_cons_self ..)
    obtain ⟨i1, i2, i3⟩ := short_int (i := q.1) (by omega) (by omega)
    obtain ⟨j1, j2, j3⟩ := short_int (i := q.2) (by omega) (by omega)
    obtain ⟨s1, s2⟩ := short_way (g w (List.mem_cons_self ..))
    have := ih.cons (d := pinD q w) (w2 := 249) (show3 i2 j2) rfl (by decide : (1 : Nat) ≤ 3) (lv3 i1 j1 s1) (by rw [wt3]; omega)
    rw [show 249 + 1 + 250 * qs.length = 250 * (q :: qs).length by simp only [List.length_cons]; omega] at this
    exact this
/-- a list or a tuple of them -/
theorem Nice.tup {ds : List D} {w : Nat} (h : Nice ds w) (hw : w ≤ 90000) : okRep (.tuple ds) = true :=
  okRep_of (by simp only [PyData.showable, h.sh]) (by simp only [PyData.hasDict, h.nd]) (by have := h.dp; simp only [PyData.depth]; omega) (by simp only [PyData.leavesShort, h.lv]) (by have := h.wt; simp only [PyData.weight]; omega)
theorem Nice.lst {ds : List D} {w : Nat} (h : Nice ds w) (hw : w ≤ 90000) : okRep (.list ds) = true :=
  okRep_of (by simp only [PyData.showable, h.sh]) (by simp only [PyData.hasDict, h.nd]) (by have := h.dp; simp only [PyData.depth]; omega) (by simp only [PyData.leavesShort, h.lv]) (by have := h.wt; simp only [PyData.weight]; omega)
/-- three alike ones -/
theorem rep3 (ms : List (Nat × Bool)) (h : ∀ m ∈ ms, m.1 < 8) (hl : ms.length ≤ 200) : okRep (.list [.tuple (ms.map metD), .tuple (ms.map metD), .tuple (ms.map metD)]) = true := by
  have n := nice_met ms h
  have dp : PyData.depth (.tuple (ms.map metD)) ≤ 3 := by
    have hd : PyData.depthAll (ms.map metD) ≤ 1 := by
      clear n hl h
      induction ms with
      | nil => exact Nat.zero_le _
      | cons m ms ih =>
        rw [List.map_cons]
        simp only [PyData.depthAll]
        exact Nat.max_le.mpr ⟨(by decide : (1 : Nat) ≤ 1), ih⟩
    simp only [PyData.depth]
    omega
  have c : ∀ {ds : List D} {w : Nat}, Nice ds w → Nice (.tuple (ms.map metD) :: ds) (30 * ms.length + 1 + w) := fun h => h.cons (by simp only [PyData.showable, n.sh]) (by simp only [PyData.hasDict, n.nd]) dp (by simp only [PyData.leavesShort, n.lv]) (by have := n.wt; simp only [PyData.weight]; omega)
  exact (c (c (c .nil))).lst (by omega)
end Wl
set_option linter.all false
set_option maxRecDepth 1000000
set_option maxHeartbeats 4000000
/-! W28: the law of meetings: a pin, a board. -/
namespace Wl
open PySem PySem.Spec L2 Ev
def turnW (w : Str) : Str := if w = ("right" : Str) then ("left" : Str) else ("right" : Str)
theorem turn_wy (w : Str) : Wy (turnW w) := by unfold turnW; split; exact .inl rfl; exact .inr rfl
theorem Bo.turn {qs : List (Int × Int)} {ws : List Str} (h : Bo qs ws) : Bo qs (ws.map turnW) :=
  ⟨h.fit, h.few, by rw [List.length_map]; exact h.len, fun w hw => by
    obtain ⟨x, _, rfl⟩ := List.mem_map.mp hw
    exact turn_wy x⟩
section
variable {G : Pk}
/-- what the law's package has -/
structure La (G : Pk) (nm nw : Str) : Prop where
  mt : Mt G
  board : G.fn "_law_board" = some (i_bo nm nw)
  fits : G.fn "_law_fits" = some i_fits
  cross : G.fn "_law_cross" = some i_cross
  far : G.fn "_law_far" = some i_far
  draw : G.fn "_law_draw" = some i_draw
  chart : G.fn "_law_chart" = some i_chart
  due : G.fn "_law_due" = some i_due
  same : G.fn "_law_same" = some i_same
  pen : G.fn "_law_pen" = some i_pen
  cell : G.fn "_law_cell_at" = some i_cell_at
  wf : 100 ≤ G.wf
abbrev own5 : List (Str × Nat) := [(("_law_x" : Str), 10), (("_law_y" : Str), 11), (("_law_way" : Str), 12)]
def toE : IE := .tup [(.slot 10), (.slot 11), (.ite (.cmp .Eq (.slot 12) (.str ("right" : Str))) (.str ("left" : Str)) (.str ("right" : Str)))]
theorem other_ok (n : Nat) (st : Sto) (env : Ev.Env) (hl : env.length = 13) : ∀ (qs : List (Int × Int)) (ws : List Str), ws.length = qs.length →
    compL (lcF G (evF G n) own5 (.tp [(.nm 10), (.nm 11), (.nm 12)]) [] toE env []) (zipB qs ws) st = some (zipB qs (ws.map turnW), st)
  | [], _, _ => by simp [zipB, compL]
  | _ :: _, [], h => by simp at h
  | q :: qs, w :: ws, h => by
    have ih := other_ok n st env hl qs ws (by simpa using h)
    obtain ⟨env', he⟩ : ∃ env', env' = wipeE env (own5.map (·.2)) := ⟨_, rfl⟩
    have hl' : env'.length = 13 := by rw [he]; simp [wipeE, hl]
    obtain ⟨e3, hb3⟩ : ∃ e3, e3 = ((env'.set 10 (some (.dat (.int q.1)))).set 11 (some (.dat (.int q.2)))).set 12 (some (.dat (.str w))) := ⟨_, rfl⟩
    have hb : bindT (.tp [(.nm 10), (.nm 11), (.nm 12)]) (pinD q w) env' = some e3 := by
      rw [hb3]
      simp [bindT, bindTs, hl']
    have h10 : e3[10]? = some (some (.dat (.int q.1))) := by
      rw [hb3, List.getElem?_set_ne (by decide), List.getElem?_set_ne (by decide), List.getElem?_set_self (by rw [hl']; decide)]
    have h11 : e3[11]? = some (some (.dat (.int q.2))) := by
      rw [hb3, List.getElem?_set_ne (by decide), List.getElem?_set_self (by rw [List.length_set, hl']; decide)]
    have h12 : e3[12]? = some (some (.dat (.str w))) := by
      rw [hb3, List.getElem?_set_self (by rw [List.length_set, List.length_set, hl']; decide)]
    have ht : tstE (evE G (evF G n) (.cmp .Eq (.slot 12) (.str ("right" : Str))) e3 st) = some (decide (w = ("right" : Str)), st) :=
      tst_of (f := false) (r_cmp (d := .str w) (e := .str ("right" : Str)) (r_dat h12) r_str rfl rfl rfl)
    have hw : evE G (evF G n) (.ite (.cmp .Eq (.slot 12) (.str ("right" : Str))) (.str ("left" : Str)) (.str ("right" : Str))) e3 st = some (.dat (.str (turnW w)) false, st) := by
      unfold turnW
      by_cases hx : w = ("right" : Str)
      · rw [decide_eq_true hx] at ht
        rw [if_pos hx]
        exact r_iteE ht r_str
      · rw [decide_eq_false hx] at ht
        rw [if_neg hx]
        exact r_iteE ht r_str
    show compL _ (pinD q w :: zipB qs ws) st = some ([pinD q (turnW w)] ++ zipB qs (ws.map turnW), st)
    exact compL_cons (lcF_yes (by rw [← he]; exact hb) (by simp only [evCs]) (r_tup3 (r_dat h10) (r_dat h11) hw) rfl) ih
/-! ### a pin -/
abbrev envL (ns : List Int) (k : Int) (P : Nat) (lap B O : D) (w6 : Option SV) (C K : D) (w9 w10 w11 w12 : Option SV) : Ev.Env := [some (.scr ns), some (.dat (.int k)), some (.loc P), some (.dat lap), some (.dat B), some (.dat O), w6, some (.dat C), some (.dat K), w9, w10, w11, w12]
def pinB : List IS := [(.asg (.nm 9) (.call ("_law_due" : Str) [(.slot 7), (.slot 6)])), (.ite (.no (.call ("_law_same" : Str) [(.lst [(.call ("meetings" : Str) [(.slot 4), (.slot 6)]), (.call ("meetings" : Str) [(.slot 4), (.slot 6)]), (.call ("meetings" : Str) [(.slot 5), (.slot 6)])]), (.bin .Mult (.lst [(.slot 9)]) (.int 3))])) [(.ret (some (.bl false)))] [])]
theorem r_lst3 {cl : Str → List SV → Sto → Option (ER × Sto)} {a b c : IE} {env : Ev.Env} {st st1 st2 st3 : Sto} {d e f : D} {f1 f2 f3 : Bool} (h1 : evE G cl a env st = some (.dat d f1, st1)) (h2 : evE G cl b env st1 = some (.dat e f2, st2)) (h3 : evE G cl c env st2 = some (.dat f f3, st3)) : evE G cl (.lst [a, b, c]) env st = some (.dat (.list [d, e, f]) true, st3) := by
  have hl : [d, e, f].length ≤ sizeLine := by rw [PySem.sizeLine_eq]; simp
  rw [evE, evDs, h1]
  simp only
  rw [evDs, h2]
  simp only
  rw [evDs, h3]
  simp only [evDs]
  exact if_pos hl
theorem r_lst1 {cl : Str → List SV → Sto → Option (ER × Sto)} {a : IE} {env : Ev.Env} {st st1 : Sto} {d : D} {f1 : Bool} (h1 : evE G cl a env st = some (.dat d f1, st1)) : evE G cl (.lst [a]) env st = some (.dat (.list [d]) true, st1) := by
  rw [evE, evDs, h1]
  simp only [evDs]
  exact if_pos (one_le d)
theorem rows_lt {qs : List (Int × Int)} (hc : NC qs) (hn : qs.length ≤ 8) (pin : Nat) : ∀ m ∈ dueP pin ((chart2 qs).1 ++ (chart2 qs).2), m.1 < 8 := fun m hm => by
  have v := chart_cv hc hn
  obtain ⟨r, hr, hmr⟩ := List.mem_flatMap.mp hm
  have hb : r.2.1 < 8 ∧ r.2.2 < 8 := by
    rcases List.mem_append.mp hr with h | h
    · obtain ⟨p, h1, h2, _⟩ := (v.m1 r).mp h
      have := allP_mem.mp h1
      rw [h2]
      exact ⟨by show p.1 < 8; omega, by show p.2 < 8; omega⟩
    · obtain ⟨p, h1, h2, _⟩ := (v.m2 r).mp h
      have := allP_mem.mp h1
      rw [h2]
      exact ⟨by show p.1 < 8; omega, by show p.2 < 8; omega⟩
  unfold dueR at hmr
  split at hmr
  · rw [List.mem_singleton.mp hmr]; exact hb.2
  · split at hmr
    · rw [List.mem_singleton.mp hmr]; exact hb.1
    · cases hmr
theorem rows_len {qs : List (Int × Int)} (hc : NC qs) (hn : qs.length ≤ 8) : ((chart2 qs).1 ++ (chart2 qs).2).length ≤ 128 := by
  rw [far_flip hc hn, List.length_append, List.length_map]
  have := near_len hc hn
  omega
theorem pinB_ok {nm nw : Str} (g : La G nm nw) (n : Nat) (st : Sto) (qs : List (Int × Int)) (ws : List Str) (hb : Bo qs ws) (ns : List Int) (k : Int) (P : Nat) (lap K : D) (w9 w10 w11 w12 : Option SV) (pin : Nat) (hp : pin < qs.length) :
    ∃ v9, evSs G (evF G (n + 4)) [2] pinB (envL ns k P lap (boD qs ws) (boD qs (ws.map turnW)) (some (.dat (.int ((pin : Nat) : Int)))) (.list (((chart2 qs).1 ++ (chart2 qs).2).map rowD)) K w9 w10 w11 w12) st =
      some (.nx (envL ns k P lap (boD qs ws) (boD qs (ws.map turnW)) (some (.dat (.int ((pin : Nat) : Int)))) (.list (((chart2 qs).1 ++ (chart2 qs).2).map rowD)) K v9 w10 w11 w12) st) := by
  have h8 := hb.fit.len
  have hc := nc_of hb.fit
  have rl := rows_len hc h8
  have dl := dueP_len pin ((chart2 qs).1 ++ (chart2 qs).2)
  obtain ⟨X, hX⟩ : ∃ X, X = PyData.tuple ((dueP pin ((chart2 qs).1 ++ (chart2 qs).2)).map metD) := ⟨_, rfl⟩
  have hd := due_ok g.due (n + 3) st ((chart2 qs).1 ++ (chart2 qs).2) (by omega) pin
  have m1 := meet_ok g.mt n st qs ws hb pin hp
  have m2 := meet_ok g.mt n st qs (ws.map turnW) hb.turn pin hp
  have hok := rep3 (dueP pin ((chart2 qs).1 ++ (chart2 qs).2)) (rows_lt hc h8 pin) (by omega)
  rw [← hX] at hd m1 m2 hok
  refine ⟨some (.dat X), ?_⟩
  have hcall : evE G (evF G (n + 4)) (.call ("_law_due" : Str) [(.slot 7), (.slot 6)]) (envL ns k P lap (boD qs ws) (boD qs (ws.map turnW)) (some (.dat (.int ((pin : Nat) : Int)))) (.list (((chart2 qs).1 ++ (chart2 qs).2).map rowD)) K w9 w10 w11 w12) st = some (.dat X false, st) := r_call2 (r_dat rfl) (r_dat rfl) hd
  have s1 : evS G (evF G (n + 4)) [2] (.asg (.nm 9) (.call ("_law_due" : Str) [(.slot 7), (.slot 6)])) (envL ns k P lap (boD qs ws) (boD qs (ws.map turnW)) (some (.dat (.int ((pin : Nat) : Int)))) (.list (((chart2 qs).1 ++ (chart2 qs).2).map rowD)) K w9 w10 w11 w12) st =
      some (.nx (envL ns k P lap (boD qs ws) (boD qs (ws.map turnW)) (some (.dat (.int ((pin : Nat) : Int)))) (.list (((chart2 qs).1 ++ (chart2 qs).2).map rowD)) K (some (.dat X)) w10 w11 w12) st) := by
    rw [r_asg hcall, hX]
    rfl
  obtain ⟨E, hE⟩ : ∃ E : Ev.Env, E = envL ns k P lap (boD qs ws) (boD qs (ws.map turnW)) (some (.dat (.int ((pin : Nat) : Int)))) (.list (((chart2 qs).1 ++ (chart2 qs).2).map rowD)) K (some (.dat X)) w10 w11 w12 := ⟨_, rfl⟩
  have g4 : E[4]? = some (some (.dat (boD qs ws))) := by rw [hE]; rfl
  have g5 : E[5]? = some (some (.dat (boD qs (ws.map turnW)))) := by rw [hE]; rfl
  have g6 : E[6]? = some (some (.dat (.int ((pin : Nat) : Int)))) := by rw [hE]; rfl
  have g9 : E[9]? = some (some (.dat X)) := by rw [hE]; rfl
  have l1 : evE G (evF G (n + 4)) (.lst [(.call ("meetings" : Str) [(.slot 4), (.slot 6)]), (.call ("meetings" : Str) [(.slot 4), (.slot 6)]), (.call ("meetings" : Str) [(.slot 5), (.slot 6)])]) E st = some (.dat (.list [X, X, X]) true, st) :=
    r_lst3 (r_call2 (r_dat g4) (r_dat g6) m1) (r_call2 (r_dat g4) (r_dat g6) m1) (r_call2 (r_dat g5) (r_dat g6) m2)
  have l2 : evE G (evF G (n + 4)) (.bin .Mult (.lst [(.slot 9)]) (.int 3)) E st = some (.dat (.list [X, X, X]) true, st) :=
    r_bin (d := .list [X]) (e := .int 3) (r_lst1 (r_dat g9)) r_int rfl rfl (mul_ok X 3 (by omega))
  have hs := same_ok g.same (n + 3) st (.list [X, X, X]) hok
  have t := tst_of (f := false) (r_no (b := true) (tst_of (f := false) (r_call2 (f := ("_law_same" : Str)) l1 l2 hs)))
  have s2 := r_ite (G := G) (mu := [2]) (a := [(.ret (some (.bl false)))]) (b := []) t nil_nx
  unfold pinB
  rw [evSs_nx s1, ← hE]
  exact one_nx s2
theorem pins2_ok {nm nw : Str} (g : La G nm nw) (n : Nat) (st : Sto) (qs : List (Int × Int)) (ws : List Str) (hb : Bo qs ws) (ns : List Int) (k : Int) (P : Nat) (lap K : D) (w10 w11 w12 : Option SV) : ∀ (ks : List Nat) (w6 w9 : Option SV), (∀ x ∈ ks, x < qs.length) →
    ∃ v6 v9, forL (loF G (evF G (n + 4)) [2] (.nm 6) pinB []) (intsN ks) (envL ns k P lap (boD qs ws) (boD qs (ws.map turnW)) w6 (.list (((chart2 qs).1 ++ (chart2 qs).2).map rowD)) K w9 w10 w11 w12) st =
      some (.nx (envL ns k P lap (boD qs ws) (boD qs (ws.map turnW)) v6 (.list (((chart2 qs).1 ++ (chart2 qs).2).map rowD)) K v9 w10 w11 w12) st)
  | [], w6, w9, _ => ⟨w6, w9, rfl⟩
  | p :: ks, w6, w9, h => by
    obtain ⟨u9, e⟩ := pinB_ok g n st qs ws hb ns k P lap K w9 w10 w11 w12 p (h p (List.mem_cons_self ..))
    obtain ⟨v6, v9, e2⟩ := pins2_ok g n st qs ws hb ns k P lap K w10 w11 w12 ks (some (.dat (.int ((p : Nat) : Int)))) u9 fun x hx => h x (List.mem_cons_of_mem _ hx)
    refine ⟨v6, v9, ?_⟩
    show forL _ (PyData.int ((p : Nat) : Int) :: intsN ks) _ _ = _
    rw [forL_nx (loF_nx (s' := st) (e := envL ns k P lap (boD qs ws) (boD qs (ws.map turnW)) (some (.dat (.int ((p : Nat) : Int)))) (.list (((chart2 qs).1 ++ (chart2 qs).2).map rowD)) K u9 w10 w11 w12) (env1 := envL ns k P lap (boD qs ws) (boD qs (ws.map turnW)) (some (.dat (.int ((p : Nat) : Int)))) (.list (((chart2 qs).1 ++ (chart2 qs).2).map rowD)) K w9 w10 w11 w12) rfl e rfl)]
    exact e2
end
end Wl
set_option linter.all false
set_option maxRecDepth 1000000
set_option maxHeartbeats 4000000
/-! W29: the law of meetings, whole. -/
namespace Wl
open PySem PySem.Spec L2 Ev
section
variable {G : Pk}
theorem r_parLS {cl : Str → List SV → Sto → Option (ER × Sto)} {mu : List Nat} {i j : Nat} {a b : IE} {env : Ev.Env} {st st1 st2 : Sto} {ds : List D} {x : Str} (hi : mu.contains i = false) (h1 : evE G cl a env st = some (.dat (.list ds) true, st1)) (h2 : evE G cl b env st1 = some (.dat (.str x) false, st2)) :
    evS G cl mu (.par [i, j] [a, b]) env st = some (.nx ((env.set i (some (.dat (.list ds)))).set j (some (.dat (.str x)))) st2) := by
  have e : evP G cl mu [(i, a), (j, b)] env st = some ([(i, .dat (.list ds)), (j, .dat (.str x))], st2) := by
    rw [evP, h1]
    simp only
    rw [hi]
    simp only
    rw [evP, h2]
    simp only
    rw [evP]
    rfl
  rw [evS]
  show (match evP G cl mu [(i, a), (j, b)] env st with
    | some (ss, st1) => some (Fl.nx (setAll ss env) st1)
    | none => none) = _
  rw [e]
  rfl
theorem r_scr {cl : Str → List SV → Sto → Option (ER × Sto)} {i : Nat} {env : Ev.Env} {st : Sto} {ns : List Int} (h : env[i]? = some (some (.scr ns))) : evE G cl (.slot i) env st = some (.scr ns, st) := by
  rw [evE, h]
  rfl
def sB : IS := .asg (.nm 4) (.call ("_law_board" : Str) [(.slot 2), (.idx (.lst [(.int 8), (.int 6), (.int 4)]) (.slot 3))])
def sO : IS := .asg (.nm 5) (.blt .tup [(.lc own5 (.tp [(.nm 10), (.nm 11), (.nm 12)]) (.of (.slot 4)) [] toE)])
def sC : IS := .par [7, 8] [(.call ("_law_chart" : Str) [(.slot 4)]), (.blt .rep [(.slot 4)])]
def sP : IS := .loop (.nm 6) (.rng [(.blt .len [(.slot 4)])]) pinB
def sK : IS := .ite (.cmp .NotEq (.blt .rep [(.slot 4)]) (.slot 8)) [(.ret (some (.bl false)))] []
abbrev envK (ns : List Int) (k : Int) (P : Nat) (w3 w4 w5 w6 w7 w8 w9 w10 w11 w12 : Option SV) : Ev.Env := [some (.scr ns), some (.dat (.int k)), some (.loc P), w3, w4, w5, w6, w7, w8, w9, w10, w11, w12]
theorem lap14_ok {nm nw : Str} (g : La G nm nw) (n : Nat) (st : Sto) (ns : List Int) (k : Int) (j : Nat) (hj : j < 3) (w4 w5 w6 w7 w8 w9 w10 w11 w12 : Option SV) (l : List D) (m : Int) (hp : Pen l m) (hm : m ≤ 300) :
    ∃ l' v4 v5 v6 v7 v8 v9, Pen l' (m + 82) ∧ evSs G (evF G (n + 4)) [2] [sB, sO, sC, sP, sK] (envK ns k st.length (some (.dat (.int ((j : Nat) : Int)))) w4 w5 w6 w7 w8 w9 w10 w11 w12) (st ++ [l]) =
      some (.nx (envK ns k st.length (some (.dat (.int ((j : Nat) : Int)))) v4 v5 v6 v7 v8 v9 w10 w11 w12) (st ++ [l'])) := by
  obtain ⟨lap, hlap⟩ : ∃ lap : D, lap = .int ((j : Nat) : Int) := ⟨_, rfl⟩
  obtain ⟨most, h1, h2, hmost⟩ : ∃ most : Int, 3 ≤ most ∧ most ≤ 8 ∧ idxD (.list [.int 8, .int 6, .int 4]) (.int ((j : Nat) : Int)) = some (.int most) := by
    have : j = 0 ∨ j = 1 ∨ j = 2 := by omega
    rcases this with rfl | rfl | rfl
    · exact ⟨8, by omega, by omega, rfl⟩
    · exact ⟨6, by omega, by omega, rfl⟩
    · exact ⟨4, by omega, by omega, rfl⟩
  obtain ⟨qs, ws, l', hb, p', eb⟩ := board_ok nm nw g.board g.fits g.cross g.far g.draw (n + 1) (st ++ [l]) st.length l (get_last _ _) most h1 h2 m hp (by omega)
  rw [set_lastM] at eb
  have h8 := hb.fit.len
  have hs : ∀ q ∈ qs, Sm q := fun q hq => (hb.fit.pl q hq).sm
  refine ⟨l', ?_⟩
  -- the board
  have s1 : evS G (evF G (n + 4)) [2] sB (envK ns k st.length (some (.dat (.int ((j : Nat) : Int)))) w4 w5 w6 w7 w8 w9 w10 w11 w12) (st ++ [l]) = some (.nx (envK ns k st.length (some (.dat (.int ((j : Nat) : Int)))) (some (.dat (boD qs ws))) w5 w6 w7 w8 w9 w10 w11 w12) (st ++ [l'])) :=
    r_asg (r_call2 (r_loc rfl) (r_idx (d := .list [.int 8, .int 6, .int 4]) (r_lst3 r_int r_int r_int) (r_dat rfl) rfl rfl hmost) eb)
  -- the board with other ways
  have hI : evI G (evF G (n + 4)) (.of (.slot 4)) (envK ns k st.length (some (.dat (.int ((j : Nat) : Int)))) (some (.dat (boD qs ws))) w5 w6 w7 w8 w9 w10 w11 w12) (st ++ [l']) = some (zipB qs ws, [], st ++ [l']) := r_of (x := .dat (boD qs ws) false) (r_dat rfl) rfl
  have v2 := evE_lc hI (other_ok (G := G) (n + 4) (st ++ [l']) _ rfl qs ws hb.len) (by rw [zipB_len _ _ hb.turn.len, PySem.sizeLine_eq]; omega)
  have s2 : evS G (evF G (n + 4)) [2] sO (envK ns k st.length (some (.dat (.int ((j : Nat) : Int)))) (some (.dat (boD qs ws))) w5 w6 w7 w8 w9 w10 w11 w12) (st ++ [l']) = some (.nx (envK ns k st.length (some (.dat (.int ((j : Nat) : Int)))) (some (.dat (boD qs ws))) (some (.dat (boD qs (ws.map turnW)))) w6 w7 w8 w9 w10 w11 w12) (st ++ [l'])) :=
    r_asg (r_blt1 (f := .tup) v2 rfl rfl)
  -- the chart, and what is shown
  have nb := (nice_bo qs ws hb.fit.pl hb.wy).tup (by omega)
  have hrep : bltD .rep [boD qs ws] = some (.str (boD qs ws).shown, false) := by
    show (if okRep (boD qs ws) = true then some (PyData.str (boD qs ws).shown, false) else none) = _
    exact if_pos nb
  have ec := chart_ok g.chart g.cross g.far g.wf (n + 2) (st ++ [l']) qs ws hb.len h8 hs
  have s3 : evS G (evF G (n + 4)) [2] sC (envK ns k st.length (some (.dat (.int ((j : Nat) : Int)))) (some (.dat (boD qs ws))) (some (.dat (boD qs (ws.map turnW)))) w6 w7 w8 w9 w10 w11 w12) (st ++ [l']) = some (.nx (envL ns k st.length lap (boD qs ws) (boD qs (ws.map turnW)) w6 (.list (((chart2 qs).1 ++ (chart2 qs).2).map rowD)) (.str (boD qs ws).shown) w9 w10 w11 w12) (st ++ [l'])) := by
    rw [hlap]
    exact r_parLS rfl (r_call1 (r_dat rfl) ec) (r_blt1 (x := .dat (boD qs ws) false) (r_dat rfl) rfl hrep)
  -- the pins
  have hlen : evE G (evF G (n + 4)) (.blt .len [(.slot 4)]) (envL ns k st.length lap (boD qs ws) (boD qs (ws.map turnW)) w6 (.list (((chart2 qs).1 ++ (chart2 qs).2).map rowD)) (.str (boD qs ws).shown) w9 w10 w11 w12) (st ++ [l']) = some (.dat (.int ((qs.length : Nat) : Int)) false, st ++ [l']) := r_blt1 (x := .dat (boD qs ws) false) (r_dat rfl) rfl (boD_len hb.len)
  have hR := rngL (G := G) (n + 4) qs.length (by omega) _ _ _ hlen
  obtain ⟨v6, v9, e4⟩ := pins2_ok g n (st ++ [l']) qs ws hb ns k st.length lap (.str (boD qs ws).shown) w10 w11 w12 (List.range' 0 qs.length) w6 w9 (fun x hx => by rw [List.mem_range'_1] at hx; omega)
  have s4 : evS G (evF G (n + 4)) [2] sP (envL ns k st.length lap (boD qs ws) (boD qs (ws.map turnW)) w6 (.list (((chart2 qs).1 ++ (chart2 qs).2).map rowD)) (.str (boD qs ws).shown) w9 w10 w11 w12) (st ++ [l']) = some (.nx (envL ns k st.length lap (boD qs ws) (boD qs (ws.map turnW)) v6 (.list (((chart2 qs).1 ++ (chart2 qs).2).map rowD)) (.str (boD qs ws).shown) v9 w10 w11 w12) (st ++ [l'])) := (evS_loop hR).trans e4
  -- nothing was changed
  have hcmp : cmpD .NotEq (.str (boD qs ws).shown) (.str (boD qs ws).shown) = some false := by
    show some (!decide ((boD qs ws).shown = (boD qs ws).shown)) = _
    rw [decide_eq_true rfl]
    rfl
  have t5 : tstE (evE G (evF G (n + 4)) (.cmp .NotEq (.blt .rep [(.slot 4)]) (.slot 8)) (envL ns k st.length lap (boD qs ws) (boD qs (ws.map turnW)) v6 (.list (((chart2 qs).1 ++ (chart2 qs).2).map rowD)) (.str (boD qs ws).shown) v9 w10 w11 w12) (st ++ [l'])) = some (false, st ++ [l']) :=
    tst_of (f := false) (r_cmp (d := .str (boD qs ws).shown) (e := .str (boD qs ws).shown) (r_blt1 (x := .dat (boD qs ws) false) (r_dat rfl) rfl hrep) (r_dat rfl) rfl rfl hcmp)
  have s5 : evS G (evF G (n + 4)) [2] sK (envL ns k st.length lap (boD qs ws) (boD qs (ws.map turnW)) v6 (.list (((chart2 qs).1 ++ (chart2 qs).2).map rowD)) (.str (boD qs ws).shown) v9 w10 w11 w12) (st ++ [l']) = some (.nx (envL ns k st.length lap (boD qs ws) (boD qs (ws.map turnW)) v6 (.list (((chart2 qs).1 ++ (chart2 qs).2).map rowD)) (.str (boD qs ws).shown) v9 w10 w11 w12) (st ++ [l'])) := r_ite t5 nil_nx
  refine ⟨some (.dat (boD qs ws)), some (.dat (boD qs (ws.map turnW))), v6, some (.dat (.list (((chart2 qs).1 ++ (chart2 qs).2).map rowD))), some (.dat (.str (boD qs ws).shown)), v9, p', ?_⟩
  subst hlap
  rw [evSs_nx s1, evSs_nx s2, evSs_nx s3, evSs_nx s4]
  exact one_nx s5
def kB : List IS := [(.asg (.nm 2) (.call ("_law_pen" : Str) [(.call ("_law_cell_at" : Str) [(.slot 0), (.slot 1)])])), (.loop (.nm 3) (.rng [(.int 3)]) [sB, sO, sC, sP, sK])]
theorem laps14_ok {nm nw : Str} (g : La G nm nw) (n : Nat) (st : Sto) (ns : List Int) (k : Int) (w10 w11 w12 : Option SV) : ∀ (js : List Nat) (w3 w4 w5 w6 w7 w8 w9 : Option SV) (l : List D) (m : Int), (∀ j ∈ js, j < 3) → Pen l m → m + 82 * js.length ≤ 300 →
    ∃ l' v3 v4 v5 v6 v7 v8 v9, forL (loF G (evF G (n + 4)) [2] (.nm 3) [sB, sO, sC, sP, sK] []) (intsN js) (envK ns k st.length w3 w4 w5 w6 w7 w8 w9 w10 w11 w12) (st ++ [l]) = some (.nx (envK ns k st.length v3 v4 v5 v6 v7 v8 v9 w10 w11 w12) (st ++ [l']))
  | [], w3, w4, w5, w6, w7, w8, w9, l, m, _, _, _ => ⟨l, w3, w4, w5, w6, w7, w8, w9, rfl⟩
  | j :: js, w3, w4, w5, w6, w7, w8, w9, l, m, hj, hp, hm => by
    have hlen : (((j :: js).length : Nat) : Int) = js.length + 1 := by rw [List.length_cons]; omega
    rw [hlen] at hm
    obtain ⟨l1, u4, u5, u6, u7, u8, u9, p1, e1⟩ := lap14_ok g n st ns k j (hj j (List.mem_cons_self ..)) w4 w5 w6 w7 w8 w9 w10 w11 w12 l m hp (by omega)
    obtain ⟨l2, v3, v4, v5, v6, v7, v8, v9, e2⟩ := laps14_ok g n st ns k w10 w11 w12 js (some (.dat (.int ((j : Nat) : Int)))) u4 u5 u6 u7 u8 u9 l1 (m + 82) (fun x hx => hj x (List.mem_cons_of_mem _ hx)) p1 (by omega)
    refine ⟨l2, v3, v4, v5, v6, v7, v8, v9, ?_⟩
    show forL _ (PyData.int ((j : Nat) : Int) :: intsN js) _ _ = _
    rw [forL_nx (loF_nx (s' := st ++ [l1]) (e := envK ns k st.length (some (.dat (.int ((j : Nat) : Int)))) u4 u5 u6 u7 u8 u9 w10 w11 w12) (env1 := envK ns k st.length (some (.dat (.int ((j : Nat) : Int)))) w4 w5 w6 w7 w8 w9 w10 w11 w12) rfl e1 rfl)]
    exact e2
abbrev envN (ns : List Int) (k : Int) (w2 w3 w4 w5 w6 w7 w8 w9 : Option SV) : Ev.Env := [some (.scr ns), some (.dat (.int k)), w2, w3, w4, w5, w6, w7, w8, w9, none, none, none]
theorem k14_ok {nm nw : Str} (g : La G nm nw) (n : Nat) (st : Sto) (ns : List Int) (k : Nat) (w2 w3 w4 w5 w6 w7 w8 w9 : Option SV) :
    ∃ p v2 v3 v4 v5 v6 v7 v8 v9, evSs G (evF G (n + 4)) [2] kB (envN ns ((k : Nat) : Int) w2 w3 w4 w5 w6 w7 w8 w9) st = some (.nx (envN ns ((k : Nat) : Int) v2 v3 v4 v5 v6 v7 v8 v9) (st ++ [p])) := by
  obtain ⟨c, hc⟩ := cell_ok g.cell (n + 3) ns k st
  obtain ⟨l, hp, hl⟩ := pen_ok g.pen (n + 3) c st
  have s1 : evS G (evF G (n + 4)) [2] (.asg (.nm 2) (.call ("_law_pen" : Str) [(.call ("_law_cell_at" : Str) [(.slot 0), (.slot 1)])])) (envN ns ((k : Nat) : Int) w2 w3 w4 w5 w6 w7 w8 w9) st = some (.nx (envK ns ((k : Nat) : Int) st.length w3 w4 w5 w6 w7 w8 w9 none none none) (st ++ [l])) :=
    r_asg (r_call1 (r_call2 (r_scr rfl) (r_dat rfl) hc) hl)
  have hR := rngL (G := G) (n + 4) 3 (by omega) (.int 3) (envK ns ((k : Nat) : Int) st.length w3 w4 w5 w6 w7 w8 w9 none none none) (st ++ [l]) r_int
  obtain ⟨l', v3, v4, v5, v6, v7, v8, v9, e⟩ := laps14_ok g n st ns ((k : Nat) : Int) none none none (List.range' 0 3) w3 w4 w5 w6 w7 w8 w9 l 0 (fun j hj => by rw [List.mem_range'_1] at hj; omega) hp (by decide)
  refine ⟨l', some (.loc st.length), v3, v4, v5, v6, v7, v8, v9, ?_⟩
  unfold kB
  rw [evSs_nx s1]
  exact one_nx ((evS_loop hR).trans e)
theorem ks14_ok {nm nw : Str} (g : La G nm nw) (n : Nat) (ns : List Int) : ∀ (ks : List Nat) (st : Sto) (w1 : Option SV) (w2 w3 w4 w5 w6 w7 w8 w9 : Option SV),
    ∃ e st', forL (loF G (evF G (n + 4)) [2] (.nm 1) kB []) (intsN ks) [some (.scr ns), w1, w2, w3, w4, w5, w6, w7, w8, w9, none, none, none] st = some (.nx e st')
  | [], st, w1, w2, w3, w4, w5, w6, w7, w8, w9 => ⟨_, st, rfl⟩
  | k :: ks, st, w1, w2, w3, w4, w5, w6, w7, w8, w9 => by
    obtain ⟨p, v2, v3, v4, v5, v6, v7, v8, v9, e⟩ := k14_ok g n st ns k w2 w3 w4 w5 w6 w7 w8 w9
    obtain ⟨e', st', e2⟩ := ks14_ok g n ns ks (st ++ [p]) (some (.dat (.int ((k : Nat) : Int)))) v2 v3 v4 v5 v6 v7 v8 v9
    refine ⟨e', st', ?_⟩
    show forL _ (PyData.int ((k : Nat) : Int) :: intsN ks) _ _ = _
    rw [forL_nx (loF_nx (s' := st ++ [p]) (e := envN ns ((k : Nat) : Int) v2 v3 v4 v5 v6 v7 v8 v9) (env1 := envN ns ((k : Nat) : Int) w2 w3 w4 w5 w6 w7 w8 w9) rfl e rfl)]
    exact e2
def lawF : FnD := ⟨1, 13, [2], false, [(.loop (.nm 1) (.rng [(.blt .max [(.int 1), (.blt .min [(.slen 0), (.int 3)])])]) kB), (.ret (some (.bl true)))]⟩
theorem law14_ok {nm nw : Str} (g : La G nm nw) (hL : G.fn "law" = some lawF) (n : Nat) (ns : List Int) : ∃ fr st', evF G (n + 5) "law" [.scr ns] [] = some (.dat (.bool true) fr, st') := by
  obtain ⟨c, hc, h1⟩ : ∃ c : Nat, c < 100 ∧ evE G (evF G (n + 4)) (.blt .max [(.int 1), (.blt .min [(.slen 0), (.int 3)])]) [some (.scr ns), none, none, none, none, none, none, none, none, none, none, none, none] [] = some (.dat (.int ((c : Nat) : Int)) false, []) := by
    obtain ⟨z, hz1, hz2⟩ : ∃ z : Int, (1 ≤ z ∧ z ≤ 3) ∧ evE G (evF G (n + 4)) (.blt .max [(.int 1), (.blt .min [(.slen 0), (.int 3)])]) [some (.scr ns), none, none, none, none, none, none, none, none, none, none, none, none] [] = some (.dat (.int z) false, []) := by
      refine ⟨if (if (3 : Int) < ns.length then 3 else (ns.length : Int)) > 1 then (if (3 : Int) < ns.length then 3 else (ns.length : Int)) else 1, ?_, ?_⟩
      · split <;> split <;> omega
      · simp [evE, evEs, rdEs, rdE, bltD]
    refine ⟨z.toNat, by omega, ?_⟩
    rw [hz2, Int.toNat_of_nonneg (by omega)]
  have hR := rngL (G := G) (n + 4) c (by omega) _ _ _ h1
  obtain ⟨e, st', he⟩ := ks14_ok g n ns (List.range' 0 c) [] none none none none none none none none none
  have s1 : evS G (evF G (n + 4)) [2] (.loop (.nm 1) (.rng [(.blt .max [(.int 1), (.blt .min [(.slen 0), (.int 3)])])]) kB) [some (.scr ns), none, none, none, none, none, none, none, none, none, none, none, none] [] = some (.nx e st') := (evS_loop hR).trans he
  rw [evF_s hL rfl]
  exact ⟨false, st'.take 0, congrArg (finF 0) ((evSs_nx s1).trans (evSs_rt (ss := []) (r_ret r_bl)))⟩
end
end Wl
set_option linter.all false
set_option maxRecDepth 1000000
set_option maxHeartbeats 4000000
/-! V1: how far round from a look. -/
namespace Wl
open PySem PySem.Spec L2 Ev
def dotP (a b : Int × Int) : Int := a.1 * b.1 + a.2 * b.2
def valP (L g : Int × Int) : Int := fdv (dotP L g * 20000) (crossP L g)
theorem fdv_neg {i j : Int} (h : j ≠ 0) : fdv (-i) (-j) = fdv i j := by
  unfold fdv
  by_cases h1 : 0 < j
  · rw [if_neg (by omega), if_pos h1, Int.neg_fdiv_neg, Int.fdiv_eq_ediv_of_nonneg _ (Int.le_of_lt h1)]
  · rw [if_pos (by omega), if_neg h1, ← Int.neg_fdiv_neg, Int.fdiv_eq_ediv_of_nonneg _ (by omega)]
theorem val_neg {L g : Int × Int} (h : crossP L g ≠ 0) : valP L (negP g) = valP L g := by
  unfold valP
  rw [cross_negr, show dotP L (negP g) * 20000 = -(dotP L g * 20000) by simp only [dotP, negP]; grind]
  exact fdv_neg h
theorem sq_bd {x : Int} (h1 : -100 < x) (h2 : x < 100) : x * x ≤ 9801 := by
  have := mul_bd (x := x) (y := x) (m := 99) (k := 99) (by omega) (by omega)
  omega
theorem sq_nn (x : Int) : 0 ≤ x * x := by
  rcases Int.le_total 0 x with h | h
  · exact Int.mul_nonneg h h
  · have := Int.mul_nonneg (show 0 ≤ -x by omega) (show 0 ≤ -x by omega)
    rw [Int.neg_mul_neg] at this
    exact this
theorem val_lt {L a b : Int × Int} (ha : Gp a) (hb : Gp b) (ca : 0 < crossP L a) (cb : 0 < crossP L b) (h : 0 < crossP b a) : valP L a < valP L b := by
  obtain ⟨a1, a2, a3, a4⟩ := ha
  obtain ⟨b1, b2, b3, b4⟩ := hb
  obtain ⟨ra, ea, na, la⟩ := fdv_pos (a := dotP L a * 20000) ca
  obtain ⟨rb, eb, nb, lb⟩ := fdv_pos (a := dotP L b * 20000) cb
  unfold valP
  by_cases hlt : fdv (dotP L a * 20000) (crossP L a) < fdv (dotP L b * 20000) (crossP L b)
  · exact hlt
  · exfalso
    generalize fdv (dotP L a * 20000) (crossP L a) = va at ea hlt
    generalize fdv (dotP L b * 20000) (crossP L b) = vb at eb hlt
    obtain ⟨x, hx⟩ : ∃ x, x = crossP L a := ⟨_, rfl⟩
    obtain ⟨y, hy⟩ : ∃ y, y = crossP L b := ⟨_, rfl⟩
    obtain ⟨S, hS⟩ : ∃ S, S = L.1 * L.1 + L.2 * L.2 := ⟨_, rfl⟩
    have id1 : dotP L b * 20000 * crossP L a - dotP L a * 20000 * crossP L b = 20000 * (S * crossP b a) := by
      rw [hS]
      simp only [crossP, dotP]
      grind
    have na2 : x * x + dotP L a * dotP L a = S * (a.1 * a.1 + a.2 * a.2) := by
      rw [hS, hx]
      simp only [crossP, dotP]
      grind
    have nb2 : y * y + dotP L b * dotP L b = S * (b.1 * b.1 + b.2 * b.2) := by
      rw [hS, hy]
      simp only [crossP, dotP]
      grind
    rw [← hx, ← hy] at id1
    rw [← hx] at ca la ea
    rw [← hy] at cb lb eb
    have S0 : 0 ≤ S := by rw [hS]; have := sq_nn L.1; have := sq_nn L.2; omega
    have id2 : (vb * y + rb) * x - (va * x + ra) * y = (vb - va) * (y * x) + rb * x - ra * y := by
      grind
    rw [eb, ea, id2] at id1
    have p0 : 0 < y * x := Int.mul_pos cb ca
    have p1 : (vb - va) * (y * x) ≤ 0 := Int.mul_nonpos_of_nonpos_of_nonneg (by omega) (Int.le_of_lt p0)
    have p2 : 0 ≤ ra * y := Int.mul_nonneg na (by omega)
    have p3 : rb * x ≤ (y - 1) * x := Int.mul_le_mul_of_nonneg_right (by omega) (Int.le_of_lt ca)
    have p4 : (y - 1) * x = y * x - x := by rw [Int.sub_mul, Int.one_mul]
    have p5 : S ≤ S * crossP b a := by
      have := Int.mul_le_mul_of_nonneg_left (show (1 : Int) ≤ crossP b a by omega) S0
      rwa [Int.mul_one] at this
    have p6 : S * (a.1 * a.1 + a.2 * a.2) ≤ S * 19602 := Int.mul_le_mul_of_nonneg_left (by have := sq_bd a1 a2; have := sq_bd a3 a4; omega) S0
    have p7 : S * (b.1 * b.1 + b.2 * b.2) ≤ S * 19602 := Int.mul_le_mul_of_nonneg_left (by have := sq_bd b1 b2; have := sq_bd b3 b4; omega) S0
    have p8 := sq_nn (dotP L a)
    have p9 := sq_nn (dotP L b)
    have p10 := sq_nn (x - y)
    have p11 : (x - y) * (x - y) = x * x + y * y - 2 * (y * x) := by grind
    rw [p11] at p10
    omega
end Wl
set_option linter.all false
set_option maxRecDepth 1000000
set_option maxHeartbeats 4000000
/-! V2: the row that is met first, either way round. -/
namespace Wl
open PySem PySem.Spec L2 Ev
def xs (l : Bool) (a b : Int × Int) : Int := if l then crossP a b else crossP b a
theorem xs_anti (l : Bool) (a b : Int × Int) : xs l a b = -xs l b a := by
  cases l
  · exact cross_anti b a
  · exact cross_anti a b
theorem xs_negl (l : Bool) (a b : Int × Int) : xs l (negP a) b = -xs l a b := by
  cases l
  · exact cross_negr b a
  · exact cross_negl a b
theorem xs_negr (l : Bool) (a b : Int × Int) : xs l a (negP b) = -xs l a b := by
  cases l
  · exact cross_negl b a
  · exact cross_negr a b
theorem xs_not (l : Bool) (a b : Int × Int) : xs (!l) a b = -xs l a b := by
  cases l
  · exact cross_anti a b
  · exact cross_anti b a
/-- a row of two pins of the board, one of them this -/
structure Has (qs : List (Int × Int)) (P : Nat) (r : Row) : Prop where
  row : ∃ p : Nat × Nat, p.1 < qs.length ∧ p.2 < qs.length ∧ p.2 ≠ p.1 ∧ r = rowOf qs p
  has : r.2.1 = P ∨ r.2.2 = P
theorem Has.flip {qs : List (Int × Int)} {P : Nat} {r : Row} (h : Has qs P r) : Has qs P (flipR r) := by
  obtain ⟨⟨p, h1, h2, h3, e⟩, h4⟩ := h
  refine ⟨⟨(p.2, p.1), h2, h1, Ne.symm h3, ?_⟩, ?_⟩
  · rw [e]
    unfold flipR rowOf
    simp only
    rw [← gp_neg]
  · unfold flipR
    exact h4.symm
theorem flip_flip (r : Row) : flipR (flipR r) = r := by
  unfold flipR negP
  simp only [Int.neg_neg]
theorem Has.un {qs : List (Int × Int)} (hc : NC qs) {P : Nat} {r e : Row} (h : Has qs P r) (g : Has qs P e) (h1 : e ≠ r) (h2 : e ≠ flipR r) (l : Bool) : xs l r.1 e.1 ≠ 0 := by
  obtain ⟨⟨p, p1, p2, p3, ep⟩, _⟩ := h
  obtain ⟨⟨q, q1, q2, q3, eq⟩, _⟩ := g
  have key := hc.nc p.1 p.2 q.1 q.2 p1 p2 q1 q2 (Ne.symm p3) (Ne.symm q3) (fun z => by
    apply h1
    rw [ep, eq]
    have : p = q := z
    rw [this]) (fun z => by
    apply h2
    rw [ep, eq]
    have e1 : p.1 = q.2 := congrArg Prod.fst z
    have e2 : p.2 = q.1 := congrArg Prod.snd z
    unfold flipR rowOf
    simp only
    rw [e1, e2, ← gp_neg])
  rw [ep, eq]
  show xs l (gp qs p.1 p.2) (gp qs q.1 q.2) ≠ 0
  cases l
  · show crossP (gp qs q.1 q.2) (gp qs p.1 p.2) ≠ 0
    rw [cross_anti]
    omega
  · exact key
/-- the first row of this pin, from this look, this way round -/
structure Fst (qs : List (Int × Int)) (l : Bool) (L : Int × Int) (P : Nat) (r : Row) : Prop where
  has : Has qs P r
  pos : 0 < xs l L r.1
  least : ∀ e : Row, Has qs P e → 0 < xs l L e.1 → e ≠ r → 0 < xs l r.1 e.1
theorem Fst.uniq {qs : List (Int × Int)} {l : Bool} {L : Int × Int} {P : Nat} {r r' : Row} (h : Fst qs l L P r) (g : Fst qs l L P r') : r = r' := by
  by_cases e : r = r'
  · exact e
  · have h1 := h.least r' g.has g.pos (Ne.symm e)
    have h2 := g.least r h.has h.pos e
    rw [xs_anti] at h2
    omega
/-- back again -/
theorem Fst.back {qs : List (Int × Int)} (hc : NC qs) {l : Bool} {P : Nat} {r0 r : Row} (h0 : Has qs P r0) (h : Fst qs l r0.1 P r) : Fst qs (!l) r.1 P r0 := by
  refine ⟨h0, ?_, fun e he hp hn => ?_⟩
  · rw [xs_not, xs_anti, Int.neg_neg]
    exact h.pos
  · rw [xs_not] at hp ⊢
    by_cases hf : e = flipR r0
    · exfalso
      rw [hf] at hp
      have h1 : xs l r.1 (flipR r0).1 = -xs l r.1 r0.1 := xs_negr l r.1 r0.1
      have h2 := h.pos
      have h3 := xs_anti l r.1 r0.1
      omega
    · have hne := h0.un hc he hn hf l
      by_cases hgt : 0 < xs l r0.1 e.1
      · exfalso
        by_cases er : e = r
        · rw [er] at hp
          have := xs_anti l r.1 r.1
          omega
        · have := h.least e he hgt er
          omega
      · omega
end Wl
set_option linter.all false
set_option maxRecDepth 1000000
set_option maxHeartbeats 4000000
/-! V3: the first met, as the greatest or the least tells it. -/
namespace Wl
open PySem PySem.Spec L2 Ev
abbrev F3 := Int × Nat × Bool
def fD (s : F3) : D := .tuple [.int s.1, .int ((s.2.1 : Nat) : Int), .bool s.2.2]
theorem lay_fD : ∀ zs : List F3, PyData.canLayAll0 (zs.map fD) = true
  | [] => by simp [PyData.canLayAll0]
  | z :: zs => by
    rw [List.map_cons]
    simp only [PyData.canLayAll0, lay_fD zs, Bool.and_true]
    rfl
theorem dep_fD : ∀ zs : List F3, PyData.depthAll (zs.map fD) ≤ 1
  | [] => by simp [PyData.depthAll]
  | z :: zs => by
    rw [List.map_cons]
    have := dep_fD zs
    have e : (fD z).depth = 1 := rfl
    simp only [PyData.depthAll, e]
    omega
theorem alk_fD (zs : List F3) : alkB (zs.map fD) = true := by
  have h := dep_fD zs
  have h1 : PyData.canLay0 (.list (zs.map fD)) = true := by simp only [PyData.canLay0, lay_fD]
  have h2 : PyData.depth (.list (zs.map fD)) ≤ 64 := by simp only [PyData.depth]; omega
  have h3 : okSh (.list (zs.map fD)) = true := by
    unfold okSh SeqAt.shaped
    simp [h1, h2]
  simp only [alkB, h3, Bool.true_and, Bool.and_eq_true, List.all_eq_true, decide_eq_true_eq]
  refine ⟨⟨fun x hx => ?_, fun x hx y hy => ?_⟩, by omega⟩
  · obtain ⟨a, _, rfl⟩ := List.mem_map.mp hx
    rfl
  · obtain ⟨a, _, rfl⟩ := List.mem_map.mp hx
    obtain ⟨b, _, rfl⟩ := List.mem_map.mp hy
    rfl
theorem lt_fD {a b : F3} (h : a.1 ≠ b.1) : W.dataLt (fD a) (fD b) = decide (a.1 < b.1) := by
  unfold fD
  rw [W.dataLt_tuple]
  have q := W.dataLt_cons (x := .int a.1) (y := .int b.1) (by simp [W.alike]) [.int ((a.2.1 : Nat) : Int), .bool a.2.2] [.int ((b.2.1 : Nat) : Int), .bool b.2.2]
  have e : PyData.eqv (.int a.1) (.int b.1) = false := by
    show (a.1 == b.1) = false
    simp [h]
  rw [e] at q
  rw [if_neg Bool.false_ne_true, W.dataLt_int] at q
  exact q
theorem max_fD : ∀ (xs : List F3) (x : F3), (x :: xs).Pairwise (fun a b => a.1 ≠ b.1) → ∃ m ∈ x :: xs, W.maxD (fD x) (xs.map fD) = fD m ∧ ∀ y ∈ x :: xs, y.1 ≤ m.1
  | [], x, _ => ⟨x, List.mem_cons_self .., rfl, fun y hy => by
      rcases List.mem_cons.mp hy with rfl | h
      · exact Int.le_refl _
      · cases h⟩
  | y :: ys, x, h => by
    obtain ⟨p1, p2⟩ := List.pairwise_cons.mp h
    obtain ⟨q1, q2⟩ := List.pairwise_cons.mp p2
    have hxy := p1 y (List.mem_cons_self ..)
    have e : W.maxD (fD x) ((y :: ys).map fD) = W.maxD (if decide (x.1 < y.1) = true then fD y else fD x) (ys.map fD) := by
      rw [← lt_fD hxy]
      rfl
    by_cases hlt : x.1 < y.1
    · rw [decide_eq_true hlt, if_pos rfl] at e
      obtain ⟨m, hm, em, hy⟩ := max_fD ys y p2
      refine ⟨m, List.mem_cons_of_mem _ hm, e.trans em, fun z hz => ?_⟩
      rcases List.mem_cons.mp hz with rfl | hz
      · have := hy y (List.mem_cons_self ..)
        omega
      · exact hy z hz
    · rw [decide_eq_false hlt, if_neg Bool.false_ne_true] at e
      obtain ⟨m, hm, em, hy⟩ := max_fD ys x (List.pairwise_cons.mpr ⟨fun z hz => p1 z (List.mem_cons_of_mem _ hz), q2⟩)
      refine ⟨m, ?_, e.trans em, fun z hz => ?_⟩
      · rcases List.mem_cons.mp hm with rfl | hm
        · exact List.mem_cons_self ..
        · exact List.mem_cons_of_mem _ (List.mem_cons_of_mem _ hm)
      · rcases List.mem_cons.mp hz with rfl | hz
        · exact hy z (List.mem_cons_self ..)
        · rcases List.mem_cons.mp hz with rfl | hz
          · have := hy x (List.mem_cons_self ..)
            omega
          · exact hy z (List.mem_cons_of_mem _ hz)
theorem min_fD : ∀ (xs : List F3) (x : F3), (x :: xs).Pairwise (fun a b => a.1 ≠ b.1) → ∃ m ∈ x :: xs, W.minD (fD x) (xs.map fD) = fD m ∧ ∀ y ∈ x :: xs, m.1 ≤ y.1
  | [], x, _ => ⟨x, List.mem_cons_self .., rfl, fun y hy => by
      rcases List.mem_cons.mp hy with rfl | h
      · exact Int.le_refl _
      · cases h⟩
  | y :: ys, x, h => by
    obtain ⟨p1, p2⟩ := List.pairwise_cons.mp h
    obtain ⟨q1, q2⟩ := List.pairwise_cons.mp p2
    have hxy := p1 y (List.mem_cons_self ..)
    have e : W.minD (fD x) ((y :: ys).map fD) = W.minD (if decide (y.1 < x.1) = true then fD y else fD x) (ys.map fD) := by
      rw [← lt_fD (Ne.symm hxy)]
      rfl
    by_cases hlt : y.1 < x.1
    · rw [decide_eq_true hlt, if_pos rfl] at e
      obtain ⟨m, hm, em, hy⟩ := min_fD ys y p2
      refine ⟨m, List.mem_cons_of_mem _ hm, e.trans em, fun z hz => ?_⟩
      rcases List.mem_cons.mp hz with rfl | hz
      · have := hy y (List.mem_cons_self ..)
        omega
      · exact hy z hz
    · rw [decide_eq_false hlt, if_neg Bool.false_ne_true] at e
      obtain ⟨m, hm, em, hy⟩ := min_fD ys x (List.pairwise_cons.mpr ⟨fun z hz => p1 z (List.mem_cons_of_mem _ hz), q2⟩)
      refine ⟨m, ?_, e.trans em, fun z hz => ?_⟩
      · rcases List.mem_cons.mp hm with rfl | hm
        · exact List.mem_cons_self ..
        · exact List.mem_cons_of_mem _ (List.mem_cons_of_mem _ hm)
      · rcases List.mem_cons.mp hz with rfl | hz
        · exact hy z (List.mem_cons_self ..)
        · rcases List.mem_cons.mp hz with rfl | hz
          · have := hy x (List.mem_cons_self ..)
            omega
          · exact hy z (List.mem_cons_of_mem _ hz)
/-! ### what is found -/
def fndR (p L : Int × Int) (k : Nat) (q : Int × Int) : List F3 := if crossP L (gapP p q) = 0 then [] else [(valP L (gapP p q), k, decide (0 < crossP L (gapP p q)))]
def fndP (p L : Int × Int) : Nat → List (Int × Int) → List F3
  | _, [] => []
  | k, q :: qs => fndR p L k q ++ fndP p L (k + 1) qs
theorem fnd_len (p L : Int × Int) : ∀ (qs : List (Int × Int)) (k : Nat), (fndP p L k qs).length ≤ qs.length
  | [], _ => Nat.le_refl _
  | q :: qs, k => by
    have := fnd_len p L qs (k + 1)
    simp only [fndP, List.length_append, List.length_cons]
    have : (fndR p L k q).length ≤ 1 := by unfold fndR; split <;> simp
    omega
theorem fnd_mem (p L : Int × Int) : ∀ (qs : List (Int × Int)) (k : Nat) (m : F3), m ∈ fndP p L k qs ↔ ∃ i q, qs[i]? = some q ∧ crossP L (gapP p q) ≠ 0 ∧ m = (valP L (gapP p q), k + i, decide (0 < crossP L (gapP p q)))
  | [], k, m => by simp [fndP]
  | q :: qs, k, m => by
    simp only [fndP, List.mem_append]
    rw [fnd_mem p L qs (k + 1) m]
    constructor
    · rintro (h | ⟨i, q', h1, h2, h3⟩)
      · unfold fndR at h
        split at h
        · cases h
        · rename_i hne
          exact ⟨0, q, rfl, hne, List.mem_singleton.mp h⟩
      · exact ⟨i + 1, q', h1, h2, by rw [h3]; congr 2; omega⟩
    · rintro ⟨i, q', h1, h2, h3⟩
      cases i with
      | zero =>
        have : q = q' := by simpa using h1
        subst this
        refine .inl ?_
        unfold fndR
        rw [if_neg h2, h3]
        exact List.mem_singleton.mpr rfl
      | succ i => exact .inr ⟨i, q', by simpa using h1, h2, by rw [h3]; congr 2; omega⟩
theorem fnd_pw (p L : Int × Int) : ∀ (qs : List (Int × Int)) (k : Nat), (fndP p L k qs).Pairwise fun a b => a.2.1 ≠ b.2.1
  | [], _ => .nil
  | q :: qs, k => by
    have ih := fnd_pw p L qs (k + 1)
    simp only [fndP]
    refine List.pairwise_append.mpr ⟨?_, ih, fun a ha b hb => ?_⟩
    · unfold fndR
      split
      · exact .nil
      · exact List.pairwise_singleton _ _
    · obtain ⟨i, q', _, _, e⟩ := (fnd_mem p L qs (k + 1) b).mp hb
      unfold fndR at ha
      split at ha
      · cases ha
      · rw [List.mem_singleton.mp ha, e]
        simp only
        omega
def rowM (qs : List (Int × Int)) (P : Nat) (m : Nat × Bool) : Row := if m.2 then rowOf qs (P, m.1) else rowOf qs (m.1, P)
theorem rowM_has {qs : List (Int × Int)} {P : Nat} {m : Nat × Bool} (h1 : P < qs.length) (h2 : m.1 < qs.length) (h3 : m.1 ≠ P) : Has qs P (rowM qs P m) := by
  unfold rowM
  split
  · exact ⟨⟨(P, m.1), h1, h2, h3, rfl⟩, .inl rfl⟩
  · exact ⟨⟨(m.1, P), h2, h1, Ne.symm h3, rfl⟩, .inr rfl⟩
theorem Has.rowM {qs : List (Int × Int)} {P : Nat} {r : Row} (h : Has qs P r) : ∃ m : Nat × Bool, P < qs.length ∧ m.1 < qs.length ∧ m.1 ≠ P ∧ r = Wl.rowM qs P m := by
  obtain ⟨⟨p, h1, h2, h3, rfl⟩, h4⟩ := h
  rcases h4 with h4 | h4
  · have h4 : p.1 = P := h4
    subst h4
    exact ⟨(p.2, true), h1, h2, h3, rfl⟩
  · have h4 : p.2 = P := h4
    subst h4
    exact ⟨(p.1, false), h2, h1, Ne.symm h3, rfl⟩
theorem rowM_dir (qs : List (Int × Int)) (P : Nat) (m : Nat × Bool) : (rowM qs P m).1 = if m.2 then gp qs P m.1 else negP (gp qs P m.1) := by
  unfold rowM
  split
  · rfl
  · exact gp_neg qs P m.1
theorem val_row {qs : List (Int × Int)} {P : Nat} {m : Nat × Bool} {L : Int × Int} (h : crossP L (gp qs P m.1) ≠ 0) : valP L (rowM qs P m).1 = valP L (gp qs P m.1) := by
  rw [rowM_dir]
  split
  · rfl
  · exact val_neg h
theorem gp_row {qs : List (Int × Int)} (hc : NC qs) {P : Nat} {r : Row} (h : Has qs P r) : Gp r.1 := by
  obtain ⟨⟨p, h1, h2, h3, rfl⟩, _⟩ := h
  exact hc.gp _ _ h1 h2
/-- greater tells nearer -/
theorem val_xs {qs : List (Int × Int)} (hc : NC qs) {P : Nat} {l : Bool} {L : Int × Int} {r e : Row} (hr : Has qs P r) (he : Has qs P e) (p1 : 0 < xs l L r.1) (p2 : 0 < xs l L e.1) (h : 0 < xs l e.1 r.1) : if l then valP L r.1 < valP L e.1 else valP L e.1 < valP L r.1 := by
  cases l with
  | true => exact val_lt (gp_row hc hr) (gp_row hc he) p1 p2 h
  | false =>
    have p1 : 0 < crossP r.1 L := p1
    have p2 : 0 < crossP e.1 L := p2
    have h : 0 < crossP r.1 e.1 := h
    have c1 : 0 < crossP L (negP r.1) := by rw [cross_negr, cross_anti]; omega
    have c2 : 0 < crossP L (negP e.1) := by rw [cross_negr, cross_anti]; omega
    have n1 : crossP L r.1 ≠ 0 := by rw [cross_anti]; omega
    have n2 : crossP L e.1 ≠ 0 := by rw [cross_anti]; omega
    have := val_lt (gp_row hc he.flip) (gp_row hc hr.flip) c2 c1 (by show 0 < crossP (negP r.1) (negP e.1); rw [cross_negl, cross_negr]; omega)
    have e1 : (flipR e).1 = negP e.1 := rfl
    have e2 : (flipR r).1 = negP r.1 := rfl
    rw [e1, e2, val_neg n1, val_neg n2] at this
    exact this
end Wl
set_option linter.all false
set_option maxRecDepth 1000000
set_option maxHeartbeats 4000000
/-! V4: the pick is the first met. -/
namespace Wl
open PySem PySem.Spec L2 Ev
def oth (P : Nat) (r : Row) : Nat := if r.2.1 = P then r.2.2 else r.2.1
theorem oth_rowM {qs : List (Int × Int)} {P : Nat} {m : Nat × Bool} (h : m.1 ≠ P) : oth P (rowM qs P m) = m.1 := by
  obtain ⟨j, b⟩ := m
  cases b
  · exact if_neg h
  · exact if_pos rfl
theorem oth_flip {qs : List (Int × Int)} {P : Nat} {m : Nat × Bool} (h : m.1 ≠ P) : oth P (flipR (rowM qs P m)) = m.1 := by
  obtain ⟨j, b⟩ := m
  cases b
  · exact if_pos rfl
  · exact if_neg h
theorem rowM_pos {qs : List (Int × Int)} {P j : Nat} {L : Int × Int} (l : Bool) (h : crossP L (gp qs P j) ≠ 0) : 0 < xs l L (rowM qs P (j, decide (0 < crossP L (gp qs P j)) == l)).1 := by
  rw [rowM_dir]
  have e : (if l then crossP L (gp qs P j) else -crossP L (gp qs P j)) = xs l L (gp qs P j) := by
    cases l
    · show -crossP L (gp qs P j) = crossP (gp qs P j) L
      rw [cross_anti (gp qs P j) L]
    · rfl
  by_cases hp : 0 < crossP L (gp qs P j)
  · rw [decide_eq_true hp]
    cases l
    · show 0 < xs false L (negP (gp qs P j))
      rw [xs_negr, ← e]
      simp only [Bool.false_eq_true, if_false]
      omega
    · show 0 < xs true L (gp qs P j)
      exact hp
  · rw [decide_eq_false hp]
    cases l
    · show 0 < xs false L (gp qs P j)
      rw [← e]
      simp only [Bool.false_eq_true, if_false]
      omega
    · show 0 < xs true L (negP (gp qs P j))
      rw [xs_negr, ← e]
      simp only [if_true]
      omega
theorem val_ne {qs : List (Int × Int)} (hc : NC qs) {P j k : Nat} (hP : P < qs.length) (hj : j < qs.length) (hk : k < qs.length) (hjP : j ≠ P) (hkP : k ≠ P) {L : Int × Int} (h1 : crossP L (gp qs P j) ≠ 0) (h2 : crossP L (gp qs P k) ≠ 0) (hjk : j ≠ k) : valP L (gp qs P j) ≠ valP L (gp qs P k) := by
  have a1 := rowM_has (qs := qs) (m := (j, decide (0 < crossP L (gp qs P j)) == true)) hP hj hjP
  have a2 := rowM_has (qs := qs) (m := (k, decide (0 < crossP L (gp qs P k)) == true)) hP hk hkP
  have p1 := rowM_pos true h1
  have p2 := rowM_pos true h2
  have n1 : rowM qs P (k, decide (0 < crossP L (gp qs P k)) == true) ≠ rowM qs P (j, decide (0 < crossP L (gp qs P j)) == true) := fun z => by
    have := congrArg (oth P) z
    rw [oth_rowM (m := (k, _)) hkP, oth_rowM (m := (j, _)) hjP] at this
    exact hjk this.symm
  have n2 : rowM qs P (k, decide (0 < crossP L (gp qs P k)) == true) ≠ flipR (rowM qs P (j, decide (0 < crossP L (gp qs P j)) == true)) := fun z => by
    have := congrArg (oth P) z
    rw [oth_rowM (m := (k, _)) hkP, oth_flip (m := (j, _)) hjP] at this
    exact hjk this.symm
  have hu := a1.un hc a2 n1 n2 true
  rw [← val_row (m := (j, decide (0 < crossP L (gp qs P j)) == true)) h1, ← val_row (m := (k, decide (0 < crossP L (gp qs P k)) == true)) h2]
  rcases Int.lt_or_gt_of_ne hu with h | h
  · have := val_xs hc a1 a2 p1 p2 (by rw [xs_anti]; omega)
    simp only [if_true] at this
    omega
  · have := val_xs hc a2 a1 p2 p1 h
    simp only [if_true] at this
    omega
theorem cross_self0 {qs : List (Int × Int)} {P : Nat} {L p : Int × Int} (h : qs[P]? = some p) {q : Int × Int} (hq : qs[P]? = some q) : crossP L (gapP p q) = 0 := by
  have : p = q := by rw [h] at hq; injection hq
  subst this
  simp only [gapP, crossP, Int.sub_self]
  omega
theorem fst_pick {qs : List (Int × Int)} (hc : NC qs) {P : Nat} {p : Int × Int} (hp : qs[P]? = some p) (L : Int × Int) (l : Bool) (x : F3) (ys : List F3) (hf : fndP p L 0 qs = x :: ys) :
    ∃ m : F3, (if l then W.maxD (fD x) (ys.map fD) else W.minD (fD x) (ys.map fD)) = fD m ∧ m.2.1 < qs.length ∧ m.2.1 ≠ P ∧ Fst qs l L P (rowM qs P (m.2.1, m.2.2 == l)) := by
  have hP : P < qs.length := (List.getElem?_eq_some_iff.mp hp).1
  -- what is found
  have mem : ∀ m ∈ x :: ys, m.2.1 < qs.length ∧ m.2.1 ≠ P ∧ crossP L (gp qs P m.2.1) ≠ 0 ∧ m.1 = valP L (gp qs P m.2.1) ∧ m.2.2 = decide (0 < crossP L (gp qs P m.2.1)) := fun m hm => by
    rw [← hf] at hm
    obtain ⟨i, q, h1, h2, h3⟩ := (fnd_mem p L qs 0 m).mp hm
    have e : gp qs P i = gapP p q := gp_at hp h1
    rw [h3]
    simp only [Nat.zero_add]
    rw [e]
    refine ⟨(List.getElem?_eq_some_iff.mp h1).1, fun z => ?_, h2, rfl, rfl⟩
    rw [z] at h1
    exact h2 (cross_self0 hp h1)
  have back : ∀ j, j < qs.length → crossP L (gp qs P j) ≠ 0 → ∃ m ∈ x :: ys, m.2.1 = j := fun j hj h => by
    have hq : qs[j]? = some qs[j] := List.getElem?_eq_getElem hj
    rw [gp_at hp hq] at h
    refine ⟨(valP L (gapP p qs[j]), 0 + j, decide (0 < crossP L (gapP p qs[j]))), ?_, Nat.zero_add j⟩
    rw [← hf]
    exact (fnd_mem p L qs 0 _).mpr ⟨j, qs[j], hq, h, rfl⟩
  have pw : (x :: ys).Pairwise fun a b => a.2.1 ≠ b.2.1 := by
    rw [← hf]
    exact fnd_pw p L qs 0
  have vne : ∀ a ∈ x :: ys, ∀ b ∈ x :: ys, a.2.1 ≠ b.2.1 → a.1 ≠ b.1 := fun a ha b hb h => by
    obtain ⟨a1, a2, a3, a4, _⟩ := mem a ha
    obtain ⟨b1, b2, b3, b4, _⟩ := mem b hb
    rw [a4, b4]
    exact val_ne hc hP a1 b1 a2 b2 a3 b3 h
  have pwv : (x :: ys).Pairwise fun a b => a.1 ≠ b.1 := pw.imp_of_mem fun {a b} ha hb h => vne a ha b hb h
  have key : ∀ m ∈ x :: ys, (∀ y ∈ x :: ys, if l then y.1 ≤ m.1 else m.1 ≤ y.1) → m.2.1 < qs.length ∧ m.2.1 ≠ P ∧ Fst qs l L P (rowM qs P (m.2.1, m.2.2 == l)) := fun m hm hb => by
    obtain ⟨m1, m2, m3, m4, m5⟩ := mem m hm
    refine ⟨m1, m2, rowM_has hP m1 m2, ?_, fun e he hpe hne => ?_⟩
    · rw [m5]
      exact rowM_pos l m3
    · obtain ⟨⟨k, c⟩, _, k1, k2, ek⟩ := he.rowM
      have k1 : k < qs.length := k1
      have k2 : k ≠ P := k2
      have ck : crossP L (gp qs P k) ≠ 0 := fun z => by
        rw [ek, rowM_dir] at hpe
        have z1 : xs l L (gp qs P k) = 0 := by
          cases l
          · show crossP (gp qs P k) L = 0
            rw [cross_anti]
            omega
          · exact z
        simp only at hpe
        split at hpe
        · omega
        · rw [xs_negr] at hpe
          omega
      -- the word is the look's
      have ec : c = (decide (0 < crossP L (gp qs P k)) == l) := by
        have h0 := rowM_pos l ck
        rw [ek] at hpe
        rw [rowM_dir] at h0 hpe
        simp only at h0 hpe
        generalize (decide (0 < crossP L (gp qs P k)) == l) = d at h0
        cases c <;> cases d
        · rfl
        · simp only [if_true, Bool.false_eq_true, if_false, xs_negr] at h0 hpe
          omega
        · simp only [if_true, Bool.false_eq_true, if_false, xs_negr] at h0 hpe
          omega
        · rfl
      have hkm : k ≠ m.2.1 := fun z => hne (by rw [ek, ec, m5, z])
      obtain ⟨mk, hmk, jk⟩ := back k k1 ck
      obtain ⟨_, _, _, v4, _⟩ := mem mk hmk
      rw [jk] at v4
      have hb2 := hb mk hmk
      have vn := vne mk hmk m hm (by rw [jk]; exact hkm)
      have n2 : e ≠ flipR (rowM qs P (m.2.1, m.2.2 == l)) := fun z => by
        have := congrArg (oth P) z
        rw [ek, oth_rowM (m := (k, c)) k2, oth_flip (m := (m.2.1, m.2.2 == l)) m2] at this
        exact hkm this
      have hr := rowM_has (qs := qs) (m := (m.2.1, m.2.2 == l)) hP m1 m2
      have hu := hr.un hc he hne n2 l
      have hpr : 0 < xs l L (rowM qs P (m.2.1, m.2.2 == l)).1 := by
        rw [m5]
        exact rowM_pos l m3
      rcases Int.lt_or_gt_of_ne hu with h | h
      · exfalso
        have hv := val_xs hc hr he hpr hpe (by rw [xs_anti]; omega)
        rw [val_row (m := (m.2.1, m.2.2 == l)) m3, ek, val_row (m := (k, c)) ck] at hv
        simp only at hv
        rw [← m4, ← v4] at hv
        cases l
        · simp only [Bool.false_eq_true, if_false] at hv hb2
          omega
        · simp only [if_true] at hv hb2
          omega
      · exact h
  cases l with
  | true =>
    obtain ⟨m, hm, em, hy⟩ := max_fD ys x pwv
    exact ⟨m, em, key m hm fun y h => hy y h⟩
  | false =>
    obtain ⟨m, hm, em, hy⟩ := min_fD ys x pwv
    exact ⟨m, em, key m hm fun y h => hy y h⟩
/-- some pin is met -/
theorem fnd_some {qs : List (Int × Int)} (hc : NC qs) (h3 : 3 ≤ qs.length) {P : Nat} {p : Int × Int} (hp : qs[P]? = some p) {r0 : Row} (h0 : Has qs P r0) : ∃ x ys, fndP p r0.1 0 qs = x :: ys := by
  have hP : P < qs.length := (List.getElem?_eq_some_iff.mp hp).1
  obtain ⟨⟨k, c⟩, _, k1, k2, ek⟩ := h0.rowM
  have k1 : k < qs.length := k1
  have k2 : k ≠ P := k2
  obtain ⟨j, j1, j2, j3⟩ : ∃ j, j < qs.length ∧ j ≠ P ∧ j ≠ k := by
    by_cases a : 0 ≠ P ∧ 0 ≠ k
    · exact ⟨0, by omega, a.1, a.2⟩
    · by_cases b : 1 ≠ P ∧ 1 ≠ k
      · exact ⟨1, by omega, b.1, b.2⟩
      · exact ⟨2, by omega, by omega, by omega⟩
  have hj := rowM_has (qs := qs) (m := (j, true)) hP j1 j2
  have hu := h0.un hc hj (fun z => by
    have := congrArg (oth P) z
    rw [ek, oth_rowM (m := (k, c)) k2, oth_rowM (m := (j, true)) j2] at this
    exact j3 this) (fun z => by
    have := congrArg (oth P) z
    rw [ek, oth_flip (m := (k, c)) k2, oth_rowM (m := (j, true)) j2] at this
    exact j3 this) true
  have hu : crossP r0.1 (gp qs P j) ≠ 0 := hu
  have hq : qs[j]? = some qs[j] := List.getElem?_eq_getElem j1
  rw [gp_at hp hq] at hu
  have hm := (fnd_mem p r0.1 qs 0 _).mpr ⟨j, qs[j], hq, hu, rfl⟩
  cases hf : fndP p r0.1 0 qs with
  | nil => rw [hf] at hm; cases hm
  | cons x ys => exact ⟨x, ys, rfl⟩
end Wl
set_option linter.all false
set_option maxRecDepth 1000000
set_option maxHeartbeats 4000000
/-! V5: going round the chart, the first row with the pin is the first met. -/
namespace Wl
open PySem PySem.Spec L2 Ev
abbrev row0 : Row := ((0, 0), 0, 0)
def rw2 (N : List Row) (i : Nat) : Row := if i < N.length then N.getD i row0 else flipR (N.getD (i - N.length) row0)
theorem getD_some {N : List Row} {i : Nat} (h : i < N.length) : N[i]? = some (N.getD i row0) := by
  rw [List.getD_eq_getElem?_getD, List.getElem?_eq_getElem h]
  rfl
theorem rw2_get {N : List Row} {i : Nat} (h : i < 2 * N.length) : (N ++ N.map flipR)[i]? = some (rw2 N i) := by
  unfold rw2
  by_cases hi : i < N.length
  · rw [if_pos hi, List.getElem?_append_left hi]
    exact getD_some hi
  · rw [if_neg hi, List.getElem?_append_right (by omega), List.getElem?_map, getD_some (by omega)]
    rfl
theorem pw_get {N : List Row} (h : N.Pairwise Bf) {a b : Nat} (h1 : a < b) (h2 : b < N.length) : 0 < crossP (N.getD a row0).1 (N.getD b row0).1 := by
  have := List.pairwise_iff_getElem.mp h a b (by omega) h2 h1
  rw [List.getD_eq_getElem?_getD, List.getElem?_eq_getElem (by omega : a < N.length), List.getD_eq_getElem?_getD, List.getElem?_eq_getElem h2]
  exact this
theorem rw2_bf {N : List Row} (h : N.Pairwise Bf) {u v : Nat} (hu : u < 2 * N.length) (hv : v < 2 * N.length) (h1 : (u < v ∧ v - u < N.length) ∨ (v < u ∧ N.length < u - v)) : 0 < crossP (rw2 N u).1 (rw2 N v).1 := by
  unfold rw2
  by_cases a : u < N.length <;> by_cases b : v < N.length
  · rw [if_pos a, if_pos b]
    exact pw_get h (by omega) b
  · rw [if_pos a, if_neg b]
    have := pw_get h (a := v - N.length) (b := u) (by omega) a
    show 0 < crossP _ (negP _)
    rw [cross_negr, ← cross_anti]
    exact this
  · rw [if_neg a, if_pos b]
    have := pw_get h (a := v) (b := u - N.length) (by omega) (by omega)
    show 0 < crossP (negP _) _
    rw [cross_negl, ← cross_anti]
    exact this
  · rw [if_neg a, if_neg b]
    have := pw_get h (a := u - N.length) (b := v - N.length) (by omega) (by omega)
    show 0 < crossP (negP _) (negP _)
    rw [cross_negl, cross_negr]
    omega
def pos (l : Bool) (M i k : Nat) : Nat := if l then (if i + k < M then i + k else i + k - M) else (if k ≤ i then i - k else i + M - k)
theorem pos_lt {l : Bool} {M i k : Nat} (hi : i < M) (hk : k ≤ M) : pos l M i k < M := by
  unfold pos
  split <;> split <;> omega
theorem pos_zero {l : Bool} {M i : Nat} (hi : i < M) : pos l M i 0 = i := by
  unfold pos
  split
  · rw [if_pos (by omega)]; rfl
  · rw [if_pos (by omega)]; rfl
theorem pos_full {l : Bool} {M i : Nat} (hi : i < M) : pos l M i M = i := by
  unfold pos
  split
  · rw [if_neg (by omega)]; omega
  · rw [if_neg (by omega)]; omega
theorem pos_all {l : Bool} {M i u : Nat} (hi : i < M) (hu : u < M) : ∃ k, k < M ∧ pos l M i k = u := by
  unfold pos
  cases l
  · by_cases h : u ≤ i
    · exact ⟨i - u, by omega, by simp only [Bool.false_eq_true, if_false]; rw [if_pos (by omega)]; omega⟩
    · exact ⟨i + M - u, by omega, by simp only [Bool.false_eq_true, if_false]; rw [if_neg (by omega)]; omega⟩
  · by_cases h : i ≤ u
    · exact ⟨u - i, by omega, by simp only [if_true]; rw [if_pos (by omega)]; omega⟩
    · exact ⟨u + M - i, by omega, by simp only [if_true]; rw [if_neg (by omega)]; omega⟩
theorem pos_next {l : Bool} {M i k : Nat} (hi : i < M) (hk : k < M) : (((pos l M i k : Nat) : Int) + (if l then 1 else -1)) % ((M : Nat) : Int) = ((pos l M i (k + 1) : Nat) : Int) := by
  have hu := pos_lt (l := l) hi (Nat.le_of_lt hk)
  cases l
  · simp only [Bool.false_eq_true, if_false]
    by_cases h : pos false M i k = 0
    · have e : pos false M i (k + 1) = M - 1 := by
        unfold pos at h ⊢
        simp only [Bool.false_eq_true, if_false] at h ⊢
        split at h
        · rw [if_neg (by omega)]; omega
        · omega
      rw [h, e]
      have : ((0 : Nat) : Int) + -1 = ((M : Int) - 1) + (M : Int) * (-1) := by omega
      rw [this, Int.add_mul_emod_self_left, Int.emod_eq_of_lt (by omega) (by omega)]
      omega
    · have e : pos false M i (k + 1) = pos false M i k - 1 := by
        unfold pos at h ⊢
        simp only [Bool.false_eq_true, if_false] at h ⊢
        split at h
        · rename_i h2
          rw [if_pos h2, if_pos (by omega)]; omega
        · rename_i h2
          rw [if_neg h2, if_neg (by omega)]; omega
      rw [e, Int.emod_eq_of_lt (by omega) (by omega)]
      omega
  · simp only [if_true]
    by_cases h : pos true M i k + 1 = M
    · have e : pos true M i (k + 1) = 0 := by
        unfold pos at h ⊢
        simp only [if_true] at h ⊢
        split at h
        · rw [if_neg (by omega)]; omega
        · omega
      rw [e, show ((pos true M i k : Nat) : Int) + 1 = (M : Int) by omega, Int.emod_self]
      rfl
    · have e : pos true M i (k + 1) = pos true M i k + 1 := by
        unfold pos at h hu ⊢
        simp only [if_true] at h hu ⊢
        split at h
        · rename_i h2
          rw [if_pos h2, if_pos (by omega)]; omega
        · rename_i h2
          rw [if_neg h2, if_neg (by omega)]; omega
      rw [e, Int.emod_eq_of_lt (by omega) (by omega)]
      omega
theorem pos_half {l : Bool} {m i : Nat} (hi : i < 2 * m) : pos l (2 * m) i m = if i < m then i + m else i - m := by
  unfold pos
  cases l
  · simp only [Bool.false_eq_true, if_false]
    by_cases h : i < m
    · rw [if_neg (by omega), if_pos h]; omega
    · rw [if_pos (by omega), if_neg h]
  · simp only [if_true]
    by_cases h : i < m
    · rw [if_pos (by omega), if_pos h]
    · rw [if_neg (by omega), if_neg h]; omega
theorem rw2_half {N : List Row} {l : Bool} {i : Nat} (hi : i < 2 * N.length) : rw2 N (pos l (2 * N.length) i N.length) = flipR (rw2 N i) := by
  rw [pos_half hi]
  unfold rw2
  by_cases h : i < N.length
  · rw [if_pos h, if_pos h, if_neg (by omega), Nat.add_sub_cancel]
  · rw [if_neg h, if_neg h, if_pos (by omega), flip_flip]
/-- ahead in this way round, less than half a turn -/
theorem cyc {N : List Row} (h : N.Pairwise Bf) {l : Bool} {i k1 k2 : Nat} (hi : i < 2 * N.length) (h1 : k1 < k2) (h2 : k2 - k1 < N.length) (h3 : k2 ≤ 2 * N.length) : 0 < xs l (rw2 N (pos l (2 * N.length) i k1)).1 (rw2 N (pos l (2 * N.length) i k2)).1 := by
  have u1 := pos_lt (l := l) (k := k1) hi (by omega)
  have u2 := pos_lt (l := l) (k := k2) hi h3
  cases l
  · refine rw2_bf h u2 u1 ?_
    unfold pos
    simp only [Bool.false_eq_true, if_false]
    split <;> split <;> omega
  · refine rw2_bf h u1 u2 ?_
    unfold pos
    simp only [if_true]
    split <;> split <;> omega
theorem least_nat (p : Nat → Prop) [DecidablePred p] : ∀ n, p n → ∃ k, k ≤ n ∧ p k ∧ ∀ j, j < k → ¬ p j
  | 0, h => ⟨0, Nat.le_refl _, h, fun j hj => by omega⟩
  | n + 1, h => by
    by_cases hx : ∃ j, j ≤ n ∧ p j
    · obtain ⟨j, h1, h2⟩ := hx
      have : ∀ n, (∃ j, j ≤ n ∧ p j) → ∃ k, k ≤ n ∧ p k ∧ ∀ j, j < k → ¬ p j := by
        intro n
        induction n using Nat.strongRecOn with
        | _ n ih =>
          rintro ⟨j, h1, h2⟩
          by_cases hy : ∃ i, i < j ∧ p i
          · obtain ⟨i, i1, i2⟩ := hy
            obtain ⟨k, k1, k2, k3⟩ := ih i (by omega) ⟨i, Nat.le_refl _, i2⟩
            exact ⟨k, by omega, k2, k3⟩
          · exact ⟨j, h1, h2, fun i hi hp => hy ⟨i, hi, hp⟩⟩
      obtain ⟨k, k1, k2, k3⟩ := this n ⟨j, h1, h2⟩
      exact ⟨k, by omega, k2, k3⟩
    · exact ⟨n + 1, Nat.le_refl _, h, fun j hj hp => hx ⟨j, by omega, hp⟩⟩
abbrev InR (P : Nat) (r : Row) : Prop := r.2.1 = P ∨ r.2.2 = P
/-- the chart holds the rows of each pin -/
theorem has_at {qs : List (Int × Int)} (hc : NC qs) (hn : qs.length ≤ 8) {P : Nat} {e : Row} (h : Has qs P e) : ∃ u, u < 2 * (chart2 qs).1.length ∧ e = rw2 (chart2 qs).1 u := by
  have v := chart_cv hc hn
  obtain ⟨⟨p, h1, h2, h3, ep⟩, _⟩ := h
  have hm : p ∈ allP qs.length := allP_mem.mpr ⟨h1, h2, h3⟩
  have h0 := st0_ne (hc.gp p.1 p.2 h1 h2) (hc.ne p.1 p.2 h1 h2 (Ne.symm h3))
  by_cases hp : 0 < crossP st0P (gp qs p.1 p.2)
  · have := (v.m1 e).mpr ⟨p, hm, ep, hp⟩
    obtain ⟨i, hi, e2⟩ := List.getElem_of_mem this
    refine ⟨i, by omega, ?_⟩
    unfold rw2
    rw [if_pos hi, ← e2, List.getD_eq_getElem?_getD, List.getElem?_eq_getElem hi]
    rfl
  · have := (v.m2 e).mpr ⟨p, hm, ep, by omega⟩
    rw [far_flip hc hn] at this
    obtain ⟨x, hx, e2⟩ := List.mem_map.mp this
    obtain ⟨i, hi, e3⟩ := List.getElem_of_mem hx
    refine ⟨i + (chart2 qs).1.length, by omega, ?_⟩
    unfold rw2
    rw [if_neg (by omega), Nat.add_sub_cancel, ← e2, ← e3, List.getD_eq_getElem?_getD, List.getElem?_eq_getElem hi]
    rfl
theorem at_row {qs : List (Int × Int)} (hc : NC qs) (hn : qs.length ≤ 8) {u : Nat} (hu : u < 2 * (chart2 qs).1.length) : ∃ p : Nat × Nat, p.1 < qs.length ∧ p.2 < qs.length ∧ p.2 ≠ p.1 ∧ rw2 (chart2 qs).1 u = rowOf qs p := by
  have v := chart_cv hc hn
  have near : ∀ i, i < (chart2 qs).1.length → ∃ p : Nat × Nat, p.1 < qs.length ∧ p.2 < qs.length ∧ p.2 ≠ p.1 ∧ (chart2 qs).1.getD i row0 = rowOf qs p := fun i hi => by
    have : (chart2 qs).1.getD i row0 ∈ (chart2 qs).1 := by
      rw [List.getD_eq_getElem?_getD, List.getElem?_eq_getElem hi]
      exact List.getElem_mem hi
    obtain ⟨p, h1, h2, _⟩ := (v.m1 _).mp this
    obtain ⟨a, b, c⟩ := allP_mem.mp h1
    exact ⟨p, a, b, c, h2⟩
  unfold rw2
  by_cases hi : u < (chart2 qs).1.length
  · rw [if_pos hi]
    exact near u hi
  · rw [if_neg hi]
    obtain ⟨p, a, b, c, e⟩ := near (u - (chart2 qs).1.length) (by omega)
    refine ⟨(p.2, p.1), b, a, Ne.symm c, ?_⟩
    rw [e]
    unfold flipR rowOf
    simp only
    rw [← gp_neg]
/-- going on from a row of the pin, the first one of the pin is the first met -/
theorem walk_first {qs : List (Int × Int)} (hc : NC qs) (hn : qs.length ≤ 8) (l : Bool) {P i : Nat} (hi : i < 2 * (chart2 qs).1.length) {e : Row} (hF : Fst qs l (rw2 (chart2 qs).1 i).1 P e) :
    ∃ k, k < (chart2 qs).1.length ∧ 0 < k ∧ rw2 (chart2 qs).1 (pos l (2 * (chart2 qs).1.length) i k) = e ∧ InR P e ∧ ∀ j, 0 < j → j < k → ¬ InR P (rw2 (chart2 qs).1 (pos l (2 * (chart2 qs).1.length) i j)) := by
  have v := chart_cv hc hn
  generalize hN : (chart2 qs).1 = N at *
  have o1 : N.Pairwise Bf := by rw [← hN]; exact v.o1
  have self : ∀ a : Int × Int, xs l a a = 0 := fun a => by have := xs_anti l a a; omega
  -- where rows of the pin ahead of the look stand
  have loc : ∀ f : Row, Has qs P f → 0 < xs l (rw2 N i).1 f.1 → ∃ k, 0 < k ∧ k < N.length ∧ rw2 N (pos l (2 * N.length) i k) = f := fun f hf hp => by
    obtain ⟨u, hu, eu⟩ := has_at hc hn hf
    rw [hN] at hu eu
    obtain ⟨k, hk, ek⟩ := pos_all (l := l) hi hu
    rw [← ek] at eu
    have k0 : k ≠ 0 := fun z => by
      rw [z, pos_zero hi] at eu
      rw [eu, self] at hp
      omega
    have km : k ≠ N.length := fun z => by
      rw [z, rw2_half hi] at eu
      have e2 : f.1 = negP (rw2 N i).1 := by rw [eu]; rfl
      rw [e2, xs_negr, self] at hp
      omega
    have kl : k < N.length := by
      by_cases h : k < N.length
      · exact h
      · exfalso
        have := cyc o1 (l := l) (k1 := k) (k2 := 2 * N.length) hi hk (by omega) (Nat.le_refl _)
        rw [pos_full hi, ← eu, xs_anti] at this
        omega
    exact ⟨k, by omega, kl, eu.symm⟩
  obtain ⟨k1, a1, a2, a3⟩ := loc e hF.has hF.pos
  have hP : InR P e := hF.has.has
  obtain ⟨k, b1, b2, b3⟩ := least_nat (fun k => 0 < k ∧ InR P (rw2 N (pos l (2 * N.length) i k))) k1 ⟨a1, by rw [a3]; exact hP⟩
  obtain ⟨b4, b5⟩ := b2
  have hl : ∀ j, 0 < j → j < k → ¬ InR P (rw2 N (pos l (2 * N.length) i j)) := fun j h1 h2 h3 => b3 j h2 ⟨h1, h3⟩
  have he : rw2 N (pos l (2 * N.length) i k) = e := by
    by_cases hk : k = k1
    · rw [hk]; exact a3
    · exfalso
      obtain ⟨p, r1, r2, r3, r4⟩ := at_row (u := pos l (2 * N.length) i k) hc hn (by rw [hN]; exact pos_lt hi (by omega))
      rw [hN] at r4
      have hH : Has qs P (rw2 N (pos l (2 * N.length) i k)) := ⟨⟨p, r1, r2, r3, r4⟩, b5⟩
      have c1 := cyc o1 (l := l) (k1 := 0) (k2 := k) hi b4 (by omega) (by omega)
      rw [pos_zero hi] at c1
      have c2 := cyc o1 (l := l) (k1 := k) (k2 := k1) hi (by omega) (by omega) (by omega)
      rw [a3] at c2
      by_cases hz : rw2 N (pos l (2 * N.length) i k) = e
      · rw [hz, self] at c2
        omega
      · have := hF.least _ hH c1 hz
        rw [xs_anti] at this
        omega
  exact ⟨k, by omega, b4, he, hP, hl⟩
end Wl
set_option linter.all false
set_option maxRecDepth 1000000
set_option maxHeartbeats 4000000
/-! V6: first_met, as the program works it out. -/
namespace Wl
open PySem PySem.Spec L2 Ev
section
variable {G : Pk}
abbrev envF (B : D) (P : Nat) (L : Int × Int) (W : Str) (N : Nat) (p : Int × Int) (w9 w10 w11 w12 w13 w14 w15 w16 : Option SV) : Ev.Env :=
  [some (.dat B), some (.dat (.int ((P : Nat) : Int))), some (.dat (pr L)), some (.dat (.str W)), some (.loc N), some (.dat (.int L.1)), some (.dat (.int L.2)), some (.dat (.int p.1)), some (.dat (.int p.2)), w9, w10, w11, w12, w13, w14, w15, w16]
def fmE : IE := .tup [(.bin .FloorDiv (.bin .Mult (.bin .Add (.bin .Mult (.slot 5) (.slot 11)) (.bin .Mult (.slot 6) (.slot 12))) (.con ("FINE" : Str))) (.slot 13)), (.slot 10), (.cmp .Gt (.slot 13) (.int 0))]
def fmB : List IS := [(.asg (.nm 11) (.bin .Sub (.slot 15) (.slot 7))), (.asg (.nm 12) (.bin .Sub (.slot 16) (.slot 8))), (.asg (.nm 13) (.bin .Sub (.bin .Mult (.slot 5) (.slot 12)) (.bin .Mult (.slot 6) (.slot 11)))), (.ite (.cmp .NotEq (.slot 13) (.int 0)) [(.app 4 fmE)] [])]
theorem cross_bd {L g : Int × Int} (h : Gp L) (hg : Gp g) : -30000 < crossP L g ∧ crossP L g < 30000 := by
  obtain ⟨h1, h2, h3, h4⟩ := h
  obtain ⟨g1, g2, g3, g4⟩ := hg
  have a := mul_bd (x := L.1) (y := g.2) (m := 99) (k := 99) (by omega) (by omega)
  have b := mul_bd (x := L.2) (y := g.1) (m := 99) (k := 99) (by omega) (by omega)
  simp only [crossP]
  omega
theorem fmB_ok (c : Cs G) (n : Nat) (st : Sto) (B : D) (P : Nat) (L : Int × Int) (hL : Gp L) (W : Str) (p q : Int × Int) (hg : Gp (gapP p q)) (w : Str) (k : Nat) (acc : List F3) (ha : acc.length < 900) (w11 w12 w13 w14 : Option SV) :
    ∃ v11 v12 v13, evSs G (evF G n) [4] fmB (envF B P L W st.length p (some (.dat (.str w))) (some (.dat (.int ((k : Nat) : Int)))) w11 w12 w13 w14 (some (.dat (.int q.1))) (some (.dat (.int q.2)))) (st ++ [acc.map fD]) =
      some (.nx (envF B P L W st.length p (some (.dat (.str w))) (some (.dat (.int ((k : Nat) : Int)))) v11 v12 v13 w14 (some (.dat (.int q.1))) (some (.dat (.int q.2)))) (st ++ [(acc ++ fndR p L k q).map fD])) := by
  obtain ⟨l1, l2, l3, l4⟩ := hL
  have hc := cross_bd ⟨l1, l2, l3, l4⟩ hg
  obtain ⟨g, hgd⟩ : ∃ g, g = gapP p q := ⟨_, rfl⟩
  have s1 : evS G (evF G n) [4] (.asg (.nm 11) (.bin .Sub (.slot 15) (.slot 7))) (envF B P L W st.length p (some (.dat (.str w))) (some (.dat (.int ((k : Nat) : Int)))) w11 w12 w13 w14 (some (.dat (.int q.1))) (some (.dat (.int q.2)))) (st ++ [acc.map fD]) = some (.nx (envF B P L W st.length p (some (.dat (.str w))) (some (.dat (.int ((k : Nat) : Int)))) (some (.dat (.int g.1))) w12 w13 w14 (some (.dat (.int q.1))) (some (.dat (.int q.2)))) (st ++ [acc.map fD])) := by
    refine r_asg (r := .dat (.int g.1) false) (st1 := st ++ [acc.map fD]) ?_
    rw [hgd]
    exact r_bin (d := .int q.1) (e := .int p.1) (r_dat rfl) (r_dat rfl) rfl rfl rfl
  have s2 : evS G (evF G n) [4] (.asg (.nm 12) (.bin .Sub (.slot 16) (.slot 8))) (envF B P L W st.length p (some (.dat (.str w))) (some (.dat (.int ((k : Nat) : Int)))) (some (.dat (.int g.1))) w12 w13 w14 (some (.dat (.int q.1))) (some (.dat (.int q.2)))) (st ++ [acc.map fD]) = some (.nx (envF B P L W st.length p (some (.dat (.str w))) (some (.dat (.int ((k : Nat) : Int)))) (some (.dat (.int g.1))) (some (.dat (.int g.2))) w13 w14 (some (.dat (.int q.1))) (some (.dat (.int q.2)))) (st ++ [acc.map fD])) := by
    refine r_asg (r := .dat (.int g.2) false) (st1 := st ++ [acc.map fD]) ?_
    rw [hgd]
    exact r_bin (d := .int q.2) (e := .int p.2) (r_dat rfl) (r_dat rfl) rfl rfl rfl
  have s3 : evS G (evF G n) [4] (.asg (.nm 13) (.bin .Sub (.bin .Mult (.slot 5) (.slot 12)) (.bin .Mult (.slot 6) (.slot 11)))) (envF B P L W st.length p (some (.dat (.str w))) (some (.dat (.int ((k : Nat) : Int)))) (some (.dat (.int g.1))) (some (.dat (.int g.2))) w13 w14 (some (.dat (.int q.1))) (some (.dat (.int q.2)))) (st ++ [acc.map fD]) = some (.nx (envF B P L W st.length p (some (.dat (.str w))) (some (.dat (.int ((k : Nat) : Int)))) (some (.dat (.int g.1))) (some (.dat (.int g.2))) (some (.dat (.int (crossP L g)))) w14 (some (.dat (.int q.1))) (some (.dat (.int q.2)))) (st ++ [acc.map fD])) := by
    refine r_asg (r := .dat (.int (crossP L g)) false) (st1 := st ++ [acc.map fD]) ?_
    exact (r_bin (d := .int (L.1 * g.2)) (e := .int (L.2 * g.1)) (r_bin (d := .int L.1) (e := .int g.2) (r_dat rfl) (r_dat rfl) rfl rfl (mulK _ _ (by omega))) (r_bin (d := .int L.2) (e := .int g.1) (r_dat rfl) (r_dat rfl) rfl rfl (mulK _ _ (by omega))) rfl rfl rfl)
  have t4 : tstE (evE G (evF G n) (.cmp .NotEq (.slot 13) (.int 0)) (envF B P L W st.length p (some (.dat (.str w))) (some (.dat (.int ((k : Nat) : Int)))) (some (.dat (.int g.1))) (some (.dat (.int g.2))) (some (.dat (.int (crossP L g)))) w14 (some (.dat (.int q.1))) (some (.dat (.int q.2)))) (st ++ [acc.map fD])) = some (decide (crossP L g ≠ 0), st ++ [acc.map fD]) :=
    tst_of (f := false) (r_cmp (d := .int (crossP L g)) (e := .int 0) (r_dat rfl) r_int rfl rfl (neS _ _))
  refine ⟨some (.dat (.int g.1)), some (.dat (.int g.2)), some (.dat (.int (crossP L g))), ?_⟩
  unfold fmB
  rw [evSs_nx s1, evSs_nx s2, evSs_nx s3]
  by_cases hz : crossP L g = 0
  · rw [decide_eq_false (fun z => z hz)] at t4
    have e : fndR p L k q = [] := by
      unfold fndR
      rw [← hgd]
      exact if_pos hz
    rw [e, List.append_nil]
    exact one_nx (r_ite t4 nil_nx)
  · rw [decide_eq_true hz] at t4
    have e : fndR p L k q = [(valP L g, k, decide (0 < crossP L g))] := by
      unfold fndR
      rw [← hgd]
      exact if_neg hz
    have v : evE G (evF G n) fmE (envF B P L W st.length p (some (.dat (.str w))) (some (.dat (.int ((k : Nat) : Int)))) (some (.dat (.int g.1))) (some (.dat (.int g.2))) (some (.dat (.int (crossP L g)))) w14 (some (.dat (.int q.1))) (some (.dat (.int q.2)))) (st ++ [acc.map fD]) = some (.dat (fD (valP L g, k, decide (0 < crossP L g))) false, st ++ [acc.map fD]) := by
      have hd : binD .FloorDiv (.int (dotP L g * 20000)) (.int (crossP L g)) = some (.int (valP L g), false) := fdivS _ _ hz (by rw [hgd]; exact hc.1) (by rw [hgd]; exact hc.2)
      exact r_tup3 (r_bin (d := .int (dotP L g * 20000)) (e := .int (crossP L g)) (r_bin (d := .int (dotP L g)) (e := .int 20000) (r_bin (d := .int (L.1 * g.1)) (e := .int (L.2 * g.2)) (r_bin (d := .int L.1) (e := .int g.1) (r_dat rfl) (r_dat rfl) rfl rfl (mulK _ _ (by omega))) (r_bin (d := .int L.2) (e := .int g.2) (r_dat rfl) (r_dat rfl) rfl rfl (mulK _ _ (by omega))) rfl rfl rfl) (r_con c.fine) rfl rfl (mulS _)) (r_dat rfl) rfl rfl hd) (r_dat rfl) (r_cmp (d := .int (crossP L g)) (e := .int 0) (r_dat rfl) r_int rfl rfl rfl)
    have s := r_app (mu := [4]) (i := 4) (n := st.length) rfl v (get_last st (acc.map fD)) (by rw [List.length_map]; omega)
    rw [set_lastM] at s
    rw [e, List.map_append]
    exact one_nx (r_ite t4 (one_nx s))
theorem fmL_ok (c : Cs G) (n : Nat) (st : Sto) (B : D) (P : Nat) (L : Int × Int) (hL : Gp L) (W : Str) (p : Int × Int) (w14 : Option SV) : ∀ (qs : List (Int × Int)) (ws : List Str) (k : Nat) (acc : List F3) (w9 w10 w11 w12 w13 w15 w16 : Option SV), ws.length = qs.length → (∀ q ∈ qs, Gp (gapP p q)) → acc.length + qs.length < 900 →
    ∃ v9 v10 v11 v12 v13 v15 v16, forL (loF G (evF G n) [4] (.tp [(.nm 10), (.tp [(.nm 15), (.nm 16), (.nm 9)])]) fmB []) (enmD k (zipB qs ws)) (envF B P L W st.length p w9 w10 w11 w12 w13 w14 w15 w16) (st ++ [acc.map fD]) = some (.nx (envF B P L W st.length p v9 v10 v11 v12 v13 w14 v15 v16) (st ++ [(acc ++ fndP p L k qs).map fD]))
  | [], ws, k, acc, w9, w10, w11, w12, w13, w15, w16, _, _, _ => ⟨w9, w10, w11, w12, w13, w15, w16, by simp [zipB, enmD, forL, fndP]⟩
  | _ :: _, [], k, acc, w9, w10, w11, w12, w13, w15, w16, h, _, _ => by simp at h
  | q :: qs, w :: ws, k, acc, w9, w10, w11, w12, w13, w15, w16, h, hg, hk => by
    rw [List.length_cons] at hk
    obtain ⟨u11, u12, u13, e1⟩ := fmB_ok c n st B P L hL W p q (hg q (List.mem_cons_self ..)) w k acc (by omega) w11 w12 w13 w14
    have hl : (fndR p L k q).length ≤ 1 := by unfold fndR; split <;> simp
    obtain ⟨v9, v10, v11, v12, v13, v15, v16, e2⟩ := fmL_ok c n st B P L hL W p w14 qs ws (k + 1) (acc ++ fndR p L k q) (some (.dat (.str w))) (some (.dat (.int ((k : Nat) : Int)))) u11 u12 u13 (some (.dat (.int q.1))) (some (.dat (.int q.2))) (by simpa using h) (fun x hx => hg x (List.mem_cons_of_mem _ hx)) (by rw [List.length_append]; omega)
    refine ⟨v9, v10, v11, v12, v13, v15, v16, ?_⟩
    have hb : bindT (.tp [(.nm 10), (.tp [(.nm 15), (.nm 16), (.nm 9)])]) (.tuple [.int ((k : Nat) : Int), pinD q w]) (envF B P L W st.length p w9 w10 w11 w12 w13 w14 w15 w16) = some (envF B P L W st.length p (some (.dat (.str w))) (some (.dat (.int ((k : Nat) : Int)))) w11 w12 w13 w14 (some (.dat (.int q.1))) (some (.dat (.int q.2)))) := rfl
    show forL _ (.tuple [.int ((k : Nat) : Int), pinD q w] :: enmD (k + 1) (zipB qs ws)) _ _ = _
    rw [forL_nx (loF_nx hb e1 rfl), e2, List.append_assoc]
    rfl
theorem blt_max (x : F3) (ys : List F3) : bltD .max [.list ((x :: ys).map fD)] = some (W.maxD (fD x) (ys.map fD), false) := by
  have h := alk_fD (x :: ys)
  rw [List.map_cons] at h ⊢
  show (if alkB (fD x :: ys.map fD) = true then some (W.maxD (fD x) (ys.map fD), false) else none) = _
  exact if_pos h
theorem blt_min (x : F3) (ys : List F3) : bltD .min [.list ((x :: ys).map fD)] = some (W.minD (fD x) (ys.map fD), false) := by
  have h := alk_fD (x :: ys)
  rw [List.map_cons] at h ⊢
  show (if alkB (fD x :: ys.map fD) = true then some (W.minD (fD x) (ys.map fD), false) else none) = _
  exact if_pos h
theorem eqB (a b : Bool) : cmpD .Eq (.bool a) (.bool b) = some (a == b) := by
  cases a <;> cases b <;> kernel_rfl
def i_first_met : FnD := ⟨4, 17, [4], false,
  [(.asg (.tp [(.nm 5), (.nm 6)]) (.slot 2)), (.asg (.tp [(.nm 7), (.nm 8), (.nm 9)]) (.idx (.slot 0) (.slot 1))), (.asg (.nm 4) (.lst [])), (.loop (.tp [(.nm 10), (.tp [(.nm 15), (.nm 16), (.nm 9)])]) (.enm (.slot 0)) fmB), (.asg (.tp [(.nm 9), (.nm 10), (.nm 14)]) (.ite (.cmp .Eq (.slot 3) (.str ("left" : Str))) (.blt .max [(.slot 4)]) (.blt .min [(.slot 4)]))), (.ret (some (.tup [(.slot 10), (.ite (.cmp .Eq (.slot 14) (.cmp .Eq (.slot 3) (.str ("left" : Str)))) (.str ("ahead" : Str)) (.str ("behind" : Str)))])))]⟩
theorem first_met_ok (hF : G.fn "first_met" = some i_first_met) (c : Cs G) (n : Nat) (st : Sto) (qs : List (Int × Int)) (ws : List Str) (hb : Bo qs ws) (P : Nat) (r0 : Row) (h0 : Has qs P r0) (W : Str) :
    ∃ m : Nat × Bool, m.1 < qs.length ∧ m.1 ≠ P ∧ Fst qs (decide (W = ("left" : Str))) r0.1 P (rowM qs P m) ∧ evF G (n + 1) "first_met" [.dat (boD qs ws), .dat (.int ((P : Nat) : Int)), .dat (pr r0.1), .dat (.str W)] st = some (.dat (metD m) false, st) := by
  have hc := nc_of hb.fit
  have h8 := hb.fit.len
  have hL := gp_row hc h0
  have hP : P < qs.length := by
    obtain ⟨m, h, _⟩ := h0.rowM
    exact h
  have hp : qs[P]? = some qs[P] := List.getElem?_eq_getElem hP
  obtain ⟨x, ys, hf⟩ := fnd_some hc hb.few hp h0
  obtain ⟨m, em, m1, m2, m3⟩ := fst_pick hc hp r0.1 (decide (W = ("left" : Str))) x ys hf
  obtain ⟨w, hw, hz⟩ := zipB_get hb.len hp
  refine ⟨(m.2.1, m.2.2 == decide (W = ("left" : Str))), m1, m2, m3, ?_⟩
  obtain ⟨L, eL⟩ : ∃ L, L = r0.1 := ⟨_, rfl⟩
  rw [← eL] at hf hL ⊢
  obtain ⟨p, ep⟩ : ∃ p, p = qs[P] := ⟨_, rfl⟩
  rw [← ep] at hp hz hf
  have s1 : evS G (evF G n) [4] (.asg (.tp [(.nm 5), (.nm 6)]) (.slot 2)) [some (.dat (boD qs ws)), some (.dat (.int ((P : Nat) : Int))), some (.dat (pr L)), some (.dat (.str W)), none, none, none, none, none, none, none, none, none, none, none, none, none] st = some (.nx [some (.dat (boD qs ws)), some (.dat (.int ((P : Nat) : Int))), some (.dat (pr L)), some (.dat (.str W)), none, some (.dat (.int L.1)), some (.dat (.int L.2)), none, none, none, none, none, none, none, none, none, none] st) := by
    rw [evS, r_dat (d := pr L) rfl]
    rfl
  have s2 : evS G (evF G n) [4] (.asg (.tp [(.nm 7), (.nm 8), (.nm 9)]) (.idx (.slot 0) (.slot 1))) [some (.dat (boD qs ws)), some (.dat (.int ((P : Nat) : Int))), some (.dat (pr L)), some (.dat (.str W)), none, some (.dat (.int L.1)), some (.dat (.int L.2)), none, none, none, none, none, none, none, none, none, none] st = some (.nx [some (.dat (boD qs ws)), some (.dat (.int ((P : Nat) : Int))), some (.dat (pr L)), some (.dat (.str W)), none, some (.dat (.int L.1)), some (.dat (.int L.2)), some (.dat (.int p.1)), some (.dat (.int p.2)), some (.dat (.str w)), none, none, none, none, none, none, none] st) := by
    rw [evS, r_idx (d := boD qs ws) (e := .int ((P : Nat) : Int)) (r_dat rfl) (r_dat rfl) rfl rfl (idx_tup hz)]
    rfl
  have s3 : evS G (evF G n) [4] (.asg (.nm 4) (.lst [])) [some (.dat (boD qs ws)), some (.dat (.int ((P : Nat) : Int))), some (.dat (pr L)), some (.dat (.str W)), none, some (.dat (.int L.1)), some (.dat (.int L.2)), some (.dat (.int p.1)), some (.dat (.int p.2)), some (.dat (.str w)), none, none, none, none, none, none, none] st = some (.nx (envF (boD qs ws) P L W st.length p (some (.dat (.str w))) none none none none none none none) (st ++ [([] : List F3).map fD])) := by
    have h0 : evE G (evF G n) (.lst []) [some (.dat (boD qs ws)), some (.dat (.int ((P : Nat) : Int))), some (.dat (pr L)), some (.dat (.str W)), none, some (.dat (.int L.1)), some (.dat (.int L.2)), some (.dat (.int p.1)), some (.dat (.int p.2)), some (.dat (.str w)), none, none, none, none, none, none, none] st = some (.dat (.list []) true, st) := by
      simp only [evE, evDs]
      exact if_pos (Nat.zero_le _)
    exact r_asg (mu := [4]) (i := 4) h0
  have hI : evI G (evF G n) (.enm (.slot 0)) (envF (boD qs ws) P L W st.length p (some (.dat (.str w))) none none none none none none none) (st ++ [([] : List F3).map fD]) = some (enmD 0 (zipB qs ws), [], st ++ [([] : List F3).map fD]) := r_enm (x := .dat (boD qs ws) false) (r_dat rfl) rfl
  obtain ⟨v9, v10, v11, v12, v13, v15, v16, e4⟩ := fmL_ok c n st (boD qs ws) P L hL W p none qs ws 0 [] (some (.dat (.str w))) none none none none none none hb.len (fun q hq => by
    rw [ep]
    exact gp_in (hb.fit.pl _ (List.getElem_mem hP)) (hb.fit.pl q hq)) (by simp only [List.length_nil]; omega)
  rw [List.nil_append, hf] at e4
  have s4 := (evS_loop (mu := [4]) (t := (.tp [(.nm 10), (.tp [(.nm 15), (.nm 16), (.nm 9)])])) (b := fmB) hI).trans e4
  have tl : ∀ (env : Ev.Env) (s : Sto), env[3]? = some (some (.dat (.str W))) → evE G (evF G n) (.cmp .Eq (.slot 3) (.str ("left" : Str))) env s = some (.dat (.bool (decide (W = ("left" : Str)))) false, s) := fun env s h =>
    r_cmp (d := .str W) (e := .str ("left" : Str)) (r_dat h) r_str rfl rfl rfl
  have v5 : evE G (evF G n) (.ite (.cmp .Eq (.slot 3) (.str ("left" : Str))) (.blt .max [(.slot 4)]) (.blt .min [(.slot 4)])) (envF (boD qs ws) P L W st.length p v9 v10 v11 v12 v13 none v15 v16) (st ++ [(x :: ys).map fD]) = some (.dat (fD m) false, st ++ [(x :: ys).map fD]) := by
    have hr : rdE (st ++ [(x :: ys).map fD]) (.loc st.length) = some (.list ((x :: ys).map fD)) := by
      show ((st ++ [(x :: ys).map fD])[st.length]?).map PyData.list = _
      rw [get_last]
      rfl
    refine r_iteE (tst_of (f := false) (tl _ _ rfl)) ?_
    rw [← em]
    by_cases hl : W = ("left" : Str)
    · rw [decide_eq_true hl]
      simp only [if_true]
      exact r_blt1 (x := .loc st.length) (r_loc rfl) hr (blt_max x ys)
    · rw [decide_eq_false hl]
      simp only [Bool.false_eq_true, if_false]
      exact r_blt1 (x := .loc st.length) (r_loc rfl) hr (blt_min x ys)
  have s5 : evS G (evF G n) [4] (.asg (.tp [(.nm 9), (.nm 10), (.nm 14)]) (.ite (.cmp .Eq (.slot 3) (.str ("left" : Str))) (.blt .max [(.slot 4)]) (.blt .min [(.slot 4)]))) (envF (boD qs ws) P L W st.length p v9 v10 v11 v12 v13 none v15 v16) (st ++ [(x :: ys).map fD]) = some (.nx (envF (boD qs ws) P L W st.length p (some (.dat (.int m.1))) (some (.dat (.int ((m.2.1 : Nat) : Int)))) v11 v12 v13 (some (.dat (.bool m.2.2))) v15 v16) (st ++ [(x :: ys).map fD])) := by
    rw [evS, v5]
    rfl
  have v6 : evE G (evF G n) (.tup [(.slot 10), (.ite (.cmp .Eq (.slot 14) (.cmp .Eq (.slot 3) (.str ("left" : Str)))) (.str ("ahead" : Str)) (.str ("behind" : Str)))]) (envF (boD qs ws) P L W st.length p (some (.dat (.int m.1))) (some (.dat (.int ((m.2.1 : Nat) : Int)))) v11 v12 v13 (some (.dat (.bool m.2.2))) v15 v16) (st ++ [(x :: ys).map fD]) = some (.dat (metD (m.2.1, m.2.2 == decide (W = ("left" : Str)))) false, st ++ [(x :: ys).map fD]) := by
    refine r_tup2 (f2 := false) (r_dat rfl) (r_iteE (tst_of (f := false) (r_cmp (d := .bool m.2.2) (e := .bool (decide (W = ("left" : Str)))) (r_dat rfl) (tl _ _ rfl) rfl rfl (eqB _ _))) ?_)
    cases (m.2.2 == decide (W = ("left" : Str)))
    · exact r_str
    · exact r_str
  rw [evF_s hF rfl]
  refine Eq.trans (congrArg (finF st.length) ((evSs_nx s1).trans ((evSs_nx s2).trans ((evSs_nx s3).trans ((evSs_nx s4).trans ((evSs_nx s5).trans (evSs_rt (ss := []) (r_ret v6)))))))) ?_
  show some (ER.dat _ false, (st ++ [(x :: ys).map fD]).take st.length) = _
  rw [List.take_append_of_le_length (Nat.le_refl _), List.take_length]
end
end Wl
set_option linter.all false
set_option maxRecDepth 1000000
set_option maxHeartbeats 4000000
/-! V7: stands: what holds one, its look. -/
namespace Wl
open PySem PySem.Spec L2 Ev
abbrev Sd := Nat × Nat × Bool
def sdD (s : Sd) : D := .tuple [.int ((s.1 : Nat) : Int), .int ((s.2.1 : Nat) : Int), .str (wordS s.2.2)]
structure St (qs : List (Int × Int)) (s : Sd) : Prop where
  own : s.1 < qs.length
  last : s.2.1 < qs.length
  ne : s.2.1 ≠ s.1
theorem St.has {qs : List (Int × Int)} {s : Sd} (h : St qs s) : Has qs s.1 (rowM qs s.1 s.2) := rowM_has h.own h.last h.ne
theorem nat_ne {i j : Nat} (h : i ≠ j) : ((i : Nat) : Int) ≠ ((j : Nat) : Int) := by omega
theorem word_ahead (b : Bool) : cmpD .Eq (.str (wordS b)) (.str ("ahead" : Str)) = some b := by
  cases b <;> kernel_rfl
theorem word_in (b : Bool) : cmpD .In (.str (wordS b)) (.tuple [.str ("ahead" : Str), .str ("behind" : Str)]) = some true := by
  cases b <;> kernel_rfl
def i_gap : FnD := ⟨2, 2, [], false,
  [(.ret (some (.tup [(.bin .Sub (.idx (.slot 1) (.int 0)) (.idx (.slot 0) (.int 0))), (.bin .Sub (.idx (.slot 1) (.int 1)) (.idx (.slot 0) (.int 1)))])))]⟩
def i_look_of : FnD := ⟨2, 5, [], false,
  [(.asg (.tp [(.nm 2), (.nm 3), (.nm 4)]) (.slot 1)), (.ite (.cmp .Eq (.slot 4) (.str ("ahead" : Str))) [(.ret (some (.call ("gap" : Str) [(.idx (.slot 0) (.slot 2)), (.idx (.slot 0) (.slot 3))])))] []), (.ret (some (.call ("gap" : Str) [(.idx (.slot 0) (.slot 3)), (.idx (.slot 0) (.slot 2))])))]⟩
def i_is_tuple_of : FnD := ⟨2, 2, [], false,
  [(.ret (some (.land (.isi (.slot 0) "tuple") (.cmp .Eq (.blt .len [(.slot 0)]) (.slot 1)))))]⟩
def i_stand_holds : FnD := ⟨2, 5, [], false,
  [(.ite (.no (.call ("is_tuple_of" : Str) [(.slot 1), (.int 3)])) [(.ret (some (.bl false)))] []), (.asg (.tp [(.nm 2), (.nm 3), (.nm 4)]) (.slot 1)), (.ite (.lor (.no (.call ("is_pin_number" : Str) [(.slot 0), (.slot 2)])) (.no (.call ("is_pin_number" : Str) [(.slot 0), (.slot 3)]))) [(.ret (some (.bl false)))] []), (.ret (some (.land (.cmp .NotEq (.slot 2) (.slot 3)) (.cmp .In (.slot 4) (.con ("WORDS" : Str))))))]⟩
def i_need_stand : FnD := ⟨2, 2, [], false,
  [(.ite (.no (.call ("stand_holds" : Str) [(.slot 0), (.slot 1)])) [.nev] [])]⟩
section
variable {G : Pk}
theorem one_fn {f : Str} {F : FnD} {n : Nat} {args : List SV} {st : Sto} {e : IE} {d : D} (hF : G.fn f = some F) (hl : args.length = F.ps) (hb : F.body = [.ret (some e)]) (h : evE G (evF G n) e (args.map some ++ List.replicate (F.len - F.ps) none) st = some (.dat d false, st)) : evF G (n + 1) f args st = some (.dat d false, st) := by
  rw [evF_s hF hl, hb]
  refine Eq.trans (congrArg (finF st.length) (evSs_rt (ss := []) (r_ret h))) ?_
  show some (ER.dat _ false, st.take st.length) = _
  rw [List.take_length]
theorem gap_ok (hF : G.fn "gap" = some i_gap) (n : Nat) (st : Sto) (p q : Int × Int) (w u : Str) : evF G (n + 1) "gap" [.dat (pinD p w), .dat (pinD q u)] st = some (.dat (pr (gapP p q)) false, st) := by
  refine one_fn hF rfl rfl ?_
  exact r_tup2 (r_bin (d := .int q.1) (e := .int p.1) (r_idx (d := pinD q u) (e := .int 0) (r_dat rfl) r_int rfl rfl rfl) (r_idx (d := pinD p w) (e := .int 0) (r_dat rfl) r_int rfl rfl rfl) rfl rfl rfl)
    (r_bin (d := .int q.2) (e := .int p.2) (r_idx (d := pinD q u) (e := .int 1) (r_dat rfl) r_int rfl rfl rfl) (r_idx (d := pinD p w) (e := .int 1) (r_dat rfl) r_int rfl rfl rfl) rfl rfl rfl)
theorem look_of_ok (hF : G.fn "look_of" = some i_look_of) (hG : G.fn "gap" = some i_gap) (n : Nat) (st : Sto) (qs : List (Int × Int)) (ws : List Str) (hl : ws.length = qs.length) (s : Sd) (hs : St qs s) :
    evF G (n + 2) "look_of" [.dat (boD qs ws), .dat (sdD s)] st = some (.dat (pr (rowM qs s.1 s.2).1) false, st) := by
  obtain ⟨own, last, b⟩ := s
  obtain ⟨ho, hla, hne⟩ := hs
  simp only at ho hla hne ⊢
  have po : qs[own]? = some qs[own] := List.getElem?_eq_getElem ho
  have pl : qs[last]? = some qs[last] := List.getElem?_eq_getElem hla
  obtain ⟨wo, _, zo⟩ := zipB_get hl po
  obtain ⟨wl, _, zl⟩ := zipB_get hl pl
  have s1 : evS G (evF G (n + 1)) [] (.asg (.tp [(.nm 2), (.nm 3), (.nm 4)]) (.slot 1)) [some (.dat (boD qs ws)), some (.dat (sdD (own, last, b))), none, none, none] st = some (.nx [some (.dat (boD qs ws)), some (.dat (sdD (own, last, b))), some (.dat (.int ((own : Nat) : Int))), some (.dat (.int ((last : Nat) : Int))), some (.dat (.str (wordS b)))] st) := by
    rw [evS, r_dat (d := sdD (own, last, b)) rfl]
    rfl
  have t : tstE (evE G (evF G (n + 1)) (.cmp .Eq (.slot 4) (.str ("ahead" : Str))) [some (.dat (boD qs ws)), some (.dat (sdD (own, last, b))), some (.dat (.int ((own : Nat) : Int))), some (.dat (.int ((last : Nat) : Int))), some (.dat (.str (wordS b)))] st) = some (b, st) :=
    tst_of (f := false) (r_cmp (d := .str (wordS b)) (e := .str ("ahead" : Str)) (r_dat rfl) r_str rfl rfl (word_ahead b))
  have g1 := gap_ok hG n st qs[own] qs[last] wo wl
  have g2 := gap_ok hG n st qs[last] qs[own] wl wo
  have i2 : ∀ env : Ev.Env, env[0]? = some (some (.dat (boD qs ws))) → env[2]? = some (some (.dat (.int ((own : Nat) : Int)))) → evE G (evF G (n + 1)) (.idx (.slot 0) (.slot 2)) env st = some (.dat (pinD qs[own] wo) false, st) := fun env h h2 => r_idx (d := boD qs ws) (e := .int ((own : Nat) : Int)) (r_dat h) (r_dat h2) rfl rfl (idx_tup zo)
  have i3 : ∀ env : Ev.Env, env[0]? = some (some (.dat (boD qs ws))) → env[3]? = some (some (.dat (.int ((last : Nat) : Int)))) → evE G (evF G (n + 1)) (.idx (.slot 0) (.slot 3)) env st = some (.dat (pinD qs[last] wl) false, st) := fun env h h2 => r_idx (d := boD qs ws) (e := .int ((last : Nat) : Int)) (r_dat h) (r_dat h2) rfl rfl (idx_tup zl)
  have fin : ∀ d : D, finF st.length (some (Fl.rt (.dat d false) st)) = some (ER.dat d false, st) := fun d => by
    show some (ER.dat _ false, st.take st.length) = _
    rw [List.take_length]
  rw [evF_s hF rfl]
  refine Eq.trans (congrArg (finF st.length) (evSs_nx s1)) ?_
  cases b with
  | true =>
    have e : (rowM qs own (last, true)).1 = gapP qs[own] qs[last] := gp_at po pl
    rw [e]
    refine Eq.trans (congrArg (finF st.length) (evSs_rt (r_ite t (evSs_rt (ss := []) (r_ret (r_call2 (i2 _ rfl rfl) (i3 _ rfl rfl) g1)))))) (fin _)
  | false =>
    have e : (rowM qs own (last, false)).1 = gapP qs[last] qs[own] := gp_at pl po
    rw [e]
    refine Eq.trans (congrArg (finF st.length) ((evSs_nx (r_ite t nil_nx)).trans (evSs_rt (ss := []) (r_ret (r_call2 (i3 _ rfl rfl) (i2 _ rfl rfl) g2))))) (fin _)
theorem is_pin_number_ok (hI : G.fn "is_pin_number" = some i_is_pin_number) (hW : G.fn "is_whole" = some i_is_whole) (n : Nat) (st : Sto) (qs : List (Int × Int)) (ws : List Str) (hl : ws.length = qs.length) (k : Nat) (hk : k < qs.length) : evF G (n + 2) "is_pin_number" [.dat (boD qs ws), .dat (.int ((k : Nat) : Int))] st = some (.dat (.bool true) false, st) := by
  refine one_fn hI rfl rfl ?_
  exact r_landT (f := false) (r_call1 (r_dat rfl) (is_whole_ok hW n st _)) (r_cmp2T (d := .int 0) (e := .int (k : Nat)) (f := .int (qs.length : Nat)) r_int (r_dat rfl) rfl rfl (by show some (decide ((0 : Int) ≤ (k : Nat))) = _; rw [decide_eq_true (by omega)]) (r_blt1 (x := .dat (boD qs ws) false) (r_dat rfl) rfl (boD_len hl)) rfl rfl (by show some (decide (((k : Nat) : Int) < (qs.length : Nat))) = _; rw [decide_eq_true (by omega)]))
theorem is_tuple_of_ok (hF : G.fn "is_tuple_of" = some i_is_tuple_of) (n : Nat) (st : Sto) (s : Sd) : evF G (n + 1) "is_tuple_of" [.dat (sdD s), .dat (.int 3)] st = some (.dat (.bool true) false, st) := by
  refine one_fn hF rfl rfl ?_
  exact r_landT (f := false) (r_isi (d := sdD s) (r_dat rfl) rfl (by show kitB "tuple" "tuple" = some true; decide +kernel)) (r_cmp (d := .int 3) (e := .int 3) (r_blt1 (x := .dat (sdD s) false) (r_dat rfl) rfl rfl) (r_dat rfl) rfl rfl (by decide +kernel))
structure Ns (G : Pk) : Prop where
  need : G.fn "need_stand" = some i_need_stand
  holds : G.fn "stand_holds" = some i_stand_holds
  tup : G.fn "is_tuple_of" = some i_is_tuple_of
  ipn : G.fn "is_pin_number" = some i_is_pin_number
  isw : G.fn "is_whole" = some i_is_whole
  words : G.con "WORDS" = some (.tuple [.str ("ahead" : Str), .str ("behind" : Str)])
theorem stand_holds_ok (g : Ns G) (n : Nat) (st : Sto) (qs : List (Int × Int)) (ws : List Str) (hl : ws.length = qs.length) (s : Sd) (hs : St qs s) : evF G (n + 3) "stand_holds" [.dat (boD qs ws), .dat (sdD s)] st = some (.dat (.bool true) false, st) := by
  obtain ⟨own, last, b⟩ := s
  obtain ⟨ho, hla, hne⟩ := hs
  simp only at ho hla hne
  have s1 : evS G (evF G (n + 2)) [] (.ite (.no (.call ("is_tuple_of" : Str) [(.slot 1), (.int 3)])) [(.ret (some (.bl false)))] []) [some (.dat (boD qs ws)), some (.dat (sdD (own, last, b))), none, none, none] st = some (.nx [some (.dat (boD qs ws)), some (.dat (sdD (own, last, b))), none, none, none] st) :=
    r_ite (k := false) (st1 := st) (tst_of (f := false) (r_no (b := true) (tst_of (f := false) (r_call2 (r_dat rfl) r_int (is_tuple_of_ok g.tup (n + 1) st (own, last, b)))))) nil_nx
  have s2 : evS G (evF G (n + 2)) [] (.asg (.tp [(.nm 2), (.nm 3), (.nm 4)]) (.slot 1)) [some (.dat (boD qs ws)), some (.dat (sdD (own, last, b))), none, none, none] st = some (.nx [some (.dat (boD qs ws)), some (.dat (sdD (own, last, b))), some (.dat (.int ((own : Nat) : Int))), some (.dat (.int ((last : Nat) : Int))), some (.dat (.str (wordS b)))] st) := by
    rw [evS, r_dat (d := sdD (own, last, b)) rfl]
    rfl
  have s3 : evS G (evF G (n + 2)) [] (.ite (.lor (.no (.call ("is_pin_number" : Str) [(.slot 0), (.slot 2)])) (.no (.call ("is_pin_number" : Str) [(.slot 0), (.slot 3)]))) [(.ret (some (.bl false)))] []) [some (.dat (boD qs ws)), some (.dat (sdD (own, last, b))), some (.dat (.int ((own : Nat) : Int))), some (.dat (.int ((last : Nat) : Int))), some (.dat (.str (wordS b)))] st = some (.nx [some (.dat (boD qs ws)), some (.dat (sdD (own, last, b))), some (.dat (.int ((own : Nat) : Int))), some (.dat (.int ((last : Nat) : Int))), some (.dat (.str (wordS b)))] st) :=
    r_ite (k := false) (st1 := st) (tst_of (f := false) (r_lorF (f := false) (r_no (b := true) (tst_of (f := false) (r_call2 (r_dat rfl) (r_dat rfl) (is_pin_number_ok g.ipn g.isw n st qs ws hl own ho)))) (r_no (b := true) (tst_of (f := false) (r_call2 (r_dat rfl) (r_dat rfl) (is_pin_number_ok g.ipn g.isw n st qs ws hl last hla)))))) nil_nx
  have v4 : evE G (evF G (n + 2)) (.land (.cmp .NotEq (.slot 2) (.slot 3)) (.cmp .In (.slot 4) (.con ("WORDS" : Str)))) [some (.dat (boD qs ws)), some (.dat (sdD (own, last, b))), some (.dat (.int ((own : Nat) : Int))), some (.dat (.int ((last : Nat) : Int))), some (.dat (.str (wordS b)))] st = some (.dat (.bool true) false, st) :=
    r_landT (f := false) (r_cmp (d := .int ((own : Nat) : Int)) (e := .int ((last : Nat) : Int)) (r_dat rfl) (r_dat rfl) rfl rfl (by rw [neS, decide_eq_true (nat_ne (Ne.symm hne))])) (r_cmp (d := .str (wordS b)) (e := .tuple [.str ("ahead" : Str), .str ("behind" : Str)]) (r_dat rfl) (r_con g.words) rfl rfl (word_in b))
  rw [evF_s g.holds rfl]
  refine Eq.trans (congrArg (finF st.length) ((evSs_nx s1).trans ((evSs_nx s2).trans ((evSs_nx s3).trans (evSs_rt (ss := []) (r_ret v4)))))) ?_
  show some (ER.dat _ false, st.take st.length) = _
  rw [List.take_length]
theorem need_stand_ok (g : Ns G) (n : Nat) (st : Sto) (qs : List (Int × Int)) (ws : List Str) (hl : ws.length = qs.length) (s : Sd) (hs : St qs s) : evF G (n + 4) "need_stand" [.dat (boD qs ws), .dat (sdD s)] st = some (.dat .none false, st) := by
  have h : evS G (evF G (n + 3)) [] (.ite (.no (.call ("stand_holds" : Str) [(.slot 0), (.slot 1)])) [.nev] []) [some (.dat (boD qs ws)), some (.dat (sdD s))] st = some (.nx [some (.dat (boD qs ws)), some (.dat (sdD s))] st) :=
    r_ite (k := false) (st1 := st) (tst_of (f := false) (r_no (b := true) (tst_of (f := false) (r_call2 (r_dat rfl) (r_dat rfl) (stand_holds_ok g n st qs ws hl s hs))))) nil_nx
  rw [evF_s g.need rfl]
  show finF st.length (evSs G (evF G (n + 3)) [] [_] [some (.dat (boD qs ws)), some (.dat (sdD s))] st) = _
  rw [evSs_nx h]
  simp only [evSs, finF, List.take_length]
end
end Wl
set_option linter.all false
set_option maxRecDepth 1000000
set_option maxHeartbeats 4000000
/-! V8: beat and ahead. -/
namespace Wl
open PySem PySem.Spec L2 Ev
def i_stand_met : FnD := ⟨3, 5, [], false,
  [(.asg (.tp [(.nm 3), (.nm 4)]) (.call ("first_met" : Str) [(.slot 0), (.slot 1), (.slot 2), (.idx (.idx (.slot 0) (.slot 1)) (.int 2))])), (.ret (some (.tup [(.slot 3), (.slot 1), (.look ("OTHER_WORD" : Str) (.slot 4))])))]⟩
def i_beat : FnD := ⟨2, 2, [], false,
  [(.exp (.call ("need_board" : Str) [(.slot 0)])), (.exp (.call ("need_stand" : Str) [(.slot 0), (.slot 1)])), (.ret (some (.call ("stand_met" : Str) [(.slot 0), (.idx (.slot 1) (.int 0)), (.call ("look_of" : Str) [(.slot 0), (.slot 1)])])))]⟩
def i_ahead : FnD := ⟨2, 5, [], false,
  [(.exp (.call ("need_board" : Str) [(.slot 0)])), (.exp (.call ("need_stand" : Str) [(.slot 0), (.slot 1)])), (.asg (.nm 2) (.idx (.slot 1) (.int 1))), (.asg (.tp [(.nm 3), (.nm 4)]) (.call ("first_met" : Str) [(.slot 0), (.slot 2), (.call ("look_of" : Str) [(.slot 0), (.slot 1)]), (.look ("OTHER_WAY" : Str) (.idx (.idx (.slot 0) (.slot 2)) (.int 2)))])), (.ret (some (.tup [(.slot 2), (.slot 3), (.slot 4)])))]⟩
def owY : List (Str × D) := [(("left" : Str), (.str ("right" : Str))), (("right" : Str), (.str ("left" : Str)))]
structure Bt (G : Pk) : Prop where
  beat : G.fn "beat" = some i_beat
  ahead : G.fn "ahead" = some i_ahead
  met : G.fn "stand_met" = some i_stand_met
  first : G.fn "first_met" = some i_first_met
  look : G.fn "look_of" = some i_look_of
  gap : G.fn "gap" = some i_gap
  nb : G.fn "need_board" = some i_need_board
  isb : G.fn "is_board" = some i_is_board
  sl : G.fn "many_slopes" = some i_many_slopes
  isp : G.fn "is_pin" = some i_is_pin
  ns : Ns G
  cs : Cs G
  ow : G.dic "OTHER_WORD" = some owW
  oy : G.dic "OTHER_WAY" = some owY
theorem turn_look {w : Str} (h : Wy w) : owY.lookup w = some (.str (turnW w)) := by
  rcases h with rfl | rfl <;> kernel_rfl
theorem turn_left {w : Str} (h : Wy w) : decide (turnW w = ("left" : Str)) = !decide (w = ("left" : Str)) := by
  rcases h with rfl | rfl <;> decide +kernel
theorem rowM_inj {qs : List (Int × Int)} {P : Nat} {m m' : Nat × Bool} (h : m.1 ≠ P) (h' : m'.1 ≠ P) (e : rowM qs P m = rowM qs P m') : m = m' := by
  obtain ⟨j, b⟩ := m
  obtain ⟨j', b'⟩ := m'
  have e1 := congrArg (fun r : Row => r.2.1) e
  have e2 := congrArg (fun r : Row => r.2.2) e
  cases b <;> cases b'
  · have : j = j' := e1
    rw [this]
  · have : j = P := e1
    exact (h this).elim
  · have : P = j' := e1
    exact (h' this.symm).elim
  · have : j = j' := e2
    rw [this]
theorem rowM_swap (qs : List (Int × Int)) (P : Nat) (m : Nat × Bool) : rowM qs m.1 (P, !m.2) = rowM qs P m := by
  obtain ⟨j, b⟩ := m
  cases b <;> rfl
section
variable {G : Pk}
theorem r_call4 {cl : Str → List SV → Sto → Option (ER × Sto)} {f : Str} {a b c e : IE} {env : Ev.Env} {st st1 st2 st3 st4 : Sto} {x y z u : ER} {R : Option (ER × Sto)} (h1 : evE G cl a env st = some (x, st1)) (h2 : evE G cl b env st1 = some (y, st2)) (h3 : evE G cl c env st2 = some (z, st3)) (h4 : evE G cl e env st3 = some (u, st4)) (h5 : cl f [svE x, svE y, svE z, svE u] st4 = R) : evE G cl (.call f [a, b, c, e]) env st = R := by
  rw [evE]
  simp only [evEs, h1, h2, h3, h4]
  exact h5
theorem way_ok (n : Nat) (st : Sto) (qs : List (Int × Int)) (ws : List Str) (hl : ws.length = qs.length) {P : Nat} (hP : P < qs.length) {w : Str} (hw : ws[P]? = some w) {i : Nat} {env : Ev.Env} (h0 : env[0]? = some (some (.dat (boD qs ws)))) (h1 : env[i]? = some (some (.dat (.int ((P : Nat) : Int))))) : evE G (evF G n) (.idx (.idx (.slot 0) (.slot i)) (.int 2)) env st = some (.dat (.str w) false, st) := by
  obtain ⟨u, hu, hz⟩ := zipB_get hl (List.getElem?_eq_getElem hP)
  have : u = w := by rw [hw] at hu; injection hu with hu; exact hu.symm
  subst this
  exact r_idx (d := pinD qs[P] u) (e := .int 2) (r_idx (d := boD qs ws) (e := .int ((P : Nat) : Int)) (r_dat h0) (r_dat h1) rfl rfl (idx_tup hz)) r_int rfl rfl rfl
theorem stand_met_ok (g : Bt G) (n : Nat) (st : Sto) (qs : List (Int × Int)) (ws : List Str) (hb : Bo qs ws) (P : Nat) (r0 : Row) (h0 : Has qs P r0) (w : Str) (hw : ws[P]? = some w) :
    ∃ m : Nat × Bool, m.1 < qs.length ∧ m.1 ≠ P ∧ Fst qs (decide (w = ("left" : Str))) r0.1 P (rowM qs P m) ∧ evF G (n + 2) "stand_met" [.dat (boD qs ws), .dat (.int ((P : Nat) : Int)), .dat (pr r0.1)] st = some (.dat (sdD (m.1, P, !m.2)) false, st) := by
  obtain ⟨m, m1, m2, m3, e⟩ := first_met_ok g.first g.cs n st qs ws hb P r0 h0 w
  refine ⟨m, m1, m2, m3, ?_⟩
  have hP : P < qs.length := by
    obtain ⟨m, h, _⟩ := h0.rowM
    exact h
  have s1 : evS G (evF G (n + 1)) [] (.asg (.tp [(.nm 3), (.nm 4)]) (.call ("first_met" : Str) [(.slot 0), (.slot 1), (.slot 2), (.idx (.idx (.slot 0) (.slot 1)) (.int 2))])) [some (.dat (boD qs ws)), some (.dat (.int ((P : Nat) : Int))), some (.dat (pr r0.1)), none, none] st = some (.nx [some (.dat (boD qs ws)), some (.dat (.int ((P : Nat) : Int))), some (.dat (pr r0.1)), some (.dat (.int ((m.1 : Nat) : Int))), some (.dat (.str (wordS m.2)))] st) := by
    rw [evS, r_call4 (r_dat rfl) (r_dat rfl) (r_dat rfl) (way_ok (n + 1) st qs ws hb.len hP hw rfl rfl) e]
    rfl
  have v2 : evE G (evF G (n + 1)) (.tup [(.slot 3), (.slot 1), (.look ("OTHER_WORD" : Str) (.slot 4))]) [some (.dat (boD qs ws)), some (.dat (.int ((P : Nat) : Int))), some (.dat (pr r0.1)), some (.dat (.int ((m.1 : Nat) : Int))), some (.dat (.str (wordS m.2)))] st = some (.dat (sdD (m.1, P, !m.2)) false, st) :=
    r_tup3 (r_dat rfl) (r_dat rfl) (r_look (r_dat rfl) g.ow (ow_look m.2))
  rw [evF_s g.met rfl]
  refine Eq.trans (congrArg (finF st.length) ((evSs_nx s1).trans (evSs_rt (ss := []) (r_ret v2)))) ?_
  show some (ER.dat _ false, st.take st.length) = _
  rw [List.take_length]
theorem nb_ok (g : Bt G) (n : Nat) (st : Sto) (qs : List (Int × Int)) (ws : List Str) (hb : Bo qs ws) {mu : List Nat} {env : Ev.Env} (h0 : env[0]? = some (some (.dat (boD qs ws)))) : evS G (evF G (n + 3)) mu (.exp (.call ("need_board" : Str) [(.slot 0)])) env st = some (.nx env st) := by
  rw [evS, r_call1 (r_dat h0) (need_board_ok g.nb g.isb g.sl g.isp g.cs n st qs ws hb)]
theorem ns_ok (g : Bt G) (n : Nat) (st : Sto) (qs : List (Int × Int)) (ws : List Str) (hb : Bo qs ws) (s : Sd) (hs : St qs s) {mu : List Nat} {env : Ev.Env} (h0 : env[0]? = some (some (.dat (boD qs ws)))) (h1 : env[1]? = some (some (.dat (sdD s)))) : evS G (evF G (n + 4)) mu (.exp (.call ("need_stand" : Str) [(.slot 0), (.slot 1)])) env st = some (.nx env st) := by
  rw [evS, r_call2 (r_dat h0) (r_dat h1) (need_stand_ok g.ns n st qs ws hb.len s hs)]
theorem beat_ok (g : Bt G) (n : Nat) (st : Sto) (qs : List (Int × Int)) (ws : List Str) (hb : Bo qs ws) (s : Sd) (hs : St qs s) (w : Str) (hw : ws[s.1]? = some w) :
    ∃ m : Nat × Bool, m.1 < qs.length ∧ m.1 ≠ s.1 ∧ Fst qs (decide (w = ("left" : Str))) (rowM qs s.1 s.2).1 s.1 (rowM qs s.1 m) ∧ ∀ st : Sto, evF G (n + 5) "beat" [.dat (boD qs ws), .dat (sdD s)] st = some (.dat (sdD (m.1, s.1, !m.2)) false, st) := by
  have key : ∀ st : Sto, ∃ m : Nat × Bool, m.1 < qs.length ∧ m.1 ≠ s.1 ∧ Fst qs (decide (w = ("left" : Str))) (rowM qs s.1 s.2).1 s.1 (rowM qs s.1 m) ∧ evF G (n + 5) "beat" [.dat (boD qs ws), .dat (sdD s)] st = some (.dat (sdD (m.1, s.1, !m.2)) false, st) := fun st => by
    obtain ⟨m, m1, m2, m3, e⟩ := stand_met_ok g (n + 2) st qs ws hb s.1 (rowM qs s.1 s.2) hs.has w hw
    refine ⟨m, m1, m2, m3, ?_⟩
    have s1 := nb_ok g (n + 1) st qs ws hb (mu := []) (env := [some (.dat (boD qs ws)), some (.dat (sdD s))]) rfl
    have s2 := ns_ok g n st qs ws hb s hs (mu := []) (env := [some (.dat (boD qs ws)), some (.dat (sdD s))]) rfl rfl
    have v3 : evE G (evF G (n + 4)) (.call ("stand_met" : Str) [(.slot 0), (.idx (.slot 1) (.int 0)), (.call ("look_of" : Str) [(.slot 0), (.slot 1)])]) [some (.dat (boD qs ws)), some (.dat (sdD s))] st = some (.dat (sdD (m.1, s.1, !m.2)) false, st) :=
      r_call3 (r_dat rfl) (r_idx (d := sdD s) (e := .int 0) (r := .int ((s.1 : Nat) : Int)) (r_dat rfl) r_int rfl rfl rfl) (r_call2 (r_dat rfl) (r_dat rfl) (look_of_ok g.look g.gap (n + 2) st qs ws hb.len s hs)) e
    rw [evF_s g.beat rfl]
    refine Eq.trans (congrArg (finF st.length) ((evSs_nx s1).trans ((evSs_nx s2).trans (evSs_rt (ss := []) (r_ret v3))))) ?_
    show some (ER.dat _ false, st.take st.length) = _
    rw [List.take_length]
  obtain ⟨m, m1, m2, m3, _⟩ := key st
  refine ⟨m, m1, m2, m3, fun st => ?_⟩
  obtain ⟨m', a1, a2, a3, e⟩ := key st
  have : m' = m := rowM_inj a2 m2 (a3.uniq m3)
  rw [this] at e
  exact e
theorem ahead_ok (g : Bt G) (n : Nat) (st : Sto) (qs : List (Int × Int)) (ws : List Str) (hb : Bo qs ws) (s : Sd) (hs : St qs s) (w : Str) (hw : ws[s.1]? = some w) (hy : Wy w) (m : Nat × Bool) (m1 : m.1 < qs.length) (m2 : m.1 ≠ s.1) (m3 : Fst qs (decide (w = ("left" : Str))) (rowM qs s.1 s.2).1 s.1 (rowM qs s.1 m)) :
    evF G (n + 5) "ahead" [.dat (boD qs ws), .dat (sdD (m.1, s.1, !m.2))] st = some (.dat (sdD s) false, st) := by
  have hc := nc_of hb.fit
  have hs' : St qs (m.1, s.1, !m.2) := ⟨m1, hs.own, Ne.symm m2⟩
  have hM := rowM_has (qs := qs) hs.own m1 m2
  obtain ⟨k, k1, k2, k3, e⟩ := first_met_ok g.first g.cs (n + 3) st qs ws hb s.1 (rowM qs s.1 m) hM (turnW w)
  have hk : k = s.2 := by
    rw [turn_left hy] at k3
    exact rowM_inj k2 hs.ne (k3.uniq (m3.back hc hs.has))
  subst hk
  have el := look_of_ok g.look g.gap (n + 2) st qs ws hb.len (m.1, s.1, !m.2) hs'
  rw [show (rowM qs (m.1, s.1, !m.2).1 (m.1, s.1, !m.2).2) = rowM qs s.1 m from rowM_swap qs s.1 m] at el
  have s1 := nb_ok g (n + 1) st qs ws hb (mu := []) (env := [some (.dat (boD qs ws)), some (.dat (sdD (m.1, s.1, !m.2))), none, none, none]) rfl
  have s2 := ns_ok g n st qs ws hb (m.1, s.1, !m.2) hs' (mu := []) (env := [some (.dat (boD qs ws)), some (.dat (sdD (m.1, s.1, !m.2))), none, none, none]) rfl rfl
  have s3 : evS G (evF G (n + 4)) [] (.asg (.nm 2) (.idx (.slot 1) (.int 1))) [some (.dat (boD qs ws)), some (.dat (sdD (m.1, s.1, !m.2))), none, none, none] st = some (.nx [some (.dat (boD qs ws)), some (.dat (sdD (m.1, s.1, !m.2))), some (.dat (.int ((s.1 : Nat) : Int))), none, none] st) :=
    r_asg (r := .dat (.int ((s.1 : Nat) : Int)) false) (r_idx (d := sdD (m.1, s.1, !m.2)) (e := .int 1) (r_dat rfl) r_int rfl rfl rfl)
  have v4 : evE G (evF G (n + 4)) (.call ("first_met" : Str) [(.slot 0), (.slot 2), (.call ("look_of" : Str) [(.slot 0), (.slot 1)]), (.look ("OTHER_WAY" : Str) (.idx (.idx (.slot 0) (.slot 2)) (.int 2)))]) [some (.dat (boD qs ws)), some (.dat (sdD (m.1, s.1, !m.2))), some (.dat (.int ((s.1 : Nat) : Int))), none, none] st = some (.dat (metD s.2) false, st) :=
    r_call4 (r_dat rfl) (r_dat rfl) (r_call2 (r_dat rfl) (r_dat rfl) el) (r_look (way_ok (n + 4) st qs ws hb.len hs.own hw rfl rfl) g.oy (turn_look hy)) e
  have s4 : evS G (evF G (n + 4)) [] (.asg (.tp [(.nm 3), (.nm 4)]) (.call ("first_met" : Str) [(.slot 0), (.slot 2), (.call ("look_of" : Str) [(.slot 0), (.slot 1)]), (.look ("OTHER_WAY" : Str) (.idx (.idx (.slot 0) (.slot 2)) (.int 2)))])) [some (.dat (boD qs ws)), some (.dat (sdD (m.1, s.1, !m.2))), some (.dat (.int ((s.1 : Nat) : Int))), none, none] st = some (.nx [some (.dat (boD qs ws)), some (.dat (sdD (m.1, s.1, !m.2))), some (.dat (.int ((s.1 : Nat) : Int))), some (.dat (.int ((s.2.1 : Nat) : Int))), some (.dat (.str (wordS s.2.2)))] st) := by
    rw [evS, v4]
    rfl
  have v5 : evE G (evF G (n + 4)) (.tup [(.slot 2), (.slot 3), (.slot 4)]) [some (.dat (boD qs ws)), some (.dat (sdD (m.1, s.1, !m.2))), some (.dat (.int ((s.1 : Nat) : Int))), some (.dat (.int ((s.2.1 : Nat) : Int))), some (.dat (.str (wordS s.2.2)))] st = some (.dat (sdD s) false, st) :=
    r_tup3 (r_dat rfl) (r_dat rfl) (r_dat rfl)
  rw [evF_s g.ahead rfl]
  refine Eq.trans (congrArg (finF st.length) ((evSs_nx s1).trans ((evSs_nx s2).trans ((evSs_nx s3).trans ((evSs_nx s4).trans (evSs_rt (ss := []) (r_ret v5))))))) ?_
  show some (ER.dat _ false, st.take st.length) = _
  rw [List.take_length]
end
end Wl
set_option linter.all false
set_option maxRecDepth 1000000
set_option maxHeartbeats 4000000
/-! V9: where a stand is on the chart. -/
namespace Wl
open PySem PySem.Spec L2 Ev
def i_spot : FnD := ⟨2, 8, [], false,
  [(.asg (.tp [(.nm 3), (.nm 4), (.nm 5)]) (.slot 1)), (.asg (.nm 2) (.ite (.cmp .Eq (.slot 5) (.str ("ahead" : Str))) (.tup [(.slot 3), (.slot 4)]) (.tup [(.slot 4), (.slot 3)]))), (.ret (some (.idx (.lc [(("_law_at" : Str), 6), (("_law_row" : Str), 7)] (.tp [(.nm 6), (.nm 7)]) (.enm (.slot 0)) [(.cmp .Eq (.cut (.slot 7) (some (.int 1)) none) (.slot 2))] (.slot 6)) (.int 0))))]⟩
def spotN (pq : Nat × Nat) : Nat → List Row → List Nat
  | _, [] => []
  | k, r :: rs => (if r.2 = pq then [k] else []) ++ spotN pq (k + 1) rs
theorem spotN_mem (pq : Nat × Nat) : ∀ (rs : List Row) (k i : Nat), i ∈ spotN pq k rs ↔ ∃ j r, rs[j]? = some r ∧ r.2 = pq ∧ i = k + j
  | [], k, i => by simp [spotN]
  | r :: rs, k, i => by
    simp only [spotN, List.mem_append]
    rw [spotN_mem pq rs (k + 1) i]
    constructor
    · rintro (h | ⟨j, x, h1, h2, h3⟩)
      · split at h
        · rename_i he
          exact ⟨0, r, rfl, he, List.mem_singleton.mp h⟩
        · cases h
      · exact ⟨j + 1, x, h1, h2, by omega⟩
    · rintro ⟨j, x, h1, h2, h3⟩
      cases j with
      | zero =>
        have : r = x := by simpa using h1
        subst this
        rw [if_pos h2]
        exact .inl (List.mem_singleton.mpr h3)
      | succ j => exact .inr ⟨j, x, by simpa using h1, h2, by omega⟩
theorem spotN_len (pq : Nat × Nat) : ∀ (rs : List Row) (k : Nat), (spotN pq k rs).length ≤ rs.length
  | [], _ => Nat.le_refl _
  | r :: rs, k => by
    have := spotN_len pq rs (k + 1)
    simp only [spotN, List.length_append, List.length_cons]
    split
    · simp only [List.length_singleton]; omega
    · simp only [List.length_nil]; omega
theorem eqPair (a b : Nat × Nat) : cmpD .Eq (pairD a) (pairD b) = some (decide (a = b)) := by
  have e : PyData.eqv (pairD a) (pairD b) = decide (a = b) := by
    show ((((a.1 : Nat) : Int) == ((b.1 : Nat) : Int)) && ((((a.2 : Nat) : Int) == ((b.2 : Nat) : Int)) && true)) = _
    rw [Bool.eq_iff_iff, Bool.and_eq_true, Bool.and_true, beq_iff_eq, beq_iff_eq, decide_eq_true_eq]
    constructor
    · rintro ⟨h1, h2⟩
      exact Prod.ext (by omega) (by omega)
    · rintro rfl
      exact ⟨rfl, rfl⟩
  have s1 : okSh (pairD a) = true := rfl
  have s2 : okSh (pairD b) = true := rfl
  show (if okSh (pairD a) && okSh (pairD b) then some (PyData.eqv (pairD a) (pairD b)) else none) = _
  rw [s1, s2, e]
  rfl
section
variable {G : Pk}
theorem row_cut {cl : Str → List SV → Sto → Option (ER × Sto)} (r : Row) {a : IE} {env : Ev.Env} {st st1 : Sto} {f : Bool} (h : evE G cl a env st = some (.dat (rowD r) f, st1)) : evE G cl (.cut a (some (.int 1)) none) env st = some (.dat (pairD r.2) false, st1) :=
  r_cutT (x := .dat (rowD r) f) (xs := [pr r.1, .int ((r.2.1 : Nat) : Int), .int ((r.2.2 : Nat) : Int)]) (l := some 1) (h := none) h (r_o r_int) r_o0 rfl
abbrev envT2 (C S : D) (w2 w3 w4 w5 w6 w7 : Option SV) : Ev.Env := [some (.dat C), some (.dat S), w2, w3, w4, w5, w6, w7]
theorem spotL_ok (n : Nat) (st : Sto) (C S : D) (pq : Nat × Nat) (w3 w4 w5 w6 w7 : Option SV) : ∀ (rs : List Row) (k : Nat),
    compL (lcF G (evF G n) [(("_law_at" : Str), 6), (("_law_row" : Str), 7)] (.tp [(.nm 6), (.nm 7)]) [(.cmp .Eq (.cut (.slot 7) (some (.int 1)) none) (.slot 2))] (.slot 6) (envT2 C S (some (.dat (pairD pq))) w3 w4 w5 w6 w7) []) (enmD k (rs.map rowD)) st = some (intsN (spotN pq k rs), st)
  | [], _ => rfl
  | r :: rs, k => by
    have ih := spotL_ok n st C S pq w3 w4 w5 w6 w7 rs (k + 1)
    have hb : bindT (.tp [(.nm 6), (.nm 7)]) (.tuple [.int ((k : Nat) : Int), rowD r]) (wipeE (envT2 C S (some (.dat (pairD pq))) w3 w4 w5 w6 w7) ([(("_law_at" : Str), 6), (("_law_row" : Str), 7)].map (·.2))) = some (envT2 C S (some (.dat (pairD pq))) w3 w4 w5 (some (.dat (.int ((k : Nat) : Int)))) (some (.dat (rowD r)))) := rfl
    have hc : evCs G (evF G n) [(.cmp .Eq (.cut (.slot 7) (some (.int 1)) none) (.slot 2))] (envT2 C S (some (.dat (pairD pq))) w3 w4 w5 (some (.dat (.int ((k : Nat) : Int)))) (some (.dat (rowD r)))) st = some (decide (r.2 = pq), st) :=
      r_cs (tst_of (f := false) (r_cmp (d := pairD r.2) (e := pairD pq) (row_cut r (r_dat rfl)) (r_dat rfl) rfl rfl (eqPair _ _)))
    show compL _ (.tuple [.int ((k : Nat) : Int), rowD r] :: enmD (k + 1) (rs.map rowD)) st = _
    by_cases h : r.2 = pq
    · rw [decide_eq_true h] at hc
      have e : spotN pq k (r :: rs) = [k] ++ spotN pq (k + 1) rs := by
        simp only [spotN]
        rw [if_pos h]
      rw [e]
      exact compL_cons (lcF_yes hb hc (r_dat rfl) rfl) ih
    · rw [decide_eq_false h] at hc
      have e : spotN pq k (r :: rs) = [] ++ spotN pq (k + 1) rs := by
        simp only [spotN]
        rw [if_neg h]
      rw [e]
      exact compL_cons (lcF_no hb hc rfl) ih
abbrev chD (qs : List (Int × Int)) : D := .list (((chart2 qs).1 ++ (chart2 qs).2).map rowD)
theorem spot_ok (hF : G.fn "_law_spot" = some i_spot) (n : Nat) (st : Sto) (qs : List (Int × Int)) (hc : NC qs) (hn : qs.length ≤ 8) (s : Sd) (hs : St qs s) :
    ∃ i, i < 2 * (chart2 qs).1.length ∧ rw2 (chart2 qs).1 i = rowM qs s.1 s.2 ∧ ∀ st : Sto, evF G (n + 1) "_law_spot" [.dat (chD qs), .dat (sdD s)] st = some (.dat (.int ((i : Nat) : Int)) false, st) := by
  obtain ⟨own, last, b⟩ := s
  obtain ⟨pq, hpq⟩ : ∃ pq : Nat × Nat, pq = if b then (own, last) else (last, own) := ⟨_, rfl⟩
  have hrow : rowM qs own (last, b) = rowOf qs pq := by
    rw [hpq]
    cases b <;> rfl
  have hC : (chart2 qs).1 ++ (chart2 qs).2 = (chart2 qs).1 ++ (chart2 qs).1.map flipR := by rw [far_flip hc hn]
  obtain ⟨u, hu, eu⟩ := has_at hc hn hs.has
  have eu : rowM qs own (last, b) = rw2 (chart2 qs).1 u := eu
  have hmem : u ∈ spotN pq 0 ((chart2 qs).1 ++ (chart2 qs).2) := by
    rw [spotN_mem, hC]
    exact ⟨u, rw2 (chart2 qs).1 u, rw2_get hu, by rw [← eu, hrow]; rfl, (Nat.zero_add u).symm⟩
  obtain ⟨i, js, hij⟩ : ∃ i js, spotN pq 0 ((chart2 qs).1 ++ (chart2 qs).2) = i :: js := by
    cases h : spotN pq 0 ((chart2 qs).1 ++ (chart2 qs).2) with
    | nil => rw [h] at hmem; cases hmem
    | cons i js => exact ⟨i, js, rfl⟩
  have hi : i ∈ spotN pq 0 ((chart2 qs).1 ++ (chart2 qs).2) := by rw [hij]; exact List.mem_cons_self ..
  rw [spotN_mem, hC] at hi
  obtain ⟨j, r, h1, h2, h3⟩ := hi
  have hij0 : i = j := by omega
  subst hij0
  have hi2 : i < 2 * (chart2 qs).1.length := by
    have := (List.getElem?_eq_some_iff.mp h1).1
    rw [List.length_append, List.length_map] at this
    omega
  have hr : rw2 (chart2 qs).1 i = r := by
    rw [rw2_get hi2] at h1
    injection h1
  refine ⟨i, hi2, ?_, fun st => ?_⟩
  · obtain ⟨p, _, _, _, ep⟩ := at_row hc hn hi2
    have e2 : p = pq := by
      rw [hr] at ep
      rw [ep] at h2
      exact h2
    rw [ep, e2]
    exact hrow.symm
  · have s1 : evS G (evF G n) [] (.asg (.tp [(.nm 3), (.nm 4), (.nm 5)]) (.slot 1)) (envT2 (chD qs) (sdD (own, last, b)) none none none none none none) st = some (.nx (envT2 (chD qs) (sdD (own, last, b)) none (some (.dat (.int ((own : Nat) : Int)))) (some (.dat (.int ((last : Nat) : Int)))) (some (.dat (.str (wordS b)))) none none) st) := by
      rw [evS, r_dat (d := sdD (own, last, b)) rfl]
      rfl
    have t : tstE (evE G (evF G n) (.cmp .Eq (.slot 5) (.str ("ahead" : Str))) (envT2 (chD qs) (sdD (own, last, b)) none (some (.dat (.int ((own : Nat) : Int)))) (some (.dat (.int ((last : Nat) : Int)))) (some (.dat (.str (wordS b)))) none none) st) = some (b, st) :=
      tst_of (f := false) (r_cmp (d := .str (wordS b)) (e := .str ("ahead" : Str)) (r_dat rfl) r_str rfl rfl (word_ahead b))
    have v2 : evE G (evF G n) (.ite (.cmp .Eq (.slot 5) (.str ("ahead" : Str))) (.tup [(.slot 3), (.slot 4)]) (.tup [(.slot 4), (.slot 3)])) (envT2 (chD qs) (sdD (own, last, b)) none (some (.dat (.int ((own : Nat) : Int)))) (some (.dat (.int ((last : Nat) : Int)))) (some (.dat (.str (wordS b)))) none none) st = some (.dat (pairD pq) false, st) := by
      refine r_iteE t ?_
      rw [hpq]
      cases b
      · exact r_tup2 (r_dat rfl) (r_dat rfl)
      · exact r_tup2 (r_dat rfl) (r_dat rfl)
    have s2 : evS G (evF G n) [] (.asg (.nm 2) (.ite (.cmp .Eq (.slot 5) (.str ("ahead" : Str))) (.tup [(.slot 3), (.slot 4)]) (.tup [(.slot 4), (.slot 3)]))) (envT2 (chD qs) (sdD (own, last, b)) none (some (.dat (.int ((own : Nat) : Int)))) (some (.dat (.int ((last : Nat) : Int)))) (some (.dat (.str (wordS b)))) none none) st = some (.nx (envT2 (chD qs) (sdD (own, last, b)) (some (.dat (pairD pq))) (some (.dat (.int ((own : Nat) : Int)))) (some (.dat (.int ((last : Nat) : Int)))) (some (.dat (.str (wordS b)))) none none) st) := by
      rw [r_asg v2]
      rfl
    have hI : evI G (evF G n) (.enm (.slot 0)) (envT2 (chD qs) (sdD (own, last, b)) (some (.dat (pairD pq))) (some (.dat (.int ((own : Nat) : Int)))) (some (.dat (.int ((last : Nat) : Int)))) (some (.dat (.str (wordS b)))) none none) st = some (enmD 0 (((chart2 qs).1 ++ (chart2 qs).2).map rowD), [], st) := r_enm (x := .dat (chD qs) false) (r_dat rfl) rfl
    have hl := rows_len hc hn
    have v3 := evE_lc hI (spotL_ok (G := G) n st (chD qs) (sdD (own, last, b)) pq (some (.dat (.int ((own : Nat) : Int)))) (some (.dat (.int ((last : Nat) : Int)))) (some (.dat (.str (wordS b)))) none none ((chart2 qs).1 ++ (chart2 qs).2) 0) (by
      have := spotN_len pq ((chart2 qs).1 ++ (chart2 qs).2) 0
      rw [PySem.sizeLine_eq]
      unfold intsN
      rw [List.length_map]
      omega)
    rw [hij] at v3
    have v4 := r_idx (r := .int ((i : Nat) : Int)) v3 (r_int (i := 0)) rfl rfl (idx_list (k := 0) rfl)
    rw [evF_s hF rfl]
    refine Eq.trans (congrArg (finF st.length) ((evSs_nx s1).trans ((evSs_nx s2).trans (evSs_rt (ss := []) (r_ret v4))))) ?_
    show some (ER.dat _ false, st.take st.length) = _
    rw [List.take_length]
end
end Wl
set_option linter.all false
set_option maxRecDepth 1000000
set_option maxHeartbeats 4000000
/-! V10: going round the chart; a step by it. -/
namespace Wl
open PySem PySem.Spec L2 Ev
def wmC : IE := .cmp .NotIn (.slot 1) (.cut (.idx (.slot 0) (.slot 4)) (some (.int 1)) none)
def wmB : List IS := [(.asg (.nm 4) (.bin .Mod (.bin .Add (.slot 4) (.slot 3)) (.blt .len [(.slot 0)])))]
def i_met : FnD := ⟨4, 8, [], false,
  [(.asg (.nm 4) (.bin .Mod (.bin .Add (.slot 2) (.slot 3)) (.blt .len [(.slot 0)]))), (.whl wmC wmB), (.asg (.tp [(.nm 5), (.nm 6), (.nm 7)]) (.idx (.slot 0) (.slot 4))), (.ret (some (.ite (.cmp .Eq (.slot 6) (.slot 1)) (.tup [(.slot 4), (.slot 7), (.str ("ahead" : Str))]) (.tup [(.slot 4), (.slot 6), (.str ("behind" : Str))]))))]⟩
def i_step : FnD := ⟨3, 8, [], false,
  [(.asg (.nm 3) (.idx (.slot 2) (.int 0))), (.asg (.nm 4) (.idx (.lst [(.neg (.int 1)), (.int 1)]) (.blt .int [(.cmp .Eq (.idx (.idx (.slot 0) (.slot 3)) (.int 2)) (.str ("left" : Str)))]))), (.asg (.tp [(.nm 5), (.nm 6), (.nm 7)]) (.call ("_law_met" : Str) [(.slot 1), (.slot 3), (.call ("_law_spot" : Str) [(.slot 1), (.slot 2)]), (.slot 4)])), (.ret (some (.tup [(.slot 6), (.slot 3), (.ite (.cmp .Eq (.slot 7) (.str ("ahead" : Str))) (.str ("behind" : Str)) (.str ("ahead" : Str)))])))]⟩
def stI (l : Bool) : Int := if l then 1 else -1
theorem ninN (pin i j : Nat) : cmpD .NotIn (.int ((pin : Nat) : Int)) (.tuple [.int ((i : Nat) : Int), .int ((j : Nat) : Int)]) = some (!decide (i = pin ∨ j = pin)) := by
  have e : ([PyData.int ((i : Nat) : Int), PyData.int ((j : Nat) : Int)].any fun z => PyData.eqv z (.int ((pin : Nat) : Int))) = decide (i = pin ∨ j = pin) := by
    simp only [List.any_cons, List.any_nil, Bool.or_false]
    show ((((i : Nat) : Int) == ((pin : Nat) : Int)) || (((j : Nat) : Int) == ((pin : Nat) : Int))) = _
    rw [Bool.eq_iff_iff, Bool.or_eq_true, beq_iff_eq, beq_iff_eq, decide_eq_true_eq]
    constructor <;> intro h <;> omega
  have s1 : okSh (.int ((pin : Nat) : Int)) = true := rfl
  have s2 : okSh (.tuple [.int ((i : Nat) : Int), .int ((j : Nat) : Int)]) = true := rfl
  show (if okSh (.int ((pin : Nat) : Int)) && okSh (.tuple [.int ((i : Nat) : Int), .int ((j : Nat) : Int)]) then some (![PyData.int ((i : Nat) : Int), PyData.int ((j : Nat) : Int)].any fun z => PyData.eqv z (.int ((pin : Nat) : Int))) else none) = _
  rw [s1, s2, e]
  rfl
section
variable {G : Pk}
theorem ch_len {qs : List (Int × Int)} (hc : NC qs) (hn : qs.length ≤ 8) : bltD .len [chD qs] = some (.int ((2 * (chart2 qs).1.length : Nat) : Int), false) := by
  show some (PyData.int ((((chart2 qs).1 ++ (chart2 qs).2).map rowD).length : Nat), false) = _
  rw [List.length_map, far_flip hc hn, List.length_append, List.length_map, show (chart2 qs).1.length + (chart2 qs).1.length = 2 * (chart2 qs).1.length by omega]
theorem ch_at {qs : List (Int × Int)} (hc : NC qs) (hn : qs.length ≤ 8) {u : Nat} (hu : u < 2 * (chart2 qs).1.length) : idxD (chD qs) (.int ((u : Nat) : Int)) = some (rowD (rw2 (chart2 qs).1 u)) := by
  refine idx_list ?_
  rw [List.getElem?_map, far_flip hc hn, rw2_get hu]
  rfl
abbrev envM2 (C : D) (P i : Nat) (l : Bool) (u : Nat) (w5 w6 w7 : Option SV) : Ev.Env := [some (.dat C), some (.dat (.int ((P : Nat) : Int))), some (.dat (.int ((i : Nat) : Int))), some (.dat (.int (stI l))), some (.dat (.int ((u : Nat) : Int))), w5, w6, w7]
theorem modM (a : Int) (M : Nat) (h : 0 < M) : binD .Mod (.int a) (.int ((M : Nat) : Int)) = some (.int (a % ((M : Nat) : Int)), false) := by
  show (if (0 : Int) < ((M : Nat) : Int) then some (PyData.int (a % ((M : Nat) : Int)), false) else none) = _
  exact if_pos (by omega)
theorem wmB_ok (n : Nat) (st : Sto) (qs : List (Int × Int)) (hc : NC qs) (hn : qs.length ≤ 8) (P i : Nat) (l : Bool) (k : Nat) (hi : i < 2 * (chart2 qs).1.length) (hk : k < 2 * (chart2 qs).1.length) (w5 w6 w7 : Option SV) :
    evSs G (evF G n) [] wmB (envM2 (chD qs) P i l (pos l (2 * (chart2 qs).1.length) i k) w5 w6 w7) st = some (.nx (envM2 (chD qs) P i l (pos l (2 * (chart2 qs).1.length) i (k + 1)) w5 w6 w7) st) := by
  have v : evE G (evF G n) (.bin .Mod (.bin .Add (.slot 4) (.slot 3)) (.blt .len [(.slot 0)])) (envM2 (chD qs) P i l (pos l (2 * (chart2 qs).1.length) i k) w5 w6 w7) st = some (.dat (.int ((pos l (2 * (chart2 qs).1.length) i (k + 1) : Nat) : Int)) false, st) := by
    rw [← pos_next hi hk]
    exact r_bin (d := .int (((pos l (2 * (chart2 qs).1.length) i k : Nat) : Int) + stI l)) (e := .int ((2 * (chart2 qs).1.length : Nat) : Int)) (r_bin (d := .int ((pos l (2 * (chart2 qs).1.length) i k : Nat) : Int)) (e := .int (stI l)) (r_dat rfl) (r_dat rfl) rfl rfl rfl) (r_blt1 (x := .dat (chD qs) false) (r_dat rfl) rfl (ch_len hc hn)) rfl rfl (modM _ _ (by omega))
  unfold wmB
  exact one_nx (r_asg v)
theorem wmC_ok (n : Nat) (st : Sto) (qs : List (Int × Int)) (hc : NC qs) (hn : qs.length ≤ 8) (P i : Nat) (l : Bool) (u : Nat) (hu : u < 2 * (chart2 qs).1.length) (w5 w6 w7 : Option SV) :
    tstE (evE G (evF G n) wmC (envM2 (chD qs) P i l u w5 w6 w7) st) = some (!decide (InR P (rw2 (chart2 qs).1 u)), st) :=
  tst_of (f := false) (r_cmp (d := .int ((P : Nat) : Int)) (e := pairD (rw2 (chart2 qs).1 u).2) (r_dat rfl) (row_cut (rw2 (chart2 qs).1 u) (r_idx (d := chD qs) (e := .int ((u : Nat) : Int)) (r_dat rfl) (r_dat rfl) rfl rfl (ch_at hc hn hu))) rfl rfl (ninN _ _ _))
theorem wm_ok (n : Nat) (st : Sto) (qs : List (Int × Int)) (hc : NC qs) (hn : qs.length ≤ 8) (P i : Nat) (l : Bool) (hi : i < 2 * (chart2 qs).1.length) (w5 w6 w7 : Option SV) (K : Nat) (hK : K < 2 * (chart2 qs).1.length) (hin : InR P (rw2 (chart2 qs).1 (pos l (2 * (chart2 qs).1.length) i K))) :
    ∀ (d k fuel : Nat), k + d = K → (∀ j, k ≤ j → j < K → ¬ InR P (rw2 (chart2 qs).1 (pos l (2 * (chart2 qs).1.length) i j))) → d < fuel →
      whlL (fun env st => tstE (evE G (evF G n) wmC env st)) (fun env st => evSs G (evF G n) [] wmB env st) fuel (envM2 (chD qs) P i l (pos l (2 * (chart2 qs).1.length) i k) w5 w6 w7) st = some (.nx (envM2 (chD qs) P i l (pos l (2 * (chart2 qs).1.length) i K) w5 w6 w7) st)
  | 0, k, fuel, hd, hno, hf => by
    obtain ⟨f, rfl⟩ : ∃ f, fuel = f + 1 := ⟨fuel - 1, by omega⟩
    have hk : k = K := by omega
    subst hk
    have t := wmC_ok (G := G) n st qs hc hn P i l (pos l (2 * (chart2 qs).1.length) i k) (pos_lt hi (by omega)) w5 w6 w7
    rw [decide_eq_true hin] at t
    rw [whlL, t]
    rfl
  | d + 1, k, fuel, hd, hno, hf => by
    obtain ⟨f, rfl⟩ : ∃ f, fuel = f + 1 := ⟨fuel - 1, by omega⟩
    have t := wmC_ok (G := G) n st qs hc hn P i l (pos l (2 * (chart2 qs).1.length) i k) (pos_lt hi (by omega)) w5 w6 w7
    rw [decide_eq_false (hno k (Nat.le_refl _) (by omega))] at t
    have ih := wm_ok n st qs hc hn P i l hi w5 w6 w7 K hK hin d (k + 1) f (by omega) (fun j h1 h2 => hno j (by omega) h2) (by omega)
    rw [whlL, t]
    simp only [Bool.not_false]
    rw [wmB_ok n st qs hc hn P i l k hi (by omega)]
    exact ih
theorem met2_ok (hF : G.fn "_law_met" = some i_met) (hW : 200 ≤ G.wf) (n : Nat) (st : Sto) (qs : List (Int × Int)) (hc : NC qs) (hn : qs.length ≤ 8) (l : Bool) (P i : Nat) (hi : i < 2 * (chart2 qs).1.length) (m : Nat × Bool) (hm : m.1 ≠ P) (hF2 : Fst qs l (rw2 (chart2 qs).1 i).1 P (rowM qs P m)) :
    ∃ u : Nat, evF G (n + 1) "_law_met" [.dat (chD qs), .dat (.int ((P : Nat) : Int)), .dat (.int ((i : Nat) : Int)), .dat (.int (stI l))] st = some (.dat (sdD (u, m.1, m.2)) false, st) := by
  obtain ⟨K, k1, k2, k3, k4, k5⟩ := walk_first hc hn l hi hF2
  have nl := near_len hc hn
  refine ⟨pos l (2 * (chart2 qs).1.length) i K, ?_⟩
  have hu := pos_lt (l := l) (k := K) hi (by omega)
  have v1 : evE G (evF G n) (.bin .Mod (.bin .Add (.slot 2) (.slot 3)) (.blt .len [(.slot 0)])) [some (.dat (chD qs)), some (.dat (.int ((P : Nat) : Int))), some (.dat (.int ((i : Nat) : Int))), some (.dat (.int (stI l))), none, none, none, none] st = some (.dat (.int ((pos l (2 * (chart2 qs).1.length) i (0 + 1) : Nat) : Int)) false, st) := by
    rw [← pos_next hi (by omega), pos_zero hi]
    exact r_bin (d := .int (((i : Nat) : Int) + stI l)) (e := .int ((2 * (chart2 qs).1.length : Nat) : Int)) (r_bin (d := .int ((i : Nat) : Int)) (e := .int (stI l)) (r_dat rfl) (r_dat rfl) rfl rfl rfl) (r_blt1 (x := .dat (chD qs) false) (r_dat rfl) rfl (ch_len hc hn)) rfl rfl (modM _ _ (by omega))
  have s1 : evS G (evF G n) [] (.asg (.nm 4) (.bin .Mod (.bin .Add (.slot 2) (.slot 3)) (.blt .len [(.slot 0)]))) [some (.dat (chD qs)), some (.dat (.int ((P : Nat) : Int))), some (.dat (.int ((i : Nat) : Int))), some (.dat (.int (stI l))), none, none, none, none] st = some (.nx (envM2 (chD qs) P i l (pos l (2 * (chart2 qs).1.length) i (0 + 1)) none none none) st) := r_asg v1
  have s2 : evS G (evF G n) [] (.whl wmC wmB) (envM2 (chD qs) P i l (pos l (2 * (chart2 qs).1.length) i (0 + 1)) none none none) st = some (.nx (envM2 (chD qs) P i l (pos l (2 * (chart2 qs).1.length) i K) none none none) st) := by
    have q := wm_ok (G := G) n st qs hc hn P i l hi none none none K (by omega) (by rw [k3]; exact k4) (K - 1) 1 G.wf (by omega) (fun j h1 h2 => k5 j (by omega) h2) (by omega)
    rw [evS]
    exact q
  have v3 : evE G (evF G n) (.idx (.slot 0) (.slot 4)) (envM2 (chD qs) P i l (pos l (2 * (chart2 qs).1.length) i K) none none none) st = some (.dat (rowD (rowM qs P m)) false, st) := by
    have := ch_at hc hn hu
    rw [k3] at this
    exact r_idx (d := chD qs) (e := .int ((pos l (2 * (chart2 qs).1.length) i K : Nat) : Int)) (r_dat rfl) (r_dat rfl) rfl rfl this
  generalize pos l (2 * (chart2 qs).1.length) i K = u at s2 v3
  obtain ⟨r, hr⟩ : ∃ r, r = rowM qs P m := ⟨_, rfl⟩
  rw [← hr] at v3
  have s3 : evS G (evF G n) [] (.asg (.tp [(.nm 5), (.nm 6), (.nm 7)]) (.idx (.slot 0) (.slot 4))) (envM2 (chD qs) P i l u none none none) st = some (.nx (envM2 (chD qs) P i l u (some (.dat (pr r.1))) (some (.dat (.int ((r.2.1 : Nat) : Int)))) (some (.dat (.int ((r.2.2 : Nat) : Int))))) st) := by
    rw [evS, v3]
    rfl
  have t4 : tstE (evE G (evF G n) (.cmp .Eq (.slot 6) (.slot 1)) (envM2 (chD qs) P i l u (some (.dat (pr r.1))) (some (.dat (.int ((r.2.1 : Nat) : Int)))) (some (.dat (.int ((r.2.2 : Nat) : Int))))) st) = some (decide (r.2.1 = P), st) :=
    tst_of (f := false) (r_cmp (d := .int ((r.2.1 : Nat) : Int)) (e := .int ((P : Nat) : Int)) (r_dat rfl) (r_dat rfl) rfl rfl (eqN _ _))
  have v4 : evE G (evF G n) (.ite (.cmp .Eq (.slot 6) (.slot 1)) (.tup [(.slot 4), (.slot 7), (.str ("ahead" : Str))]) (.tup [(.slot 4), (.slot 6), (.str ("behind" : Str))])) (envM2 (chD qs) P i l u (some (.dat (pr r.1))) (some (.dat (.int ((r.2.1 : Nat) : Int)))) (some (.dat (.int ((r.2.2 : Nat) : Int))))) st = some (.dat (sdD (u, m.1, m.2)) false, st) := by
    refine r_iteE t4 ?_
    obtain ⟨j, b⟩ := m
    cases b with
    | true =>
      have e1 : r.2.1 = P := by rw [hr]; rfl
      have e2 : r.2.2 = j := by rw [hr]; rfl
      rw [decide_eq_true e1, e2]
      exact r_tup3 (r_dat rfl) (r_dat rfl) r_str
    | false =>
      have e1 : r.2.1 = j := by rw [hr]; rfl
      rw [decide_eq_false (by rw [e1]; exact hm), e1]
      exact r_tup3 (r_dat rfl) (r_dat rfl) r_str
  rw [evF_s hF rfl]
  refine Eq.trans (congrArg (finF st.length) ((evSs_nx s1).trans ((evSs_nx s2).trans ((evSs_nx s3).trans (evSs_rt (ss := []) (r_ret v4)))))) ?_
  show some (ER.dat _ false, st.take st.length) = _
  rw [List.take_length]
theorem r_neg {cl : Str → List SV → Sto → Option (ER × Sto)} {a : IE} {env : Ev.Env} {st st1 : Sto} {i : Int} {f : Bool} (h : evE G cl a env st = some (.dat (.int i) f, st1)) : evE G cl (.neg a) env st = some (.dat (.int (-i)) false, st1) := by
  rw [evE, h]
theorem r_lst2 {cl : Str → List SV → Sto → Option (ER × Sto)} {a b : IE} {env : Ev.Env} {st st1 st2 : Sto} {d e : D} {f1 f2 : Bool} (h1 : evE G cl a env st = some (.dat d f1, st1)) (h2 : evE G cl b env st1 = some (.dat e f2, st2)) : evE G cl (.lst [a, b]) env st = some (.dat (.list [d, e]) true, st2) := by
  have hl : [d, e].length ≤ sizeLine := by rw [PySem.sizeLine_eq]; simp
  rw [evE, evDs, h1]
  simp only
  rw [evDs, h2]
  simp only [evDs]
  exact if_pos hl
theorem step_ok (hF : G.fn "_law_step" = some i_step) (hM : G.fn "_law_met" = some i_met) (hS : G.fn "_law_spot" = some i_spot) (hW : 200 ≤ G.wf) (n : Nat) (st : Sto) (qs : List (Int × Int)) (ws : List Str) (hb : Bo qs ws) (s : Sd) (hs : St qs s) (w : Str) (hw : ws[s.1]? = some w) (m : Nat × Bool) (m2 : m.1 ≠ s.1) (m3 : Fst qs (decide (w = ("left" : Str))) (rowM qs s.1 s.2).1 s.1 (rowM qs s.1 m)) :
    evF G (n + 2) "_law_step" [.dat (boD qs ws), .dat (chD qs), .dat (sdD s)] st = some (.dat (sdD (m.1, s.1, !m.2)) false, st) := by
  have hc := nc_of hb.fit
  have h8 := hb.fit.len
  obtain ⟨i, hi, ei, hsp⟩ := spot_ok hS n st qs hc h8 s hs
  rw [← ei] at m3
  obtain ⟨u, hmet⟩ := met2_ok hM hW n st qs hc h8 (decide (w = ("left" : Str))) s.1 i hi m m2 m3
  have s1 : evS G (evF G (n + 1)) [] (.asg (.nm 3) (.idx (.slot 2) (.int 0))) [some (.dat (boD qs ws)), some (.dat (chD qs)), some (.dat (sdD s)), none, none, none, none, none] st = some (.nx [some (.dat (boD qs ws)), some (.dat (chD qs)), some (.dat (sdD s)), some (.dat (.int ((s.1 : Nat) : Int))), none, none, none, none] st) :=
    r_asg (r := .dat (.int ((s.1 : Nat) : Int)) false) (r_idx (d := sdD s) (e := .int 0) (r_dat rfl) r_int rfl rfl rfl)
  have v2 : evE G (evF G (n + 1)) (.idx (.lst [(.neg (.int 1)), (.int 1)]) (.blt .int [(.cmp .Eq (.idx (.idx (.slot 0) (.slot 3)) (.int 2)) (.str ("left" : Str)))])) [some (.dat (boD qs ws)), some (.dat (chD qs)), some (.dat (sdD s)), some (.dat (.int ((s.1 : Nat) : Int))), none, none, none, none] st = some (.dat (.int (stI (decide (w = ("left" : Str))))) false, st) := by
    refine r_idx (d := .list [.int (-1), .int 1]) (e := .int (if (decide (w = ("left" : Str))) = true then 1 else 0)) (r_lst2 (r_neg r_int) r_int) (r_blt1 (x := .dat (.bool (decide (w = ("left" : Str)))) false) (d := .bool (decide (w = ("left" : Str)))) (r_cmp (d := .str w) (e := .str ("left" : Str)) (way_ok (n + 1) st qs ws hb.len hs.own hw rfl rfl) r_str rfl rfl rfl) rfl rfl) rfl rfl ?_
    cases decide (w = ("left" : Str))
    · rfl
    · rfl
  have s2 : evS G (evF G (n + 1)) [] (.asg (.nm 4) (.idx (.lst [(.neg (.int 1)), (.int 1)]) (.blt .int [(.cmp .Eq (.idx (.idx (.slot 0) (.slot 3)) (.int 2)) (.str ("left" : Str)))]))) [some (.dat (boD qs ws)), some (.dat (chD qs)), some (.dat (sdD s)), some (.dat (.int ((s.1 : Nat) : Int))), none, none, none, none] st = some (.nx [some (.dat (boD qs ws)), some (.dat (chD qs)), some (.dat (sdD s)), some (.dat (.int ((s.1 : Nat) : Int))), some (.dat (.int (stI (decide (w = ("left" : Str)))))), none, none, none] st) := r_asg v2
  have v3 : evE G (evF G (n + 1)) (.call ("_law_met" : Str) [(.slot 1), (.slot 3), (.call ("_law_spot" : Str) [(.slot 1), (.slot 2)]), (.slot 4)]) [some (.dat (boD qs ws)), some (.dat (chD qs)), some (.dat (sdD s)), some (.dat (.int ((s.1 : Nat) : Int))), some (.dat (.int (stI (decide (w = ("left" : Str)))))), none, none, none] st = some (.dat (sdD (u, m.1, m.2)) false, st) :=
    r_call4 (r_dat rfl) (r_dat rfl) (r_call2 (r_dat rfl) (r_dat rfl) (hsp st)) (r_dat rfl) hmet
  have s3 : evS G (evF G (n + 1)) [] (.asg (.tp [(.nm 5), (.nm 6), (.nm 7)]) (.call ("_law_met" : Str) [(.slot 1), (.slot 3), (.call ("_law_spot" : Str) [(.slot 1), (.slot 2)]), (.slot 4)])) [some (.dat (boD qs ws)), some (.dat (chD qs)), some (.dat (sdD s)), some (.dat (.int ((s.1 : Nat) : Int))), some (.dat (.int (stI (decide (w = ("left" : Str)))))), none, none, none] st = some (.nx [some (.dat (boD qs ws)), some (.dat (chD qs)), some (.dat (sdD s)), some (.dat (.int ((s.1 : Nat) : Int))), some (.dat (.int (stI (decide (w = ("left" : Str)))))), some (.dat (.int ((u : Nat) : Int))), some (.dat (.int ((m.1 : Nat) : Int))), some (.dat (.str (wordS m.2)))] st) := by
    rw [evS, v3]
    rfl
  have v4 : evE G (evF G (n + 1)) (.tup [(.slot 6), (.slot 3), (.ite (.cmp .Eq (.slot 7) (.str ("ahead" : Str))) (.str ("behind" : Str)) (.str ("ahead" : Str)))]) [some (.dat (boD qs ws)), some (.dat (chD qs)), some (.dat (sdD s)), some (.dat (.int ((s.1 : Nat) : Int))), some (.dat (.int (stI (decide (w = ("left" : Str)))))), some (.dat (.int ((u : Nat) : Int))), some (.dat (.int ((m.1 : Nat) : Int))), some (.dat (.str (wordS m.2)))] st = some (.dat (sdD (m.1, s.1, !m.2)) false, st) := by
    refine r_tup3 (f3 := false) (r_dat rfl) (r_dat rfl) (r_iteE (tst_of (f := false) (r_cmp (d := .str (wordS m.2)) (e := .str ("ahead" : Str)) (r_dat rfl) r_str rfl rfl (word_ahead m.2))) ?_)
    cases m.2
    · exact r_str
    · exact r_str
  rw [evF_s hF rfl]
  refine Eq.trans (congrArg (finF st.length) ((evSs_nx s1).trans ((evSs_nx s2).trans ((evSs_nx s3).trans (evSs_rt (ss := []) (r_ret v4)))))) ?_
  show some (ER.dat _ false, st.take st.length) = _
  rw [List.take_length]
end
end Wl
set_option linter.all false
set_option maxRecDepth 1000000
set_option maxHeartbeats 4000000
/-! V11: all stands of a board. -/
namespace Wl
open PySem PySem.Spec L2 Ev
def sdI : IE := .bin .Add (.slot 1) (.lst [(.tup [(.slot 2), (.slot 3), (.str ("ahead" : Str))]), (.tup [(.slot 2), (.slot 3), (.str ("behind" : Str))])])
def soI : II := .of (.lc [(("_law_last" : Str), 3)] (.nm 3) (.rng [(.blt .len [(.slot 0)])]) [(.cmp .NotEq (.slot 3) (.slot 2))] (.slot 3))
def i_stands : FnD := ⟨1, 4, [], false,
  [(.asg (.nm 1) (.lst [])), (.loop (.nm 2) (.rng [(.blt .len [(.slot 0)])]) [(.loop (.nm 3) soI [(.asg (.nm 1) sdI)])]), (.ret (some (.slot 1)))]⟩
def sdsP (own : Nat) (js : List Nat) : List Sd := js.flatMap fun j => [(own, j, true), (own, j, false)]
theorem sdsP_len (own : Nat) : ∀ js : List Nat, (sdsP own js).length = 2 * js.length
  | [] => rfl
  | j :: js => by
    have := sdsP_len own js
    simp only [sdsP, List.flatMap_cons, List.length_append, List.length_cons, List.length_nil] at this ⊢
    omega
theorem nat_neq (k one : Nat) : cmpD .NotEq (.int ((k : Nat) : Int)) (.int ((one : Nat) : Int)) = some (decide (k ≠ one)) := by
  rw [neS]
  congr 1
  rw [Bool.eq_iff_iff, decide_eq_true_eq, decide_eq_true_eq]
  constructor <;> intro h <;> omega
theorem okRep_sd2 {s : Sd} (h1 : s.1 < 8) (h2 : s.2.1 < 8) : okRep (.list [sdD s, sdD s]) = true := by
  obtain ⟨i1, i2, i3⟩ := short_int (i := ((s.1 : Nat) : Int)) (by omega) (by omega)
  obtain ⟨j1, j2, j3⟩ := short_int (i := ((s.2.1 : Nat) : Int)) (by omega) (by omega)
  obtain ⟨s1, s2⟩ := short_word s.2.2
  have c : ∀ {ds : List D} {w : Nat}, Nice ds w → Nice (sdD s :: ds) (100 + 1 + w) := fun h => h.cons (d := sdD s) (w2 := 100) (show3 i2 j2) rfl (by decide : (1 : Nat) ≤ 3) (lv3 i1 j1 s1) (by unfold sdD; rw [wt3]; omega)
  exact (c (c .nil)).lst (by omega)
section
variable {G : Pk}
abbrev env4 (B : D) (acc : List Sd) (w2 w3 : Option SV) : Ev.Env := [some (.dat B), some (.dat (.list (acc.map sdD))), w2, w3]
theorem oth4_ok (n : Nat) (B : D) (acc : List Sd) (own : Nat) (w3 : Option SV) (st : Sto) : ∀ ks : List Nat,
    compL (lcF G (evF G n) [(("_law_last" : Str), 3)] (.nm 3) [(.cmp .NotEq (.slot 3) (.slot 2))] (.slot 3) (env4 B acc (some (.dat (.int ((own : Nat) : Int)))) w3) []) (intsN ks) st = some (intsN (ks.filter fun j => decide (j ≠ own)), st)
  | [] => rfl
  | k :: ks => by
    have ih := oth4_ok n B acc own w3 st ks
    have hb : bindT (.nm 3) (.int ((k : Nat) : Int)) (wipeE (env4 B acc (some (.dat (.int ((own : Nat) : Int)))) w3) ([(("_law_last" : Str), 3)].map (·.2))) = some (env4 B acc (some (.dat (.int ((own : Nat) : Int)))) (some (.dat (.int ((k : Nat) : Int))))) := rfl
    have ht : evCs G (evF G n) [(.cmp .NotEq (.slot 3) (.slot 2))] (env4 B acc (some (.dat (.int ((own : Nat) : Int)))) (some (.dat (.int ((k : Nat) : Int))))) st = some (decide (k ≠ own), st) :=
      r_cs (tst_of (f := false) (r_cmp (d := .int ((k : Nat) : Int)) (e := .int ((own : Nat) : Int)) (r_dat rfl) (r_dat rfl) rfl rfl (nat_neq k own)))
    show compL _ (PyData.int ((k : Nat) : Int) :: intsN ks) st = _
    by_cases hx : k ≠ own
    · rw [decide_eq_true hx] at ht
      rw [compL_cons (lcF_yes hb ht (r_dat rfl) rfl) ih, List.filter_cons_of_pos (by simpa using hx)]
      rfl
    · rw [decide_eq_false hx] at ht
      rw [compL_cons (lcF_no hb ht rfl) ih, List.filter_cons_of_neg (by simpa using hx)]
      rfl
theorem soI_ok (n : Nat) (st : Sto) (qs : List (Int × Int)) (ws : List Str) (hl : ws.length = qs.length) (hn : qs.length ≤ 8) (acc : List Sd) (own : Nat) (w3 : Option SV) :
    evI G (evF G n) soI (env4 (boD qs ws) acc (some (.dat (.int ((own : Nat) : Int)))) w3) st = some (intsN (othersN qs.length own), [], st) := by
  have hb : evE G (evF G n) (.blt .len [(.slot 0)]) (env4 (boD qs ws) acc (some (.dat (.int ((own : Nat) : Int)))) w3) st = some (.dat (.int (qs.length : Nat)) false, st) := r_blt1 (r_dat rfl) rfl (boD_len hl)
  have hI := rngL (G := G) n qs.length (by omega) (.blt .len [(.slot 0)]) _ _ hb
  have hv := evE_lc (own := [(("_law_last" : Str), 3)]) hI (oth4_ok (G := G) n (boD qs ws) acc own w3 st (List.range' 0 qs.length)) (by
    rw [PySem.sizeLine_eq]
    unfold intsN
    rw [List.length_map]
    have := List.length_filter_le (fun j => decide (j ≠ own)) (List.range' 0 qs.length)
    rw [List.length_range'] at this
    omega)
  exact r_of hv rfl
theorem sds_in (n : Nat) (st : Sto) (B : D) (own : Nat) : ∀ (js : List Nat) (acc : List Sd) (w3 : Option SV), acc.length + 2 * js.length ≤ 900 →
    ∃ v3, forL (loF G (evF G n) [] (.nm 3) [(.asg (.nm 1) sdI)] []) (intsN js) (env4 B acc (some (.dat (.int ((own : Nat) : Int)))) w3) st = some (.nx (env4 B (acc ++ sdsP own js) (some (.dat (.int ((own : Nat) : Int)))) v3) st)
  | [], acc, w3, _ => ⟨w3, by simp [sdsP, intsN, forL]⟩
  | j :: js, acc, w3, h => by
    rw [List.length_cons] at h
    obtain ⟨v3, e⟩ := sds_in n st B own js (acc ++ [(own, j, true), (own, j, false)]) (some (.dat (.int ((j : Nat) : Int)))) (by rw [List.length_append]; simp only [List.length_cons, List.length_nil]; omega)
    refine ⟨v3, ?_⟩
    have hadd : binD .Add (.list (acc.map sdD)) (.list [sdD (own, j, true), sdD (own, j, false)]) = some (.list ((acc ++ [(own, j, true), (own, j, false)]).map sdD), true) := by
      have hz : (acc.map sdD).length + [sdD (own, j, true), sdD (own, j, false)].length ≤ sizeLine := by
        rw [PySem.sizeLine_eq, List.length_map]
        simp only [List.length_cons, List.length_nil]
        omega
      simp only [binD]
      rw [if_pos hz, List.map_append]
      rfl
    have v : evE G (evF G n) sdI (env4 B acc (some (.dat (.int ((own : Nat) : Int)))) (some (.dat (.int ((j : Nat) : Int))))) st = some (.dat (.list ((acc ++ [(own, j, true), (own, j, false)]).map sdD)) true, st) :=
      r_bin (d := .list (acc.map sdD)) (e := .list [sdD (own, j, true), sdD (own, j, false)]) (r_dat rfl) (r_lst2 (r_tup3 (r_dat rfl) (r_dat rfl) r_str) (r_tup3 (r_dat rfl) (r_dat rfl) r_str)) rfl rfl hadd
    have s : evSs G (evF G n) [] [(.asg (.nm 1) sdI)] (env4 B acc (some (.dat (.int ((own : Nat) : Int)))) (some (.dat (.int ((j : Nat) : Int))))) st = some (.nx (env4 B (acc ++ [(own, j, true), (own, j, false)]) (some (.dat (.int ((own : Nat) : Int)))) (some (.dat (.int ((j : Nat) : Int))))) st) := one_nx (r_asg v)
    have e2 : acc ++ sdsP own (j :: js) = (acc ++ [(own, j, true), (own, j, false)]) ++ sdsP own js := by
      rw [List.append_assoc]
      rfl
    show forL _ (PyData.int ((j : Nat) : Int) :: intsN js) _ _ = _
    rw [forL_nx (loF_nx (s' := st) (e := env4 B (acc ++ [(own, j, true), (own, j, false)]) (some (.dat (.int ((own : Nat) : Int)))) (some (.dat (.int ((j : Nat) : Int))))) (env1 := env4 B acc (some (.dat (.int ((own : Nat) : Int)))) (some (.dat (.int ((j : Nat) : Int))))) rfl s rfl), e2]
    exact e
theorem sds_out (n : Nat) (st : Sto) (qs : List (Int × Int)) (ws : List Str) (hl : ws.length = qs.length) (hn : qs.length ≤ 8) : ∀ (is : List Nat) (acc : List Sd) (w2 w3 : Option SV), acc.length + 16 * is.length ≤ 300 → (∀ s ∈ acc, St qs s) → (∀ i ∈ is, i < qs.length) →
    ∃ ss v2 v3, (∀ s ∈ ss, St qs s) ∧ ss.length ≤ acc.length + 16 * is.length ∧ forL (loF G (evF G n) [] (.nm 2) [(.loop (.nm 3) soI [(.asg (.nm 1) sdI)])] []) (intsN is) (env4 (boD qs ws) acc w2 w3) st = some (.nx (env4 (boD qs ws) ss v2 v3) st)
  | [], acc, w2, w3, _, ha, _ => ⟨acc, w2, w3, ha, by omega, rfl⟩
  | i :: is, acc, w2, w3, h, ha, hi => by
    rw [List.length_cons] at h
    have hi0 := hi i (List.mem_cons_self ..)
    have ho := othersN_len qs.length i
    obtain ⟨u3, e1⟩ := sds_in (G := G) n st (boD qs ws) i (othersN qs.length i) acc w3 (by omega)
    have hl2 := sdsP_len i (othersN qs.length i)
    obtain ⟨ss, v2, v3, h1, h2, e2⟩ := sds_out n st qs ws hl hn is (acc ++ sdsP i (othersN qs.length i)) (some (.dat (.int ((i : Nat) : Int)))) u3 (by rw [List.length_append]; omega) (fun s hs => by
      rcases List.mem_append.mp hs with h | h
      · exact ha s h
      · obtain ⟨j, hj, hm⟩ := List.mem_flatMap.mp h
        have hjl := othersN_lt hj
        have hjn : j ≠ i := by simpa using (List.mem_filter.mp hj).2
        rcases List.mem_cons.mp hm with rfl | hm
        · exact ⟨hi0, hjl, hjn⟩
        · rw [List.mem_singleton.mp hm]
          exact ⟨hi0, hjl, hjn⟩) (fun x hx => hi x (List.mem_cons_of_mem _ hx))
    refine ⟨ss, v2, v3, h1, by rw [List.length_append] at h2; rw [List.length_cons]; omega, ?_⟩
    have s := one_nx ((evS_loop (mu := []) (t := .nm 3) (b := [(.asg (.nm 1) sdI)]) (soI_ok (G := G) n st qs ws hl hn acc i w3)).trans e1)
    show forL _ (PyData.int ((i : Nat) : Int) :: intsN is) _ _ = _
    rw [forL_nx (loF_nx (s' := st) (e := env4 (boD qs ws) (acc ++ sdsP i (othersN qs.length i)) (some (.dat (.int ((i : Nat) : Int)))) u3) (env1 := env4 (boD qs ws) acc (some (.dat (.int ((i : Nat) : Int)))) w3) rfl s rfl)]
    exact e2
theorem stands_ok (hF : G.fn "_law_stands" = some i_stands) (n : Nat) (st : Sto) (qs : List (Int × Int)) (ws : List Str) (hl : ws.length = qs.length) (hn : qs.length ≤ 8) :
    ∃ ss : List Sd, (∀ s ∈ ss, St qs s) ∧ evF G (n + 1) "_law_stands" [.dat (boD qs ws)] st = some (.dat (.list (ss.map sdD)) false, st) := by
  have h0 : evE G (evF G n) (.lst []) [some (.dat (boD qs ws)), none, none, none] st = some (.dat (.list []) true, st) := by
    simp only [evE, evDs]
    exact if_pos (Nat.zero_le _)
  have s1 : evS G (evF G n) [] (.asg (.nm 1) (.lst [])) [some (.dat (boD qs ws)), none, none, none] st = some (.nx (env4 (boD qs ws) [] none none) st) := r_asg h0
  have hI := rngL (G := G) n qs.length (by omega) (.blt .len [(.slot 0)]) (env4 (boD qs ws) [] none none) st (r_blt1 (x := .dat (boD qs ws) false) (r_dat rfl) rfl (boD_len hl))
  obtain ⟨ss, v2, v3, h1, _, e⟩ := sds_out (G := G) n st qs ws hl hn (List.range' 0 qs.length) [] none none (by rw [List.length_range']; simp only [List.length_nil]; omega) (fun s hs => by cases hs) (fun i hi => by rw [List.mem_range'_1] at hi; omega)
  have s2 := (evS_loop (mu := []) (t := .nm 2) (b := [(.loop (.nm 3) soI [(.asg (.nm 1) sdI)])]) hI).trans e
  refine ⟨ss, h1, ?_⟩
  rw [evF_s hF rfl]
  refine Eq.trans (congrArg (finF st.length) ((evSs_nx s1).trans ((evSs_nx s2).trans (evSs_rt (ss := []) (r_ret (r_dat rfl)))))) ?_
  show some (ER.dat _ false, st.take st.length) = _
  rw [List.take_length]
end
end Wl
set_option linter.all false
set_option maxRecDepth 1000000
set_option maxHeartbeats 4000000
/-! V12: the law of beats, whole. -/
namespace Wl
open PySem PySem.Spec L2 Ev
structure Lb (G : Pk) (nm nw : Str) : Prop where
  bt : Bt G
  board : G.fn "_law_board" = some (i_bo nm nw)
  fits : G.fn "_law_fits" = some i_fits
  cross : G.fn "_law_cross" = some i_cross
  far : G.fn "_law_far" = some i_far
  draw : G.fn "_law_draw" = some i_draw
  chart : G.fn "_law_chart" = some i_chart
  stands : G.fn "_law_stands" = some i_stands
  step : G.fn "_law_step" = some i_step
  met : G.fn "_law_met" = some i_met
  spot : G.fn "_law_spot" = some i_spot
  same : G.fn "_law_same" = some i_same
  pen : G.fn "_law_pen" = some i_pen
  cell : G.fn "_law_cell_at" = some i_cell_at
  wf : 200 ≤ G.wf
def sStep : IS := .asg (.nm 8) (.call ("_law_step" : Str) [(.slot 4), (.slot 6), (.slot 5)])
def sBeat : IS := .ite (.no (.call ("_law_same" : Str) [(.lst [(.call ("beat" : Str) [(.slot 4), (.slot 5)]), (.call ("beat" : Str) [(.slot 4), (.slot 5)])]), (.lst [(.slot 8), (.slot 8)])])) [(.ret (some (.bl false)))] []
def sAhead : IS := .ite (.no (.call ("_law_same" : Str) [(.lst [(.call ("ahead" : Str) [(.slot 4), (.slot 8)]), (.call ("ahead" : Str) [(.slot 4), (.slot 8)])]), (.lst [(.slot 5), (.slot 5)])])) [(.ret (some (.bl false)))] []
def sBo : IS := .asg (.nm 4) (.call ("_law_board" : Str) [(.slot 2), (.idx (.lst [(.int 8), (.int 5)]) (.slot 3))])
def sCh : IS := .par [6, 7] [(.call ("_law_chart" : Str) [(.slot 4)]), (.blt .rep [(.slot 4)])]
def sSt : IS := .loop (.nm 5) (.of (.call ("_law_stands" : Str) [(.slot 4)])) [sStep, sBeat, sAhead]
def sKp : IS := .ite (.cmp .NotEq (.blt .rep [(.slot 4)]) (.slot 7)) [(.ret (some (.bl false)))] []
section
variable {G : Pk}
abbrev envZ (ns : List Int) (k : Int) (P : Nat) (lap B : D) (w5 : Option SV) (C K : D) (w8 : Option SV) : Ev.Env := [some (.scr ns), some (.dat (.int k)), some (.loc P), some (.dat lap), some (.dat B), w5, some (.dat C), some (.dat K), w8]
theorem stB_ok {nm nw : Str} (g : Lb G nm nw) (n : Nat) (st : Sto) (qs : List (Int × Int)) (ws : List Str) (hb : Bo qs ws) (ns : List Int) (k : Int) (P : Nat) (lap K : D) (w8 : Option SV) (s : Sd) (hs : St qs s) :
    ∃ v8, evSs G (evF G (n + 5)) [2] [sStep, sBeat, sAhead] (envZ ns k P lap (boD qs ws) (some (.dat (sdD s))) (chD qs) K w8) st = some (.nx (envZ ns k P lap (boD qs ws) (some (.dat (sdD s))) (chD qs) K v8) st) := by
  have h8 := hb.fit.len
  obtain ⟨w, hw, _⟩ := zipB_get hb.len (List.getElem?_eq_getElem hs.own)
  have hy : Wy w := hb.wy w (List.mem_of_getElem? hw)
  obtain ⟨m, m1, m2, m3, hbt⟩ := beat_ok g.bt n st qs ws hb s hs w hw
  have hah := ahead_ok g.bt n st qs ws hb s hs w hw hy m m1 m2 m3
  have hst := step_ok g.step g.met g.spot g.wf (n + 3) st qs ws hb s hs w hw m m2 m3
  have ok1 : okRep (.list [sdD (m.1, s.1, !m.2), sdD (m.1, s.1, !m.2)]) = true := okRep_sd2 (s := (m.1, s.1, !m.2)) (by show m.1 < 8; omega) (by show s.1 < 8; have := hs.own; omega)
  have ok2 : okRep (.list [sdD s, sdD s]) = true := okRep_sd2 (by have := hs.own; omega) (by have := hs.last; omega)
  obtain ⟨X, hX⟩ : ∃ X, X = sdD (m.1, s.1, !m.2) := ⟨_, rfl⟩
  obtain ⟨S, hS⟩ : ∃ S, S = sdD s := ⟨_, rfl⟩
  rw [← hX] at hbt hah hst ok1
  rw [← hS] at hbt hah hst ok2 ⊢
  refine ⟨some (.dat X), ?_⟩
  have s1 : evS G (evF G (n + 5)) [2] sStep (envZ ns k P lap (boD qs ws) (some (.dat S)) (chD qs) K w8) st = some (.nx (envZ ns k P lap (boD qs ws) (some (.dat S)) (chD qs) K (some (.dat X))) st) := by
    have hc : evE G (evF G (n + 5)) (.call ("_law_step" : Str) [(.slot 4), (.slot 6), (.slot 5)]) (envZ ns k P lap (boD qs ws) (some (.dat S)) (chD qs) K w8) st = some (.dat X false, st) := r_call3 (r_dat rfl) (r_dat rfl) (r_dat rfl) hst
    unfold sStep
    rw [r_asg hc, hX]
    rfl
  obtain ⟨E, hE⟩ : ∃ E : Ev.Env, E = envZ ns k P lap (boD qs ws) (some (.dat S)) (chD qs) K (some (.dat X)) := ⟨_, rfl⟩
  have g4 : E[4]? = some (some (.dat (boD qs ws))) := by rw [hE]; rfl
  have g5 : E[5]? = some (some (.dat S)) := by rw [hE]; rfl
  have g8 : E[8]? = some (some (.dat X)) := by rw [hE]; rfl
  have l1 : evE G (evF G (n + 5)) (.lst [(.call ("beat" : Str) [(.slot 4), (.slot 5)]), (.call ("beat" : Str) [(.slot 4), (.slot 5)])]) E st = some (.dat (.list [X, X]) true, st) :=
    r_lst2 (r_call2 (r_dat g4) (r_dat g5) (hbt st)) (r_call2 (r_dat g4) (r_dat g5) (hbt st))
  have l2 : evE G (evF G (n + 5)) (.lst [(.slot 8), (.slot 8)]) E st = some (.dat (.list [X, X]) true, st) := r_lst2 (r_dat g8) (r_dat g8)
  have l3 : evE G (evF G (n + 5)) (.lst [(.call ("ahead" : Str) [(.slot 4), (.slot 8)]), (.call ("ahead" : Str) [(.slot 4), (.slot 8)])]) E st = some (.dat (.list [S, S]) true, st) :=
    r_lst2 (r_call2 (r_dat g4) (r_dat g8) hah) (r_call2 (r_dat g4) (r_dat g8) hah)
  have l4 : evE G (evF G (n + 5)) (.lst [(.slot 5), (.slot 5)]) E st = some (.dat (.list [S, S]) true, st) := r_lst2 (r_dat g5) (r_dat g5)
  have q1 := same_ok g.same (n + 4) st (.list [X, X]) ok1
  have q2 := same_ok g.same (n + 4) st (.list [S, S]) ok2
  have t1 := tst_of (f := false) (r_no (b := true) (tst_of (f := false) (r_call2 (f := ("_law_same" : Str)) l1 l2 q1)))
  have t2 := tst_of (f := false) (r_no (b := true) (tst_of (f := false) (r_call2 (f := ("_law_same" : Str)) l3 l4 q2)))
  have s2 : evS G (evF G (n + 5)) [2] sBeat E st = some (.nx E st) := r_ite (G := G) (mu := [2]) (a := [(.ret (some (.bl false)))]) (b := []) t1 nil_nx
  have s3 : evS G (evF G (n + 5)) [2] sAhead E st = some (.nx E st) := r_ite (G := G) (mu := [2]) (a := [(.ret (some (.bl false)))]) (b := []) t2 nil_nx
  rw [evSs_nx s1, ← hE, evSs_nx s2]
  exact one_nx s3
theorem stL_ok {nm nw : Str} (g : Lb G nm nw) (n : Nat) (st : Sto) (qs : List (Int × Int)) (ws : List Str) (hb : Bo qs ws) (ns : List Int) (k : Int) (P : Nat) (lap K : D) : ∀ (ss : List Sd) (w5 w8 : Option SV), (∀ s ∈ ss, St qs s) →
    ∃ v5 v8, forL (loF G (evF G (n + 5)) [2] (.nm 5) [sStep, sBeat, sAhead] []) (ss.map sdD) (envZ ns k P lap (boD qs ws) w5 (chD qs) K w8) st = some (.nx (envZ ns k P lap (boD qs ws) v5 (chD qs) K v8) st)
  | [], w5, w8, _ => ⟨w5, w8, rfl⟩
  | s :: ss, w5, w8, h => by
    obtain ⟨u8, e⟩ := stB_ok g n st qs ws hb ns k P lap K w8 s (h s (List.mem_cons_self ..))
    obtain ⟨v5, v8, e2⟩ := stL_ok g n st qs ws hb ns k P lap K ss (some (.dat (sdD s))) u8 fun x hx => h x (List.mem_cons_of_mem _ hx)
    refine ⟨v5, v8, ?_⟩
    rw [List.map_cons, forL_nx (loF_nx (s' := st) (e := envZ ns k P lap (boD qs ws) (some (.dat (sdD s))) (chD qs) K u8) (env1 := envZ ns k P lap (boD qs ws) (some (.dat (sdD s))) (chD qs) K w8) rfl e rfl)]
    exact e2
abbrev envY (ns : List Int) (k : Int) (P : Nat) (w3 w4 w5 w6 w7 w8 : Option SV) : Ev.Env := [some (.scr ns), some (.dat (.int k)), some (.loc P), w3, w4, w5, w6, w7, w8]
theorem lap11_ok {nm nw : Str} (g : Lb G nm nw) (n : Nat) (st : Sto) (ns : List Int) (k : Int) (j : Nat) (hj : j < 2) (w4 w5 w6 w7 w8 : Option SV) (l : List D) (m : Int) (hp : Pen l m) (hm : m ≤ 300) :
    ∃ l' v4 v5 v6 v7 v8, Pen l' (m + 82) ∧ evSs G (evF G (n + 5)) [2] [sBo, sCh, sSt, sKp] (envY ns k st.length (some (.dat (.int ((j : Nat) : Int)))) w4 w5 w6 w7 w8) (st ++ [l]) =
      some (.nx (envY ns k st.length (some (.dat (.int ((j : Nat) : Int)))) v4 v5 v6 v7 v8) (st ++ [l'])) := by
  obtain ⟨lap, hlap⟩ : ∃ lap : D, lap = .int ((j : Nat) : Int) := ⟨_, rfl⟩
  obtain ⟨most, h1, h2, hmost⟩ : ∃ most : Int, 3 ≤ most ∧ most ≤ 8 ∧ idxD (.list [.int 8, .int 5]) (.int ((j : Nat) : Int)) = some (.int most) := by
    have : j = 0 ∨ j = 1 := by omega
    rcases this with rfl | rfl
    · exact ⟨8, by omega, by omega, rfl⟩
    · exact ⟨5, by omega, by omega, rfl⟩
  obtain ⟨qs, ws, l', hb, p', eb⟩ := board_ok nm nw g.board g.fits g.cross g.far g.draw (n + 2) (st ++ [l]) st.length l (get_last _ _) most h1 h2 m hp (by omega)
  rw [set_lastM] at eb
  have h8 := hb.fit.len
  have hs : ∀ q ∈ qs, Sm q := fun q hq => (hb.fit.pl q hq).sm
  refine ⟨l', ?_⟩
  have s1 : evS G (evF G (n + 5)) [2] sBo (envY ns k st.length (some (.dat (.int ((j : Nat) : Int)))) w4 w5 w6 w7 w8) (st ++ [l]) = some (.nx (envY ns k st.length (some (.dat (.int ((j : Nat) : Int)))) (some (.dat (boD qs ws))) w5 w6 w7 w8) (st ++ [l'])) :=
    r_asg (r_call2 (r_loc rfl) (r_idx (d := .list [.int 8, .int 5]) (r_lst2 r_int r_int) (r_dat rfl) rfl rfl hmost) eb)
  have nb := (nice_bo qs ws hb.fit.pl hb.wy).tup (by omega)
  have hrep : bltD .rep [boD qs ws] = some (.str (boD qs ws).shown, false) := by
    show (if okRep (boD qs ws) = true then some (PyData.str (boD qs ws).shown, false) else none) = _
    exact if_pos nb
  have ec := chart_ok g.chart g.cross g.far (by have := g.wf; omega) (n + 3) (st ++ [l']) qs ws hb.len h8 hs
  have s2 : evS G (evF G (n + 5)) [2] sCh (envY ns k st.length (some (.dat (.int ((j : Nat) : Int)))) (some (.dat (boD qs ws))) w5 w6 w7 w8) (st ++ [l']) = some (.nx (envZ ns k st.length lap (boD qs ws) w5 (chD qs) (.str (boD qs ws).shown) w8) (st ++ [l'])) := by
    rw [hlap]
    exact r_parLS rfl (r_call1 (r_dat rfl) ec) (r_blt1 (x := .dat (boD qs ws) false) (r_dat rfl) rfl hrep)
  obtain ⟨ss, hss, es⟩ := stands_ok g.stands (n + 4) (st ++ [l']) qs ws hb.len h8
  have hI : evI G (evF G (n + 5)) (.of (.call ("_law_stands" : Str) [(.slot 4)])) (envZ ns k st.length lap (boD qs ws) w5 (chD qs) (.str (boD qs ws).shown) w8) (st ++ [l']) = some (ss.map sdD, [], st ++ [l']) := r_of (x := .dat (.list (ss.map sdD)) false) (r_call1 (r_dat rfl) es) rfl
  obtain ⟨v5, v8, e3⟩ := stL_ok g n (st ++ [l']) qs ws hb ns k st.length lap (.str (boD qs ws).shown) ss w5 w8 hss
  have s3 : evS G (evF G (n + 5)) [2] sSt (envZ ns k st.length lap (boD qs ws) w5 (chD qs) (.str (boD qs ws).shown) w8) (st ++ [l']) = some (.nx (envZ ns k st.length lap (boD qs ws) v5 (chD qs) (.str (boD qs ws).shown) v8) (st ++ [l'])) := (evS_loop hI).trans e3
  have hcmp : cmpD .NotEq (.str (boD qs ws).shown) (.str (boD qs ws).shown) = some false := by
    show some (!decide ((boD qs ws).shown = (boD qs ws).shown)) = _
    rw [decide_eq_true rfl]
    rfl
  have t5 : tstE (evE G (evF G (n + 5)) (.cmp .NotEq (.blt .rep [(.slot 4)]) (.slot 7)) (envZ ns k st.length lap (boD qs ws) v5 (chD qs) (.str (boD qs ws).shown) v8) (st ++ [l'])) = some (false, st ++ [l']) :=
    tst_of (f := false) (r_cmp (d := .str (boD qs ws).shown) (e := .str (boD qs ws).shown) (r_blt1 (x := .dat (boD qs ws) false) (r_dat rfl) rfl hrep) (r_dat rfl) rfl rfl hcmp)
  have s4 : evS G (evF G (n + 5)) [2] sKp (envZ ns k st.length lap (boD qs ws) v5 (chD qs) (.str (boD qs ws).shown) v8) (st ++ [l']) = some (.nx (envZ ns k st.length lap (boD qs ws) v5 (chD qs) (.str (boD qs ws).shown) v8) (st ++ [l'])) := r_ite t5 nil_nx
  refine ⟨some (.dat (boD qs ws)), v5, some (.dat (chD qs)), some (.dat (.str (boD qs ws).shown)), v8, p', ?_⟩
  subst hlap
  rw [evSs_nx s1, evSs_nx s2, evSs_nx s3]
  exact one_nx s4
def kB11 : List IS := [(.asg (.nm 2) (.call ("_law_pen" : Str) [(.call ("_law_cell_at" : Str) [(.slot 0), (.slot 1)])])), (.loop (.nm 3) (.rng [(.int 2)]) [sBo, sCh, sSt, sKp])]
theorem laps11_ok {nm nw : Str} (g : Lb G nm nw) (n : Nat) (st : Sto) (ns : List Int) (k : Int) : ∀ (js : List Nat) (w3 w4 w5 w6 w7 w8 : Option SV) (l : List D) (m : Int), (∀ j ∈ js, j < 2) → Pen l m → m + 82 * js.length ≤ 300 →
    ∃ l' v3 v4 v5 v6 v7 v8, forL (loF G (evF G (n + 5)) [2] (.nm 3) [sBo, sCh, sSt, sKp] []) (intsN js) (envY ns k st.length w3 w4 w5 w6 w7 w8) (st ++ [l]) = some (.nx (envY ns k st.length v3 v4 v5 v6 v7 v8) (st ++ [l']))
  | [], w3, w4, w5, w6, w7, w8, l, m, _, _, _ => ⟨l, w3, w4, w5, w6, w7, w8, rfl⟩
  | j :: js, w3, w4, w5, w6, w7, w8, l, m, hj, hp, hm => by
    have hlen : (((j :: js).length : Nat) : Int) = js.length + 1 := by rw [List.length_cons]; omega
    rw [hlen] at hm
    obtain ⟨l1, u4, u5, u6, u7, u8, p1, e1⟩ := lap11_ok g n st ns k j (hj j (List.mem_cons_self ..)) w4 w5 w6 w7 w8 l m hp (by omega)
    obtain ⟨l2, v3, v4, v5, v6, v7, v8, e2⟩ := laps11_ok g n st ns k js (some (.dat (.int ((j : Nat) : Int)))) u4 u5 u6 u7 u8 l1 (m + 82) (fun x hx => hj x (List.mem_cons_of_mem _ hx)) p1 (by omega)
    refine ⟨l2, v3, v4, v5, v6, v7, v8, ?_⟩
    show forL _ (PyData.int ((j : Nat) : Int) :: intsN js) _ _ = _
    rw [forL_nx (loF_nx (s' := st ++ [l1]) (e := envY ns k st.length (some (.dat (.int ((j : Nat) : Int)))) u4 u5 u6 u7 u8) (env1 := envY ns k st.length (some (.dat (.int ((j : Nat) : Int)))) w4 w5 w6 w7 w8) rfl e1 rfl)]
    exact e2
abbrev envX (ns : List Int) (k : Int) (w2 w3 w4 w5 w6 w7 w8 : Option SV) : Ev.Env := [some (.scr ns), some (.dat (.int k)), w2, w3, w4, w5, w6, w7, w8]
theorem k11_ok {nm nw : Str} (g : Lb G nm nw) (n : Nat) (st : Sto) (ns : List Int) (k : Nat) (w2 w3 w4 w5 w6 w7 w8 : Option SV) :
    ∃ p v2 v3 v4 v5 v6 v7 v8, evSs G (evF G (n + 5)) [2] kB11 (envX ns ((k : Nat) : Int) w2 w3 w4 w5 w6 w7 w8) st = some (.nx (envX ns ((k : Nat) : Int) v2 v3 v4 v5 v6 v7 v8) (st ++ [p])) := by
  obtain ⟨c, hc⟩ := cell_ok g.cell (n + 4) ns k st
  obtain ⟨l, hp, hl⟩ := pen_ok g.pen (n + 4) c st
  have s1 : evS G (evF G (n + 5)) [2] (.asg (.nm 2) (.call ("_law_pen" : Str) [(.call ("_law_cell_at" : Str) [(.slot 0), (.slot 1)])])) (envX ns ((k : Nat) : Int) w2 w3 w4 w5 w6 w7 w8) st = some (.nx (envY ns ((k : Nat) : Int) st.length w3 w4 w5 w6 w7 w8) (st ++ [l])) :=
    r_asg (r_call1 (r_call2 (r_scr rfl) (r_dat rfl) hc) hl)
  have hR := rngL (G := G) (n + 5) 2 (by omega) (.int 2) (envY ns ((k : Nat) : Int) st.length w3 w4 w5 w6 w7 w8) (st ++ [l]) r_int
  obtain ⟨l', v3, v4, v5, v6, v7, v8, e⟩ := laps11_ok g n st ns ((k : Nat) : Int) (List.range' 0 2) w3 w4 w5 w6 w7 w8 l 0 (fun j hj => by rw [List.mem_range'_1] at hj; omega) hp (by decide)
  refine ⟨l', some (.loc st.length), v3, v4, v5, v6, v7, v8, ?_⟩
  unfold kB11
  rw [evSs_nx s1]
  exact one_nx ((evS_loop hR).trans e)
theorem ks11_ok {nm nw : Str} (g : Lb G nm nw) (n : Nat) (ns : List Int) : ∀ (ks : List Nat) (st : Sto) (w1 w2 w3 w4 w5 w6 w7 w8 : Option SV),
    ∃ e st', forL (loF G (evF G (n + 5)) [2] (.nm 1) kB11 []) (intsN ks) [some (.scr ns), w1, w2, w3, w4, w5, w6, w7, w8] st = some (.nx e st')
  | [], st, w1, w2, w3, w4, w5, w6, w7, w8 => ⟨_, st, rfl⟩
  | k :: ks, st, w1, w2, w3, w4, w5, w6, w7, w8 => by
    obtain ⟨p, v2, v3, v4, v5, v6, v7, v8, e⟩ := k11_ok g n st ns k w2 w3 w4 w5 w6 w7 w8
    obtain ⟨e', st', e2⟩ := ks11_ok g n ns ks (st ++ [p]) (some (.dat (.int ((k : Nat) : Int)))) v2 v3 v4 v5 v6 v7 v8
    refine ⟨e', st', ?_⟩
    show forL _ (PyData.int ((k : Nat) : Int) :: intsN ks) _ _ = _
    rw [forL_nx (loF_nx (s' := st ++ [p]) (e := envX ns ((k : Nat) : Int) v2 v3 v4 v5 v6 v7 v8) (env1 := envX ns ((k : Nat) : Int) w2 w3 w4 w5 w6 w7 w8) rfl e rfl)]
    exact e2
def lawF11 : FnD := ⟨1, 9, [2], false, [(.loop (.nm 1) (.rng [(.blt .max [(.int 1), (.blt .min [(.slen 0), (.int 3)])])]) kB11), (.ret (some (.bl true)))]⟩
theorem law11_ok {nm nw : Str} (g : Lb G nm nw) (hL : G.fn "law" = some lawF11) (n : Nat) (ns : List Int) : ∃ fr st', evF G (n + 6) "law" [.scr ns] [] = some (.dat (.bool true) fr, st') := by
  obtain ⟨c, hc, h1⟩ : ∃ c : Nat, c < 100 ∧ evE G (evF G (n + 5)) (.blt .max [(.int 1), (.blt .min [(.slen 0), (.int 3)])]) [some (.scr ns), none, none, none, none, none, none, none, none] [] = some (.dat (.int ((c : Nat) : Int)) false, []) := by
    obtain ⟨z, hz1, hz2⟩ : ∃ z : Int, (1 ≤ z ∧ z ≤ 3) ∧ evE G (evF G (n + 5)) (.blt .max [(.int 1), (.blt .min [(.slen 0), (.int 3)])]) [some (.scr ns), none, none, none, none, none, none, none, none] [] = some (.dat (.int z) false, []) := by
      refine ⟨if (if (3 : Int) < ns.length then 3 else (ns.length : Int)) > 1 then (if (3 : Int) < ns.length then 3 else (ns.length : Int)) else 1, ?_, ?_⟩
      · split <;> split <;> omega
      · simp [evE, evEs, rdEs, rdE, bltD]
    refine ⟨z.toNat, by omega, ?_⟩
    rw [hz2, Int.toNat_of_nonneg (by omega)]
  have hR := rngL (G := G) (n + 5) c (by omega) _ _ _ h1
  obtain ⟨e, st', he⟩ := ks11_ok g n ns (List.range' 0 c) [] none none none none none none none none
  have s1 : evS G (evF G (n + 5)) [2] (.loop (.nm 1) (.rng [(.blt .max [(.int 1), (.blt .min [(.slen 0), (.int 3)])])]) kB11) [some (.scr ns), none, none, none, none, none, none, none, none] [] = some (.nx e st') := (evS_loop hR).trans he
  rw [evF_s hL rfl]
  exact ⟨false, st'.take 0, congrArg (finF 0) ((evSs_nx s1).trans (evSs_rt (ss := []) (r_ret r_bl)))⟩
end
end Wl
set_option linter.all false
set_option maxRecDepth 100000
set_option maxHeartbeats 4000000
namespace K11
open PySem PySem.Spec L2 Ev
def top (i : Nat) : Stmt := PySem.Challenge.pw_waypins_k11_beats_told.main.body.getD i (.Pass ⟨0, 0, 0, 0⟩)
def f_law : FnD := ⟨1, 9, [2], false,
  [(.loop (.nm 1) (.rng [(.blt .max [(.int 1), (.blt .min [(.slen 0), (.int 3)])])]) [(.asg (.nm 2) (.call ("_law_pen" : Str) [(.call ("_law_cell_at" : Str) [(.slot 0), (.slot 1)])])), (.loop (.nm 3) (.rng [(.int 2)]) [(.asg (.nm 4) (.call ("_law_board" : Str) [(.slot 2), (.idx (.lst [(.int 8), (.int 5)]) (.slot 3))])), (.par [6, 7] [(.call ("_law_chart" : Str) [(.slot 4)]), (.blt .rep [(.slot 4)])]), (.loop (.nm 5) (.of (.call ("_law_stands" : Str) [(.slot 4)])) [(.asg (.nm 8) (.call ("_law_step" : Str) [(.slot 4), (.slot 6), (.slot 5)])), (.ite (.no (.call ("_law_same" : Str) [(.lst [(.call ("beat" : Str) [(.slot 4), (.slot 5)]), (.call ("beat" : Str) [(.slot 4), (.slot 5)])]), (.lst [(.slot 8), (.slot 8)])])) [(.ret (some (.bl false)))] []), (.ite (.no (.call ("_law_same" : Str) [(.lst [(.call ("ahead" : Str) [(.slot 4), (.slot 8)]), (.call ("ahead" : Str) [(.slot 4), (.slot 8)])]), (.lst [(.slot 5), (.slot 5)])])) [(.ret (some (.bl false)))] [])]), (.ite (.cmp .NotEq (.blt .rep [(.slot 4)]) (.slot 7)) [(.ret (some (.bl false)))] [])])]), (.ret (some (.bl true)))]⟩
def f__law_pen : FnD := ⟨1, 1, [], false,
  [(.ret (some (.lst [(.blt .max [(.int 0), (.bin .Sub (.slot 0) (.bin .Pow (.int 10) (.int 18)))]), (.bin .Add (.bin .Mod (.slot 0) (.int 2147483629)) (.int 1)), (.int 0)])))]⟩
def f__law_cell_at : FnD := ⟨2, 2, [], false,
  [(.ite (.cmp .Lt (.slot 1) (.slen 0)) [(.ret (some (.sidx 0 (.slot 1))))] []), (.ret (some (.int 0)))]⟩
def f__law_board : FnD := ⟨2, 10, [0, 2], false,
  [(.par [6, 7] [(.idx (.lst [(.int 100), (.int 30), (.int 12), (.int 100)]) (.call ("_law_draw" : Str) [(.slot 0), (.int 4)])), (.bin .Add (.int 3) (.call ("_law_draw" : Str) [(.slot 0), (.bin .Sub (.slot 1) (.int 2))]))]), (.asg (.nm 2) (.lst [])), (.loop (.nm 3) (.rng [(.int 30)]) [(.asg (.nm 8) (.tup [(.call ("_law_draw" : Str) [(.slot 0), (.slot 6)]), (.call ("_law_draw" : Str) [(.slot 0), (.slot 6)])])), (.ite (.land (.cmp .Lt (.blt .len [(.slot 2)]) (.slot 7)) (.call ("_law_fits" : Str) [(.slot 2), (.slot 8)])) [(.app 2 (.slot 8))] [])]), (.ite (.cmp .Lt (.blt .len [(.slot 2)]) (.int 3)) [(.asg (.nm 2) (.lst [(.tup [(.int 28), (.int 35)]), (.tup [(.int 29), (.int 28)]), (.tup [(.int 32), (.int 37)]), (.tup [(.int 12), (.int 11)])])), (.asg (.nm 2) (.cut (.bin .Add (.slot 2) (.lst [(.tup [(.int 32), (.int 30)]), (.tup [(.int 39), (.int 11)]), (.tup [(.int 19), (.int 9)]), (.tup [(.int 5), (.int 34)])])) none (some (.slot 7))))] []), (.asg (.nm 4) (.call ("_law_draw" : Str) [(.slot 0), (.int 6)])), (.asg (.nm 5) (.lc [(("_law_spot_here" : Str), 8)] (.nm 8) (.of (.slot 2)) [] (.idx (.lst [(.str ("left" : Str)), (.str ("right" : Str))]) (.call ("_law_draw" : Str) [(.slot 0), (.int 2)])))), (.ite (.cmp .Lt (.slot 4) (.int 2)) [(.asg (.nm 5) (.bin .Mult (.lst [(.idx (.lst [(.str ("left" : Str)), (.str ("right" : Str))]) (.slot 4))]) (.blt .len [(.slot 2)])))] []), (.ret (some (.blt .tup [(.lc [(("_law_spot_here" : Str), 8), (("_law_way" : Str), 9)] (.tp [(.nm 8), (.nm 9)]) (.zip (.slot 2) (.slot 5)) [] (.bin .Add (.slot 8) (.tup [(.slot 9)])))])))]⟩
def f__law_chart : FnD := ⟨1, 8, [2, 3, 6], false,
  [(.par [2, 3] [(.lst []), (.lst [])]), (.loop (.nm 1) (.rng [(.blt .len [(.slot 0)])]) [(.loop (.nm 4) (.of (.lc [(("_law_other" : Str), 4)] (.nm 4) (.rng [(.blt .len [(.slot 0)])]) [(.cmp .NotEq (.slot 4) (.slot 1))] (.slot 4))) [(.asg (.nm 5) (.call ("_law_far" : Str) [(.slot 0), (.slot 1), (.slot 4)])), (.asg (.nm 6) (.ite (.cmp .Gt (.call ("_law_cross" : Str) [(.tup [(.int 1000), (.int 1)]), (.slot 5)]) (.int 0)) (.slot 2) (.slot 3))), (.asg (.nm 7) (.int 0)), (.whl (.land (.cmp .Lt (.slot 7) (.blt .len [(.slot 6)])) (.cmp .Gt (.call ("_law_cross" : Str) [(.idx (.idx (.slot 6) (.slot 7)) (.int 0)), (.slot 5)]) (.int 0))) [(.asg (.nm 7) (.bin .Add (.slot 7) (.int 1)))]), (.ins 6 (.slot 7) (.tup [(.slot 5), (.slot 1), (.slot 4)]))])]), (.ret (some (.bin .Add (.slot 2) (.slot 3))))]⟩
def f__law_stands : FnD := ⟨1, 4, [], false,
  [(.asg (.nm 1) (.lst [])), (.loop (.nm 2) (.rng [(.blt .len [(.slot 0)])]) [(.loop (.nm 3) (.of (.lc [(("_law_last" : Str), 3)] (.nm 3) (.rng [(.blt .len [(.slot 0)])]) [(.cmp .NotEq (.slot 3) (.slot 2))] (.slot 3))) [(.asg (.nm 1) (.bin .Add (.slot 1) (.lst [(.tup [(.slot 2), (.slot 3), (.str ("ahead" : Str))]), (.tup [(.slot 2), (.slot 3), (.str ("behind" : Str))])])))])]), (.ret (some (.slot 1)))]⟩
def f__law_step : FnD := ⟨3, 8, [], false,
  [(.asg (.nm 3) (.idx (.slot 2) (.int 0))), (.asg (.nm 4) (.idx (.lst [(.neg (.int 1)), (.int 1)]) (.blt .int [(.cmp .Eq (.idx (.idx (.slot 0) (.slot 3)) (.int 2)) (.str ("left" : Str)))]))), (.asg (.tp [(.nm 5), (.nm 6), (.nm 7)]) (.call ("_law_met" : Str) [(.slot 1), (.slot 3), (.call ("_law_spot" : Str) [(.slot 1), (.slot 2)]), (.slot 4)])), (.ret (some (.tup [(.slot 6), (.slot 3), (.ite (.cmp .Eq (.slot 7) (.str ("ahead" : Str))) (.str ("behind" : Str)) (.str ("ahead" : Str)))])))]⟩
def f__law_same : FnD := ⟨2, 2, [], false,
  [(.ret (some (.cmp .Eq (.blt .rep [(.slot 0)]) (.blt .rep [(.slot 1)]))))]⟩
def f_beat : FnD := ⟨2, 2, [], false,
  [(.exp (.call ("need_board" : Str) [(.slot 0)])), (.exp (.call ("need_stand" : Str) [(.slot 0), (.slot 1)])), (.ret (some (.call ("stand_met" : Str) [(.slot 0), (.idx (.slot 1) (.int 0)), (.call ("look_of" : Str) [(.slot 0), (.slot 1)])])))]⟩
def f_ahead : FnD := ⟨2, 5, [], false,
  [(.exp (.call ("need_board" : Str) [(.slot 0)])), (.exp (.call ("need_stand" : Str) [(.slot 0), (.slot 1)])), (.asg (.nm 2) (.idx (.slot 1) (.int 1))), (.asg (.tp [(.nm 3), (.nm 4)]) (.call ("first_met" : Str) [(.slot 0), (.slot 2), (.call ("look_of" : Str) [(.slot 0), (.slot 1)]), (.look ("OTHER_WAY" : Str) (.idx (.idx (.slot 0) (.slot 2)) (.int 2)))])), (.ret (some (.tup [(.slot 2), (.slot 3), (.slot 4)])))]⟩
def f__law_draw : FnD := ⟨2, 4, [0], false,
  [(.ite (.cmp .Gt (.idx (.slot 0) (.int 0)) (.int 0)) [(.asg (.nm 3) (.bin .Mod (.idx (.slot 0) (.int 0)) (.slot 1))), (.seti 0 (.int 0) (.bin .FloorDiv (.idx (.slot 0) (.int 0)) (.slot 1))), (.ret (some (.slot 3)))] []), (.seti 0 (.int 2) (.bin .Add (.idx (.slot 0) (.int 2)) (.int 1))), (.seti 0 (.int 1) (.bin .Mod (.bin .Add (.bin .Add (.bin .Mult (.idx (.slot 0) (.int 1)) (.int 48271)) (.bin .Mult (.int 1009) (.idx (.slot 0) (.int 2)))) (.int 7)) (.int 2147483647))), (.asg (.nm 2) (.bin .Mod (.bin .Add (.bin .Add (.bin .Mult (.idx (.slot 0) (.int 1)) (.idx (.slot 0) (.int 1))) (.bin .Mult (.int 69621) (.idx (.slot 0) (.int 1)))) (.int 11)) (.int 2147483629))), (.asg (.nm 2) (.bin .Mod (.bin .Add (.bin .Mult (.slot 2) (.slot 2)) (.bin .Mult (.int 40014) (.slot 2))) (.int 2147483587))), (.ret (some (.bin .Mod (.bin .FloorDiv (.slot 2) (.int 16)) (.slot 1))))]⟩
def f__law_fits : FnD := ⟨2, 8, [3], false,
  [(.asg (.nm 2) (.bin .Add (.blt .lst [(.slot 0)]) (.lst [(.slot 1)]))), (.asg (.nm 3) (.lst [])), (.loop (.nm 4) (.rng [(.blt .len [(.slot 2)])]) [(.loop (.nm 5) (.rng [(.slot 4)]) [(.asg (.nm 6) (.call ("_law_far" : Str) [(.slot 2), (.slot 5), (.slot 4)])), (.ite (.cmp .Eq (.slot 6) (.tup [(.int 0), (.int 0)])) [(.ret (some (.bl false)))] []), (.ite (.cmp .NotEq (.lc [(("_law_other" : Str), 7)] (.nm 7) (.of (.slot 3)) [(.cmp .Eq (.call ("_law_cross" : Str) [(.slot 6), (.slot 7)]) (.int 0))] (.slot 7)) (.lst [])) [(.ret (some (.bl false)))] []), (.app 3 (.slot 6))])]), (.ret (some (.bl true)))]⟩
def f__law_far : FnD := ⟨3, 3, [], false,
  [(.ret (some (.tup [(.bin .Sub (.idx (.idx (.slot 0) (.slot 2)) (.int 0)) (.idx (.idx (.slot 0) (.slot 1)) (.int 0))), (.bin .Sub (.idx (.idx (.slot 0) (.slot 2)) (.int 1)) (.idx (.idx (.slot 0) (.slot 1)) (.int 1)))])))]⟩
def f__law_cross : FnD := ⟨2, 2, [], false,
  [(.ret (some (.bin .Sub (.bin .Mult (.idx (.slot 0) (.int 0)) (.idx (.slot 1) (.int 1))) (.bin .Mult (.idx (.slot 0) (.int 1)) (.idx (.slot 1) (.int 0))))))]⟩
def f__law_met : FnD := ⟨4, 8, [], false,
  [(.asg (.nm 4) (.bin .Mod (.bin .Add (.slot 2) (.slot 3)) (.blt .len [(.slot 0)]))), (.whl (.cmp .NotIn (.slot 1) (.cut (.idx (.slot 0) (.slot 4)) (some (.int 1)) none)) [(.asg (.nm 4) (.bin .Mod (.bin .Add (.slot 4) (.slot 3)) (.blt .len [(.slot 0)])))]), (.asg (.tp [(.nm 5), (.nm 6), (.nm 7)]) (.idx (.slot 0) (.slot 4))), (.ret (some (.ite (.cmp .Eq (.slot 6) (.slot 1)) (.tup [(.slot 4), (.slot 7), (.str ("ahead" : Str))]) (.tup [(.slot 4), (.slot 6), (.str ("behind" : Str))]))))]⟩
def f__law_spot : FnD := ⟨2, 8, [], false,
  [(.asg (.tp [(.nm 3), (.nm 4), (.nm 5)]) (.slot 1)), (.asg (.nm 2) (.ite (.cmp .Eq (.slot 5) (.str ("ahead" : Str))) (.tup [(.slot 3), (.slot 4)]) (.tup [(.slot 4), (.slot 3)]))), (.ret (some (.idx (.lc [(("_law_at" : Str), 6), (("_law_row" : Str), 7)] (.tp [(.nm 6), (.nm 7)]) (.enm (.slot 0)) [(.cmp .Eq (.cut (.slot 7) (some (.int 1)) none) (.slot 2))] (.slot 6)) (.int 0))))]⟩
def f_need_board : FnD := ⟨1, 1, [], false,
  [(.ite (.no (.call ("is_board" : Str) [(.slot 0)])) [.nev] [])]⟩
def f_need_stand : FnD := ⟨2, 2, [], false,
  [(.ite (.no (.call ("stand_holds" : Str) [(.slot 0), (.slot 1)])) [.nev] [])]⟩
def f_stand_met : FnD := ⟨3, 5, [], false,
  [(.asg (.tp [(.nm 3), (.nm 4)]) (.call ("first_met" : Str) [(.slot 0), (.slot 1), (.slot 2), (.idx (.idx (.slot 0) (.slot 1)) (.int 2))])), (.ret (some (.tup [(.slot 3), (.slot 1), (.look ("OTHER_WORD" : Str) (.slot 4))])))]⟩
def f_look_of : FnD := ⟨2, 5, [], false,
  [(.asg (.tp [(.nm 2), (.nm 3), (.nm 4)]) (.slot 1)), (.ite (.cmp .Eq (.slot 4) (.str ("ahead" : Str))) [(.ret (some (.call ("gap" : Str) [(.idx (.slot 0) (.slot 2)), (.idx (.slot 0) (.slot 3))])))] []), (.ret (some (.call ("gap" : Str) [(.idx (.slot 0) (.slot 3)), (.idx (.slot 0) (.slot 2))])))]⟩
def f_first_met : FnD := ⟨4, 17, [4], false,
  [(.asg (.tp [(.nm 5), (.nm 6)]) (.slot 2)), (.asg (.tp [(.nm 7), (.nm 8), (.nm 9)]) (.idx (.slot 0) (.slot 1))), (.asg (.nm 4) (.lst [])), (.loop (.tp [(.nm 10), (.tp [(.nm 15), (.nm 16), (.nm 9)])]) (.enm (.slot 0)) [(.asg (.nm 11) (.bin .Sub (.slot 15) (.slot 7))), (.asg (.nm 12) (.bin .Sub (.slot 16) (.slot 8))), (.asg (.nm 13) (.bin .Sub (.bin .Mult (.slot 5) (.slot 12)) (.bin .Mult (.slot 6) (.slot 11)))), (.ite (.cmp .NotEq (.slot 13) (.int 0)) [(.app 4 (.tup [(.bin .FloorDiv (.bin .Mult (.bin .Add (.bin .Mult (.slot 5) (.slot 11)) (.bin .Mult (.slot 6) (.slot 12))) (.con ("FINE" : Str))) (.slot 13)), (.slot 10), (.cmp .Gt (.slot 13) (.int 0))]))] [])]), (.asg (.tp [(.nm 9), (.nm 10), (.nm 14)]) (.ite (.cmp .Eq (.slot 3) (.str ("left" : Str))) (.blt .max [(.slot 4)]) (.blt .min [(.slot 4)]))), (.ret (some (.tup [(.slot 10), (.ite (.cmp .Eq (.slot 14) (.cmp .Eq (.slot 3) (.str ("left" : Str)))) (.str ("ahead" : Str)) (.str ("behind" : Str)))])))]⟩
def f_is_board : FnD := ⟨1, 2, [], false,
  [(.ite (.lor (.no (.isi (.slot 0) "tuple")) (.no (.cmp2 .LtE .LtE (.con ("FEWEST_PINS" : Str)) (.blt .len [(.slot 0)]) (.con ("MOST_PINS" : Str))))) [(.ret (some (.bl false)))] []), (.loop (.nm 1) (.of (.slot 0)) [(.ite (.no (.call ("is_pin" : Str) [(.slot 1)])) [(.ret (some (.bl false)))] [])]), (.ret (some (.cmp .Eq (.call ("many_slopes" : Str) [(.slot 0)]) (.bin .FloorDiv (.bin .Mult (.blt .len [(.slot 0)]) (.bin .Sub (.blt .len [(.slot 0)]) (.int 1))) (.int 2)))))]⟩
def f_stand_holds : FnD := ⟨2, 5, [], false,
  [(.ite (.no (.call ("is_tuple_of" : Str) [(.slot 1), (.int 3)])) [(.ret (some (.bl false)))] []), (.asg (.tp [(.nm 2), (.nm 3), (.nm 4)]) (.slot 1)), (.ite (.lor (.no (.call ("is_pin_number" : Str) [(.slot 0), (.slot 2)])) (.no (.call ("is_pin_number" : Str) [(.slot 0), (.slot 3)]))) [(.ret (some (.bl false)))] []), (.ret (some (.land (.cmp .NotEq (.slot 2) (.slot 3)) (.cmp .In (.slot 4) (.con ("WORDS" : Str))))))]⟩
def f_gap : FnD := ⟨2, 2, [], false,
  [(.ret (some (.tup [(.bin .Sub (.idx (.slot 1) (.int 0)) (.idx (.slot 0) (.int 0))), (.bin .Sub (.idx (.slot 1) (.int 1)) (.idx (.slot 0) (.int 1)))])))]⟩
def f_is_pin : FnD := ⟨1, 4, [], false,
  [(.ite (.lor (.no (.isi (.slot 0) "tuple")) (.cmp .NotEq (.blt .len [(.slot 0)]) (.int 3))) [(.ret (some (.bl false)))] []), (.asg (.tp [(.nm 1), (.nm 2), (.nm 3)]) (.slot 0)), (.ite (.lor (.no (.isi (.slot 1) "int")) (.lor (.no (.isi (.slot 2) "int")) (.lor (.cmp .Is (.slot 1) (.bl true)) (.lor (.cmp .Is (.slot 1) (.bl false)) (.lor (.cmp .Is (.slot 2) (.bl true)) (.cmp .Is (.slot 2) (.bl false))))))) [(.ret (some (.bl false)))] []), (.ret (some (.land (.cmp2 .LtE .LtE (.int 0) (.slot 1) (.con ("LAST_PLACE" : Str))) (.land (.cmp2 .LtE .LtE (.int 0) (.slot 2) (.con ("LAST_PLACE" : Str))) (.lor (.cmp .Eq (.slot 3) (.str ("left" : Str))) (.cmp .Eq (.slot 3) (.str ("right" : Str))))))))]⟩
def f_many_slopes : FnD := ⟨1, 7, [], false,
  [(.ret (some (.card [(("at" : Str), 1), (("x" : Str), 5), (("y" : Str), 6), (("_" : Str), 4), (("other_x" : Str), 2), (("other_y" : Str), 3)] [2, 3, 4] (.tp [(.nm 1), (.tp [(.nm 5), (.nm 6), (.nm 4)])]) (.enm (.slot 0)) [] (.tp [(.nm 2), (.nm 3), (.nm 4)]) (.of (.cut (.slot 0) none (some (.slot 1)))) [] (.ite (.cmp .NotEq (.slot 5) (.slot 2)) (.bin .FloorDiv (.bin .Mult (.bin .Sub (.slot 6) (.slot 3)) (.con ("FINE" : Str))) (.bin .Sub (.slot 5) (.slot 2))) .non))))]⟩
def f_is_tuple_of : FnD := ⟨2, 2, [], false,
  [(.ret (some (.land (.isi (.slot 0) "tuple") (.cmp .Eq (.blt .len [(.slot 0)]) (.slot 1)))))]⟩
def f_is_pin_number : FnD := ⟨2, 2, [], false,
  [(.ret (some (.land (.call ("is_whole" : Str) [(.slot 1)]) (.cmp2 .LtE .Lt (.int 0) (.slot 1) (.blt .len [(.slot 0)])))))]⟩
def f_is_whole : FnD := ⟨1, 1, [], false,
  [(.ret (some (.land (.isi (.slot 0) "int") (.no (.isi (.slot 0) "bool")))))]⟩
def fns : List (Str × FnD) := [(("law" : Str), f_law), (("_law_pen" : Str), f__law_pen), (("_law_cell_at" : Str), f__law_cell_at), (("_law_board" : Str), f__law_board), (("_law_chart" : Str), f__law_chart), (("_law_stands" : Str), f__law_stands), (("_law_step" : Str), f__law_step), (("_law_same" : Str), f__law_same), (("beat" : Str), f_beat), (("ahead" : Str), f_ahead), (("_law_draw" : Str), f__law_draw), (("_law_fits" : Str), f__law_fits), (("_law_far" : Str), f__law_far), (("_law_cross" : Str), f__law_cross), (("_law_met" : Str), f__law_met), (("_law_spot" : Str), f__law_spot), (("need_board" : Str), f_need_board), (("need_stand" : Str), f_need_stand), (("stand_met" : Str), f_stand_met), (("look_of" : Str), f_look_of), (("first_met" : Str), f_first_met), (("is_board" : Str), f_is_board), (("stand_holds" : Str), f_stand_holds), (("gap" : Str), f_gap), (("is_pin" : Str), f_is_pin), (("many_slopes" : Str), f_many_slopes), (("is_tuple_of" : Str), f_is_tuple_of), (("is_pin_number" : Str), f_is_pin_number), (("is_whole" : Str), f_is_whole)]
def cons : List (Str × D) := [(("FEWEST_PINS" : Str), (.int (3))), (("FINE" : Str), (.int (20000))), (("LAST_PLACE" : Str), (.int (99))), (("MOST_PINS" : Str), (.int (8))), (("WORDS" : Str), (.tuple [(.str ("ahead" : Str)), (.str ("behind" : Str))]))]
def dics : List (Str × List (Str × D)) := [(("OTHER_WAY" : Str), [(("left" : Str), (.str ("right" : Str))), (("right" : Str), (.str ("left" : Str)))]), (("OTHER_WORD" : Str), [(("ahead" : Str), (.str ("behind" : Str))), (("behind" : Str), (.str ("ahead" : Str)))])]
def kcs : List (Str × List Str × List Nat) := []
def G : Pk := ⟨fun f => fns.lookup f, fun x => cons.lookup x, fun g => dics.lookup g, kcs, 1000⟩
def fs : List (Str × List Str) := [(("law" : Str), [("_law_script" : Str)]), (("_law_pen" : Str), [("_law_cell" : Str)]), (("_law_cell_at" : Str), [("_law_script" : Str), ("_law_k" : Str)]), (("_law_board" : Str), [("_law_pen_here" : Str), ("_law_most" : Str)]), (("_law_chart" : Str), [("_law_board_here" : Str)]), (("_law_stands" : Str), [("_law_board_here" : Str)]), (("_law_step" : Str), [("_law_board_here" : Str), ("_law_chart_here" : Str), ("_law_stand" : Str)]), (("_law_same" : Str), [("_law_found" : Str), ("_law_due" : Str)]), (("beat" : Str), [("board" : Str), ("stand" : Str)]), (("ahead" : Str), [("board" : Str), ("stand" : Str)]), (("_law_draw" : Str), [("_law_pen_here" : Str), ("_law_many" : Str)]), (("_law_fits" : Str), [("_law_pins" : Str), ("_law_more" : Str)]), (("_law_far" : Str), [("_law_pins" : Str), ("_law_one" : Str), ("_law_other" : Str)]), (("_law_cross" : Str), [("_law_one" : Str), ("_law_other" : Str)]), (("_law_met" : Str), [("_law_chart_here" : Str), ("_law_pin" : Str), ("_law_at" : Str), ("_law_step_here" : Str)]), (("_law_spot" : Str), [("_law_chart_here" : Str), ("_law_stand" : Str)]), (("need_board" : Str), [("board" : Str)]), (("need_stand" : Str), [("board" : Str), ("stand" : Str)]), (("stand_met" : Str), [("board" : Str), ("pin" : Str), ("look" : Str)]), (("look_of" : Str), [("board" : Str), ("stand" : Str)]), (("first_met" : Str), [("board" : Str), ("pin" : Str), ("look" : Str), ("way" : Str)]), (("is_board" : Str), [("thing" : Str)]), (("stand_holds" : Str), [("board" : Str), ("thing" : Str)]), (("gap" : Str), [("one" : Str), ("other" : Str)]), (("is_pin" : Str), [("thing" : Str)]), (("many_slopes" : Str), [("board" : Str)]), (("is_tuple_of" : Str), [("thing" : Str), ("many" : Str)]), (("is_pin_number" : Str), [("board" : Str), ("thing" : Str)]), (("is_whole" : Str), [("thing" : Str)])]
def bl : List Str := [("bool" : Str), ("enumerate" : Str), ("int" : Str), ("isinstance" : Str), ("len" : Str), ("list" : Str), ("max" : Str), ("min" : Str), ("range" : Str), ("repr" : Str), ("tuple" : Str), ("zip" : Str)]
abbrev s_law : Stmt := top 43
def n_law : List Str := [("_law_script" : Str), ("_law_k" : Str), ("_law_pen_here" : Str), ("_law_lap" : Str), ("_law_board_here" : Str), ("_law_stand" : Str), ("_law_chart_here" : Str), ("_law_kept" : Str), ("_law_later" : Str)]
abbrev s__law_pen : Stmt := top 31
def n__law_pen : List Str := [("_law_cell" : Str)]
abbrev s__law_cell_at : Stmt := top 30
def n__law_cell_at : List Str := [("_law_script" : Str), ("_law_k" : Str)]
abbrev s__law_board : Stmt := top 37
def n__law_board : List Str := [("_law_pen_here" : Str), ("_law_most" : Str), ("_law_spots" : Str), ("_law_lap" : Str), ("_law_all_way" : Str), ("_law_ways" : Str), ("_law_wide" : Str), ("_law_many" : Str), ("_law_spot_here" : Str), ("_law_way" : Str)]
abbrev s__law_chart : Stmt := top 38
def n__law_chart : List Str := [("_law_board_here" : Str), ("_law_one" : Str), ("_law_near_half" : Str), ("_law_far_half" : Str), ("_law_other" : Str), ("_law_here" : Str), ("_law_rows" : Str), ("_law_at" : Str)]
abbrev s__law_stands : Stmt := top 42
def n__law_stands : List Str := [("_law_board_here" : Str), ("_law_found" : Str), ("_law_own" : Str), ("_law_last" : Str)]
abbrev s__law_step : Stmt := top 41
def n__law_step : List Str := [("_law_board_here" : Str), ("_law_chart_here" : Str), ("_law_stand" : Str), ("_law_own" : Str), ("_law_step_here" : Str), ("_law_spot_here" : Str), ("_law_pin" : Str), ("_law_word" : Str)]
abbrev s__law_same : Stmt := top 33
def n__law_same : List Str := [("_law_found" : Str), ("_law_due" : Str)]
abbrev s_beat : Stmt := top 27
def n_beat : List Str := [("board" : Str), ("stand" : Str)]
abbrev s_ahead : Stmt := top 28
def n_ahead : List Str := [("board" : Str), ("stand" : Str), ("last" : Str), ("other" : Str), ("word" : Str)]
abbrev s__law_draw : Stmt := top 32
def n__law_draw : List Str := [("_law_pen_here" : Str), ("_law_many" : Str), ("_law_mixed" : Str), ("_law_found" : Str)]
abbrev s__law_fits : Stmt := top 36
def n__law_fits : List Str := [("_law_pins" : Str), ("_law_more" : Str), ("_law_some" : Str), ("_law_ways" : Str), ("_law_at" : Str), ("_law_one" : Str), ("_law_here" : Str), ("_law_other" : Str)]
abbrev s__law_far : Stmt := top 35
def n__law_far : List Str := [("_law_pins" : Str), ("_law_one" : Str), ("_law_other" : Str)]
abbrev s__law_cross : Stmt := top 34
def n__law_cross : List Str := [("_law_one" : Str), ("_law_other" : Str)]
abbrev s__law_met : Stmt := top 40
def n__law_met : List Str := [("_law_chart_here" : Str), ("_law_pin" : Str), ("_law_at" : Str), ("_law_step_here" : Str), ("_law_spot_here" : Str), ("_law_here" : Str), ("_law_one" : Str), ("_law_other" : Str)]
abbrev s__law_spot : Stmt := top 39
def n__law_spot : List Str := [("_law_chart_here" : Str), ("_law_stand" : Str), ("_law_both" : Str), ("_law_own" : Str), ("_law_last" : Str), ("_law_word" : Str), ("_law_at" : Str), ("_law_row" : Str)]
abbrev s_need_board : Stmt := top 17
def n_need_board : List Str := [("board" : Str)]
abbrev s_need_stand : Stmt := top 24
def n_need_stand : List Str := [("board" : Str), ("stand" : Str)]
abbrev s_stand_met : Stmt := top 26
def n_stand_met : List Str := [("board" : Str), ("pin" : Str), ("look" : Str), ("other" : Str), ("word" : Str)]
abbrev s_look_of : Stmt := top 25
def n_look_of : List Str := [("board" : Str), ("stand" : Str), ("own" : Str), ("last" : Str), ("word" : Str)]
abbrev s_first_met : Stmt := top 20
def n_first_met : List Str := [("board" : Str), ("pin" : Str), ("look" : Str), ("way" : Str), ("found" : Str), ("look_x" : Str), ("look_y" : Str), ("x" : Str), ("y" : Str), ("_" : Str), ("other" : Str), ("gap_x" : Str), ("gap_y" : Str), ("left" : Str), ("on_left" : Str), ("other_x" : Str), ("other_y" : Str)]
abbrev s_is_board : Stmt := top 15
def n_is_board : List Str := [("thing" : Str), ("part" : Str)]
abbrev s_stand_holds : Stmt := top 23
def n_stand_holds : List Str := [("board" : Str), ("thing" : Str), ("own" : Str), ("last" : Str), ("word" : Str)]
abbrev s_gap : Stmt := top 13
def n_gap : List Str := [("one" : Str), ("other" : Str)]
abbrev s_is_pin : Stmt := top 12
def n_is_pin : List Str := [("thing" : Str), ("x" : Str), ("y" : Str), ("way" : Str)]
abbrev s_many_slopes : Stmt := top 14
def n_many_slopes : List Str := [("board" : Str), ("at" : Str), ("other_x" : Str), ("other_y" : Str), ("_" : Str), ("x" : Str), ("y" : Str)]
abbrev s_is_tuple_of : Stmt := top 11
def n_is_tuple_of : List Str := [("thing" : Str), ("many" : Str)]
abbrev s_is_pin_number : Stmt := top 16
def n_is_pin_number : List Str := [("board" : Str), ("thing" : Str)]
abbrev s_is_whole : Stmt := top 10
def n_is_whole : List Str := [("thing" : Str)]

def sx (n : Str) (N : List Str) (st : Stmt) (l : Bool) : Sx := ⟨N, defScope st, ownB (defScope st), if l = true then some (lamQ n) else none⟩
end K11
set_option linter.all false
set_option maxRecDepth 1000000
set_option maxHeartbeats 4000000
namespace K11
open PySem PySem.Spec L2 Ev
theorem cs1 : Wl.Cs G := ⟨by kernel_rfl, by kernel_rfl, by kernel_rfl, by kernel_rfl⟩
theorem ns1 : Wl.Ns G := ⟨by kernel_rfl, by kernel_rfl, by kernel_rfl, by kernel_rfl, by kernel_rfl, by kernel_rfl⟩
theorem bt : Wl.Bt G := ⟨by kernel_rfl, by kernel_rfl, by kernel_rfl, by kernel_rfl, by kernel_rfl, by kernel_rfl, by kernel_rfl, by kernel_rfl, by kernel_rfl, by kernel_rfl, ns1, cs1, by kernel_rfl, by kernel_rfl⟩
theorem lb : Wl.Lb G ("_law_spot_here" : Str) ("_law_way" : Str) := ⟨bt, by kernel_rfl, by kernel_rfl, by kernel_rfl, by kernel_rfl, by kernel_rfl, by kernel_rfl, by kernel_rfl, by kernel_rfl, by kernel_rfl, by kernel_rfl, by kernel_rfl, by kernel_rfl, by kernel_rfl, by decide⟩
theorem fn_law : G.fn "law" = some Wl.lawF11 := by kernel_rfl
theorem law_ok (ns : List Int) : ∃ fr st', evF G 6 "law" [.scr ns] [] = some (.dat (.bool true) fr, st') := Wl.law11_ok lb fn_law 0 ns
end K11
set_option linter.all false
set_option maxRecDepth 1000000
set_option maxHeartbeats 4000000
namespace K11
open PySem PySem.Spec L2 Ev
theorem i_law : SI G fs bl ("law" : Str) [("_law_script" : Str)] s_law f_law n_law := ⟨⟨by decide +kernel, by decide +kernel, by decide +kernel, by decide +kernel, by decide +kernel, by decide +kernel, by decide +kernel⟩, by kernel_rfl, rfl, rfl, by decide, by decide +kernel, fun _ _ _ _ _ _ us hl => match us, hl with | [_], _ => rfl⟩
theorem i__law_pen : SI G fs bl ("_law_pen" : Str) [("_law_cell" : Str)] s__law_pen f__law_pen n__law_pen := ⟨⟨by decide +kernel, by decide +kernel, by decide +kernel, by decide +kernel, by decide +kernel, by decide +kernel, by decide +kernel⟩, by kernel_rfl, rfl, rfl, by decide, by decide +kernel, fun _ _ _ _ _ _ us hl => match us, hl with | [_], _ => rfl⟩
theorem i__law_cell_at : SI G fs bl ("_law_cell_at" : Str) [("_law_script" : Str), ("_law_k" : Str)] s__law_cell_at f__law_cell_at n__law_cell_at := ⟨⟨by decide +kernel, by decide +kernel, by decide +kernel, by decide +kernel, by decide +kernel, by decide +kernel, by decide +kernel⟩, by kernel_rfl, rfl, rfl, by decide, by decide +kernel, fun _ _ _ _ _ _ us hl => match us, hl with | [_, _], _ => rfl⟩
theorem i__law_board : SI G fs bl ("_law_board" : Str) [("_law_pen_here" : Str), ("_law_most" : Str)] s__law_board f__law_board n__law_board := ⟨⟨by decide +kernel, by decide +kernel, by decide +kernel, by decide +kernel, by decide +kernel, by decide +kernel, by decide +kernel⟩, by kernel_rfl, rfl, rfl, by decide, by decide +kernel, fun _ _ _ _ _ _ us hl => match us, hl with | [_, _], _ => rfl⟩
theorem i__law_chart : SI G fs bl ("_law_chart" : Str) [("_law_board_here" : Str)] s__law_chart f__law_chart n__law_chart := ⟨⟨by decide +kernel, by decide +kernel, by decide +kernel, by decide +kernel, by decide +kernel, by decide +kernel, by decide +kernel⟩, by kernel_rfl, rfl, rfl, by decide, by decide +kernel, fun _ _ _ _ _ _ us hl => match us, hl with | [_], _ => rfl⟩
theorem i__law_stands : SI G fs bl ("_law_stands" : Str) [("_law_board_here" : Str)] s__law_stands f__law_stands n__law_stands := ⟨⟨by decide +kernel, by decide +kernel, by decide +kernel, by decide +kernel, by decide +kernel, by decide +kernel, by decide +kernel⟩, by kernel_rfl, rfl, rfl, by decide, by decide +kernel, fun _ _ _ _ _ _ us hl => match us, hl with | [_], _ => rfl⟩
theorem i__law_step : SI G fs bl ("_law_step" : Str) [("_law_board_here" : Str), ("_law_chart_here" : Str), ("_law_stand" : Str)] s__law_step f__law_step n__law_step := ⟨⟨by decide +kernel, by decide +kernel, by decide +kernel, by decide +kernel, by decide +kernel, by decide +kernel, by decide +kernel⟩, by kernel_rfl, rfl, rfl, by decide, by decide +kernel, fun _ _ _ _ _ _ us hl => match us, hl with | [_, _, _], _ => rfl⟩
theorem i__law_same : SI G fs bl ("_law_same" : Str) [("_law_found" : Str), ("_law_due" : Str)] s__law_same f__law_same n__law_same := ⟨⟨by decide +kernel, by decide +kernel, by decide +kernel, by decide +kernel, by decide +kernel, by decide +kernel, by decide +kernel⟩, by kernel_rfl, rfl, rfl, by decide, by decide +kernel, fun _ _ _ _ _ _ us hl => match us, hl with | [_, _], _ => rfl⟩
theorem i_beat : SI G fs bl ("beat" : Str) [("board" : Str), ("stand" : Str)] s_beat f_beat n_beat := ⟨⟨by decide +kernel, by decide +kernel, by decide +kernel, by decide +kernel, by decide +kernel, by decide +kernel, by decide +kernel⟩, by kernel_rfl, rfl, rfl, by decide, by decide +kernel, fun _ _ _ _ _ _ us hl => match us, hl with | [_, _], _ => rfl⟩
theorem i_ahead : SI G fs bl ("ahead" : Str) [("board" : Str), ("stand" : Str)] s_ahead f_ahead n_ahead := ⟨⟨by decide +kernel, by decide +kernel, by decide +kernel, by decide +kernel, by decide +kernel, by decide +kernel, by decide +kernel⟩, by kernel_rfl, rfl, rfl, by decide, by decide +kernel, fun _ _ _ _ _ _ us hl => match us, hl with | [_, _], _ => rfl⟩
theorem i__law_draw : SI G fs bl ("_law_draw" : Str) [("_law_pen_here" : Str), ("_law_many" : Str)] s__law_draw f__law_draw n__law_draw := ⟨⟨by decide +kernel, by decide +kernel, by decide +kernel, by decide +kernel, by decide +kernel, by decide +kernel, by decide +kernel⟩, by kernel_rfl, rfl, rfl, by decide, by decide +kernel, fun _ _ _ _ _ _ us hl => match us, hl with | [_, _], _ => rfl⟩
theorem i__law_fits : SI G fs bl ("_law_fits" : Str) [("_law_pins" : Str), ("_law_more" : Str)] s__law_fits f__law_fits n__law_fits := ⟨⟨by decide +kernel, by decide +kernel, by decide +kernel, by decide +kernel, by decide +kernel, by decide +kernel, by decide +kernel⟩, by kernel_rfl, rfl, rfl, by decide, by decide +kernel, fun _ _ _ _ _ _ us hl => match us, hl with | [_, _], _ => rfl⟩
theorem i__law_far : SI G fs bl ("_law_far" : Str) [("_law_pins" : Str), ("_law_one" : Str), ("_law_other" : Str)] s__law_far f__law_far n__law_far := ⟨⟨by decide +kernel, by decide +kernel, by decide +kernel, by decide +kernel, by decide +kernel, by decide +kernel, by decide +kernel⟩, by kernel_rfl, rfl, rfl, by decide, by decide +kernel, fun _ _ _ _ _ _ us hl => match us, hl with | [_, _, _], _ => rfl⟩
theorem i__law_cross : SI G fs bl ("_law_cross" : Str) [("_law_one" : Str), ("_law_other" : Str)] s__law_cross f__law_cross n__law_cross := ⟨⟨by decide +kernel, by decide +kernel, by decide +kernel, by decide +kernel, by decide +kernel, by decide +kernel, by decide +kernel⟩, by kernel_rfl, rfl, rfl, by decide, by decide +kernel, fun _ _ _ _ _ _ us hl => match us, hl with | [_, _], _ => rfl⟩
theorem i__law_met : SI G fs bl ("_law_met" : Str) [("_law_chart_here" : Str), ("_law_pin" : Str), ("_law_at" : Str), ("_law_step_here" : Str)] s__law_met f__law_met n__law_met := ⟨⟨by decide +kernel, by decide +kernel, by decide +kernel, by decide +kernel, by decide +kernel, by decide +kernel, by decide +kernel⟩, by kernel_rfl, rfl, rfl, by decide, by decide +kernel, fun _ _ _ _ _ _ us hl => match us, hl with | [_, _, _, _], _ => rfl⟩
theorem i__law_spot : SI G fs bl ("_law_spot" : Str) [("_law_chart_here" : Str), ("_law_stand" : Str)] s__law_spot f__law_spot n__law_spot := ⟨⟨by decide +kernel, by decide +kernel, by decide +kernel, by decide +kernel, by decide +kernel, by decide +kernel, by decide +kernel⟩, by kernel_rfl, rfl, rfl, by decide, by decide +kernel, fun _ _ _ _ _ _ us hl => match us, hl with | [_, _], _ => rfl⟩
theorem i_need_board : SI G fs bl ("need_board" : Str) [("board" : Str)] s_need_board f_need_board n_need_board := ⟨⟨by decide +kernel, by decide +kernel, by decide +kernel, by decide +kernel, by decide +kernel, by decide +kernel, by decide +kernel⟩, by kernel_rfl, rfl, rfl, by decide, by decide +kernel, fun _ _ _ _ _ _ us hl => match us, hl with | [_], _ => rfl⟩
theorem i_need_stand : SI G fs bl ("need_stand" : Str) [("board" : Str), ("stand" : Str)] s_need_stand f_need_stand n_need_stand := ⟨⟨by decide +kernel, by decide +kernel, by decide +kernel, by decide +kernel, by decide +kernel, by decide +kernel, by decide +kernel⟩, by kernel_rfl, rfl, rfl, by decide, by decide +kernel, fun _ _ _ _ _ _ us hl => match us, hl with | [_, _], _ => rfl⟩
theorem i_stand_met : SI G fs bl ("stand_met" : Str) [("board" : Str), ("pin" : Str), ("look" : Str)] s_stand_met f_stand_met n_stand_met := ⟨⟨by decide +kernel, by decide +kernel, by decide +kernel, by decide +kernel, by decide +kernel, by decide +kernel, by decide +kernel⟩, by kernel_rfl, rfl, rfl, by decide, by decide +kernel, fun _ _ _ _ _ _ us hl => match us, hl with | [_, _, _], _ => rfl⟩
theorem i_look_of : SI G fs bl ("look_of" : Str) [("board" : Str), ("stand" : Str)] s_look_of f_look_of n_look_of := ⟨⟨by decide +kernel, by decide +kernel, by decide +kernel, by decide +kernel, by decide +kernel, by decide +kernel, by decide +kernel⟩, by kernel_rfl, rfl, rfl, by decide, by decide +kernel, fun _ _ _ _ _ _ us hl => match us, hl with | [_, _], _ => rfl⟩
theorem i_first_met : SI G fs bl ("first_met" : Str) [("board" : Str), ("pin" : Str), ("look" : Str), ("way" : Str)] s_first_met f_first_met n_first_met := ⟨⟨by decide +kernel, by decide +kernel, by decide +kernel, by decide +kernel, by decide +kernel, by decide +kernel, by decide +kernel⟩, by kernel_rfl, rfl, rfl, by decide, by decide +kernel, fun _ _ _ _ _ _ us hl => match us, hl with | [_, _, _, _], _ => rfl⟩
theorem i_is_board : SI G fs bl ("is_board" : Str) [("thing" : Str)] s_is_board f_is_board n_is_board := ⟨⟨by decide +kernel, by decide +kernel, by decide +kernel, by decide +kernel, by decide +kernel, by decide +kernel, by decide +kernel⟩, by kernel_rfl, rfl, rfl, by decide, by decide +kernel, fun _ _ _ _ _ _ us hl => match us, hl with | [_], _ => rfl⟩
theorem i_stand_holds : SI G fs bl ("stand_holds" : Str) [("board" : Str), ("thing" : Str)] s_stand_holds f_stand_holds n_stand_holds := ⟨⟨by decide +kernel, by decide +kernel, by decide +kernel, by decide +kernel, by decide +kernel, by decide +kernel, by decide +kernel⟩, by kernel_rfl, rfl, rfl, by decide, by decide +kernel, fun _ _ _ _ _ _ us hl => match us, hl with | [_, _], _ => rfl⟩
theorem i_gap : SI G fs bl ("gap" : Str) [("one" : Str), ("other" : Str)] s_gap f_gap n_gap := ⟨⟨by decide +kernel, by decide +kernel, by decide +kernel, by decide +kernel, by decide +kernel, by decide +kernel, by decide +kernel⟩, by kernel_rfl, rfl, rfl, by decide, by decide +kernel, fun _ _ _ _ _ _ us hl => match us, hl with | [_, _], _ => rfl⟩
theorem i_is_pin : SI G fs bl ("is_pin" : Str) [("thing" : Str)] s_is_pin f_is_pin n_is_pin := ⟨⟨by decide +kernel, by decide +kernel, by decide +kernel, by decide +kernel, by decide +kernel, by decide +kernel, by decide +kernel⟩, by kernel_rfl, rfl, rfl, by decide, by decide +kernel, fun _ _ _ _ _ _ us hl => match us, hl with | [_], _ => rfl⟩
theorem i_many_slopes : SI G fs bl ("many_slopes" : Str) [("board" : Str)] s_many_slopes f_many_slopes n_many_slopes := ⟨⟨by decide +kernel, by decide +kernel, by decide +kernel, by decide +kernel, by decide +kernel, by decide +kernel, by decide +kernel⟩, by kernel_rfl, rfl, rfl, by decide, by decide +kernel, fun _ _ _ _ _ _ us hl => match us, hl with | [_], _ => rfl⟩
theorem i_is_tuple_of : SI G fs bl ("is_tuple_of" : Str) [("thing" : Str), ("many" : Str)] s_is_tuple_of f_is_tuple_of n_is_tuple_of := ⟨⟨by decide +kernel, by decide +kernel, by decide +kernel, by decide +kernel, by decide +kernel, by decide +kernel, by decide +kernel⟩, by kernel_rfl, rfl, rfl, by decide, by decide +kernel, fun _ _ _ _ _ _ us hl => match us, hl with | [_, _], _ => rfl⟩
theorem i_is_pin_number : SI G fs bl ("is_pin_number" : Str) [("board" : Str), ("thing" : Str)] s_is_pin_number f_is_pin_number n_is_pin_number := ⟨⟨by decide +kernel, by decide +kernel, by decide +kernel, by decide +kernel, by decide +kernel, by decide +kernel, by decide +kernel⟩, by kernel_rfl, rfl, rfl, by decide, by decide +kernel, fun _ _ _ _ _ _ us hl => match us, hl with | [_, _], _ => rfl⟩
theorem i_is_whole : SI G fs bl ("is_whole" : Str) [("thing" : Str)] s_is_whole f_is_whole n_is_whole := ⟨⟨by decide +kernel, by decide +kernel, by decide +kernel, by decide +kernel, by decide +kernel, by decide +kernel, by decide +kernel⟩, by kernel_rfl, rfl, rfl, by decide, by decide +kernel, fun _ _ _ _ _ _ us hl => match us, hl with | [_], _ => rfl⟩

end K11
set_option linter.all false
set_option maxRecDepth 1000000
set_option maxHeartbeats 4000000
namespace K11
open PySem PySem.Spec L2 Ev
theorem all_mk {w : World} {K : PySem.W.Frag} {mg : Str → Option Value} {h : Heap} {pr : Program} (X : K.In h) (G0 : h.Ns mainGlobals mg)
    (own : ∀ (f : Str) (a : Addr), ((PyProof.Rows.recsOf pr).any fun e => e.name == f) = true → mg f = some (.ref a) → LamX.OwnTab K a h) 
    (f_law' : FF K ("law" : Str) s_law) (f__law_pen' : FF K ("_law_pen" : Str) s__law_pen) (f__law_cell_at' : FF K ("_law_cell_at" : Str) s__law_cell_at) (f__law_board' : FF K ("_law_board" : Str) s__law_board) (f__law_chart' : FF K ("_law_chart" : Str) s__law_chart) (f__law_stands' : FF K ("_law_stands" : Str) s__law_stands) (f__law_step' : FF K ("_law_step" : Str) s__law_step) (f__law_same' : FF K ("_law_same" : Str) s__law_same) (f_beat' : FF K ("beat" : Str) s_beat) (f_ahead' : FF K ("ahead" : Str) s_ahead) (f__law_draw' : FF K ("_law_draw" : Str) s__law_draw) (f__law_fits' : FF K ("_law_fits" : Str) s__law_fits) (f__law_far' : FF K ("_law_far" : Str) s__law_far) (f__law_cross' : FF K ("_law_cross" : Str) s__law_cross) (f__law_met' : FF K ("_law_met" : Str) s__law_met) (f__law_spot' : FF K ("_law_spot" : Str) s__law_spot) (f_need_board' : FF K ("need_board" : Str) s_need_board) (f_need_stand' : FF K ("need_stand" : Str) s_need_stand) (f_stand_met' : FF K ("stand_met" : Str) s_stand_met) (f_look_of' : FF K ("look_of" : Str) s_look_of) (f_first_met' : FF K ("first_met" : Str) s_first_met) (f_is_board' : FF K ("is_board" : Str) s_is_board) (f_stand_holds' : FF K ("stand_holds" : Str) s_stand_holds) (f_gap' : FF K ("gap" : Str) s_gap) (f_is_pin' : FF K ("is_pin" : Str) s_is_pin) (f_many_slopes' : FF K ("many_slopes" : Str) s_many_slopes) (f_is_tuple_of' : FF K ("is_tuple_of" : Str) s_is_tuple_of) (f_is_pin_number' : FF K ("is_pin_number" : Str) s_is_pin_number) (f_is_whole' : FF K ("is_whole" : Str) s_is_whole) (b_bool : PySem.W.nsIn K mainGlobals ("bool" : Str) = some none) (b_enumerate : PySem.W.nsIn K mainGlobals ("enumerate" : Str) = some none) (b_int : PySem.W.nsIn K mainGlobals ("int" : Str) = some none) (b_isinstance : PySem.W.nsIn K mainGlobals ("isinstance" : Str) = some none) (b_len : PySem.W.nsIn K mainGlobals ("len" : Str) = some none) (b_list : PySem.W.nsIn K mainGlobals ("list" : Str) = some none) (b_max : PySem.W.nsIn K mainGlobals ("max" : Str) = some none) (b_min : PySem.W.nsIn K mainGlobals ("min" : Str) = some none) (b_range : PySem.W.nsIn K mainGlobals ("range" : Str) = some none) (b_repr : PySem.W.nsIn K mainGlobals ("repr" : Str) = some none) (b_tuple : PySem.W.nsIn K mainGlobals ("tuple" : Str) = some none) (b_zip : PySem.W.nsIn K mainGlobals ("zip" : Str) = some none) (c_FEWEST_PINS : CF K ("FEWEST_PINS" : Str) (.int (3))) (c_FINE : CF K ("FINE" : Str) (.int (20000))) (c_LAST_PLACE : CF K ("LAST_PLACE" : Str) (.int (99))) (c_MOST_PINS : CF K ("MOST_PINS" : Str) (.int (8))) (c_WORDS : CF K ("WORDS" : Str) (.tuple [(.str ("ahead" : Str)), (.str ("behind" : Str))])) (d_OTHER_WAY : DF K w ("OTHER_WAY" : Str) [(("left" : Str), (.str ("right" : Str))), (("right" : Str), (.str ("left" : Str)))]) (d_OTHER_WORD : DF K w ("OTHER_WORD" : Str) [(("ahead" : Str), (.str ("behind" : Str))), (("behind" : Str), (.str ("ahead" : Str)))]) : LawE w K mg h 5 63 "law" ("_law_script" : Str) := by
  refine ⟨G, fs, bl, [], [], fun p hp => ?_, fun p hp => ?_, fun p hp => ?_, rfl, mdk_of (cons := cons) (dics := dics) X G0 (fun _ => rfl) (fun _ => rfl) ?af ?ak ?ab ?ac ?ad, by kernel_rfl, fun ns _ _ => law_ok ns⟩
  · cases hp
  · cases hp
  · cases hp
  case af => exact ⟨⟨_, .plain i_law f_law' rfl⟩, ⟨_, .plain i__law_pen f__law_pen' rfl⟩, ⟨_, .plain i__law_cell_at f__law_cell_at' rfl⟩, ⟨_, .plain i__law_board f__law_board' rfl⟩, ⟨_, .plain i__law_chart f__law_chart' rfl⟩, ⟨_, .plain i__law_stands f__law_stands' rfl⟩, ⟨_, .plain i__law_step f__law_step' rfl⟩, ⟨_, .plain i__law_same f__law_same' rfl⟩, ⟨_, .plain i_beat f_beat' rfl⟩, ⟨_, .plain i_ahead f_ahead' rfl⟩, ⟨_, .plain i__law_draw f__law_draw' rfl⟩, ⟨_, .plain i__law_fits f__law_fits' rfl⟩, ⟨_, .plain i__law_far f__law_far' rfl⟩, ⟨_, .plain i__law_cross f__law_cross' rfl⟩, ⟨_, .plain i__law_met f__law_met' rfl⟩, ⟨_, .plain i__law_spot f__law_spot' rfl⟩, ⟨_, .plain i_need_board f_need_board' rfl⟩, ⟨_, .plain i_need_stand f_need_stand' rfl⟩, ⟨_, .plain i_stand_met f_stand_met' rfl⟩, ⟨_, .plain i_look_of f_look_of' rfl⟩, ⟨_, .plain i_first_met f_first_met' rfl⟩, ⟨_, .plain i_is_board f_is_board' rfl⟩, ⟨_, .plain i_stand_holds f_stand_holds' rfl⟩, ⟨_, .plain i_gap f_gap' rfl⟩, ⟨_, .plain i_is_pin f_is_pin' rfl⟩, ⟨_, .plain i_many_slopes f_many_slopes' rfl⟩, ⟨_, .plain i_is_tuple_of f_is_tuple_of' rfl⟩, ⟨_, .plain i_is_pin_number f_is_pin_number' rfl⟩, ⟨_, .plain i_is_whole f_is_whole' rfl⟩, True.intro⟩
  case ak => exact True.intro
  case ab => exact ⟨b_bool, b_enumerate, b_int, b_isinstance, b_len, b_list, b_max, b_min, b_range, b_repr, b_tuple, b_zip, True.intro⟩
  case ac => exact ⟨c_FEWEST_PINS, c_FINE, c_LAST_PLACE, c_MOST_PINS, c_WORDS, True.intro⟩
  case ad => exact ⟨d_OTHER_WAY, d_OTHER_WORD, True.intro⟩
end K11
open PySem PySem.W PyProof.Rows in
set_option maxRecDepth 1000000 in
set_option maxHeartbeats 0 in
theorem PySem.Challenge.cw_waypins_k11_beats_told_holds : PySem.Challenge.rw_waypins_k11_beats_told.Holds := by
  w_on; o_law; k_head; (case hw => w_witness2)
  k_fill
  refine Ev.walk_law (l := PySem.Challenge.rw_waypins_k11_beats_told) (n := 63) (k := 5) (x := ("_law_script" : Str)) rfl (by decide) rfl ⟨rfl, by decide, by decide⟩ (fun w h Y => by first | exact PySem.W.kIn_of Y | exact PySem.W.km_in_of Y) ?F
  case F =>
    intro w mg h Y KX G0 own
    refine' K11.all_mk KX G0 own ?f_law' ?f__law_pen' ?f__law_cell_at' ?f__law_board' ?f__law_chart' ?f__law_stands' ?f__law_step' ?f__law_same' ?f_beat' ?f_ahead' ?f__law_draw' ?f__law_fits' ?f__law_far' ?f__law_cross' ?f__law_met' ?f__law_spot' ?f_need_board' ?f_need_stand' ?f_stand_met' ?f_look_of' ?f_first_met' ?f_is_board' ?f_stand_holds' ?f_gap' ?f_is_pin' ?f_many_slopes' ?f_is_tuple_of' ?f_is_pin_number' ?f_is_whole' ?b_bool ?b_enumerate ?b_int ?b_isinstance ?b_len ?b_list ?b_max ?b_min ?b_range ?b_repr ?b_tuple ?b_zip ?c_FEWEST_PINS ?c_FINE ?c_LAST_PLACE ?c_MOST_PINS ?c_WORDS ?d_OTHER_WAY ?d_OTHER_WORD
    (case f_law' => refine' Ev.ff_mk ?a ?l ?c ?k; (case a => k_is); (case l => k_is); (case c => k_is); (case k => k_is))
    (case f__law_pen' => refine' Ev.ff_mk ?a ?l ?c ?k; (case a => k_is); (case l => k_is); (case c => k_is); (case k => k_is))
    (case f__law_cell_at' => refine' Ev.ff_mk ?a ?l ?c ?k; (case a => k_is); (case l => k_is); (case c => k_is); (case k => k_is))
    (case f__law_board' => refine' Ev.ff_mk ?a ?l ?c ?k; (case a => k_is); (case l => k_is); (case c => k_is); (case k => k_is))
    (case f__law_chart' => refine' Ev.ff_mk ?a ?l ?c ?k; (case a => k_is); (case l => k_is); (case c => k_is); (case k => k_is))
    (case f__law_stands' => refine' Ev.ff_mk ?a ?l ?c ?k; (case a => k_is); (case l => k_is); (case c => k_is); (case k => k_is))
    (case f__law_step' => refine' Ev.ff_mk ?a ?l ?c ?k; (case a => k_is); (case l => k_is); (case c => k_is); (case k => k_is))
    (case f__law_same' => refine' Ev.ff_mk ?a ?l ?c ?k; (case a => k_is); (case l => k_is); (case c => k_is); (case k => k_is))
    (case f_beat' => refine' Ev.ff_mk ?a ?l ?c ?k; (case a => k_is); (case l => k_is); (case c => k_is); (case k => k_is))
    (case f_ahead' => refine' Ev.ff_mk ?a ?l ?c ?k; (case a => k_is); (case l => k_is); (case c => k_is); (case k => k_is))
    (case f__law_draw' => refine' Ev.ff_mk ?a ?l ?c ?k; (case a => k_is); (case l => k_is); (case c => k_is); (case k => k_is))
    (case f__law_fits' => refine' Ev.ff_mk ?a ?l ?c ?k; (case a => k_is); (case l => k_is); (case c => k_is); (case k => k_is))
    (case f__law_far' => refine' Ev.ff_mk ?a ?l ?c ?k; (case a => k_is); (case l => k_is); (case c => k_is); (case k => k_is))
    (case f__law_cross' => refine' Ev.ff_mk ?a ?l ?c ?k; (case a => k_is); (case l => k_is); (case c => k_is); (case k => k_is))
    (case f__law_met' => refine' Ev.ff_mk ?a ?l ?c ?k; (case a => k_is); (case l => k_is); (case c => k_is); (case k => k_is))
    (case f__law_spot' => refine' Ev.ff_mk ?a ?l ?c ?k; (case a => k_is); (case l => k_is); (case c => k_is); (case k => k_is))
    (case f_need_board' => refine' Ev.ff_mk ?a ?l ?c ?k; (case a => k_is); (case l => k_is); (case c => k_is); (case k => k_is))
    (case f_need_stand' => refine' Ev.ff_mk ?a ?l ?c ?k; (case a => k_is); (case l => k_is); (case c => k_is); (case k => k_is))
    (case f_stand_met' => refine' Ev.ff_mk ?a ?l ?c ?k; (case a => k_is); (case l => k_is); (case c => k_is); (case k => k_is))
    (case f_look_of' => refine' Ev.ff_mk ?a ?l ?c ?k; (case a => k_is); (case l => k_is); (case c => k_is); (case k => k_is))
    (case f_first_met' => refine' Ev.ff_mk ?a ?l ?c ?k; (case a => k_is); (case l => k_is); (case c => k_is); (case k => k_is))
    (case f_is_board' => refine' Ev.ff_mk ?a ?l ?c ?k; (case a => k_is); (case l => k_is); (case c => k_is); (case k => k_is))
    (case f_stand_holds' => refine' Ev.ff_mk ?a ?l ?c ?k; (case a => k_is); (case l => k_is); (case c => k_is); (case k => k_is))
    (case f_gap' => refine' Ev.ff_mk ?a ?l ?c ?k; (case a => k_is); (case l => k_is); (case c => k_is); (case k => k_is))
    (case f_is_pin' => refine' Ev.ff_mk ?a ?l ?c ?k; (case a => k_is); (case l => k_is); (case c => k_is); (case k => k_is))
    (case f_many_slopes' => refine' Ev.ff_mk ?a ?l ?c ?k; (case a => k_is); (case l => k_is); (case c => k_is); (case k => k_is))
    (case f_is_tuple_of' => refine' Ev.ff_mk ?a ?l ?c ?k; (case a => k_is); (case l => k_is); (case c => k_is); (case k => k_is))
    (case f_is_pin_number' => refine' Ev.ff_mk ?a ?l ?c ?k; (case a => k_is); (case l => k_is); (case c => k_is); (case k => k_is))
    (case f_is_whole' => refine' Ev.ff_mk ?a ?l ?c ?k; (case a => k_is); (case l => k_is); (case c => k_is); (case k => k_is))
    (case b_bool => k_is)
    (case b_enumerate => k_is)
    (case b_int => k_is)
    (case b_isinstance => k_is)
    (case b_len => k_is)
    (case b_list => k_is)
    (case b_max => k_is)
    (case b_min => k_is)
    (case b_range => k_is)
    (case b_repr => k_is)
    (case b_tuple => k_is)
    (case b_zip => k_is)
    (case c_FEWEST_PINS => refine' Ev.cf_int ?a; (case a => k_is))
    (case c_FINE => refine' Ev.cf_int ?a; (case a => k_is))
    (case c_LAST_PLACE => refine' Ev.cf_int ?a; (case a => k_is))
    (case c_MOST_PINS => refine' Ev.cf_int ?a; (case a => k_is))
    (case c_WORDS => refine' Ev.cf_strs2 ?a ?l; (case a => k_is); (case l => k_is))
    (case d_OTHER_WAY => refine' Ev.df_2 ?a ?l ?k ?u ?v; (case a => k_is); (case l => k_is); (case k => k_keys); (case u => k_is); (case v => k_is))
    (case d_OTHER_WORD => refine' Ev.df_2 ?a ?l ?k ?u ?v; (case a => k_is); (case l => k_is); (case k => k_keys); (case u => k_is); (case v => k_is))
