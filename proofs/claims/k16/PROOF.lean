import PyProof.Rows.All
import Wide.All
import OpenK.AllK
import Wide.FinOn
import HandS.ForMost
import HandS.SortOrd
import HandS.IsInst
import HandS.Walk
import HandS.Lambda
import HandS.Flow
import HandS.Zip
import HandS.Deep
import HandS.TupAny
import HandS.TupMul
import HandS.Wide
import HandS.Style
import KE.SortKeyHeap
import PyProof.ReprRoads
import HandS.More
import KE.GoesMore
import HandS.Conv
import HandS.ExcValue
import HandS.EndTab
import HandS.EndOwn
import KE.KNestM
import HandS.NestedK
import PySem.Challenge.RW_waypins_k16_beats_by_hand_and_by_names
set_option Elab.async false
set_option linter.all false
set_option maxRecDepth 100000
/-! Ev1: a small language for what a package's functions do, and what it works out to.
Data are trees (PyData); a list that is changed stands in a store, by its place. -/
namespace Ev
open PySem
abbrev D := PySem.PyData

/-- what a slot holds: data, or the place of a list that may be changed -/
inductive SV where
  | dat (d : D) | loc (n : Nat) | scr (ns : List Int)
/-- what an expression comes to: data (fr: a list just made, that nothing else holds), or a place -/
inductive ER where
  | dat (d : D) (fr : Bool) | loc (n : Nat) | scr (ns : List Int)
abbrev Env := List (Option SV)
abbrev Sto := List (List D)

/-- built-in functions -/
inductive Bf where
  | len | all | any | tup | lst | max | min | sum | abs | int | rep | str
  deriving DecidableEq
inductive IT where
  | nm (i : Nat) | tp (ts : List IT)
mutual
inductive IE where
  | int (i : Int) | str (x : Str) | bl (b : Bool) | non
  | slot (i : Nat) | con (x : Str)
  | tup (es : List IE) | lst (es : List IE)
  | bin (o : Operator) (a b : IE) | neg (a : IE) | no (a : IE)
  | land (a b : IE) | lor (a b : IE)
  | cmp (o : CmpOp) (a b : IE) | cmp2 (o p : CmpOp) (a b c : IE)
  | ite (c a b : IE)
  | call (f : Str) (es : List IE)
  | blt (f : Bf) (es : List IE)
  | isi (a : IE) (t : String)
  | idx (a b : IE) | cut (a : IE) (lo hi : Option IE) | rev (a : IE)
  | look (g : Str) (a : IE)
  | mth (m : Str) (a : IE) (es : List IE)
  | callk (f : Str) (ks : List Str) (es : List IE) (ix : List Nat)
  | lc (own : List (Str × Nat)) (t : IT) (it : II) (cs : List IE) (e : IE)
  | lc2 (own : List (Str × Nat)) (vs : List Nat) (t : IT) (it : II) (cs : List IE) (t1 : IT) (it1 : II) (cs1 : List IE) (e : IE)
  | sortl (a : IE) (i : Nat) (k : IE) (rev : Bool)
  | sortr (a : IE) (i : Nat) (k : IE) (rev : Bool)
  | slen (i : Nat) | sidx (i : Nat) (a : IE)
inductive II where
  | of (e : IE) | rng (es : List IE) | enm (e : IE) | zip (a b : IE)
end
inductive IS where
  | asg (t : IT) (e : IE)
  | par (is : List Nat) (es : List IE)
  | seti (i : Nat) (a e : IE)
  | app (i : Nat) (e : IE)
  | ins (i : Nat) (a e : IE)
  | exp (e : IE)
  | ite (c : IE) (a b : List IS)
  | loop (t : IT) (it : II) (b : List IS)
  | whl (c : IE) (b : List IS)
  | ret (e : Option IE)
  | pas | brk | cnt | nev
inductive Fl where
  | nx (env : Env) (st : Sto) | rt (r : ER) (st : Sto) | bk (env : Env) (st : Sto) | ct (env : Env) (st : Sto)

/-- how a package is told: its functions (how many parameters, how many names, the body), its constants, its dicts, the names whose lists are changed -/
structure FnD where
  ps : Nat
  len : Nat
  mu : List Nat
  lam : Bool
  body : List IS
structure Pk where
  fn : Str → Option FnD
  con : Str → Option D
  dic : Str → Option (List (Str × D))
  kc : List (Str × List Str × List Nat)
  wf : Nat

/-! ### data -/
mutual
def eqD : D → D → Bool
  | .none, .none => true
  | .bool a, .bool b => a == b
  | .int a, .int b => a == b
  | .str a, .str b => decide (a = b)
  | .list a, .list b => eqDs a b
  | .tuple a, .tuple b => eqDs a b
  | .dict a, .dict b => eqKs a b
  | _, _ => false
def eqDs : List D → List D → Bool
  | [], [] => true
  | a :: as, b :: bs => eqD a b && eqDs as bs
  | _, _ => false
def eqKs : List (D × D) → List (D × D) → Bool
  | [], [] => true
  | (a, c) :: as, (b, d) :: bs => eqD a b && eqD c d && eqKs as bs
  | _, _ => false
end
mutual
theorem eqD_eq : ∀ {a b : D}, eqD a b = true → a = b
  | .none, .none, _ => rfl
  | .bool a, .bool b, h => by simp only [eqD, beq_iff_eq] at h; rw [h]
  | .int a, .int b, h => by simp only [eqD, beq_iff_eq] at h; rw [h]
  | .str a, .str b, h => by simp only [eqD, decide_eq_true_eq] at h; rw [h]
  | .list a, .list b, h => by simp only [eqD] at h; rw [eqDs_eq h]
  | .tuple a, .tuple b, h => by simp only [eqD] at h; rw [eqDs_eq h]
  | .dict a, .dict b, h => by simp only [eqD] at h; rw [eqKs_eq h]
theorem eqDs_eq : ∀ {a b : List D}, eqDs a b = true → a = b
  | [], [], _ => rfl
  | a :: as, b :: bs, h => by
    simp only [eqDs, Bool.and_eq_true] at h
    rw [eqD_eq h.1, eqDs_eq h.2]
theorem eqKs_eq : ∀ {a b : List (D × D)}, eqKs a b = true → a = b
  | [], [], _ => rfl
  | (a, c) :: as, (b, d) :: bs, h => by
    simp only [eqKs, Bool.and_eq_true] at h
    rw [eqD_eq h.1.1, eqD_eq h.1.2, eqKs_eq h.2]
end
mutual
theorem eqD_refl : ∀ a : D, eqD a a = true
  | .none => by simp only [eqD]
  | .bool a => by simp only [eqD, beq_self_eq_true]
  | .int a => by simp only [eqD, beq_self_eq_true]
  | .str a => by simp only [eqD, decide_true]
  | .list a => by simp only [eqD]; exact eqDs_refl a
  | .tuple a => by simp only [eqD]; exact eqDs_refl a
  | .dict a => by simp only [eqD]; exact eqKs_refl a
theorem eqDs_refl : ∀ a : List D, eqDs a a = true
  | [] => by simp only [eqDs]
  | a :: as => by simp only [eqDs, eqD_refl a, eqDs_refl as, Bool.and_true]
theorem eqKs_refl : ∀ a : List (D × D), eqKs a a = true
  | [] => by simp only [eqKs]
  | (a, c) :: as => by simp only [eqKs, eqD_refl a, eqD_refl c, eqKs_refl as, Bool.and_true]
end
def truD : D → Option Bool
  | .none => some false
  | .bool b => some b
  | .int i => some (i != 0)
  | .str x => if x.length ≤ sizeLine then some ((x.length : Int) != 0) else none
  | .list xs => some (!xs.isEmpty)
  | .tuple xs => some (!xs.isEmpty)
  | .dict _ => none
def isD (t : String) : D → Option Bool
  | .none => L2.kitB "NoneType" t
  | .bool _ => L2.kitB "bool" t
  | .int _ => L2.kitB "int" t
  | .str _ => L2.kitB "str" t
  | .list _ => L2.kitB "list" t
  | .tuple _ => L2.kitB "tuple" t
  | .dict _ => L2.kitB "dict" t
def intsD : List D → Option (List Int)
  | [] => some []
  | .int i :: r => (intsD r).map (i :: ·)
  | _ => none
def bolsD : List D → Option (List Bool)
  | [] => some []
  | .bool i :: r => (bolsD r).map (i :: ·)
  | _ => none
def cutD (xs : List D) (lo hi : Option Int) : List D := (xs.drop (HT.sIx xs.length 0 lo)).take (HT.sIx xs.length xs.length hi - HT.sIx xs.length 0 lo)
def okSh (d : D) : Bool := SeqAt.shaped d

def binD : Operator → D → D → Option (D × Bool)
  | .Add, .int i, .int j => some (.int (i + j), false)
  | .Add, .list xs, .list ys => if xs.length + ys.length ≤ sizeLine then some (.list (xs ++ ys), true) else none
  | .Add, .tuple xs, .tuple ys => if xs.length + ys.length ≤ sizeLine then some (.tuple (xs ++ ys), false) else none
  | .Add, .str x, .str y => if x.length + y.length ≤ sizeLine then some (.str (x ++ y), false) else none
  | .Sub, .int i, .int j => some (.int (i - j), false)
  | .Mult, .int i, .int j => if (-(2 ^ 64) < i ∧ i < 2 ^ 64) ∨ (-(2 ^ 64) < j ∧ j < 2 ^ 64) then some (.int (i * j), false) else none
  | .Mult, .list xs, .int k => if -(2 ^ 63) ≤ k ∧ k < 2 ^ 63 ∧ xs.length * k.toNat ≤ sizeLine then some (.list (List.replicate k.toNat xs).flatten, true) else none
  | .Mult, .tuple xs, .int k => if xs ≠ [] ∧ 2 ≤ k ∧ k ≤ 1000 ∧ xs.length ≤ 1000 then some (.tuple (List.replicate k.toNat xs).flatten, false) else none
  | .FloorDiv, .int i, .int j => if 0 < j ∧ j < 2 ^ 100 then some (.int (i / j), false) else none
  | .Mod, .int i, .int j => if 0 < j then some (.int (i % j), false) else none
  | .Pow, .int i, .int j => if 0 ≤ j ∧ j ≤ 1000000 ∧ i.natAbs < 2 ^ 64 then some (.int (i ^ j.toNat), false) else none
  | _, _, _ => none
def cmpD : CmpOp → D → D → Option Bool
  | .Eq, a, b => if okSh a && okSh b then some (PyData.eqv a b) else none
  | .NotEq, a, b => if okSh a && okSh b then some (!PyData.eqv a b) else none
  | .Lt, .int i, .int j => some (decide (i < j))
  | .LtE, .int i, .int j => some (decide (i ≤ j))
  | .Gt, .int i, .int j => some (decide (j < i))
  | .GtE, .int i, .int j => some (decide (j ≤ i))
  | .Is, a, .none => some (eqD a .none)
  | .IsNot, a, .none => some (!eqD a .none)
  | .Is, .bool a, .bool b => some (decide (a = b))
  | .IsNot, .bool a, .bool b => some (!decide (a = b))
  | .In, a, .list xs => if okSh a && okSh (.list xs) then some (xs.any fun z => PyData.eqv z a) else none
  | .In, a, .tuple xs => if okSh a && okSh (.tuple xs) then some (xs.any fun z => PyData.eqv z a) else none
  | .NotIn, a, .list xs => if okSh a && okSh (.list xs) then some (!xs.any fun z => PyData.eqv z a) else none
  | .NotIn, a, .tuple xs => if okSh a && okSh (.tuple xs) then some (!xs.any fun z => PyData.eqv z a) else none
  | _, _, _ => none
def idxD : D → D → Option D
  | .list xs, .int i => L2.atI xs i
  | .tuple xs, .int i => L2.atI xs i
  | _, _ => none
def maxI (m : Int) : List Int → Int
  | [] => m
  | x :: r => maxI (if x > m then x else m) r
def minI (m : Int) : List Int → Int
  | [] => m
  | x :: r => minI (if x < m then x else m) r
def Bf.nm : Bf → Str
  | .len => "len" | .all => "all" | .any => "any" | .tup => "tuple" | .lst => "list" | .max => "max" | .min => "min" | .sum => "sum" | .abs => "abs" | .int => "int" | .rep => "repr" | .str => "str"
def okRep (d : D) : Bool := d.showable && !d.hasDict && decide (d.depth ≤ 60) && decide (d.shown.length ≤ sizeLine)
def bltD : Bf → List D → Option (D × Bool)
  | .len, [.list xs] => some (.int xs.length, false)
  | .len, [.tuple xs] => some (.int xs.length, false)
  | .all, [.list xs] => (bolsD xs).map fun bs => (.bool (bs.all id), false)
  | .any, [.list xs] => (bolsD xs).map fun bs => (.bool (bs.any id), false)
  | .tup, [.list xs] => some (.tuple xs, false)
  | .tup, [.tuple xs] => some (.tuple xs, false)
  | .lst, [.list xs] => some (.list xs, true)
  | .lst, [.tuple xs] => some (.list xs, true)
  | .max, [.int i, .int j] => some (.int (if j > i then j else i), false)
  | .max, [.list xs] => match intsD xs with | some (x :: r) => some (.int (maxI x r), false) | _ => none
  | .min, [.int i, .int j] => some (.int (if j < i then j else i), false)
  | .min, [.list xs] => match intsD xs with | some (x :: r) => some (.int (minI x r), false) | _ => none
  | .sum, [.list xs] => (intsD xs).map fun is => (.int is.sum, false)
  | .abs, [.int i] => some (.int (if i < 0 then -i else i), false)
  | .int, [.int i] => some (.int i, false)
  | .int, [.bool b] => some (.int (if b then 1 else 0), false)
  | .rep, [d] => if okRep d then some (.str d.shown, false) else none
  | .str, [.int i] => if i.natAbs.log2 < 1920 then some (.str (toString i), false) else none
  | _, _ => none

/-! ### reading -/
def rdE (st : Sto) : ER → Option D
  | .dat d _ => some d
  | .loc n => st[n]?.map .list
  | .scr _ => none
def rdEs (st : Sto) : List ER → Option (List D)
  | [] => some []
  | r :: rs => match rdE st r, rdEs st rs with
    | some d, some ds => some (d :: ds)
    | _, _ => none
def svE : ER → SV
  | .dat d _ => .dat d
  | .loc n => .loc n
  | .scr ns => .scr ns
def erS : SV → ER
  | .dat d => .dat d false
  | .loc n => .loc n
  | .scr ns => .scr ns
def wipeE (env : Env) : List Nat → Env
  | [] => env
  | v :: vs => (wipeE env vs).set v none
mutual
def bindT : IT → D → Env → Option Env
  | .nm i, d, env => if i < env.length then some (env.set i (some (.dat d))) else none
  | .tp ts, .tuple ds, env => bindTs ts ds env
  | .tp _, _, _ => none
def bindTs : List IT → List D → Env → Option Env
  | [], [], env => some env
  | t :: ts, d :: ds, env => match bindT t d env with
    | some env' => bindTs ts ds env'
    | none => none
  | _, _, _ => none
end
mutual
def slT : IT → List Nat
  | .nm i => [i]
  | .tp ts => slTs ts
def slTs : List IT → List Nat
  | [] => []
  | t :: ts => slT t ++ slTs ts
end
/-- the lists that are walked stand as they stood -/
def keptL (st : Sto) : List (Nat × List D) → Bool
  | [] => true
  | (n, xs) :: r => (match st[n]? with | some ys => eqDs xs ys | none => false) && keptL st r
def compL (f : D → Sto → Option (List D × Sto)) : List D → Sto → Option (List D × Sto)
  | [], st => some ([], st)
  | d :: ds, st => match f d st with
    | some (xs, st1) => match compL f ds st1 with
      | some (ys, st2) => some (xs ++ ys, st2)
      | none => none
    | none => none
def forL (f : D → Env → Sto → Option Fl) : List D → Env → Sto → Option Fl
  | [], env, st => some (.nx env st)
  | d :: ds, env, st => match f d env st with
    | some (.nx e s) => forL f ds e s
    | some (.ct e s) => forL f ds e s
    | some (.bk e s) => some (.nx e s)
    | some (.rt r s) => some (.rt r s)
    | none => none
def whlL (c : Env → Sto → Option (Bool × Sto)) (f : Env → Sto → Option Fl) : Nat → Env → Sto → Option Fl
  | 0, _, _ => none
  | n + 1, env, st => match c env st with
    | some (true, st1) => match f env st1 with
      | some (.nx e s) => whlL c f n e s
      | some (.ct e s) => whlL c f n e s
      | some (.bk e s) => some (.nx e s)
      | some (.rt r s) => some (.rt r s)
      | none => none
    | some (false, st1) => some (.nx env st1)
    | none => none
def insK (rev : Bool) (x : D × Int) : List (D × Int) → List (D × Int)
  | [] => [x]
  | y :: r => if (if rev then y.2 ≤ x.2 else x.2 ≤ y.2) then x :: y :: r else y :: insK rev x r
def sortK (rev : Bool) : List (D × Int) → List (D × Int)
  | [] => []
  | x :: r => insK rev x (sortK rev r)
def rngD (lo hi : Int) : List D := (List.range (hi - lo).toNat).map fun (k : Nat) => .int (lo + (k : Int))
/-- the items that are walked, and the lists that must stand meanwhile -/
def srcE (st : Sto) : ER → Option (List D × List (Nat × List D))
  | .dat (.list xs) _ => some (xs, [])
  | .dat (.tuple xs) _ => some (xs, [])
  | .loc n => st[n]?.map fun xs => (xs, [(n, xs)])
  | _ => none
/-- a tuple? -/
def srcT : ER → Bool
  | .dat (.tuple _) _ => true
  | _ => false
def enmD : Nat → List D → List D
  | _, [] => []
  | k, x :: r => .tuple [.int (k : Int), x] :: enmD (k + 1) r
def zipD : List D → List D → List D
  | x :: xs, y :: ys => .tuple [x, y] :: zipD xs ys
  | _, _ => []

/-- what stands at these places -/
def pick {α : Type} (ix : List Nat) (xs : List α) : List α := ix.filterMap (xs[·]?)
/-- a test: what it comes to, as a truth -/
def tstE : Option (ER × Sto) → Option (Bool × Sto)
  | some (x, st1) => match rdE st1 x with
    | some d => match truD d with
      | some b => some (b, st1)
      | none => none
    | none => none
  | none => none
/-- sorted by a key -/
def sortE (F : D → Sto → Option (ER × Sto)) (rev : Bool) (xs : List D) (st : Sto) : Option (ER × Sto) :=
  match compL (fun d s => match F d s with
      | some (.dat (.int y) _, s1) => some ([.int y], s1)
      | _ => none) xs st with
  | some (ks, st2) => match intsD ks with
    | some is => if xs.length ≤ 1000 then some (.dat (.list ((sortK rev (xs.zip is)).map (·.1))) true, st2) else none
    | none => none
  | none => none
section
variable (G : Pk) (cl : Str → List SV → Sto → Option (ER × Sto))
mutual
def evE : IE → Env → Sto → Option (ER × Sto)
  | .int i, _, st => some (.dat (.int i) false, st)
  | .str x, _, st => some (.dat (.str x) false, st)
  | .bl b, _, st => some (.dat (.bool b) false, st)
  | .non, _, st => some (.dat .none false, st)
  | .slot i, env, st => match env[i]? with
    | some (some s) => some (erS s, st)
    | _ => none
  | .con x, _, st => match G.con x with
    | some d => some (.dat d false, st)
    | none => none
  | .tup es, env, st => match evDs es env st with
    | some (ds, st1) => if ds.length ≤ sizeLine then some (.dat (.tuple ds) false, st1) else none
    | none => none
  | .lst es, env, st => match evDs es env st with
    | some (ds, st1) => if ds.length ≤ sizeLine then some (.dat (.list ds) true, st1) else none
    | none => none
  | .bin o a b, env, st => match evE a env st with
    | some (x, st1) => match evE b env st1 with
      | some (y, st2) => match rdE st2 x, rdE st2 y with
        | some d, some e => match binD o d e with
          | some (r, fr) => some (.dat r fr, st2)
          | none => none
        | _, _ => none
      | none => none
    | none => none
  | .neg a, env, st => match evE a env st with
    | some (.dat (.int i) _, st1) => some (.dat (.int (-i)) false, st1)
    | _ => none
  | .no a, env, st => match tstE (evE a env st) with
    | some (b, st1) => some (.dat (.bool (!b)) false, st1)
    | none => none
  | .land a b, env, st => match evE a env st with
    | some (x, st1) => match rdE st1 x with
      | some d => match truD d with
        | some true => evE b env st1
        | some false => some (x, st1)
        | none => none
      | none => none
    | none => none
  | .lor a b, env, st => match evE a env st with
    | some (x, st1) => match rdE st1 x with
      | some d => match truD d with
        | some true => some (x, st1)
        | some false => evE b env st1
        | none => none
      | none => none
    | none => none
  | .cmp o a b, env, st => match evE a env st with
    | some (x, st1) => match evE b env st1 with
      | some (y, st2) => match rdE st2 x, rdE st2 y with
        | some d, some e => match cmpD o d e with
          | some r => some (.dat (.bool r) false, st2)
          | none => none
        | _, _ => none
      | none => none
    | none => none
  | .cmp2 o p a b c, env, st => match evE a env st with
    | some (x, st1) => match evE b env st1 with
      | some (y, st2) => match rdE st2 x, rdE st2 y with
        | some d, some e => match cmpD o d e with
          | some true => match evE c env st2 with
            | some (z, st3) => match rdE st3 y, rdE st3 z with
              | some e1, some f => match cmpD p e1 f with
                | some r => some (.dat (.bool r) false, st3)
                | none => none
              | _, _ => none
            | none => none
          | some false => some (.dat (.bool false) false, st2)
          | none => none
        | _, _ => none
      | none => none
    | none => none
  | .ite c a b, env, st => match tstE (evE c env st) with
    | some (true, st1) => evE a env st1
    | some (false, st1) => evE b env st1
    | none => none
  | .call f es, env, st => match evEs es env st with
    | some (rs, st1) => cl f (rs.map svE) st1
    | none => none
  | .blt f es, env, st => match evEs es env st with
    | some (rs, st1) => match rdEs st1 rs with
      | some ds => match bltD f ds with
        | some (r, fr) => some (.dat r fr, st1)
        | none => none
      | none => none
    | none => none
  | .isi a t, env, st => match evE a env st with
    | some (x, st1) => match rdE st1 x with
      | some d => match isD t d with
        | some b => some (.dat (.bool b) false, st1)
        | none => none
      | none => none
    | none => none
  | .idx a b, env, st => match evE a env st with
    | some (x, st1) => match evE b env st1 with
      | some (y, st2) => match rdE st2 x, rdE st2 y with
        | some d, some e => match idxD d e with
          | some r => some (.dat r false, st2)
          | none => none
        | _, _ => none
      | none => none
    | none => none
  | .cut a lo hi, env, st => match evE a env st with
    | some (x, st1) => match evO lo env st1 with
      | some (l, st2) => match evO hi env st2 with
        | some (h, st3) => match rdE st3 x with
          | some (.list xs) => some (.dat (.list (cutD xs l h)) true, st3)
          | some (.tuple xs) => some (.dat (.tuple (cutD xs l h)) false, st3)
          | _ => none
        | none => none
      | none => none
    | none => none
  | .rev a, env, st => match evE a env st with
    | some (x, st1) => match rdE st1 x with
      | some (.list xs) => some (.dat (.list xs.reverse) true, st1)
      | some (.tuple xs) => some (.dat (.tuple xs.reverse) false, st1)
      | _ => none
    | none => none
  | .look g a, env, st => match evE a env st with
    | some (.dat (.str k) _, st1) => match G.dic g with
      | some kvs => match kvs.lookup k with
        | some d => some (.dat d false, st1)
        | none => none
      | none => none
    | _ => none
  | .mth _ _ _, _, _ => none
  | .callk f _ es ix, env, st => match evEs es env st with
    | some (rs, st1) => cl f ((pick ix rs).map svE) st1
    | none => none
  | .lc own t it cs e, env, st => match evI it env st with
    | some (xs, kp, st1) => match compL (fun d s => match bindT t d (wipeE env (own.map (·.2))) with
        | some env1 => match evCs cs env1 s with
          | some (true, s1) => match evE e env1 s1 with
            | some (.dat y _, s2) => if keptL s2 kp then some ([y], s2) else none
            | _ => none
          | some (false, s1) => if keptL s1 kp then some ([], s1) else none
          | none => none
        | none => none) xs st1 with
      | some (ys, st2) => if ys.length ≤ sizeLine then some (.dat (.list ys) true, st2) else none
      | none => none
    | none => none
  | .lc2 own vs t it cs t1 it1 cs1 e, env, st => match evI it env st with
    | some (xs, kp, st1) => match compL (fun d s => match bindT t d (wipeE env (own.map (·.2))) with
        | some env1 => match evCs cs env1 s with
          | some (true, s1) => match evI it1 env1 s1 with
            | some (zs, kp1, s2) => match compL (fun d1 s => match bindT t1 d1 (wipeE env1 vs) with
                | some env2 => match evCs cs1 env2 s with
                  | some (true, s3) => match evE e env2 s3 with
                    | some (.dat y _, s4) => if keptL s4 kp1 then some ([y], s4) else none
                    | _ => none
                  | some (false, s3) => if keptL s3 kp1 then some ([], s3) else none
                  | none => none
                | none => none) zs s2 with
              | some (ys, s5) => if keptL s5 kp then some (ys, s5) else none
              | none => none
            | none => none
          | some (false, s1) => if keptL s1 kp then some ([], s1) else none
          | none => none
        | none => none) xs st1 with
      | some (ys, st2) => if ys.length ≤ sizeLine then some (.dat (.list ys) true, st2) else none
      | none => none
    | none => none
  | .sortl a i k rev, env, st => match evE a env st with
    | some (x, st1) => match rdE st1 x with
      | some (.list xs) => sortE (fun d s => evE k (env.set i (some (.dat d))) s) rev xs st1
      | _ => none
    | none => none
  | .sortr a i k rev, env, st => match evE a env st with
    | some (.dat (.int n) _, st1) => if 0 ≤ n ∧ n ≤ 1000 then sortE (fun d s => evE k (env.set i (some (.dat d))) s) rev (rngD 0 n) st1 else none
    | _ => none
  | .slen i, env, st => match env[i]? with
    | some (some (.scr ns)) => some (.dat (.int ns.length) false, st)
    | _ => none
  | .sidx i a, env, st => match env[i]? with
    | some (some (.scr ns)) => match evE a env st with
      | some (.dat (.int k) _, st1) => match L2.atI ns k with
        | some v => some (.dat (.int v) false, st1)
        | none => none
      | _ => none
    | _ => none
/-- data alone -/
def evDs : List IE → Env → Sto → Option (List D × Sto)
  | [], _, st => some ([], st)
  | e :: es, env, st => match evE e env st with
    | some (.dat d _, st1) => match evDs es env st1 with
      | some (ds, st2) => some (d :: ds, st2)
      | none => none
    | _ => none
def evEs : List IE → Env → Sto → Option (List ER × Sto)
  | [], _, st => some ([], st)
  | e :: es, env, st => match evE e env st with
    | some (r, st1) => match evEs es env st1 with
      | some (rs, st2) => some (r :: rs, st2)
      | none => none
    | none => none
def evCs : List IE → Env → Sto → Option (Bool × Sto)
  | [], _, st => some (true, st)
  | e :: es, env, st => match tstE (evE e env st) with
    | some (true, st1) => evCs es env st1
    | some (false, st1) => some (false, st1)
    | none => none
def evO : Option IE → Env → Sto → Option (Option Int × Sto)
  | none, _, st => some (none, st)
  | some e, env, st => match evE e env st with
    | some (.dat (.int i) _, st1) => some (some i, st1)
    | _ => none
def evI : II → Env → Sto → Option (List D × List (Nat × List D) × Sto)
  | .of e, env, st => match evE e env st with
    | some (x, st1) => match srcE st1 x with
      | some (xs, kp) => some (xs, kp, st1)
      | none => none
    | none => none
  | .rng es, env, st => match evDs es env st with
    | some ([.int n], st1) => if -(2 ^ 62) ≤ n ∧ n < 2 ^ 62 then some (rngD 0 n, [], st1) else none
    | some ([.int a, .int b], st1) => if -(2 ^ 62) ≤ a ∧ a < 2 ^ 62 ∧ -(2 ^ 62) ≤ b ∧ b < 2 ^ 62 then some (rngD a b, [], st1) else none
    | _ => none
  | .enm e, env, st => match evE e env st with
    | some (x, st1) => match srcE st1 x with
      | some (xs, kp) => some (enmD 0 xs, kp, st1)
      | none => none
    | none => none
  | .zip a b, env, st => match evE a env st with
    | some (x, st1) => match evE b env st1 with
      | some (y, st2) => match srcE st2 x, srcE st2 y with
        | some (xs, kp), some (ys, kq) => if srcT x == srcT y then some (zipD xs ys, kp ++ kq, st2) else none
        | _, _ => none
      | none => none
    | none => none
end
end
end Ev
set_option linter.all false
set_option maxRecDepth 100000
set_option maxHeartbeats 2000000
/-! Ev2: how data, slots and the store lie in the heap. -/
namespace Ev
open PySem PySem.Spec L2
variable {K : PySem.W.Frag} {T : List (Addr × Str)}

/-- the heap goes on: all that isn't at φ (and is no table) stands as it stood -/
structure Ext (φ : List Addr) (H H' : Hp) : Prop where
  keep : ∀ b o, H b = some o → b ∉ φ → (∀ ps, o ≠ .tbl ps) → H' b = some o
  dom : ∀ b, H' b = none → H b = none
/-- at φ stands nothing but lists -/
def Lst (φ : List Addr) (H : Hp) : Prop := ∀ a ∈ φ, ∀ o, H a = some o → ∃ xs, o = .lst xs

mutual
/-- v is the tree d, and no list at φ is in it -/
inductive RD (K : PySem.W.Frag) (φ : List Addr) (H : Hp) : V → D → Prop
  | non : RD K φ H .non .none
  | bl (b : Bool) : RD K φ H (.bl b) (.bool b)
  | int (i : Int) : RD K φ H (.int i) (.int i)
  | str (x : Str) : RD K φ H (.str x) (.str x)
  | lst {a : Addr} {xs : List V} {ds : List D} : a ∉ φ → H a = some (.lst xs) → RDs K φ H xs ds → RD K φ H (.ref a) (.list ds)
  | tup {a : Addr} {xs : List V} {ds : List D} : SqT K H a xs → RDs K φ H xs ds → RD K φ H (.ref a) (.tuple ds)
  | dct {a : Addr} : H a = some (.dK []) → RD K φ H (.ref a) (.dict [])
inductive RDs (K : PySem.W.Frag) (φ : List Addr) (H : Hp) : List V → List D → Prop
  | nil : RDs K φ H [] []
  | cons {v : V} {vs : List V} {d : D} {ds : List D} : RD K φ H v d → RDs K φ H vs ds → RDs K φ H (v :: vs) (d :: ds)
end
theorem Ext.refl (φ : List Addr) (H : Hp) : Ext φ H H := ⟨fun _ _ h _ _ => h, fun _ h => h⟩
theorem Ext.trans {φ : List Addr} {H H1 H2 : Hp} (a : Ext φ H H1) (b : Ext φ H1 H2) : Ext φ H H2 :=
  ⟨fun c o h n t => b.keep c o (a.keep c o h n t) n t, fun c h => a.dom c (b.dom c h)⟩
theorem Ext.more {φ ψ : List Addr} {H H1 : Hp} (a : Ext φ H H1) (h : ∀ x ∈ φ, x ∈ ψ) : Ext ψ H H1 :=
  ⟨fun c o e n t => a.keep c o e (fun z => n (h c z)) t, a.dom⟩
theorem Ext.new {φ : List Addr} {H : Hp} {p : Addr} {o : HO} (h : H p = none) : Ext φ H (upd H p o) := by
  refine ⟨fun b u e _ _ => ?_, fun b e => ?_⟩
  · rw [upd_ne (ne_of_none e h)]; exact e
  · by_cases z : b = p
    · rw [z, upd_same] at e; cases e
    · rw [upd_ne z] at e; exact e
theorem Ext.at {φ : List Addr} {H : Hp} {p : Addr} {o : HO} (h : p ∈ φ) : Ext φ H (upd H p o) := by
  refine ⟨fun b u e n _ => ?_, fun b e => ?_⟩
  · rw [upd_ne (fun z => n (by rw [z]; exact h))]; exact e
  · by_cases z : b = p
    · rw [z, upd_same] at e; cases e
    · rw [upd_ne z] at e; exact e
theorem SqT.ext {φ : List Addr} {H H' : Hp} {a : Addr} {xs : List V} (x : Ext φ H H') (f : Lst φ H) (h : SqT K H a xs) : SqT K H' a xs := by
  rcases h with (h | ⟨o, h⟩) | h
  · refine .inl (.inl (x.keep _ _ h (fun z => ?_) (fun ps z => by cases z)))
    obtain ⟨ys, e⟩ := f _ z _ h
    cases e
  · refine .inl (.inr ⟨o, x.keep _ _ h (fun z => ?_) (fun ps z => by cases z)⟩)
    obtain ⟨ys, e⟩ := f _ z _ h
    cases e
  · exact .inr h
mutual
theorem RD.ext {φ : List Addr} {H H' : Hp} (x : Ext φ H H') (f : Lst φ H) : ∀ {v : V} {d : D}, RD K φ H v d → RD K φ H' v d
  | _, _, .non => .non
  | _, _, .bl b => .bl b
  | _, _, .int i => .int i
  | _, _, .str s => .str s
  | _, _, .lst n h r => .lst n (x.keep _ _ h n (fun ps z => by cases z)) (RDs.ext x f r)
  | _, _, .tup h r => .tup (SqT.ext x f h) (RDs.ext x f r)
  | _, _, .dct h => .dct (x.keep _ _ h (fun z => by obtain ⟨ys, e⟩ := f _ z _ h; cases e) (fun ps z => by cases z))
theorem RDs.ext {φ : List Addr} {H H' : Hp} (x : Ext φ H H') (f : Lst φ H) : ∀ {vs : List V} {ds : List D}, RDs K φ H vs ds → RDs K φ H' vs ds
  | _, _, .nil => .nil
  | _, _, .cons a b => .cons (RD.ext x f a) (RDs.ext x f b)
end
mutual
theorem RD.weak {φ ψ : List Addr} {H : Hp} (h : ∀ a ∈ ψ, a ∈ φ) : ∀ {v : V} {d : D}, RD K φ H v d → RD K ψ H v d
  | _, _, .non => .non
  | _, _, .bl b => .bl b
  | _, _, .int i => .int i
  | _, _, .str s => .str s
  | _, _, .lst n e r => .lst (fun z => n (h _ z)) e (RDs.weak h r)
  | _, _, .tup e r => .tup e (RDs.weak h r)
  | _, _, .dct e => .dct e
theorem RDs.weak {φ ψ : List Addr} {H : Hp} (h : ∀ a ∈ ψ, a ∈ φ) : ∀ {vs : List V} {ds : List D}, RDs K φ H vs ds → RDs K ψ H vs ds
  | _, _, .nil => .nil
  | _, _, .cons a b => .cons (RD.weak h a) (RDs.weak h b)
end
mutual
/-- what was there leans on nothing that comes -/
theorem RD.fresh {φ : List Addr} {H : Hp} {p : Addr} (h : H p = none) : ∀ {v : V} {d : D}, RD K φ H v d → RD K (φ ++ [p]) H v d
  | _, _, .non => .non
  | _, _, .bl b => .bl b
  | _, _, .int i => .int i
  | _, _, .str s => .str s
  | _, _, .lst n e r => .lst (fun z => by
      rcases List.mem_append.mp z with z | z
      · exact n z
      · rw [List.mem_singleton.mp z, h] at e; cases e) e (RDs.fresh h r)
  | _, _, .tup e r => .tup e (RDs.fresh h r)
  | _, _, .dct e => .dct e
theorem RDs.fresh {φ : List Addr} {H : Hp} {p : Addr} (h : H p = none) : ∀ {vs : List V} {ds : List D}, RDs K φ H vs ds → RDs K (φ ++ [p]) H vs ds
  | _, _, .nil => .nil
  | _, _, .cons a b => .cons (RD.fresh h a) (RDs.fresh h b)
end
mutual
theorem RD.dp {φ : List Addr} {H : Hp} : ∀ {v : V} {d : D}, d.canLay0 = true → RD K φ H v d → Dp K H v d
  | _, _, _, .non => .non
  | _, _, _, .bl b => .bl b
  | _, _, _, .int i => .int i
  | _, _, _, .str s => .str s
  | _, _, c, .lst n e r => .lst (.inl (.inl e)) (RDs.dp (by simpa [PyData.canLay0] using c) r)
  | _, _, c, .tup e r => .tup e (RDs.dp (by simpa [PyData.canLay0] using c) r)
  | _, _, c, .dct e => by simp [PyData.canLay0] at c
theorem RDs.dp {φ : List Addr} {H : Hp} : ∀ {vs : List V} {ds : List D}, PyData.canLayAll0 ds = true → RDs K φ H vs ds → DpAll K H vs ds
  | _, _, _, .nil => .nil
  | _, _, c, .cons a b => by
    simp only [PyData.canLayAll0, Bool.and_eq_true] at c
    exact .cons (RD.dp c.1 a) (RDs.dp c.2 b)
end
theorem RDs.length {φ : List Addr} {H : Hp} : ∀ {vs : List V} {ds : List D}, RDs K φ H vs ds → vs.length = ds.length
  | _, _, .nil => rfl
  | _, _, .cons _ b => congrArg (· + 1) (RDs.length b)
theorem RDs.get {φ : List Addr} {H : Hp} : ∀ {vs : List V} {ds : List D} {i : Nat} {d : D}, RDs K φ H vs ds → ds[i]? = some d → ∃ v, vs[i]? = some v ∧ RD K φ H v d
  | _, _, _, _, .nil, e => by simp at e
  | _, _, 0, _, .cons a _, e => ⟨_, rfl, by simp at e; subst e; exact a⟩
  | _, _, i + 1, d, .cons _ b, e => by
    obtain ⟨v, h1, h2⟩ := RDs.get (i := i) b (by simpa using e)
    exact ⟨v, by simpa using h1, h2⟩
theorem RDs.getV {φ : List Addr} {H : Hp} : ∀ {vs : List V} {ds : List D} {i : Nat} {v : V}, RDs K φ H vs ds → vs[i]? = some v → ∃ d, ds[i]? = some d ∧ RD K φ H v d
  | _, _, _, _, .nil, e => by simp at e
  | _, _, 0, _, .cons a _, e => ⟨_, rfl, by simp at e; subst e; exact a⟩
  | _, _, i + 1, d, .cons _ b, e => by
    obtain ⟨v, h1, h2⟩ := RDs.getV (i := i) b (by simpa using e)
    exact ⟨v, by simpa using h1, h2⟩
theorem RDs.append {φ : List Addr} {H : Hp} : ∀ {vs ws : List V} {ds es : List D}, RDs K φ H vs ds → RDs K φ H ws es → RDs K φ H (vs ++ ws) (ds ++ es)
  | _, _, _, _, .nil, s => s
  | _, _, _, _, .cons a b, s => .cons a (RDs.append b s)
theorem RDs.take {φ : List Addr} {H : Hp} : ∀ {vs : List V} {ds : List D} (n : Nat), RDs K φ H vs ds → RDs K φ H (vs.take n) (ds.take n)
  | _, _, 0, _ => .nil
  | _, _, _ + 1, .nil => .nil
  | _, _, n + 1, .cons a b => .cons a (RDs.take n b)
theorem RDs.drop {φ : List Addr} {H : Hp} : ∀ {vs : List V} {ds : List D} (n : Nat), RDs K φ H vs ds → RDs K φ H (vs.drop n) (ds.drop n)
  | _, _, 0, r => r
  | _, _, _ + 1, .nil => .nil
  | _, _, n + 1, .cons _ b => RDs.drop n b
theorem RDs.reverse {φ : List Addr} {H : Hp} : ∀ {vs : List V} {ds : List D}, RDs K φ H vs ds → RDs K φ H vs.reverse ds.reverse
  | _, _, .nil => .nil
  | _, _, .cons a b => by
    rw [List.reverse_cons, List.reverse_cons]
    exact (RDs.reverse b).append (.cons a .nil)
theorem RDs.rep {φ : List Addr} {H : Hp} {vs : List V} {ds : List D} (h : RDs K φ H vs ds) : ∀ k : Nat, RDs K φ H (List.replicate k vs).flatten (List.replicate k ds).flatten
  | 0 => .nil
  | k + 1 => by
    rw [List.replicate_succ, List.flatten_cons, List.replicate_succ, List.flatten_cons]
    exact h.append (RDs.rep h k)
theorem RDs.set {φ : List Addr} {H : Hp} {v : V} {d : D} (r : RD K φ H v d) : ∀ {vs : List V} {ds : List D} (i : Nat), RDs K φ H vs ds → RDs K φ H (vs.set i v) (ds.set i d)
  | _, _, _, .nil => .nil
  | _, _, 0, .cons _ b => .cons r b
  | _, _, i + 1, .cons a b => .cons a (RDs.set r i b)

/-! ### the store and the slots -/
/-- the tables of code objects; no other table is tracked -/
def TbA (T : List (Addr × Str)) (H : Hp) : Prop := LamX.Tabs T H ∧ ∀ a ps, H a = some (.tbl ps) → a ∈ T.map (·.1)
structure Ws (K : PySem.W.Frag) (T : List (Addr × Str)) (φ ρ : List Addr) (H : Hp) (st : Sto) : Prop where
  len : ρ.length = st.length
  sto : ∀ (n : Nat) (ds : List D), st[n]? = some ds → ∃ a xs, ρ[n]? = some a ∧ H a = some (.lst xs) ∧ RDs K φ H xs ds
  nd : ρ.Nodup
  sub : ∀ a ∈ ρ, a ∈ φ
  fx : ∀ a ∈ φ, ∃ xs, H a = some (.lst xs)
  tab : TbA T H
theorem Ws.fl {φ ρ : List Addr} {H : Hp} {st : Sto} (w : Ws K T φ ρ H st) : Lst φ H := fun a ha o e => by
  obtain ⟨xs, h⟩ := w.fx a ha
  rw [h] at e; cases e
  exact ⟨xs, rfl⟩
def ScR (K : PySem.W.Frag) (H : Hp) (a : Addr) (ns : List Int) : Prop :=
  (∃ o, H a = some (.frz o (.lst (ns.map V.int)))) ∨
    ∃ (o : Obj) (its : Array Value) (n : Nat), K.lookup a = some o ∧ o.cls = .type "list" ∧ o.dict = none ∧ o.data = .seq its n ∧ its.size ≤ sizeLine ∧ Vals (ns.map V.int) its.toList
theorem ScR.sq {H : Hp} {a : Addr} {ns : List Int} (h : ScR K H a ns) : SqL K H a (ns.map V.int) := h.elim (fun ⟨o, e⟩ => .inl (.inr ⟨o, e⟩)) .inr
theorem ScR.of {H : Hp} {a : Addr} {ns : List Int} (h : SqL K H a (ns.map V.int)) (n : H a ≠ some (.lst (ns.map V.int))) : ScR K H a ns := by
  rcases h with (h | h) | h
  · exact absurd h n
  · exact .inl h
  · exact .inr h
def RS (K : PySem.W.Frag) (φ ρ : List Addr) (H : Hp) : SV → V → Prop
  | .dat d, v => RD K φ H v d
  | .loc n, v => ∃ a, ρ[n]? = some a ∧ v = .ref a
  | .scr ns, v => ∃ a, v = .ref a ∧ ScR K H a ns
abbrev RR (K : PySem.W.Frag) (φ ρ : List Addr) (H : Hp) (r : ER) (v : V) : Prop := RS K φ ρ H (svE r) v
structure Sl (K : PySem.W.Frag) (φ ρ : List Addr) (H : Hp) (env : Env) (σ : St) : Prop where
  len : env.length = σ.length
  get : ∀ (i : Nat) (s : SV), env[i]? = some (some s) → ∃ v, σ[i]? = some (some v) ∧ RS K φ ρ H s v
theorem RS.ext {φ ρ : List Addr} {H H' : Hp} (x : Ext φ H H') (f : Lst φ H) {s : SV} {v : V} (h : RS K φ ρ H s v) : RS K φ ρ H' s v := by
  cases s with
  | dat d => exact RD.ext x f h
  | loc n => exact h
  | scr ns =>
    obtain ⟨a, e, h⟩ := h
    refine ⟨a, e, ?_⟩
    rcases h with ⟨o, h⟩ | h
    · refine .inl ⟨o, x.keep _ _ h (fun z => ?_) (fun ps z => by cases z)⟩
      obtain ⟨ys, e⟩ := f _ z _ h
      cases e
    · exact .inr h
theorem RS.fresh {φ ρ : List Addr} {H : Hp} {p : Addr} (h : H p = none) {s : SV} {v : V} (r : RS K φ ρ H s v) : RS K (φ ++ [p]) ρ H s v := by
  cases s with
  | dat d => exact RD.fresh h r
  | loc n => exact r
  | scr ns => exact r
theorem RS.weak {φ ψ ρ : List Addr} {H : Hp} (h : ∀ a ∈ ψ, a ∈ φ) {s : SV} {v : V} (r : RS K φ ρ H s v) : RS K ψ ρ H s v := by
  cases s with
  | dat d => exact RD.weak h r
  | loc n => exact r
  | scr ns => exact r
theorem Sl.ext {φ ρ : List Addr} {H H' : Hp} {env : Env} {σ : St} (x : Ext φ H H') (f : Lst φ H) (h : Sl K φ ρ H env σ) : Sl K φ ρ H' env σ :=
  ⟨h.len, fun i s e => let ⟨v, a, b⟩ := h.get i s e; ⟨v, a, b.ext x f⟩⟩
theorem Sl.fresh {φ ρ : List Addr} {H : Hp} {p : Addr} {env : Env} {σ : St} (n : H p = none) (h : Sl K φ ρ H env σ) : Sl K (φ ++ [p]) ρ H env σ :=
  ⟨h.len, fun i s e => let ⟨v, a, b⟩ := h.get i s e; ⟨v, a, b.fresh n⟩⟩
theorem Sl.weak {φ ψ ρ : List Addr} {H : Hp} {env : Env} {σ : St} (w : ∀ a ∈ ψ, a ∈ φ) (h : Sl K φ ρ H env σ) : Sl K ψ ρ H env σ :=
  ⟨h.len, fun i s e => let ⟨v, a, b⟩ := h.get i s e; ⟨v, a, b.weak w⟩⟩
theorem Sl.set {φ ρ : List Addr} {H : Hp} {env : Env} {σ : St} {i : Nat} {s : SV} {v : V} (h : Sl K φ ρ H env σ) (r : RS K φ ρ H s v) : Sl K φ ρ H (env.set i (some s)) (σ.set i (some v)) := by
  refine ⟨by simp [h.len], fun j t e => ?_⟩
  by_cases z : j = i
  · subst z
    by_cases l : j < env.length
    · rw [List.getElem?_set_self l] at e
      cases e
      exact ⟨v, List.getElem?_set_self (by rw [← h.len]; exact l), r⟩
    · rw [List.getElem?_eq_none (by simpa using l)] at e; cases e
  · rw [List.getElem?_set_ne (Ne.symm z)] at e
    obtain ⟨w, a, b⟩ := h.get j t e
    exact ⟨w, by rw [List.getElem?_set_ne (Ne.symm z)]; exact a, b⟩
theorem Sl.wipe {φ ρ : List Addr} {H : Hp} {env : Env} {σ : St} (h : Sl K φ ρ H env σ) : ∀ vs : List Nat, Sl K φ ρ H (wipeE env vs) (L2.wipe σ vs)
  | [] => h
  | k :: vs => by
    have q := Sl.wipe h vs
    refine ⟨?_, fun j t e => ?_⟩
    · show ((wipeE env vs).set k none).length = ((L2.wipe σ vs).set k none).length
      rw [List.length_set, List.length_set]; exact q.len
    · have e : ((wipeE env vs).set k none)[j]? = some (some t) := e
      show ∃ v, ((L2.wipe σ vs).set k none)[j]? = some (some v) ∧ _
      by_cases z : j = k
      · subst z
        by_cases l : j < (wipeE env vs).length
        · rw [List.getElem?_set_self l] at e; cases e
        · rw [List.getElem?_eq_none (by simpa using l)] at e; cases e
      · rw [List.getElem?_set_ne (Ne.symm z)] at e
        obtain ⟨w, a, b⟩ := q.get j t e
        exact ⟨w, by rw [List.getElem?_set_ne (Ne.symm z)]; exact a, b⟩
theorem Tabs_ext {φ : List Addr} {H : Hp} (t : TbA T H) {p : Addr} {o : HO} (h : H p = none ∨ ∃ xs, H p = some (.lst xs)) (ho : ∀ ps, o ≠ .tbl ps := by intro _ z; cases z) : TbA T (upd H p o) := by
  have k : ∀ b u, H b = some u → (∀ xs, u ≠ .lst xs) → upd H p o b = some u := fun b u e n => by
    refine (upd_ne fun z => ?_).trans e
    subst z
    rcases h with h | ⟨xs, h⟩
    · rw [h] at e; cases e
    · rw [h] at e; cases e; exact n xs rfl
  refine ⟨fun q hq => ?_, fun a ps e => ?_⟩
  rotate_left
  · by_cases z : a = p
    · subst z
      rw [upd_same] at e
      exact absurd (Option.some.inj e) (ho ps)
    · rw [upd_ne z] at e
      exact t.2 a ps e
  obtain ⟨ps, h1, h2, h3⟩ := t.1 q hq
  refine ⟨ps, k _ _ h1 (fun xs z => by cases z), h2, fun pos cv hc => ?_⟩
  obtain ⟨c, e1, e2⟩ := h3 pos cv hc
  exact ⟨c, e1, k _ _ e2 (fun xs z => by unfold LamX.CodeO at z; cases z)⟩
/-- a new object comes -/
theorem Ws.new {φ ρ : List Addr} {H : Hp} {st : Sto} {p : Addr} {o : HO} (w : Ws K T φ ρ H st) (h : H p = none) (ho : ∀ ps, o ≠ .tbl ps := by intro _ z; cases z) : Ws K T φ ρ (upd H p o) st := by
  have x : Ext φ H (upd H p o) := .new h
  refine ⟨w.len, fun n ds e => ?_, w.nd, w.sub, fun a ha => ?_, Tabs_ext (φ := φ) w.tab (.inl h) ho⟩
  · obtain ⟨a, xs, h1, h2, h3⟩ := w.sto n ds e
    exact ⟨a, xs, h1, (upd_ne (ne_of_none h2 h)).trans h2, h3.ext x w.fl⟩
  · obtain ⟨xs, e⟩ := w.fx a ha
    exact ⟨xs, (upd_ne (ne_of_none e h)).trans e⟩
theorem Ws.fresh {φ ρ : List Addr} {H : Hp} {st : Sto} {p : Addr} {xs : List V} (w : Ws K T φ ρ H st) (h : H p = none) : Ws K T (φ ++ [p]) ρ (upd H p (.lst xs)) st := by
  have x : Ext φ H (upd H p (.lst xs)) := .new h
  have q := w.new (o := .lst xs) h
  refine ⟨q.len, fun n ds e => ?_, q.nd, fun a ha => List.mem_append_left _ (q.sub a ha), fun a ha => ?_, q.tab⟩
  · obtain ⟨a, ys, h1, h2, h3⟩ := w.sto n ds e
    refine ⟨a, ys, h1, (upd_ne (ne_of_none h2 h)).trans h2, ?_⟩
    have y : Ext (φ ++ [p]) H (upd H p (.lst xs)) := .new h
    have r := RDs.fresh h h3
    clear h3
    have key : ∀ {vs : List V} {ds : List D}, RDs K (φ ++ [p]) H vs ds → RDs K (φ ++ [p]) (upd H p (.lst xs)) vs ds := fun {vs ds} r => by
      refine RDs.rec (motive_1 := fun v d _ => RD K (φ ++ [p]) (upd H p (.lst xs)) v d) (motive_2 := fun v d _ => RDs K (φ ++ [p]) (upd H p (.lst xs)) v d) .non .bl .int .str (fun n e _ i => ?_) (fun e _ i => ?_) (fun e => .dct ((upd_ne (ne_of_none e h)).trans e)) .nil (fun _ _ i j => .cons i j) r
      · exact .lst n ((upd_ne fun z => n (by rw [z]; simp)).trans e) i
      · refine .tup ?_ i
        exact SqT.ext x w.fl e
    exact key r
  · rcases List.mem_append.mp ha with ha | ha
    · exact q.fx a ha
    · rw [List.mem_singleton.mp ha]; exact ⟨xs, upd_same⟩
end Ev
set_option linter.all false
set_option maxRecDepth 100000
set_option maxHeartbeats 4000000
/-! Ev3: operators, subscripts, slices, built-in functions by values. -/
namespace Ev
open PySem PySem.Spec L2
variable {K : PySem.W.Frag} {T : List (Addr × Str)} {X : Cx}

structure Post (K : PySem.W.Frag) (T : List (Addr × Str)) (φ ρ : List Addr) (H H' : Hp) (env : Env) (σ : L2.St) (st' : Sto) (r : ER) (v : V) : Prop where
  ws : Ws K T φ ρ H' st'
  sl : Sl K φ ρ H' env σ
  ext : Ext ρ H H'
  rr : RR K φ ρ H' r v
  fr : ∀ d, r = .dat d true → ∃ p xs ds, d = .list ds ∧ v = .ref p ∧ H p = none ∧ H' p = some (.lst xs) ∧ RDs K (φ ++ [p]) H' xs ds ∧ Ws K T (φ ++ [p]) ρ H' st' ∧ Sl K (φ ++ [p]) ρ H' env σ
/-- what an expression is read as -/
def tF (K : PySem.W.Frag) (T : List (Addr × Str)) (F : Env → Sto → Option (ER × Sto)) : TE := fun σ H Q =>
  ∃ φ ρ env st r st', Ws K T φ ρ H st ∧ Sl K φ ρ H env σ ∧ F env st = some (r, st') ∧ ∀ v H', Post K T φ ρ H H' env σ st' r v → Q v H'

section
variable {φ ρ : List Addr} {H H1 H2 H' : Hp} {env : Env} {σ : L2.St} {st st1 st' : Sto} {r : ER} {v : V} {d : D}
theorem Post.at (ws : Ws K T φ ρ H st) (sl : Sl K φ ρ H env σ) (rr : RR K φ ρ H r v) (n : ∀ d, r ≠ .dat d true) : Post K T φ ρ H H env σ st r v :=
  ⟨ws, sl, .refl _ _, rr, fun d e => absurd e (n d)⟩
/-- put ahead of it what went before -/
theorem Post.pre (x : Ext ρ H H1) (p : Post K T φ ρ H1 H' env σ st' r v) : Post K T φ ρ H H' env σ st' r v :=
  ⟨p.ws, p.sl, x.trans p.ext, p.rr, fun d e => let ⟨q, xs, ds, h1, h2, h3, h4⟩ := p.fr d e; ⟨q, xs, ds, h1, h2, x.dom _ h3, h4⟩⟩
theorem Post.lst {p : Addr} {xs : List V} {ds : List D} (ws : Ws K T φ ρ H st) (sl : Sl K φ ρ H env σ) (h : H p = none) (rs : RDs K φ H xs ds) :
    Post K T φ ρ H (upd H p (.lst xs)) env σ st (.dat (.list ds) true) (.ref p) := by
  have x : Ext φ H (upd H p (.lst xs)) := .new h
  have y : Ext (φ ++ [p]) H (upd H p (.lst xs)) := .new h
  have np : p ∉ φ := fun z => by obtain ⟨ys, e⟩ := ws.fx p z; rw [h] at e; cases e
  have w2 : Ws K T (φ ++ [p]) ρ (upd H p (.lst xs)) st := ws.fresh h
  have lift : ∀ {v : V} {d : D}, RD K φ H v d → RD K (φ ++ [p]) (upd H p (.lst xs)) v d := fun {v d} r => by
    have r := RD.fresh h r
    refine RD.rec (motive_1 := fun v d _ => RD K (φ ++ [p]) (upd H p (.lst xs)) v d) (motive_2 := fun v d _ => RDs K (φ ++ [p]) (upd H p (.lst xs)) v d) .non .bl .int .str (fun n e _ i => ?_) (fun e _ i => ?_) (fun e => .dct ((upd_ne (ne_of_none e h)).trans e)) .nil (fun _ _ i j => .cons i j) r
    · exact .lst n ((upd_ne fun z => n (by rw [z]; simp)).trans e) i
    · exact .tup (SqT.ext x ws.fl e) i
  have lifts : ∀ {v : List V} {d : List D}, RDs K φ H v d → RDs K (φ ++ [p]) (upd H p (.lst xs)) v d := fun {v d} r => by
    induction d generalizing v with
    | nil => cases r; exact .nil
    | cons d ds ih =>
      cases r with
      | cons a b => exact .cons (lift a) (ih b)
  have rs2 := lifts rs
  refine ⟨ws.new h, sl.ext x ws.fl, .new h, .lst np upd_same (rs2.weak fun a ha => List.mem_append_left _ ha), fun d e => ?_⟩
  cases e
  refine ⟨p, xs, ds, rfl, rfl, h, upd_same, rs2, w2, sl.len, fun i s e => ?_⟩
  obtain ⟨u, h1, h2⟩ := sl.get i s e
  refine ⟨u, h1, ?_⟩
  cases s with
  | dat d => exact lift h2
  | loc n => exact h2
  | scr ns =>
    obtain ⟨a, e, h2⟩ := h2
    refine ⟨a, e, ?_⟩
    rcases h2 with ⟨o, h2⟩ | h2
    · exact .inl ⟨o, (upd_ne (ne_of_none h2 h)).trans h2⟩
    · exact .inr h2
theorem Post.tup {p : Addr} {xs : List V} {ds : List D} (ws : Ws K T φ ρ H st) (sl : Sl K φ ρ H env σ) (h : H p = none) (rs : RDs K φ H xs ds) :
    Post K T φ ρ H (upd H p (.tup xs)) env σ st (.dat (.tuple ds) false) (.ref p) := by
  have x : Ext φ H (upd H p (.tup xs)) := .new h
  exact ⟨ws.new h, sl.ext x ws.fl, .new h, .tup (.inl (.inl upd_same)) (rs.ext x ws.fl), fun d e => by cases e⟩
/-- v as it is read: a list may be one that is changed -/
def RV (K : PySem.W.Frag) (φ : List Addr) (H : Hp) (v : V) : D → Prop
  | .list ds => ∃ a xs, v = .ref a ∧ H a = some (.lst xs) ∧ RDs K φ H xs ds
  | d => RD K φ H v d
theorem RV.of (h : RD K φ H v d) : RV K φ H v d := by
  cases h with
  | lst n e r => exact ⟨_, _, rfl, e, r⟩
  | tup e r => exact .tup e r
  | dct e => exact .dct e
  | non => exact .non
  | bl b => exact .bl b
  | int i => exact .int i
  | str x => exact .str x
theorem RV.dp (c : okSh d = true) (h : RV K φ H v d) : Dp K H v d := by
  have c : d.canLay0 = true := SeqAt.canLay_of_shaped c
  cases d with
  | list ds =>
    obtain ⟨a, xs, rfl, e, r⟩ := h
    exact .lst (.inl (.inl e)) (r.dp (by simpa [PyData.canLay0] using c))
  | none => exact RD.dp c h
  | bool b => exact RD.dp c h
  | int i => exact RD.dp c h
  | str x => exact RD.dp c h
  | tuple xs => exact RD.dp c h
  | dict k => exact RD.dp c h
theorem rd_view (ws : Ws K T φ ρ H st) (rr : RR K φ ρ H r v) (e : rdE st r = some d) : RV K φ H v d := by
  cases r with
  | dat d' fr =>
    cases e
    exact .of rr
  | loc n =>
    obtain ⟨a, h1, rfl⟩ := rr
    obtain ⟨ds, h2, rfl⟩ := Option.map_eq_some_iff.mp e
    obtain ⟨a', xs, h3, h4, h5⟩ := ws.sto n ds h2
    rw [h1] at h3; cases h3
    exact ⟨a, xs, rfl, h4, h5⟩
  | scr ns => cases e
end

/-! ### arithmetic -/
def rBin (K : PySem.W.Frag) : Operator → R2
  | .Add => fun x y H Q => rI0 (fun i j => .int (i + j)) x y H Q ∨ rCat x y H Q ∨ rCatA K x y H Q ∨ (∃ i j, x = .str i ∧ y = .str j ∧ i.length + j.length ≤ sizeLine ∧ Q (.str (i ++ j)) H)
  | .Sub => rI0 fun i j => .int (i - j)
  | .Mult => fun x y H Q => rI CMul (fun i j => .int (i * j)) x y H Q ∨ rRep x y H Q ∨ rRepT K x y H Q
  | .FloorDiv => rI CDivW fun i j => .int (i / j)
  | .Mod => rI (fun _ j => 0 < j) fun i j => .int (i % j)
  | .Pow => rI CPow fun i j => .int (i ^ j.toNat)
  | _ => fun _ _ _ _ => False
theorem lt_fdiv {j : Int} (h : 0 < j) (h2 : j < 2 ^ 100) : j.natAbs.log2 < 9000 := by
  have h3 : j.natAbs < 2 ^ 100 := by
    have : ((j.natAbs : Nat) : Int) = j := Int.natAbs_of_nonneg (by omega)
    have h4 : ((j.natAbs : Nat) : Int) < ((2 ^ 100 : Nat) : Int) := by rw [this]; exact_mod_cast h2
    exact_mod_cast h4
  exact Nat.lt_of_lt_of_le ((Nat.log2_lt (by omega)).mpr h3) (by decide)
theorem or_bin (o : Operator) : OpR X (binaryOp o) (rBin X.K o) := by
  cases o with
  | Add => exact op_add.or (op_cat.or (op_catA.or op_add_str))
  | Sub => exact op_sub
  | Mult => exact op_mul.or (op_rep.or op_repT)
  | FloorDiv => exact op_fdivW
  | Mod => exact op_mod
  | Pow => exact op_pow
  | _ => exact fun _ _ _ _ _ _ _ _ _ _ _ _ h => h.elim
section
variable {φ ρ : List Addr} {H H1 H2 H' : Hp} {env : Env} {σ : L2.St} {st st1 st' : Sto} {d e z : D} {x y v : V} {Q : VK}
theorem bin_ok {o : Operator} {fr : Bool} (ws : Ws K T φ ρ H st) (sl : Sl K φ ρ H env σ) (hx : RV K φ H x d) (hy : RV K φ H y e) (h : binD o d e = some (z, fr))
    (hQ : ∀ v H', Post K T φ ρ H H' env σ st (.dat z fr) v → Q v H') : rBin K o x y H Q := by
  have flat : ∀ {v : V}, RD K φ H v z → fr = false → Q v H := fun {v} r e => hQ v H (.at ws sl r (fun d q => by subst e; cases q))
  unfold binD at h
  split at h
  · cases h; cases hx; cases hy
    exact .inl ⟨_, _, rfl, rfl, flat (.int _) rfl⟩
  · split at h
    · rename_i hl
      cases h
      obtain ⟨a, xs, rfl, h1, h2⟩ := hx
      obtain ⟨b, ys, rfl, h3, h4⟩ := hy
      refine .inr (.inl ⟨a, b, xs, ys, rfl, rfl, h1, h3, by rw [h2.length, h4.length]; exact hl, fun p hp => hQ _ _ (.lst ws sl hp (h2.append h4))⟩)
    · cases h
  · split at h
    · rename_i hl
      cases h
      cases hx with
      | tup h1 h2 =>
        cases hy with
        | tup h3 h4 =>
          refine .inr (.inr (.inl ⟨_, _, _, _, rfl, rfl, h1, h3, by rw [h2.length, h4.length]; exact hl, fun q => ?_, fun _ q => ?_, fun _ _ p hp => hQ _ _ (.tup ws sl hp (h2.append h4))⟩))
          · subst q
            cases h2
            exact flat (.tup h3 h4) rfl
          · subst q
            cases h4
            exact flat (.tup h1 (by rw [List.append_nil]; exact h2)) rfl
    · cases h
  · split at h
    · rename_i hl
      cases h; cases hx; cases hy
      exact .inr (.inr (.inr ⟨_, _, rfl, rfl, hl, flat (.str _) rfl⟩))
    · cases h
  · cases h; cases hx; cases hy
    exact ⟨_, _, rfl, rfl, flat (.int _) rfl⟩
  · split at h
    · rename_i hl
      cases h; cases hx; cases hy
      exact .inl ⟨_, _, rfl, rfl, hl, flat (.int _) rfl⟩
    · cases h
  · split at h
    · rename_i hl
      cases h; cases hy
      obtain ⟨a, xs, rfl, h1, h2⟩ := hx
      exact .inr (.inl ⟨a, _, xs, rfl, rfl, h1, hl.1, hl.2.1, by rw [h2.length]; exact hl.2.2, fun p hp => hQ _ _ (.lst ws sl hp (h2.rep _))⟩)
    · cases h
  · split at h
    · rename_i hl
      cases h; cases hy
      cases hx with
      | tup h1 h2 =>
        have e := h2.length
        refine .inr (.inr ⟨_, _, _, rfl, rfl, h1, fun q => hl.1 ?_, hl.2.1, hl.2.2.1, by rw [e]; exact hl.2.2.2, fun p hp => hQ _ _ (.tup ws sl hp (h2.rep _))⟩)
        rw [q] at e
        exact List.length_eq_zero_iff.mp e.symm
    · cases h
  · split at h
    · rename_i hl
      cases h; cases hx; cases hy
      exact ⟨_, _, rfl, rfl, ⟨hl.1, lt_fdiv hl.1 hl.2⟩, flat (.int _) rfl⟩
    · cases h
  · split at h
    · rename_i hl
      cases h; cases hx; cases hy
      exact ⟨_, _, rfl, rfl, hl, flat (.int _) rfl⟩
    · cases h
  · split at h
    · rename_i hl
      cases h; cases hx; cases hy
      exact ⟨_, _, rfl, rfl, hl, flat (.int _) rfl⟩
    · cases h
  · cases h
/-! ### comparisons -/
end
def rInT (K : PySem.W.Frag) (neg : Bool) : R2 := fun x y H Q => ∃ d ds, Dp K H x d ∧ Dp K H y (.tuple ds) ∧ okSh d = true ∧ okSh (.tuple ds) = true ∧ Q (.bl (neg ^^ ds.any fun z => PyData.eqv z d)) H
theorem op_inT (hu : X.A.units + 65 < cLine) : OpR X (compareOp .In) (rInT X.K false) := by
  intro pins s σ H x y v u Q I rx ry h
  obtain ⟨d, ds, hd, he, sd, se, q⟩ := h
  obtain ⟨as, r1⟩ := Dp.reads I d x v hd rx
  obtain ⟨bs, r2⟩ := Dp.reads I (.tuple ds) y u he ry
  rw [Bool.false_xor] at q
  exact SeqAt.in_tuple_reads r2 r1 (SeqAt.canLay_of_shaped se) (SeqAt.canLay_of_shaped sd) (PyProof.Rows.room_in_shaped sd hu) ⟨.bl _, H, I, rfl, q⟩
theorem op_ninT (hu : X.A.units + 65 < cLine) : OpR X (compareOp .NotIn) (rInT X.K true) := by
  intro pins s σ H x y v u Q I rx ry h
  obtain ⟨d, ds, hd, he, sd, se, q⟩ := h
  obtain ⟨as, r1⟩ := Dp.reads I d x v hd rx
  obtain ⟨bs, r2⟩ := Dp.reads I (.tuple ds) y u he ry
  rw [Bool.true_xor] at q
  exact SeqAt.notIn_tuple_reads r2 r1 (SeqAt.canLay_of_shaped se) (SeqAt.canLay_of_shaped sd) (PyProof.Rows.room_in_shaped sd hu) ⟨.bl _, H, I, rfl, q⟩
def rCmp (K : PySem.W.Frag) : CmpOp → R2
  | .Eq => rEqD K
  | .NotEq => rNeD K
  | .Lt => rI0 fun i j => .bl (decide (i < j))
  | .LtE => rI0 fun i j => .bl (decide (i ≤ j))
  | .Gt => rI0 fun i j => .bl (decide (j < i))
  | .GtE => rI0 fun i j => .bl (decide (j ≤ i))
  | .In => fun x y H Q => rInD K x y H Q ∨ rInT K false x y H Q
  | .NotIn => fun x y H Q => rNotInD K x y H Q ∨ rInT K true x y H Q
  | .Is => fun x y H Q => (y = .non ∧ Q (.bl (decide (x = .non))) H) ∨ rIsB x y H Q
  | .IsNot => fun x y H Q => (y = .non ∧ Q (.bl (!decide (x = .non))) H) ∨ rNotB x y H Q
theorem or_cmp (hu : X.A.units + 65 < cLine) (o : CmpOp) : OpR X (compareOp o) (rCmp X.K o) := by
  cases o with
  | Eq => exact op_eqD (by omega)
  | NotEq => exact op_neD (by omega)
  | Lt => exact op_lt
  | LtE => exact op_le
  | Gt => exact op_gt
  | GtE => exact op_ge
  | In => exact (op_inD hu).or (op_inT hu)
  | NotIn => exact (op_notInD hu).or (op_ninT hu)
  | Is => exact OpR.or op_isN op_isBl
  | IsNot => exact OpR.or op_notN op_notBl
section
variable {φ ρ : List Addr} {H H1 H2 H' : Hp} {env : Env} {σ : L2.St} {st st1 st' : Sto} {d e z : D} {x y v : V} {Q : VK}
theorem rv_non (hx : RV K φ H x d) : decide (x = .non) = eqD d .none := by
  cases d with
  | none => cases hx; rfl
  | list xs => obtain ⟨a, vs, rfl, _⟩ := hx; rfl
  | bool b => cases hx; rfl
  | int b => cases hx; rfl
  | str b => cases hx; rfl
  | tuple b => cases hx; rfl
  | dict b => cases hx; rfl
theorem cmp_ok {o : CmpOp} {b : Bool} (hx : RV K φ H x d) (hy : RV K φ H y e) (h : cmpD o d e = some b) (hQ : Q (.bl b) H) : rCmp K o x y H Q := by
  unfold cmpD at h
  split at h
  · split at h
    · rename_i hl
      obtain ⟨h1, h2⟩ := Bool.and_eq_true_iff.mp hl
      cases h
      exact ⟨_, _, hx.dp h1, hy.dp h2, h1, h2, hQ⟩
    · cases h
  · split at h
    · rename_i hl
      obtain ⟨h1, h2⟩ := Bool.and_eq_true_iff.mp hl
      cases h
      exact ⟨_, _, hx.dp h1, hy.dp h2, h1, h2, hQ⟩
    · cases h
  · cases h; cases hx; cases hy; exact ⟨_, _, rfl, rfl, hQ⟩
  · cases h; cases hx; cases hy; exact ⟨_, _, rfl, rfl, hQ⟩
  · cases h; cases hx; cases hy; exact ⟨_, _, rfl, rfl, hQ⟩
  · cases h; cases hx; cases hy; exact ⟨_, _, rfl, rfl, hQ⟩
  · cases h; cases hy; rw [← rv_non hx] at hQ; exact .inl ⟨rfl, hQ⟩
  · cases h; cases hy; rw [← rv_non hx] at hQ; exact .inl ⟨rfl, hQ⟩
  · cases h; cases hx; cases hy; exact .inr ⟨_, _, rfl, rfl, hQ⟩
  · cases h; cases hx; cases hy; exact .inr ⟨_, _, rfl, rfl, hQ⟩
  · split at h
    · rename_i hl
      obtain ⟨h1, h2⟩ := Bool.and_eq_true_iff.mp hl
      cases h
      exact .inl ⟨_, _, hx.dp h1, hy.dp h2, h1, h2, hQ⟩
    · cases h
  · split at h
    · rename_i hl
      obtain ⟨h1, h2⟩ := Bool.and_eq_true_iff.mp hl
      cases h
      exact .inr ⟨_, _, hx.dp h1, hy.dp h2, h1, h2, by rw [Bool.false_xor]; exact hQ⟩
    · cases h
  · split at h
    · rename_i hl
      obtain ⟨h1, h2⟩ := Bool.and_eq_true_iff.mp hl
      cases h
      exact .inl ⟨_, _, hx.dp h1, hy.dp h2, h1, h2, hQ⟩
    · cases h
  · split at h
    · rename_i hl
      obtain ⟨h1, h2⟩ := Bool.and_eq_true_iff.mp hl
      cases h
      exact .inr ⟨_, _, hx.dp h1, hy.dp h2, h1, h2, by rw [Bool.true_xor]; exact hQ⟩
    · cases h
  · cases h

/-! ### subscripts, slices, kinds, truth -/
theorem atI_rds {xs : List V} {ds : List D} {i : Int} (r : RDs K φ H xs ds) (h : atI ds i = some d) : ∃ v, atI xs i = some v ∧ RD K φ H v d := by
  unfold atI at h ⊢
  rw [r.length]
  cases e : ixN ds.length i with
  | none => rw [e] at h; cases h
  | some j =>
    rw [e] at h
    exact r.get h
theorem idx_ok (hx : RV K φ H x d) (hy : RV K φ H y e) (h : idxD d e = some z) (hQ : ∀ v, RD K φ H v z → Q v H) : rIxL K x y H Q ∨ rIxT K x y H Q := by
  unfold idxD at h
  split at h
  · cases hy
    obtain ⟨a, xs, rfl, h1, h2⟩ := hx
    obtain ⟨v, h3, h4⟩ := atI_rds h2 h
    exact .inl ⟨_, _, _, _, rfl, rfl, .inl (.inl h1), h3, hQ v h4⟩
  · cases hy
    cases hx with
    | tup h1 h2 =>
      obtain ⟨v, h3, h4⟩ := atI_rds h2 h
      exact .inr ⟨_, _, _, _, rfl, rfl, h1, h3, hQ v h4⟩
  · cases h
theorem cut_rds {xs : List V} {ds : List D} {lo hi : Option Int} (r : RDs K φ H xs ds) : RDs K φ H (cutV xs lo hi) (cutD ds lo hi) := by
  unfold cutV cutD
  rw [r.length]
  exact (r.drop _).take _
theorem sIx_whole {n : Nat} {lo hi : Option Int} (h : HT.sIx n 0 lo = 0 ∧ HT.sIx n n hi = n) (ds : List D) (e : ds.length = n) : cutD ds lo hi = ds := by
  unfold cutD
  rw [e, h.1, h.2, Nat.sub_zero, List.drop_zero, ← e, List.take_length]
theorem cut_ok_l {xs : List V} {ds : List D} {a : Addr} {lo hi : Option Int} (ws : Ws K T φ ρ H st) (sl : Sl K φ ρ H env σ) (h1 : H a = some (.lst xs)) (h2 : RDs K φ H xs ds)
    (hQ : ∀ v H', Post K T φ ρ H H' env σ st (.dat (.list (cutD ds lo hi)) true) v → Q v H') : rSlL K (.ref a) lo hi H Q ∨ rSlA K (.ref a) lo hi H Q :=
  .inl ⟨a, xs, rfl, .inl (.inl h1), fun p hp => hQ _ _ (.lst ws sl hp (cut_rds h2))⟩
theorem cut_ok_t {xs : List V} {ds : List D} {a : Addr} {lo hi : Option Int} (ws : Ws K T φ ρ H st) (sl : Sl K φ ρ H env σ) (h1 : SqT K H a xs) (h2 : RDs K φ H xs ds)
    (hQ : ∀ v H', Post K T φ ρ H H' env σ st (.dat (.tuple (cutD ds lo hi)) false) v → Q v H') : rSlL K (.ref a) lo hi H Q ∨ rSlA K (.ref a) lo hi H Q := by
  refine .inr ⟨a, xs, rfl, h1, fun q => ?_, fun _ p hp => hQ _ _ (.tup ws sl hp (cut_rds h2))⟩
  rw [h2.length] at q
  refine hQ _ _ (.at ws sl ?_ (fun d e => by cases e))
  rw [sIx_whole q ds rfl]
  exact .tup h1 h2
theorem sl_any : SlR X (fun x lo hi H Q => rSlL X.K x lo hi H Q ∨ rSlA X.K x lo hi H Q) := sl_list.or sl_tupA
theorem isi_ok {t : String} {b : Bool} (hx : RV K φ H x d) (h : isD t d = some b) (hQ : Q (.bl b) H) : rIsi K [x, .ty t] H Q := by
  have ty : ∀ {n : String}, TyX K H x (.type n) → L2.kitB n t = some b → rIsi K [x, .ty t] H Q := fun {n} h1 h2 => ⟨x, .ty t, .type n, .type t, b, rfl, .ty t, h1, kit_ty h2, hQ⟩
  cases d with
  | none => cases hx; exact ty (.base .non) h
  | bool c => cases hx; exact ty (.base (.bl c)) h
  | int i => cases hx; exact ty (.base (.int i)) h
  | str s => cases hx; exact ty (.base (.str s)) h
  | list ds => obtain ⟨a, xs, rfl, h1, h2⟩ := hx; exact ty (.base (.lst h1)) h
  | tuple ds =>
    cases hx with
    | tup h1 h2 =>
      rcases h1 with (h1 | ⟨o, h1⟩) | ⟨o, its, n, h1, h3, _⟩
      · exact ty (.base (.tup h1)) h
      · exact ty (.fTuple h1) h
      · exact ty (.kTuple h1 h3) h
  | dict kvs => cases hx with | dct h1 => exact ty (.base (.dK h1)) h
theorem tru_of {b : Bool} (hx : RV K φ H x d) (h : truD d = some b) : TruV K x H b := by
  cases d with
  | none => cases hx; cases h; rfl
  | bool c => cases hx; cases h; rfl
  | int i => cases hx; cases h; rfl
  | str s =>
    cases hx
    simp only [truD] at h
    split at h
    · rename_i hl
      cases h
      exact ⟨hl, rfl⟩
    · cases h
  | list ds =>
    obtain ⟨a, xs, rfl, h1, h2⟩ := hx
    cases h
    refine .inl ⟨xs, .inl (.inl h1), ?_⟩
    cases h2 <;> rfl
  | tuple ds =>
    cases hx with
    | tup h1 h2 =>
      cases h
      refine .inr (.inl ⟨_, h1, ?_⟩)
      cases h2 <;> rfl
  | dict kvs => cases h
end
end Ev
set_option linter.all false
set_option maxRecDepth 100000
set_option maxHeartbeats 4000000
/-! Ev4: expressions. -/
namespace Ev
open PySem PySem.Spec L2
variable {K : PySem.W.Frag} {T : List (Addr × Str)} {X : Cx} {G : Pk} {cl : Str → List SV → Sto → Option (ER × Sto)}

theorem imp {e : Expr} {t t' : TE} (h : PE X e t) (k : ∀ σ H Q, t' σ H Q → t σ H Q) : PE X e t' := ⟨fun pins s σ H Q I q => h.run pins s σ H Q I (k σ H Q q)⟩
theorem impT {e : Expr} {t t' : TT} (h : PT X e t) (k : ∀ σ H Q, t' σ H Q → t σ H Q) : PT X e t' := ⟨fun pins s σ H Q I q => h.run pins s σ H Q I (k σ H Q q)⟩
theorem impW {e : Expr} {t t' : TT} (h : PW X e t) (k : ∀ σ H Q, t' σ H Q → t σ H Q) : PW X e t' := ⟨fun wh pins s σ H Q I q => h.run wh pins s σ H Q I (k σ H Q q)⟩
theorem impA {es : List Expr} {t t' : TA} (h : PA X es t) (k : ∀ σ H Q, t' σ H Q → t σ H Q) : PA X es t' := ⟨fun pos pins s σ H Q I q => h.run pos pins s σ H Q I (k σ H Q q)⟩

/-- no star, no set, no slice -/
def pln : Expr → Bool
  | .Starred .. => false
  | .Set .. => false
  | .Slice .. => false
  | _ => true
theorem pln_star {e : Expr} (h : pln e = true) (es : List Expr) (env : PySem.Env) : starEach (e :: es) env = (false, eval e env) :: starEach es env := by
  cases e <;> first | rfl | (exact absurd (show false = true from h) Bool.false_ne_true)
theorem pln_mark {e : Expr} (h : pln e = true) (op : CmpOp) : behindInMarks op e = false := by
  cases e <;> first | rfl | (exact absurd (show false = true from h) Bool.false_ne_true)
theorem pln_last {e c : Expr} (h : pln c = true) (op op' : CmpOp) : lastMarks [op, op'] [e, c] = false := by
  show behindInMarks op' c = false
  exact pln_mark h _
theorem pln_ix {e : Expr} (h : pln e = true) : PlainIx e := by
  intro o i
  cases e <;> first | rfl | (exact absurd (show false = true from h) Bool.false_ne_true)
theorem pln_fold {e : Expr} (h : pln e = true) (env : PySem.Env) (x : Value) : foldedSetIterable e env x = pure x := by
  cases e <;> first | rfl | (exact absurd (show false = true from h) Bool.false_ne_true)

section
variable {φ ρ : List Addr} {H H1 H2 H' : Hp} {env : Env} {σ : L2.St} {st st1 st2 st' : Sto} {d e z : D} {x y : ER} {v : V} {Q : VK}
  {Fa Fb F : Env → Sto → Option (ER × Sto)}
theorem seq1 {R : V → Hp → Prop} (ws : Ws K T φ ρ H st) (sl : Sl K φ ρ H env σ) (ha : Fa env st = some (x, st1))
    (k : ∀ u H1, Ws K T φ ρ H1 st1 → Sl K φ ρ H1 env σ → Ext ρ H H1 → RR K φ ρ H1 x u → R u H1) : tF K T Fa σ H R :=
  ⟨φ, ρ, env, st, x, st1, ws, sl, ha, fun u H1 p => k u H1 p.ws p.sl p.ext p.rr⟩
theorem seq2 {R : V → V → Hp → Prop} (ws : Ws K T φ ρ H st) (sl : Sl K φ ρ H env σ) (ha : Fa env st = some (x, st1)) (hb : Fb env st1 = some (y, st2))
    (k : ∀ u v H2, Ws K T φ ρ H2 st2 → Sl K φ ρ H2 env σ → Ext ρ H H2 → RR K φ ρ H2 x u → RR K φ ρ H2 y v → R u v H2) :
    tF K T Fa σ H fun u H1 => tF K T Fb σ H1 fun v H2 => R u v H2 :=
  seq1 ws sl ha fun u H1 w1 s1 e1 r1 => seq1 w1 s1 hb fun v H2 w2 s2 e2 r2 => k u v H2 w2 s2 (e1.trans e2) (RS.ext (e2.more w1.sub) w1.fl r1) r2
theorem tF_mono {F : Env → Sto → Option (ER × Sto)} {Q Q' : VK} (h : ∀ v H, Q v H → Q' v H) (t : tF K T F σ H Q) : tF K T F σ H Q' := by
  obtain ⟨φ, ρ, env, st, r, st', a, b, c, d⟩ := t
  exact ⟨φ, ρ, env, st, r, st', a, b, c, fun v H' p => h v H' (d v H' p)⟩
end

/-! ### tests -/
structure PostB (K : PySem.W.Frag) (T : List (Addr × Str)) (φ ρ : List Addr) (H H' : Hp) (env : Env) (σ : L2.St) (st' : Sto) : Prop where
  ws : Ws K T φ ρ H' st'
  sl : Sl K φ ρ H' env σ
  ext : Ext ρ H H'
def tT (K : PySem.W.Frag) (T : List (Addr × Str)) (F : Env → Sto → Option (ER × Sto)) : TT := fun σ H Q =>
  ∃ φ ρ env st b st', Ws K T φ ρ H st ∧ Sl K φ ρ H env σ ∧ tstE (F env st) = some (b, st') ∧ ∀ H', PostB K T φ ρ H H' env σ st' → Q b H'
theorem tst_some {r : Option (ER × Sto)} {b : Bool} {st' : Sto} (h : tstE r = some (b, st')) : ∃ x d, r = some (x, st') ∧ rdE st' x = some d ∧ truD d = some b := by
  cases r with
  | none => cases h
  | some p =>
    obtain ⟨x, s⟩ := p
    simp only [tstE] at h
    split at h
    · split at h
      · cases h; exact ⟨x, _, rfl, by assumption, by assumption⟩
      · cases h
    · cases h
section
variable {φ ρ : List Addr} {H H1 H2 H' : Hp} {env : Env} {σ : L2.St} {st st1 st2 st' : Sto} {b : Bool} {F : Env → Sto → Option (ER × Sto)}
theorem seqT {R : Bool → Hp → Prop} (ws : Ws K T φ ρ H st) (sl : Sl K φ ρ H env σ) (ha : tstE (F env st) = some (b, st1))
    (k : ∀ H1, Ws K T φ ρ H1 st1 → Sl K φ ρ H1 env σ → Ext ρ H H1 → R b H1) : tT K T F σ H R :=
  ⟨φ, ρ, env, st, b, st1, ws, sl, ha, fun H1 p => k H1 p.ws p.sl p.ext⟩
end
/-- by its value's truth -/
theorem pt_plain {e : Expr} {F : Env → Sto → Option (ER × Sto)} (he : PE X e (tF X.K T F)) (h : ∀ whole, isTrue e X.env whole = (do let v ← whole; standAt e.pos; holding [v] (truthy v))) : PT X e (tT X.K T F) := by
  refine impT (pt_truth he h) fun σ H Q q => ?_
  obtain ⟨φ, ρ, env, st, b, st', ws, sl, hb, k⟩ := q
  obtain ⟨x, d, h1, h2, h3⟩ := tst_some hb
  exact seq1 ws sl h1 fun u H1 w1 s1 e1 r1 => ⟨b, tru_of (rd_view w1 r1 h2) h3, k H1 ⟨w1, s1, e1⟩⟩

/-! ### names and constants -/
theorem ok_const {e : Expr} {v : V} {d : D} {F : Env → Sto → Option (ER × Sto)} (h : PE X e (tC v)) (hF : ∀ env st, F env st = some (.dat d false, st)) (r : ∀ φ H, RD X.K φ H v d) : PE X e (tF X.K T F) := by
  refine imp h fun σ H Q q => ?_
  obtain ⟨φ, ρ, env, st, x, st', ws, sl, he, k⟩ := q
  rw [hF] at he
  cases he
  exact k v H (.at ws sl (r φ H) (fun d e => by cases e))
theorem ok_slot {e : Expr} {i : Nat} (h : PE X e (tVar i)) : PE X e (tF X.K T (evE G cl (.slot i))) := by
  refine imp h fun σ H Q q => ?_
  obtain ⟨φ, ρ, env, st, x, st', ws, sl, he, k⟩ := q
  simp only [evE] at he
  split at he
  · rename_i s hs
    cases he
    obtain ⟨v, h1, h2⟩ := sl.get i s hs
    refine ⟨v, h1, k v H (.at ws sl ?_ (fun d e => ?_))⟩
    · cases s <;> exact h2
    · cases s <;> cases e
  · cases he
theorem ok_con {e : Expr} {x : Str} {v : V} {d : D} (h : PE X e (tC v)) (hd : G.con x = some d) (r : ∀ φ H, RD X.K φ H v d) : PE X e (tF X.K T (evE G cl (.con x))) :=
  ok_const h (fun env st => by simp only [evE, hd]) r

/-! ### operators -/
section
variable {a b c : Expr} {a' b' c' : IE} {pos : Pos}
theorem ok_bin {o : Operator} (ha : PE X a (tF X.K T (evE G cl a'))) (hb : PE X b (tF X.K T (evE G cl b'))) : PE X (.BinOp a o b pos) (tF X.K T (evE G cl (.bin o a' b'))) := by
  refine imp (pe_op (or_bin o) ha hb) fun σ H Q q => ?_
  obtain ⟨φ, ρ, env, st, x, st', ws, sl, he, k⟩ := q
  simp only [evE] at he
  split at he
  · rename_i x1 st1 h1
    split at he
    · rename_i x2 st2 h2
      split at he
      · rename_i d e h3 h4
        split at he
        · rename_i r fr h5
          cases he
          exact seq2 ws sl h1 h2 fun u v H2 w2 s2 e2 ru rv => bin_ok w2 s2 (rd_view w2 ru h3) (rd_view w2 rv h4) h5 fun v H' p => k v H' (p.pre e2)
        · cases he
      · cases he
    · cases he
  · cases he
theorem ok_neg (ha : PE X a (tF X.K T (evE G cl a'))) : PE X (.UnaryOp .USub a pos) (tF X.K T (evE G cl (.neg a'))) := by
  refine imp (pe_un un_neg ha) fun σ H Q q => ?_
  obtain ⟨φ, ρ, env, st, x, st', ws, sl, he, k⟩ := q
  simp only [evE] at he
  split at he
  · rename_i i fr st1 h1
    cases he
    refine seq1 ws sl h1 fun u H1 w1 s1 e1 r1 => ?_
    cases (show RD X.K φ H1 u (.int i) from r1)
    exact ⟨_, rfl, k _ _ ⟨w1, s1, e1, .int _, fun d e => by cases e⟩⟩
  · cases he
theorem ok_no (ha : PE X a (tF X.K T (evE G cl a'))) : PE X (.UnaryOp .Not a pos) (tF X.K T (evE G cl (.no a'))) := by
  refine imp (pe_notT ha) fun σ H Q q => ?_
  obtain ⟨φ, ρ, env, st, x, st', ws, sl, he, k⟩ := q
  simp only [evE] at he
  split at he
  · rename_i b st1 h1
    cases he
    obtain ⟨x, d, h1, h2, h3⟩ := tst_some h1
    exact seq1 ws sl h1 fun u H1 w1 s1 e1 r1 => ⟨b, tru_of (rd_view w1 r1 h2) h3, k _ _ ⟨w1, s1, e1, .bl _, fun d e => by cases e⟩⟩
  · cases he
theorem okT_no (ha : PT X a (tT X.K T (evE G cl a'))) : PT X (.UnaryOp .Not a pos) (tT X.K T (evE G cl (.no a'))) := by
  refine impT (pt_not ha) fun σ H Q q => ?_
  obtain ⟨φ, ρ, env, st, b, st', ws, sl, hb, k⟩ := q
  simp only [evE] at hb
  cases h : tstE (evE G cl a' env st) with
  | none => rw [h] at hb; cases hb
  | some p =>
    obtain ⟨c, st1⟩ := p
    rw [h] at hb
    simp only [tstE, rdE, truD] at hb
    cases hb
    exact seqT ws sl h fun H1 w1 s1 e1 => k H1 ⟨w1, s1, e1⟩
theorem tst_land {env : Env} {st : Sto} : tstE (evE G cl (.land a' b') env st) = match tstE (evE G cl a' env st) with
    | some (true, st1) => tstE (evE G cl b' env st1)
    | some (false, st1) => some (false, st1)
    | none => none := by
  simp only [evE]
  cases h : evE G cl a' env st with
  | none => rfl
  | some p =>
    obtain ⟨x, st1⟩ := p
    simp only [tstE]
    cases h1 : rdE st1 x with
    | none => rfl
    | some d =>
      simp only
      cases h2 : truD d with
      | none => rfl
      | some k => cases k <;> simp only [tstE, h1, h2]
theorem tst_lor {env : Env} {st : Sto} : tstE (evE G cl (.lor a' b') env st) = match tstE (evE G cl a' env st) with
    | some (true, st1) => some (true, st1)
    | some (false, st1) => tstE (evE G cl b' env st1)
    | none => none := by
  simp only [evE]
  cases h : evE G cl a' env st with
  | none => rfl
  | some p =>
    obtain ⟨x, st1⟩ := p
    simp only [tstE]
    cases h1 : rdE st1 x with
    | none => rfl
    | some d =>
      simp only
      cases h2 : truD d with
      | none => rfl
      | some k => cases k <;> simp only [tstE, h1, h2]
theorem ok_land {rest : List Expr} (ha : PE X a (tF X.K T (evE G cl a'))) (hb : PE X (.BoolOp .And (b :: rest) pos) (tF X.K T (evE G cl b'))) :
    PE X (.BoolOp .And (a :: b :: rest) pos) (tF X.K T (evE G cl (.land a' b'))) := by
  refine imp (pe_andT ha hb) fun σ H Q q => ?_
  obtain ⟨φ, ρ, env, st, x, st', ws, sl, he, k⟩ := q
  simp only [evE] at he
  split at he
  · rename_i x1 st1 h1
    split at he
    · rename_i d h2
      refine ⟨φ, ρ, env, st, x1, st1, ws, sl, h1, fun u H1 p => ?_⟩
      split at he
      · rename_i h3
        exact ⟨true, tru_of (rd_view p.ws p.rr h2) h3, iteT ⟨φ, ρ, env, st1, x, st', p.ws, p.sl, he, fun v H' p' => k v H' (p'.pre p.ext)⟩⟩
      · rename_i h3
        cases he
        exact ⟨false, tru_of (rd_view p.ws p.rr h2) h3, iteF (k _ _ p)⟩
      · cases he
    · cases he
  · cases he
theorem ok_lor {rest : List Expr} (ha : PE X a (tF X.K T (evE G cl a'))) (hb : PE X (.BoolOp .Or (b :: rest) pos) (tF X.K T (evE G cl b'))) :
    PE X (.BoolOp .Or (a :: b :: rest) pos) (tF X.K T (evE G cl (.lor a' b'))) := by
  refine imp (pe_orT ha hb) fun σ H Q q => ?_
  obtain ⟨φ, ρ, env, st, x, st', ws, sl, he, k⟩ := q
  simp only [evE] at he
  split at he
  · rename_i x1 st1 h1
    split at he
    · rename_i d h2
      refine ⟨φ, ρ, env, st, x1, st1, ws, sl, h1, fun u H1 p => ?_⟩
      split at he
      · rename_i h3
        cases he
        exact ⟨true, tru_of (rd_view p.ws p.rr h2) h3, iteT (k _ _ p)⟩
      · rename_i h3
        exact ⟨false, tru_of (rd_view p.ws p.rr h2) h3, iteF ⟨φ, ρ, env, st1, x, st', p.ws, p.sl, he, fun v H' p' => k v H' (p'.pre p.ext)⟩⟩
      · cases he
    · cases he
  · cases he
theorem okW_land {rest : List Expr} (ha : PT X a (tT X.K T (evE G cl a'))) (hb : PW X (.BoolOp .And (b :: rest) pos) (tT X.K T (evE G cl b'))) :
    PW X (.BoolOp .And (a :: b :: rest) pos) (tT X.K T (evE G cl (.land a' b'))) := by
  refine impW (pw_and ha hb) fun σ H Q q => ?_
  obtain ⟨φ, ρ, env, st, b, st', ws, sl, he, k⟩ := q
  rw [tst_land] at he
  split at he
  · rename_i st1 h1
    exact seqT ws sl h1 fun H1 w1 s1 e1 => iteT (seqT w1 s1 he fun H2 w2 s2 e2 => k H2 ⟨w2, s2, e1.trans e2⟩)
  · rename_i st1 h1
    cases he
    exact seqT ws sl h1 fun H1 w1 s1 e1 => iteF (k H1 ⟨w1, s1, e1⟩)
  · cases he
theorem okW_lor {rest : List Expr} (ha : PT X a (tT X.K T (evE G cl a'))) (hb : PW X (.BoolOp .Or (b :: rest) pos) (tT X.K T (evE G cl b'))) :
    PW X (.BoolOp .Or (a :: b :: rest) pos) (tT X.K T (evE G cl (.lor a' b'))) := by
  refine impW (pw_or ha hb) fun σ H Q q => ?_
  obtain ⟨φ, ρ, env, st, b, st', ws, sl, he, k⟩ := q
  rw [tst_lor] at he
  split at he
  · rename_i st1 h1
    cases he
    exact seqT ws sl h1 fun H1 w1 s1 e1 => iteT (k H1 ⟨w1, s1, e1⟩)
  · rename_i st1 h1
    exact seqT ws sl h1 fun H1 w1 s1 e1 => iteF (seqT w1 s1 he fun H2 w2 s2 e2 => k H2 ⟨w2, s2, e1.trans e2⟩)
  · cases he
theorem cmp_read {o : CmpOp} {env : Env} {st st' : Sto} {x : ER} (he : evE G cl (.cmp o a' b') env st = some (x, st')) :
    ∃ x1 st1 x2 d e r, evE G cl a' env st = some (x1, st1) ∧ evE G cl b' env st1 = some (x2, st') ∧ rdE st' x1 = some d ∧ rdE st' x2 = some e ∧ cmpD o d e = some r ∧ x = .dat (.bool r) false := by
  simp only [evE] at he
  split at he
  · rename_i x1 st1 h1
    split at he
    · rename_i x2 st2 h2
      split at he
      · rename_i d e h3 h4
        split at he
        · rename_i r h5
          cases he
          exact ⟨x1, st1, x2, d, e, r, h1, h2, h3, h4, h5, rfl⟩
        · cases he
      · cases he
    · cases he
  · cases he
theorem ok_cmp {o : CmpOp} (hu : X.A.units + 65 < cLine) (ha : PE X a (tF X.K T (evE G cl a'))) (hb : PE X b (tF X.K T (evE G cl b'))) (hp : pln b = true) :
    PE X (.Compare a [o] [b] pos) (tF X.K T (evE G cl (.cmp o a' b'))) := by
  refine imp (pe_cmpR (or_cmp hu o) ha hb (pln_mark hp o)) fun σ H Q q => ?_
  obtain ⟨φ, ρ, env, st, x, st', ws, sl, he, k⟩ := q
  obtain ⟨x1, st1, x2, d, e, r, h1, h2, h3, h4, h5, rfl⟩ := cmp_read he
  exact seq2 ws sl h1 h2 fun u v H2 w2 s2 e2 ru rv => cmp_ok (rd_view w2 ru h3) (rd_view w2 rv h4) h5 (k _ _ ⟨w2, s2, e2, .bl _, fun d e => by cases e⟩)
theorem okT_cmp {o : CmpOp} (hu : X.A.units + 65 < cLine) (ha : PE X a (tF X.K T (evE G cl a'))) (hb : PE X b (tF X.K T (evE G cl b'))) (hp : pln b = true) :
    PT X (.Compare a [o] [b] pos) (tT X.K T (evE G cl (.cmp o a' b'))) := by
  refine impT (pt_cmpR (or_cmp hu o) ha hb (pln_mark hp o)) fun σ H Q q => ?_
  obtain ⟨φ, ρ, env, st, b, st', ws, sl, he, k⟩ := q
  obtain ⟨x, d', he, h6, h7⟩ := tst_some he
  obtain ⟨x1, st1, x2, d, e, r, h1, h2, h3, h4, h5, rfl⟩ := cmp_read he
  cases h6
  cases h7
  exact seq2 ws sl h1 h2 fun u v H2 w2 s2 e2 ru rv => cmp_ok (rd_view w2 ru h3) (rd_view w2 rv h4) h5 ⟨_, rfl, k _ ⟨w2, s2, e2⟩⟩
theorem cmp2_read {o p : CmpOp} {env : Env} {st st' : Sto} {x : ER} (he : evE G cl (.cmp2 o p a' b' c') env st = some (x, st')) :
    ∃ x1 st1 x2 st2 d e r, evE G cl a' env st = some (x1, st1) ∧ evE G cl b' env st1 = some (x2, st2) ∧ rdE st2 x1 = some d ∧ rdE st2 x2 = some e ∧ cmpD o d e = some r ∧
      ((r = false ∧ x = .dat (.bool false) false ∧ st' = st2) ∨ (r = true ∧ ∃ x3 e1 f r2, evE G cl c' env st2 = some (x3, st') ∧ rdE st' x2 = some e1 ∧ rdE st' x3 = some f ∧ cmpD p e1 f = some r2 ∧ x = .dat (.bool r2) false)) := by
  simp only [evE] at he
  split at he
  · rename_i x1 st1 h1
    split at he
    · rename_i x2 st2 h2
      split at he
      · rename_i d e h3 h4
        split at he
        · rename_i h5
          split at he
          · rename_i x3 st3 h6
            split at he
            · rename_i e1 f h7 h8
              split at he
              · rename_i r2 h9
                cases he
                exact ⟨x1, st1, x2, st2, d, e, true, h1, h2, h3, h4, h5, .inr ⟨rfl, x3, e1, f, r2, h6, h7, h8, h9, rfl⟩⟩
              · cases he
            · cases he
          · cases he
        · rename_i h5
          cases he
          exact ⟨x1, st1, x2, _, d, e, false, h1, h2, h3, h4, h5, .inl ⟨rfl, rfl, rfl⟩⟩
        · cases he
      · cases he
    · cases he
  · cases he
theorem chain_ok {o p : CmpOp} {φ ρ : List Addr} {H : Hp} {env : Env} {σ : L2.St} {st st' : Sto} {x : ER} {Q : VK} (ws : Ws K T φ ρ H st) (sl : Sl K φ ρ H env σ) (he : evE G cl (.cmp2 o p a' b' c') env st = some (x, st'))
    (k : ∀ b H', x = .dat (.bool b) false → PostB K T φ ρ H H' env σ st' → Q (.bl b) H') :
    tChain (rCmp K o) (rCmp K p) (tF K T (evE G cl a')) (tF K T (evE G cl b')) (tF K T (evE G cl c')) σ H Q := by
  obtain ⟨x1, st1, x2, st2, d, e, r, h1, h2, h3, h4, h5, h⟩ := cmp2_read he
  refine seq2 ws sl h1 h2 fun u v H2 w2 s2 e2 ru rv => cmp_ok (rd_view w2 ru h3) (rd_view w2 rv h4) h5 ⟨r, rfl, ?_⟩
  rcases h with ⟨rfl, rfl, rfl⟩ | ⟨rfl, x3, e1, f, r2, h6, h7, h8, h9, rfl⟩
  · exact iteF (k _ _ rfl ⟨w2, s2, e2⟩)
  · exact iteT (seq1 w2 s2 h6 fun w' H4 w4 s4 e4 rw' => cmp_ok (rd_view w4 (RS.ext (e4.more w2.sub) w2.fl rv) h7) (rd_view w4 rw' h8) h9 (k _ _ rfl ⟨w4, s4, e2.trans e4⟩))
theorem ok_cmp2 {o p : CmpOp} (hu : X.A.units + 65 < cLine) (ha : PE X a (tF X.K T (evE G cl a'))) (hb : PE X b (tF X.K T (evE G cl b'))) (hc : PE X c (tF X.K T (evE G cl c'))) (hp : pln c = true) :
    PE X (.Compare a [o, p] [b, c] pos) (tF X.K T (evE G cl (.cmp2 o p a' b' c'))) := by
  refine imp (pe_chain (or_cmp hu o) (or_cmp hu p) ha hb hc (pln_last hp o p)) fun σ H Q q => ?_
  obtain ⟨φ, ρ, env, st, x, st', ws, sl, he, k⟩ := q
  exact chain_ok ws sl he fun b H' e p => by subst e; exact k _ _ ⟨p.ws, p.sl, p.ext, .bl _, fun d e => by cases e⟩
theorem okT_cmp2 {o p : CmpOp} (hu : X.A.units + 65 < cLine) (ha : PE X a (tF X.K T (evE G cl a'))) (hb : PE X b (tF X.K T (evE G cl b'))) (hc : PE X c (tF X.K T (evE G cl c'))) (hp : pln c = true) :
    PT X (.Compare a [o, p] [b, c] pos) (tT X.K T (evE G cl (.cmp2 o p a' b' c'))) := by
  refine impT (pt_chain (or_cmp hu o) (or_cmp hu p) ha hb hc (pln_last hp o p)) fun σ H Q q => ?_
  obtain ⟨φ, ρ, env, st, b, st', ws, sl, he, k⟩ := q
  obtain ⟨x, d', he, h6, h7⟩ := tst_some he
  refine chain_ok ws sl he fun b' H' e p => ?_
  subst e
  cases h6
  cases h7
  exact ⟨_, rfl, k _ p⟩
theorem ok_ite (hc : PT X c (tT X.K T (evE G cl c'))) (ha : PE X a (tF X.K T (evE G cl a'))) (hb : PE X b (tF X.K T (evE G cl b'))) : PE X (.IfExp c a b pos) (tF X.K T (evE G cl (.ite c' a' b'))) := by
  refine imp (pe_ifExp hc ha hb) fun σ H Q q => ?_
  obtain ⟨φ, ρ, env, st, x, st', ws, sl, he, k⟩ := q
  simp only [evE] at he
  split at he
  · rename_i st1 h1
    exact seqT ws sl h1 fun H1 w1 s1 e1 => iteT ⟨φ, ρ, env, st1, x, st', w1, s1, he, fun v H' p => k v H' (p.pre e1)⟩
  · rename_i st1 h1
    exact seqT ws sl h1 fun H1 w1 s1 e1 => iteF ⟨φ, ρ, env, st1, x, st', w1, s1, he, fun v H' p => k v H' (p.pre e1)⟩
  · cases he
theorem okT_ite (hc : PT X c (tT X.K T (evE G cl c'))) (ha : PT X a (tT X.K T (evE G cl a'))) (hb : PT X b (tT X.K T (evE G cl b'))) : PT X (.IfExp c a b pos) (tT X.K T (evE G cl (.ite c' a' b'))) := by
  refine ⟨fun pins s σ H Q I q => ?_⟩
  obtain ⟨φ, ρ, env, st, r, st', ws, sl, he, k⟩ := q
  have he : tstE (match tstE (evE G cl c' env st) with | some (true, st1) => evE G cl a' env st1 | some (false, st1) => evE G cl b' env st1 | none => none) = some (r, st') := by
    simp only [evE] at he; exact he
  cases h1 : tstE (evE G cl c' env st) with
  | none => rw [h1] at he; cases he
  | some p =>
    obtain ⟨t, st1⟩ := p
    rw [h1] at he
    refine PyProof.Rows.isTrue_IfExp (thn (hc.run pins s σ H _ I (seqT (R := fun b H1 => b = t ∧ Ws X.K T φ ρ H1 st1 ∧ Sl X.K φ ρ H1 env σ ∧ Ext ρ H H1) ws sl h1 fun H1 w1 s1 e1 => ⟨rfl, w1, s1, e1⟩)) fun t' s1 ⟨H1, I1, et, w1, s1', e1⟩ => ?_)
    subst et
    cases t' with
    | true => exact PyProof.Rows.ite_tt (ha.run pins s1 σ H1 Q I1 (seqT w1 s1' he fun H2 w2 s2 e2 => k H2 ⟨w2, s2, e1.trans e2⟩))
    | false => exact PyProof.Rows.ite_ff (hb.run pins s1 σ H1 Q I1 (seqT w1 s1' he fun H2 w2 s2 e2 => k H2 ⟨w2, s2, e1.trans e2⟩))
end
end Ev
set_option linter.all false
set_option maxRecDepth 100000
set_option maxHeartbeats 4000000
/-! Ev5: arguments, displays, subscripts, built-in functions. -/
namespace Ev
open PySem PySem.Spec L2
variable {K : PySem.W.Frag} {T : List (Addr × Str)} {X : Cx} {G : Pk} {cl : Str → List SV → Sto → Option (ER × Sto)}

/-! ### arguments -/
def RRs (K : PySem.W.Frag) (φ ρ : List Addr) (H : Hp) : List ER → List V → Prop
  | [], [] => True
  | r :: rs, v :: vs => RR K φ ρ H r v ∧ RRs K φ ρ H rs vs
  | _, _ => False
theorem RRs.ext {φ ρ : List Addr} {H H' : Hp} (x : Ext φ H H') (f : Lst φ H) : ∀ {rs : List ER} {vs : List V}, RRs K φ ρ H rs vs → RRs K φ ρ H' rs vs
  | [], [], _ => True.intro
  | _ :: _, _ :: _, ⟨a, b⟩ => ⟨RS.ext x f a, RRs.ext x f b⟩
theorem RRs.length {φ ρ : List Addr} {H : Hp} : ∀ {rs : List ER} {vs : List V}, RRs K φ ρ H rs vs → rs.length = vs.length
  | [], [], _ => rfl
  | _ :: _, _ :: _, ⟨_, b⟩ => congrArg (· + 1) (RRs.length b)
def tFs (K : PySem.W.Frag) (T : List (Addr × Str)) (F : Env → Sto → Option (List ER × Sto)) : TA := fun σ H Q =>
  ∃ φ ρ env st rs st', Ws K T φ ρ H st ∧ Sl K φ ρ H env σ ∧ F env st = some (rs, st') ∧ ∀ vs H', PostB K T φ ρ H H' env σ st' → RRs K φ ρ H' rs vs → Q vs H'
def tDs (K : PySem.W.Frag) (T : List (Addr × Str)) (F : Env → Sto → Option (List D × Sto)) : TA := fun σ H Q =>
  ∃ φ ρ env st ds st', Ws K T φ ρ H st ∧ Sl K φ ρ H env σ ∧ F env st = some (ds, st') ∧ ∀ vs H', PostB K T φ ρ H H' env σ st' → RDs K φ H' vs ds → Q vs H'
theorem oks_nil : PA X [] (tFs X.K T (evEs G cl [])) := impA pa_nil fun σ H Q q => by
  obtain ⟨φ, ρ, env, st, rs, st', ws, sl, he, k⟩ := q
  simp only [evEs] at he
  cases he
  exact k [] H ⟨ws, sl, .refl _ _⟩ True.intro
theorem oks_cons {e : Expr} {es : List Expr} {e' : IE} {es' : List IE} (hp : pln e = true) (he : PE X e (tF X.K T (evE G cl e'))) (hes : PA X es (tFs X.K T (evEs G cl es'))) : PA X (e :: es) (tFs X.K T (evEs G cl (e' :: es'))) := by
  refine impA (pa_cons he hes (pln_star hp es _)) fun σ H Q q => ?_
  obtain ⟨φ, ρ, env, st, rs, st', ws, sl, h, k⟩ := q
  simp only [evEs] at h
  split at h
  · rename_i r st1 h1
    split at h
    · rename_i rs2 st2 h2
      cases h
      exact seq1 ws sl h1 fun u H1 w1 s1 e1 r1 => ⟨φ, ρ, env, st1, rs2, _, w1, s1, h2, fun vs H' p rr => k _ _ ⟨p.ws, p.sl, e1.trans p.ext⟩ ⟨RS.ext (p.ext.more w1.sub) w1.fl r1, rr⟩⟩
    · cases h
  · cases h
theorem okd_nil : PA X [] (tDs X.K T (evDs G cl [])) := impA pa_nil fun σ H Q q => by
  obtain ⟨φ, ρ, env, st, rs, st', ws, sl, he, k⟩ := q
  simp only [evDs] at he
  cases he
  exact k [] H ⟨ws, sl, .refl _ _⟩ .nil
theorem okd_cons {e : Expr} {es : List Expr} {e' : IE} {es' : List IE} (hp : pln e = true) (he : PE X e (tF X.K T (evE G cl e'))) (hes : PA X es (tDs X.K T (evDs G cl es'))) : PA X (e :: es) (tDs X.K T (evDs G cl (e' :: es'))) := by
  refine impA (pa_cons he hes (pln_star hp es _)) fun σ H Q q => ?_
  obtain ⟨φ, ρ, env, st, rs, st', ws, sl, h, k⟩ := q
  simp only [evDs] at h
  split at h
  · rename_i r fr st1 h1
    split at h
    · rename_i rs2 st2 h2
      cases h
      exact seq1 ws sl h1 fun u H1 w1 s1 e1 r1 => ⟨φ, ρ, env, st1, rs2, _, w1, s1, h2, fun vs H' p rr => k _ _ ⟨p.ws, p.sl, e1.trans p.ext⟩ (.cons (RD.ext (p.ext.more w1.sub) w1.fl r1) rr)⟩
    · cases h
  · cases h

/-! ### displays -/
section
variable {a b : Expr} {es : List Expr} {a' b' : IE} {es' : List IE} {pos : Pos}
theorem ok_tup {k : Nat} (h : PA X es (tDs X.K T (evDs G cl es'))) : PE X (.Tuple es k pos) (tF X.K T (evE G cl (.tup es'))) := by
  refine imp (pe_tup h) fun σ H Q q => ?_
  obtain ⟨φ, ρ, env, st, x, st', ws, sl, he, k⟩ := q
  simp only [evE] at he
  split at he
  · rename_i ds st1 h1
    split at he
    · rename_i hl
      cases he
      exact ⟨φ, ρ, env, st, ds, _, ws, sl, h1, fun vs H1 p rr => ⟨by rw [rr.length]; exact hl, fun q hq => k _ _ ((Post.tup p.ws p.sl hq rr).pre p.ext)⟩⟩
    · cases he
  · cases he
theorem ok_lst (h : PA X es (tDs X.K T (evDs G cl es'))) : PE X (.List es pos) (tF X.K T (evE G cl (.lst es'))) := by
  refine imp (pe_lst h) fun σ H Q q => ?_
  obtain ⟨φ, ρ, env, st, x, st', ws, sl, he, k⟩ := q
  simp only [evE] at he
  split at he
  · rename_i ds st1 h1
    split at he
    · rename_i hl
      cases he
      exact ⟨φ, ρ, env, st, ds, _, ws, sl, h1, fun vs H1 p rr => ⟨by rw [rr.length]; exact hl, fun q hq => k _ _ ((Post.lst p.ws p.sl hq rr).pre p.ext)⟩⟩
    · cases he
  · cases he

/-! ### subscripts -/
theorem ok_idx (ha : PE X a (tF X.K T (evE G cl a'))) (hb : PE X b (tF X.K T (evE G cl b'))) (hp : pln b = true) : PE X (.Subscript a b pos) (tF X.K T (evE G cl (.idx a' b'))) := by
  refine imp (pe_ix (ix_list.or ix_tup) ha hb (pln_ix hp)) fun σ H Q q => ?_
  obtain ⟨φ, ρ, env, st, x, st', ws, sl, he, k⟩ := q
  simp only [evE] at he
  split at he
  · rename_i x1 st1 h1
    split at he
    · rename_i x2 st2 h2
      split at he
      · rename_i d e h3 h4
        split at he
        · rename_i r h5
          cases he
          exact seq2 ws sl h1 h2 fun u v H2 w2 s2 e2 ru rv => idx_ok (rd_view w2 ru h3) (rd_view w2 rv h4) h5 fun v hv => k _ _ ⟨w2, s2, e2, hv, fun d e => by cases e⟩
        · cases he
      · cases he
    · cases he
  · cases he
def tOO (K : PySem.W.Frag) (T : List (Addr × Str)) (F : Env → Sto → Option (Option Int × Sto)) : TO := fun σ H Q =>
  ∃ φ ρ env st o st', Ws K T φ ρ H st ∧ Sl K φ ρ H env σ ∧ F env st = some (o, st') ∧ ∀ H', PostB K T φ ρ H H' env σ st' → Q o H'
theorem oko_none : PO X none (tOO X.K T (evO G cl none)) := by
  refine ⟨fun pins s σ H Q I q => po_none.run pins s σ H Q I ?_⟩
  obtain ⟨φ, ρ, env, st, o, st', ws, sl, he, k⟩ := q
  simp only [evO] at he
  cases he
  exact k H ⟨ws, sl, .refl _ _⟩
theorem oko_some (ha : PE X a (tF X.K T (evE G cl a'))) : PO X (some a) (tOO X.K T (evO G cl (some a'))) := by
  refine ⟨fun pins s σ H Q I q => (po_some ha).run pins s σ H Q I ?_⟩
  obtain ⟨φ, ρ, env, st, o, st', ws, sl, he, k⟩ := q
  simp only [evO] at he
  split at he
  · rename_i i fr st1 h1
    cases he
    refine seq1 ws sl h1 fun u H1 w1 s1 e1 r1 => ?_
    cases (show RD X.K φ H1 u (.int i) from r1)
    exact ⟨_, rfl, k _ ⟨w1, s1, e1⟩⟩
  · cases he
theorem ok_cut {lo hi : Option Expr} {lo' hi' : Option IE} {p2 : Pos} (ha : PE X a (tF X.K T (evE G cl a'))) (hl : PO X lo (tOO X.K T (evO G cl lo'))) (hh : PO X hi (tOO X.K T (evO G cl hi'))) :
    PE X (.Subscript a (.Slice lo hi none p2) pos) (tF X.K T (evE G cl (.cut a' lo' hi'))) := by
  refine imp (pe_slice sl_any ha hl hh) fun σ H Q q => ?_
  obtain ⟨φ, ρ, env, st, x, st', ws, sl, he, k⟩ := q
  simp only [evE] at he
  split at he
  · rename_i x1 st1 h1
    split at he
    · rename_i l st2 h2
      split at he
      · rename_i h st3 h3
        refine seq1 ws sl h1 fun u H1 w1 s1 e1 r1 => ⟨φ, ρ, env, st1, l, st2, w1, s1, h2, fun H2 p2 => ⟨φ, ρ, env, st2, h, st3, p2.ws, p2.sl, h3, fun H3 p3 => ?_⟩⟩
        have r3 : RR X.K φ ρ H3 x1 u := RS.ext (p3.ext.more p2.ws.sub) p2.ws.fl (RS.ext (p2.ext.more w1.sub) w1.fl r1)
        have e3 : Ext ρ H H3 := e1.trans (p2.ext.trans p3.ext)
        split at he
        · rename_i xs h4
          cases he
          obtain ⟨ad, ys, rfl, h5, h6⟩ := (rd_view p3.ws r3 h4 : RV X.K φ H3 u (.list xs))
          exact cut_ok_l p3.ws p3.sl h5 h6 fun v H' p => k v H' (p.pre e3)
        · rename_i xs h4
          cases he
          have r4 : RV X.K φ H3 u (.tuple xs) := rd_view p3.ws r3 h4
          cases r4 with
          | tup h5 h6 => exact cut_ok_t p3.ws p3.sl h5 h6 fun v H' p => k v H' (p.pre e3)
        · cases he
      · cases he
    · cases he
  · cases he

/-! ### kinds -/
theorem ok_isi {t : String} {p p2 : Pos} (hg : Gl X "isinstance") (hm : X.mg "isinstance" = none) (hgt : Gl X (Str.ofString t)) (hmt : X.mg (Str.ofString t) = none) (hv : bootBuiltins (Str.ofString t) = some (.type t)) (hn : Str.ofString t ≠ "__name__") (hd : (Str.ofString t == ("__debug__" : Str)) = false)
    (ha : PE X a (tF X.K T (evE G cl a'))) (hp : pln a = true) : PE X (.Call (.Name "isinstance" p) [a, .Name (Str.ofString t) p2] [] pos) (tF X.K T (evE G cl (.isi a' t))) := by
  refine imp (pe_callB call_isi hg hm PyProof.Rows.boot_isinstance (pa_cons ha (pa_cons (pe_bltn (v := .ty t) hgt hmt hv rfl hn hd) pa_nil) (pln_star hp _ _)) (he := pln_star hp _ _) (hpl := by rfl)) fun σ H Q q => ?_
  obtain ⟨φ, ρ, env, st, x, st', ws, sl, he, k⟩ := q
  simp only [evE] at he
  split at he
  · rename_i x1 st1 h1
    split at he
    · rename_i d h2
      split at he
      · rename_i b h3
        cases he
        exact seq1 ws sl h1 fun u H1 w1 s1 e1 r1 => isi_ok (rd_view w1 r1 h2) h3 (k _ _ ⟨w1, s1, e1, .bl _, fun d e => by cases e⟩)
      · cases he
    · cases he
  · cases he
end
end Ev
set_option linter.all false
set_option maxRecDepth 100000
set_option maxHeartbeats 4000000
/-! Ev6: calls: of the package's own functions, of built-in ones. -/
namespace Ev
open PySem PySem.Spec L2
variable {K : PySem.W.Frag} {T : List (Addr × Str)} {X : Cx} {G : Pk} {cl : Str → List SV → Sto → Option (ER × Sto)}

/-! ### own functions -/
/-- what a call promises, by cl -/
def spC (K : PySem.W.Frag) (T : List (Addr × Str)) (cl : Str → List SV → Sto → Option (ER × Sto)) (f : Str) (n : Nat) : Sp := fun vs H Q _ =>
  vs.length = n ∧ ∃ φ ρ rs st r st', Ws K T φ ρ H st ∧ RRs K φ ρ H rs vs ∧ cl f (rs.map svE) st = some (r, st') ∧ ∀ v H', Post K T φ ρ H H' [] [] st' r v → Q v H'
/-- a function keeps its promise, where no repr is under way -/
structure FnE (P : Program) (w : World) (K : PySem.W.Frag) (mg : Str → Option Value) (base : Heap) (k : Nat) (f : Addr) (fd : FuncData) (ps : List Str) (sp : Sp) : Prop where
  run : ∀ (A : Around) (outer : List PySem.Env) (s : Shared) (H : Hp) (us : List Value) (vs : List V) (Q : VK), Room k A → A.guards = some [] → Env0 P w K mg base A outer s H → Vals vs us → sp vs H Q E0 →
    ∀ args, BindsTo s fd args (ps.zip us) → codeAny (model P w) A (.call (.ref f) args) (CR CX0 outer P w H s Q E0) s
/-- cl's functions are the module's -/
structure ClOk (P : Program) (w : World) (K : PySem.W.Frag) (mg : Str → Option Value) (base : Heap) (T : List (Addr × Str)) (k : Nat) (cl : Str → List SV → Sto → Option (ER × Sto)) (fs : List (Str × List Str)) (kc : List (Str × List Str × List Nat)) : Prop where
  kget : ∀ f ks ix, (f, ks, ix) ∈ kc → ∃ ps a fd, mg f = some (.ref a) ∧ PySem.W.keepIn K (.ref a) = true ∧ ix.length = ps.length ∧ (∀ i ∈ ix, i < ks.length) ∧ (∀ (s : Shared) (ws : List Value), ws.length = ks.length → BindsTo s fd ⟨[], ks.zip ws⟩ (ps.zip (pick ix ws))) ∧ FnE P w K mg base k a fd ps (spC K T cl f ps.length)
  get : ∀ f ps, fs.lookup f = some ps → ∃ a fd, mg f = some (.ref a) ∧ PySem.W.keepIn K (.ref a) = true ∧ Binds K fd ps [] ∧ FnE P w K mg base k a fd ps (spC K T cl f ps.length)

theorem evEs_len : ∀ {es' : List IE} {env : Env} {st : Sto} {rs : List ER} {st1 : Sto}, evEs G cl es' env st = some (rs, st1) → rs.length = es'.length
  | [], env, st, rs, st1, h => by simp only [evEs] at h; cases h; rfl
  | e :: es', env, st, rs, st1, h => by
    simp only [evEs] at h
    split at h
    · split at h
      · rename_i h2
        cases h
        exact congrArg (· + 1) (evEs_len h2)
      · cases h
    · cases h
theorem back_pln {es : List Expr} (h : es.all pln = true) (pos : Pos) (env : PySem.Env) : (backTo pos (starEach es env)).any (·.1) = false := by
  induction es with
  | nil => rfl
  | cons e es ih =>
    rw [List.all_cons, Bool.and_eq_true] at h
    rw [pln_star h.1]
    show (((false, _) :: backTo pos (starEach es env)).any (·.1)) = false
    rw [List.any_cons, ih h.2]
    rfl
theorem Post.toCaller {φ ρ : List Addr} {H H' : Hp} {env : Env} {σ : L2.St} {st' : Sto} {r : ER} {v : V} (sl : Sl K φ ρ H env σ) (fl : Lst φ H) (sub : ∀ a ∈ ρ, a ∈ φ) (p : Post K T φ ρ H H' [] [] st' r v) : Post K T φ ρ H H' env σ st' r v := by
  refine ⟨p.ws, sl.ext (p.ext.more sub) fl, p.ext, p.rr, fun d e => ?_⟩
  obtain ⟨q, xs, ds, h1, h2, h3, h4, h5, h6, h7⟩ := p.fr d e
  refine ⟨q, xs, ds, h1, h2, h3, h4, h5, h6, (sl.fresh h3).ext (p.ext.more fun a h => List.mem_append_left _ (sub a h)) fun a ha o e => ?_⟩
  rcases List.mem_append.mp ha with ha | ha
  · exact fl a ha o e
  · rw [List.mem_singleton.mp ha, h3] at e; cases e
theorem runE {k : Nat} {f : Addr} {fd : FuncData} {ps : List Str} {sp : Sp} {pins : List (Addr × Obj)} {σ : L2.St} {H : Hp} {s : Shared} {Q : VK} {us : List Value} {vs : List V}
    (F : FnE X.prog X.w X.K X.mg X.base k f fd ps sp) (hr : Room k X.A) (hg : X.A.guards = some []) (hb : Binds X.K fd ps []) (hl : vs.length = ps.length)
    (I : Inv X pins σ H s) (r : Vals vs us) (h : sp vs H Q E0) : wpAny (model X.prog X.w) X.A (call (.ref f) us) (EP X pins σ Q) X.xe s := by
  have hb' : BindsTo s fd ⟨us, []⟩ (ps.zip us) := by
    have q := hb s us I.kIn (by rw [List.append_nil, ← r.length]; exact hl)
    rw [List.append_nil] at q
    exact q
  have go := F.run X.A X.stack s H us vs Q hr hg I.env0 r h _ hb'
  refine wpAny_call (codeAny_mono go fun res s2 hq => ?_)
  match res, hq with
  | .ok (.ret u), hq => exact I.after hq
theorem ok_call {k : Nat} {f : Str} {fs : List (Str × List Str)} {ps : List Str} {e : Expr} {es : List Expr} {es' : List IE} {p pos : Pos} {kc : List (Str × List Str × List Nat)} (C : ClOk X.prog X.w X.K X.mg X.base T k cl fs kc) (hf : fs.lookup f = some ps) (hr : Room k X.A) (hgu : X.A.guards = some [])
    (hg : Gl X f) (hd : (f == ("__debug__" : Str)) = false) (hps : ps.length = es'.length) (hes : PA X (e :: es) (tFs X.K T (evEs G cl es'))) (hp : (e :: es).all pln = true) :
    PE X (.Call (.Name f p) (e :: es) [] pos) (tF X.K T (evE G cl (.call f es'))) := by
  obtain ⟨a, fd, hm, hk, hb, F⟩ := C.get f ps hf
  have hp1 : pln e = true ∧ es.all pln = true := by rw [List.all_cons, Bool.and_eq_true] at hp; exact hp
  refine ⟨fun pins s σ H Q I q => ?_⟩
  obtain ⟨φ, ρ, env, st, x, st', ws, sl, he, k⟩ := q
  simp only [evE] at he
  split at he
  · rename_i rs st1 h1
    refine wpAny_Call_Name_kw (ld_glob I hg hm ?_ hd)
    refine PySem.W.callWith_K (h₀ := X.base) I.ok.mod.kin hk (thn (hes.run pos pins s σ H (fun vs H1 => vs.length = ps.length ∧ PostB X.K T φ ρ H H1 env σ st1 ∧ RRs X.K φ ρ H1 rs vs) I ⟨φ, ρ, env, st, rs, st1, ws, sl, h1, fun vs H1 p rr => ⟨?_, p, rr⟩⟩) fun us s1 q => ?_) (pln_star hp1.1 _ _) (back_pln hp1.2 _ _)
    · rw [← rr.length, hps]
      exact evEs_len h1
    · obtain ⟨vs, H1, I1, r1, hl, p, rr⟩ := q
      refine ⟨I1.kIn, runE F hr hgu hb hl I1 r1 ⟨hl, φ, ρ, rs, st1, x, st', p.ws, rr, he, fun v H' p' => k v H' ((p'.toCaller p.sl p.ws.fl p.ws.sub).pre p.ext)⟩⟩
  · cases he

theorem pick_len {α : Type} {ix : List Nat} {xs : List α} (h : ∀ i ∈ ix, i < xs.length) : (pick ix xs).length = ix.length := by
  unfold pick
  induction ix with
  | nil => rfl
  | cons i ix ih =>
    have hi := h i (List.mem_cons_self ..)
    rw [List.filterMap_cons, List.getElem?_eq_getElem hi]
    exact congrArg (· + 1) (ih fun j hj => h j (List.mem_cons_of_mem _ hj))
theorem pick_vals {vs : List V} {us : List Value} (r : Vals vs us) : ∀ ix : List Nat, Vals (pick ix vs) (pick ix us)
  | [] => .nil
  | i :: ix => by
    have ih := pick_vals r ix
    unfold pick at ih ⊢
    cases e : vs[i]? with
    | some v =>
      obtain ⟨u, hu, rv⟩ := r.get e
      rw [List.filterMap_cons_some e, List.filterMap_cons_some hu]
      exact .cons rv ih
    | none =>
      have hu : us[i]? = none := by
        rw [List.getElem?_eq_none_iff] at e ⊢
        rw [← r.length]; exact e
      rw [List.filterMap_cons_none e, List.filterMap_cons_none hu]
      exact ih
theorem RRs.get {φ ρ : List Addr} {H : Hp} : ∀ (rs : List ER) (vs : List V) (i : Nat) (u : V), RRs K φ ρ H rs vs → vs[i]? = some u → ∃ x, rs[i]? = some x ∧ RR K φ ρ H x u
  | [], [], _, _, _, h => by simp at h
  | x :: rs, v :: vs, 0, u, r, h => by
    cases h
    exact ⟨x, rfl, r.1⟩
  | x :: rs, v :: vs, i + 1, u, r, h => RRs.get rs vs i u r.2 (by simpa using h)
theorem pick_rrs {φ ρ : List Addr} {H : Hp} {rs : List ER} {vs : List V} (r : RRs K φ ρ H rs vs) : ∀ ix : List Nat, RRs K φ ρ H (pick ix rs) (pick ix vs)
  | [] => True.intro
  | i :: ix => by
    have ih := pick_rrs r ix
    unfold pick at ih ⊢
    cases e : vs[i]? with
    | some v =>
      obtain ⟨u, hu, rv⟩ := RRs.get _ _ _ _ r e
      rw [List.filterMap_cons_some e, List.filterMap_cons_some hu]
      exact ⟨rv, ih⟩
    | none =>
      have hu : rs[i]? = none := by
        rw [List.getElem?_eq_none_iff] at e ⊢
        rw [r.length]; exact e
      rw [List.filterMap_cons_none e, List.filterMap_cons_none hu]
      exact ih
theorem okk_nil : PK X [] (tFs X.K T (evEs G cl [])) := by
  refine ⟨fun pos pins s σ H Q I q => pk_nil.run pos pins s σ H Q I ?_⟩
  obtain ⟨φ, ρ, env, st, rs, st', ws, sl, he, k⟩ := q
  simp only [evEs] at he
  cases he
  exact k [] H ⟨ws, sl, .refl _ _⟩ True.intro
theorem okk_cons {nm : Option Str} {kpos : Pos} {e : Expr} {es : List Keyword} {e' : IE} {es' : List IE} (he : PE X e (tF X.K T (evE G cl e'))) (hes : PK X es (tFs X.K T (evEs G cl es'))) : PK X (⟨nm, e, kpos⟩ :: es) (tFs X.K T (evEs G cl (e' :: es'))) := by
  refine ⟨fun pos pins s σ H Q I q => (pk_cons he hes).run pos pins s σ H Q I ?_⟩
  obtain ⟨φ, ρ, env, st, rs, st', ws, sl, h, k⟩ := q
  simp only [evEs] at h
  split at h
  · rename_i r1 st1 h1
    split at h
    · rename_i rs2 st2 h2
      cases h
      refine ⟨φ, ρ, env, st, r1, st1, ws, sl, h1, fun v H1 p => ⟨φ, ρ, env, st1, rs2, _, p.ws, p.sl, h2, fun vs H2 p2 rr => k (v :: vs) H2 ⟨p2.ws, p2.sl, p.ext.trans p2.ext⟩ ⟨?_, rr⟩⟩⟩
      exact RS.ext (p2.ext.more p.ws.sub) p.ws.fl p.rr
    · cases h
  · cases h
theorem kws_all {kws : List Keyword} {ks : List Str} (h : kws.map (·.arg) = ks.map some) (pos : Pos) (env : PySem.Env) : (backToKw pos (keywordEach kws env)).all (·.1.isSome) = true ∧ (backToKw pos (keywordEach kws env)).filterMap (·.1) = ks ∧ (backToKw pos (keywordEach kws env)).any (·.1.isNone) = false := by
  induction kws generalizing ks with
  | nil =>
    cases ks with
    | nil => exact ⟨rfl, rfl, rfl⟩
    | cons _ _ => simp at h
  | cons kw kws ih =>
    cases ks with
    | nil => simp at h
    | cons n ks =>
      obtain ⟨nm, v, p⟩ := kw
      simp only [List.map_cons, List.cons.injEq] at h
      obtain ⟨rfl, h⟩ := h
      obtain ⟨h1, h2, h3⟩ := ih h
      have e : ∀ t, backToKw pos ((some n, t) :: keywordEach kws env) = (some n, do let v ← t; standAt pos; pure v) :: backToKw pos (keywordEach kws env) := fun t => rfl
      simp only [keywordEach, e, List.all_cons, List.any_cons, List.filterMap_cons, h1, h2, h3, Option.isSome_some, Option.isNone_some, Bool.and_self, Bool.or_self, and_self]
theorem ok_callk {k : Nat} {f : Str} {fs : List (Str × List Str)} {ks : List Str} {ix : List Nat} {kws : List Keyword} {es' : List IE} {p pos : Pos} {kc : List (Str × List Str × List Nat)} (C : ClOk X.prog X.w X.K X.mg X.base T k cl fs kc) (hf : (f, ks, ix) ∈ kc) (hr : Room k X.A) (hgu : X.A.guards = some [])
    (hg : Gl X f) (hd : (f == ("__debug__" : Str)) = false) (hn : kws.map (·.arg) = ks.map some) (hl : es'.length = ks.length) (hes : PK X kws (tFs X.K T (evEs G cl es'))) :
    PE X (.Call (.Name f p) [] kws pos) (tF X.K T (evE G cl (.callk f ks es' ix))) := by
  obtain ⟨ps, a, fd, hm, hk, hix, hlt, hb, F⟩ := C.kget f ks ix hf
  obtain ⟨k1, k2, k3⟩ := kws_all hn pos X.env
  refine ⟨fun pins s σ H Q I q => ?_⟩
  obtain ⟨φ, ρ, env, st, x, st', ws, sl, he, k⟩ := q
  simp only [evE] at he
  split at he
  · rename_i rs st1 h1
    have hlr : rs.length = ks.length := by rw [evEs_len h1, hl]
    refine wpAny_Call_Name_kw (ld_glob I hg hm ?_ hd)
    refine PySem.W.callWith_KW0 (h₀ := X.base) I.ok.mod.kin hk k1 (thn (hes.run pos pins s σ H (fun vs H1 => PostB X.K T φ ρ H H1 env σ st1 ∧ RRs X.K φ ρ H1 rs vs) I ⟨φ, ρ, env, st, rs, st1, ws, sl, h1, fun vs H1 p rr => ⟨p, rr⟩⟩) fun us s1 q => ?_) (by rw [k3]; rfl)
    obtain ⟨vs, H1, I1, r1, p, rr⟩ := q
    refine ⟨I1.kIn, ?_⟩
    rw [k2]
    have hlv : vs.length = ks.length := by rw [← rr.length, hlr]
    have hlu : us.length = ks.length := by rw [← r1.length, hlv]
    have hlp : (pick ix vs).length = ps.length := by rw [pick_len (fun i hi => by rw [hlv]; exact hlt i hi), hix]
    have go := F.run X.A X.stack s1 H1 (pick ix us) (pick ix vs) Q hr hgu I1.env0 (pick_vals r1 ix) ⟨hlp, φ, ρ, pick ix rs, st1, x, st', p.ws, pick_rrs rr ix, he, fun v H' p' => k v H' ((p'.toCaller p.sl p.ws.fl p.ws.sub).pre p.ext)⟩ ⟨[], ks.zip us⟩ (hb s1 us hlu)
    refine wpAny_call (codeAny_mono go fun res s2 hq => ?_)
    match res, hq with
    | .ok (.ret u), hq => exact I1.after hq
  · cases he
/-- f() -/
theorem ok_call0 {k : Nat} {f : Str} {fs : List (Str × List Str)} {p pos : Pos} {kc : List (Str × List Str × List Nat)} (C : ClOk X.prog X.w X.K X.mg X.base T k cl fs kc) (hf : fs.lookup f = some []) (hr : Room k X.A) (hgu : X.A.guards = some [])
    (hg : Gl X f) (hd : (f == ("__debug__" : Str)) = false) : PE X (.Call (.Name f p) [] [] pos) (tF X.K T (evE G cl (.call f []))) := by
  obtain ⟨a, fd, hm, hk, hb, F⟩ := C.get f [] hf
  refine ⟨fun pins s σ H Q I q => ?_⟩
  obtain ⟨φ, ρ, env, st, x, st', ws, sl, he, k⟩ := q
  simp only [evE, evEs] at he
  refine wpAny_Call_Name_kw (ld_glob I hg hm ?_ hd)
  exact PySem.W.callWith_K0 I.kIn hk (runE (us := []) (vs := []) F hr hgu hb rfl I .nil ⟨rfl, φ, ρ, [], st, x, st', ws, True.intro, he, fun v H' p' => k v H' (p'.toCaller sl ws.fl ws.sub)⟩)

/-! ### built-in functions -/
theorem rds_ints {φ : List Addr} {H : Hp} : ∀ {xs : List V} {ds : List D} {is : List Int}, RDs K φ H xs ds → intsD ds = some is → xs = is.map V.int
  | _, _, _, .nil, h => by cases h; rfl
  | _, _, _, .cons (d := .int i) a b, h => by
    simp only [intsD, Option.map_eq_some_iff] at h
    obtain ⟨js, h1, rfl⟩ := h
    cases a
    rw [rds_ints b h1]; rfl
  | _, _, _, .cons (d := .none) a b, h => by cases h
  | _, _, _, .cons (d := .bool _) a b, h => by cases h
  | _, _, _, .cons (d := .str _) a b, h => by cases h
  | _, _, _, .cons (d := .list _) a b, h => by cases h
  | _, _, _, .cons (d := .tuple _) a b, h => by cases h
  | _, _, _, .cons (d := .dict _) a b, h => by cases h
theorem rds_bols {φ : List Addr} {H : Hp} : ∀ {xs : List V} {ds : List D} {is : List Bool}, RDs K φ H xs ds → bolsD ds = some is → xs = is.map V.bl
  | _, _, _, .nil, h => by cases h; rfl
  | _, _, _, .cons (d := .bool i) a b, h => by
    simp only [bolsD, Option.map_eq_some_iff] at h
    obtain ⟨js, h1, rfl⟩ := h
    cases a
    rw [rds_bols b h1]; rfl
  | _, _, _, .cons (d := .none) a b, h => by cases h
  | _, _, _, .cons (d := .int _) a b, h => by cases h
  | _, _, _, .cons (d := .str _) a b, h => by cases h
  | _, _, _, .cons (d := .list _) a b, h => by cases h
  | _, _, _, .cons (d := .tuple _) a b, h => by cases h
  | _, _, _, .cons (d := .dict _) a b, h => by cases h
/-- the read values of arguments -/
def RVs (K : PySem.W.Frag) (φ : List Addr) (H : Hp) : List V → List D → Prop
  | [], [] => True
  | v :: vs, d :: ds => RV K φ H v d ∧ RVs K φ H vs ds
  | _, _ => False
theorem rvs_of {φ ρ : List Addr} {H : Hp} {st : Sto} (ws : Ws K T φ ρ H st) : ∀ {rs : List ER} {vs : List V} {ds : List D}, RRs K φ ρ H rs vs → rdEs st rs = some ds → RVs K φ H vs ds
  | [], [], ds, _, h => by simp only [rdEs] at h; cases h; exact True.intro
  | r :: rs, v :: vs, ds, ⟨a, b⟩, h => by
    simp only [rdEs] at h
    split at h
    · rename_i d ds' h1 h2
      cases h
      exact ⟨rd_view ws a h1, rvs_of ws b h2⟩
    · cases h
theorem RVs.one {φ : List Addr} {H : Hp} {vs : List V} {d : D} (h : RVs K φ H vs [d]) : ∃ v, vs = [v] ∧ RV K φ H v d := by
  match vs, h with
  | [v], ⟨a, _⟩ => exact ⟨v, rfl, a⟩
theorem RVs.two {φ : List Addr} {H : Hp} {vs : List V} {d e : D} (h : RVs K φ H vs [d, e]) : ∃ v u, vs = [v, u] ∧ RV K φ H v d ∧ RV K φ H u e := by
  match vs, h with
  | [v, u], ⟨a, b, _⟩ => exact ⟨v, u, rfl, a, b⟩
theorem maxI_mem : ∀ (m : Int) (l : List Int), maxI m l ∈ m :: l ∧ ∀ y ∈ m :: l, y ≤ maxI m l
  | m, [] => ⟨by simp [maxI], by simp [maxI]⟩
  | m, x :: r => by
    obtain ⟨h1, h2⟩ := maxI_mem (if x > m then x else m) r
    refine ⟨?_, fun y hy => ?_⟩
    · show maxI (if x > m then x else m) r ∈ _
      rcases List.mem_cons.mp h1 with e | e
      · rw [e]; split <;> simp
      · simp [e]
    · show y ≤ maxI (if x > m then x else m) r
      have h0 := h2 _ List.mem_cons_self
      rcases List.mem_cons.mp hy with rfl | hy
      · refine Int.le_trans ?_ h0; split <;> omega
      · rcases List.mem_cons.mp hy with rfl | hy
        · refine Int.le_trans ?_ h0; split <;> omega
        · exact h2 y (List.mem_cons_of_mem _ hy)
theorem minI_mem : ∀ (m : Int) (l : List Int), minI m l ∈ m :: l ∧ ∀ y ∈ m :: l, minI m l ≤ y
  | m, [] => ⟨by simp [minI], by simp [minI]⟩
  | m, x :: r => by
    obtain ⟨h1, h2⟩ := minI_mem (if x < m then x else m) r
    refine ⟨?_, fun y hy => ?_⟩
    · show minI (if x < m then x else m) r ∈ _
      rcases List.mem_cons.mp h1 with e | e
      · rw [e]; split <;> simp
      · simp [e]
    · show minI (if x < m then x else m) r ≤ y
      have h0 := h2 _ List.mem_cons_self
      rcases List.mem_cons.mp hy with rfl | hy
      · refine Int.le_trans h0 ?_; split <;> omega
      · rcases List.mem_cons.mp hy with rfl | hy
        · refine Int.le_trans h0 ?_; split <;> omega
        · exact h2 y (List.mem_cons_of_mem _ hy)

theorem reads_repr {v : Value} {d : D} {as : List Addr} {pins : List (Addr × Obj)} {σ : L2.St} {H : Hp} {s : Shared} {Q : VK} (hg : X.A.guards = some []) (hu : X.A.units + 65 < cLine) (I : Inv X pins σ H s) (r : Reads s.heap v d as) (h : okRep d = true) (q : Q (.str d.shown) H) :
    wpAny (model X.prog X.w) X.A (call (.builtin "repr") [v]) (EP X pins σ Q) X.xe s := by
  simp only [okRep, Bool.and_eq_true, decide_eq_true_eq, Bool.not_eq_true'] at h
  obtain ⟨⟨⟨h1, h2⟩, h3⟩, h4⟩ := h
  cases r with
  | none => exact PySem.P.repr_of_none ⟨.str _, H, I.tok _, ⟨_, rfl⟩, q⟩
  | bool b => exact PySem.P.repr_of_bool ⟨.str _, H, I.tok _, ⟨_, rfl⟩, q⟩
  | int i t => exact PySem.P.repr_of_int (by simpa [PyData.showable] using h1) ⟨.str _, H, I.tok _, ⟨_, rfl⟩, q⟩
  | str x t => exact PySem.P.repr_of_str ⟨.str _, H, I.tok _, ⟨_, rfl⟩, q⟩ h4
  | list a b c e => exact repr_of_reads' (.list a b c e) h1 (PyData.noDict_hsm h2) hg (by omega) (fun _ _ z => z) (fun h' u tk k => ⟨.str _, H, I.kept k, ⟨_, rfl⟩, q⟩) h4
  | tuple a b c e => exact repr_of_reads' (.tuple a b c e) h1 (PyData.noDict_hsm h2) hg (by omega) (fun _ _ z => z) (fun h' u tk k => ⟨.str _, H, I.kept k, ⟨_, rfl⟩, q⟩) h4
  | dict => simp [PyData.hasDict] at h2
mutual
/-- without dicts -/
theorem RD.dpN {φ : List Addr} {H : Hp} : ∀ {v : V} {d : D}, d.hasDict = false → RD K φ H v d → Dp K H v d
  | _, _, _, .non => .non
  | _, _, _, .bl b => .bl b
  | _, _, _, .int i => .int i
  | _, _, _, .str s => .str s
  | _, _, c, .lst n e r => .lst (.inl (.inl e)) (RDs.dpN (by simpa [PyData.hasDict] using c) r)
  | _, _, c, .tup e r => .tup e (RDs.dpN (by simpa [PyData.hasDict] using c) r)
  | _, _, c, .dct e => by simp [PyData.hasDict] at c
theorem RDs.dpN {φ : List Addr} {H : Hp} : ∀ {vs : List V} {ds : List D}, PyData.hasDictAll ds = false → RDs K φ H vs ds → DpAll K H vs ds
  | _, _, _, .nil => .nil
  | _, _, c, .cons a b => by
    simp only [PyData.hasDictAll, Bool.or_eq_false_iff] at c
    exact .cons (RD.dpN c.1 a) (RDs.dpN c.2 b)
end
theorem RV.dpN {φ : List Addr} {H : Hp} {v : V} {d : D} (c : d.hasDict = false) (h : RV K φ H v d) : Dp K H v d := by
  cases d with
  | list ds =>
    obtain ⟨a, xs, rfl, e, r⟩ := h
    exact .lst (.inl (.inl e)) (r.dpN (by simpa [PyData.hasDict] using c))
  | none => exact RD.dpN c h
  | bool b => exact RD.dpN c h
  | int i => exact RD.dpN c h
  | str x => exact RD.dpN c h
  | tuple xs => exact RD.dpN c h
  | dict k => exact RD.dpN c h
def rRep1 (K : PySem.W.Frag) : List V → Hp → VK → Prop := fun xs H Q => ∃ x d, xs = [x] ∧ Dp K H x d ∧ okRep d = true ∧ Q (.str d.shown) H
theorem call_rep (hg : X.A.guards = some []) (hu : X.A.units + 65 < cLine) : CallR X (.builtin "repr") (rRep1 X.K) := by
  intro pins s σ H xs us Q I r h
  obtain ⟨x, d, rfl, h1, h2, q⟩ := h
  obtain ⟨u, rfl, r1⟩ := vals1 r
  obtain ⟨as, rd⟩ := Dp.reads I d x u h1 r1
  exact reads_repr hg hu I rd h2 q
/-- how each is called, and by which rule -/
def bltR (K : PySem.W.Frag) : Bf → List V → Hp → VK → Prop
  | .len => fun xs H Q => ∃ p ys, xs = [.ref p] ∧ (SqL K H p ys ∨ SqT K H p ys) ∧ Q (.int ys.length) H
  | .all => rAll K
  | .any => rAny K
  | .tup => fun xs H Q => ∃ p ys, xs = [.ref p] ∧ ((SqL K H p ys ∧ ∀ l, H l = none → Q (.ref l) (upd H l (.tup ys))) ∨ (SqT K H p ys ∧ Q (.ref p) H))
  | .lst => fun xs H Q => ∃ p ys, xs = [.ref p] ∧ (SqL K H p ys ∨ SqT K H p ys) ∧ ∀ l, H l = none → Q (.ref l) (upd H l (.lst ys))
  | .max => fun xs H Q => (∃ i j, xs = [.int i, .int j] ∧ Q (.int (if j > i then j else i)) H) ∨ rMax K xs H Q
  | .min => fun xs H Q => (∃ i j, xs = [.int i, .int j] ∧ Q (.int (if j < i then j else i)) H) ∨ rMin K xs H Q
  | .sum => rSum K
  | .abs => fun xs H Q => ∃ i, xs = [.int i] ∧ Q (.int (if i < 0 then -i else i)) H
  | .int => fun xs H Q => (∃ i, xs = [.int i] ∧ Q (.int i) H) ∨ ∃ k, xs = [.bl k] ∧ Q (.int (if k then 1 else 0)) H
  | .rep => rRep1 K
  | .str => fun xs H Q => ∃ i, xs = [.int i] ∧ i.natAbs.log2 < 1920 ∧ Q (.str (toString i)) H
def bltV : Bf → Value
  | .len => .builtin "len" | .all => .builtin "all" | .any => .builtin "any" | .tup => .type "tuple" | .lst => .type "list" | .max => .builtin "max" | .min => .builtin "min" | .sum => .builtin "sum" | .abs => .builtin "abs" | .int => .type "int" | .rep => .builtin "repr" | .str => .type "str"
theorem bltV_boot (f : Bf) : bootBuiltins f.nm = some (bltV f) := by cases f <;> decide +kernel
theorem bltV_run (hc : X.calm = true) (hg : X.A.guards = some []) (hu : X.A.units + 65 < cLine) (f : Bf) : CallR X (bltV f) (bltR X.K f) := by
  cases f with
  | len => exact call_len_seq
  | all => exact cr_all hc
  | any => exact cr_any hc
  | tup => exact call_tuple_of
  | lst => exact call_list_of
  | max => exact (call_max2 hc).or (cr_max hc)
  | min => exact (call_min2 hc).or (cr_min hc)
  | sum => exact cr_sum hc
  | abs => exact call_abs
  | int => exact call_int1
  | rep => exact call_rep hg hu
  | str => exact call_str_int
theorem blt_ok {φ ρ : List Addr} {H : Hp} {env : Env} {σ : L2.St} {st : Sto} {Q : VK} {f : Bf} {vs : List V} {ds : List D} {z : D} {fr : Bool} (ws : Ws K T φ ρ H st) (sl : Sl K φ ρ H env σ) (hv : RVs K φ H vs ds) (h : bltD f ds = some (z, fr))
    (hQ : ∀ v H', Post K T φ ρ H H' env σ st (.dat z fr) v → Q v H') : bltR K f vs H Q := by
  have flat : ∀ {v : V}, RD K φ H v z → fr = false → Q v H := fun {v} r e => hQ v H (.at ws sl r (fun d q => by subst e; cases q))
  unfold bltD at h
  split at h
  · cases h
    obtain ⟨v, rfl, ad, xs, rfl, h1, h2⟩ := hv.one
    exact ⟨ad, xs, rfl, .inl (.inl (.inl h1)), by rw [h2.length]; exact flat (.int _) rfl⟩
  · cases h
    obtain ⟨v, rfl, h1⟩ := hv.one
    cases h1 with
    | tup h1 h2 => exact ⟨_, _, rfl, .inr h1, by rw [h2.length]; exact flat (.int _) rfl⟩
  · obtain ⟨bs, h3, h4⟩ := Option.map_eq_some_iff.mp h
    cases h4
    obtain ⟨v, rfl, ad, xs, rfl, h1, h2⟩ := hv.one
    exact ⟨ad, bs, rfl, .inl (.inl (by rw [← rds_bols h2 h3]; exact h1)), flat (.bl _) rfl⟩
  · obtain ⟨bs, h3, h4⟩ := Option.map_eq_some_iff.mp h
    cases h4
    obtain ⟨v, rfl, ad, xs, rfl, h1, h2⟩ := hv.one
    exact ⟨ad, bs, rfl, .inl (.inl (by rw [← rds_bols h2 h3]; exact h1)), flat (.bl _) rfl⟩
  · cases h
    obtain ⟨v, rfl, ad, xs, rfl, h1, h2⟩ := hv.one
    exact ⟨ad, xs, rfl, .inl ⟨.inl (.inl h1), fun l hl => hQ _ _ (.tup ws sl hl h2)⟩⟩
  · cases h
    obtain ⟨v, rfl, h1⟩ := hv.one
    cases h1 with
    | tup h1 h2 => exact ⟨_, _, rfl, .inr ⟨h1, flat (.tup h1 h2) rfl⟩⟩
  · cases h
    obtain ⟨v, rfl, ad, xs, rfl, h1, h2⟩ := hv.one
    exact ⟨ad, xs, rfl, .inl (.inl (.inl h1)), fun l hl => hQ _ _ (.lst ws sl hl h2)⟩
  · cases h
    obtain ⟨v, rfl, h1⟩ := hv.one
    cases h1 with
    | tup h1 h2 => exact ⟨_, _, rfl, .inr h1, fun l hl => hQ _ _ (.lst ws sl hl h2)⟩
  · cases h
    obtain ⟨v, u, rfl, h1, h2⟩ := hv.two
    cases h1; cases h2
    exact .inl ⟨_, _, rfl, flat (.int _) rfl⟩
  · split at h
    · rename_i x r h3
      cases h
      obtain ⟨v, rfl, ad, xs, rfl, h1, h2⟩ := hv.one
      have e := rds_ints h2 h3
      refine .inr ⟨ad, x :: r, rfl, .inl (.inl (by rw [← e]; exact h1)), by simp, fun m h4 h5 => ?_⟩
      obtain ⟨h6, h7⟩ := maxI_mem x r
      have e2 : m = maxI x r := Int.le_antisymm (h7 m h4) (h5 _ h6)
      rw [e2]
      exact flat (.int _) rfl
    · cases h
  · cases h
    obtain ⟨v, u, rfl, h1, h2⟩ := hv.two
    cases h1; cases h2
    exact .inl ⟨_, _, rfl, flat (.int _) rfl⟩
  · split at h
    · rename_i x r h3
      cases h
      obtain ⟨v, rfl, ad, xs, rfl, h1, h2⟩ := hv.one
      have e := rds_ints h2 h3
      refine .inr ⟨ad, x :: r, rfl, .inl (.inl (by rw [← e]; exact h1)), by simp, fun m h4 h5 => ?_⟩
      obtain ⟨h6, h7⟩ := minI_mem x r
      have e2 : m = minI x r := Int.le_antisymm (h5 _ h6) (h7 m h4)
      rw [e2]
      exact flat (.int _) rfl
    · cases h
  · obtain ⟨is, h3, h4⟩ := Option.map_eq_some_iff.mp h
    cases h4
    obtain ⟨v, rfl, ad, xs, rfl, h1, h2⟩ := hv.one
    exact ⟨ad, is, rfl, .inl (.inl (by rw [← rds_ints h2 h3]; exact h1)), flat (.int _) rfl⟩
  · cases h
    obtain ⟨v, rfl, h1⟩ := hv.one
    cases h1
    exact ⟨_, rfl, flat (.int _) rfl⟩
  · cases h
    obtain ⟨v, rfl, h1⟩ := hv.one
    cases h1
    exact .inl ⟨_, rfl, flat (.int _) rfl⟩
  · cases h
    obtain ⟨v, rfl, h1⟩ := hv.one
    cases h1
    exact .inr ⟨_, rfl, flat (.int _) rfl⟩
  · split at h
    · rename_i h3
      cases h
      obtain ⟨v, rfl, h1⟩ := hv.one
      have h5 := h3
      simp only [okRep, Bool.and_eq_true, Bool.not_eq_true'] at h5
      exact ⟨v, _, rfl, h1.dpN h5.1.1.2, h3, flat (.str _) rfl⟩
    · cases h
  · split at h
    · rename_i h3
      cases h
      obtain ⟨v, rfl, h1⟩ := hv.one
      cases h1
      exact ⟨_, rfl, h3, flat (.str _) rfl⟩
    · cases h
  · cases h
theorem ok_blt {f : Bf} {e : Expr} {es : List Expr} {es' : List IE} {p pos : Pos} (hc : X.calm = true) (hgu : X.A.guards = some []) (hu : X.A.units + 65 < cLine) (hg : Gl X f.nm) (hm : X.mg f.nm = none)
    (hes : PA X (e :: es) (tFs X.K T (evEs G cl es'))) (hp : (e :: es).all pln = true) : PE X (.Call (.Name f.nm p) (e :: es) [] pos) (tF X.K T (evE G cl (.blt f es'))) := by
  have hp1 : pln e = true ∧ es.all pln = true := by rw [List.all_cons, Bool.and_eq_true] at hp; exact hp
  have hn : f.nm ≠ "__name__" := by cases f <;> decide
  have hd : (f.nm == ("__debug__" : Str)) = false := by cases f <;> decide
  have main : PE X (.Call (.Name f.nm p) (e :: es) [] pos) (tCB (bltR X.K f) (tFs X.K T (evEs G cl es'))) := by
    have h1 := bltV_run hc hgu hu f
    have h2 := bltV_boot f
    cases f <;> first
      | exact pe_callB h1 hg hm h2 hes hn hd (pln_star hp1.1 _ _) (back_pln hp1.2 _ _)
      | exact pe_callTy h1 hg hm h2 hes hn hd (pln_star hp1.1 _ _) (back_pln hp1.2 _ _)
  refine imp main fun σ H Q q => ?_
  obtain ⟨φ, ρ, env, st, x, st', ws, sl, he, k⟩ := q
  simp only [evE] at he
  split at he
  · rename_i rs st1 h1
    split at he
    · rename_i ds h2
      split at he
      · rename_i r fr h3
        cases he
        exact ⟨φ, ρ, env, st, rs, _, ws, sl, h1, fun vs H1 p rr => blt_ok p.ws p.sl (rvs_of p.ws rr h2) h3 fun v H' p' => k v H' (p'.pre p.ext)⟩
      · cases he
    · cases he
  · cases he

/-! ### a dict of the module; the script -/
theorem ok_look {g : Str} {a : Expr} {a' : IE} {p p2 : Pos} {pos : Pos} {ad : Addr} {kvs : List (Str × D)} (hg : Gl X g) (hm : X.mg g = some (.ref ad)) (hd : (g == ("__debug__" : Str)) = false) (hk : G.dic g = some kvs)
    (hv : ∀ k d, kvs.lookup k = some d → ∃ v, KDct X.K X.w ad k v ∧ ∀ φ H, RD X.K φ H v d) (ha : PE X a (tF X.K T (evE G cl a'))) (hp : pln a = true) : PE X (.Subscript (.Name g p) a pos) (tF X.K T (evE G cl (.look g a'))) := by
  refine imp (pe_ix ix_kdict (pe_glob (v := .ref ad) hg hm rfl hd) ha (pln_ix hp)) fun σ H Q q => ?_
  obtain ⟨φ, ρ, env, st, x, st', ws, sl, he, k⟩ := q
  simp only [evE] at he
  split at he
  · rename_i kk fr st1 h1
    rw [hk] at he
    simp only at he
    split at he
    · rename_i d h2
      cases he
      obtain ⟨v, h3, h4⟩ := hv _ _ h2
      refine seq1 ws sl h1 fun u H1 w1 s1 e1 r1 => ?_
      cases (show RD X.K φ H1 u (.str kk) from r1)
      exact ⟨ad, kk, v, rfl, rfl, h3, k _ _ ⟨w1, s1, e1, h4 _ _, fun d e => by cases e⟩⟩
    · cases he
  · cases he
theorem ok_slen {i : Nat} {a : Expr} {p pos : Pos} (hg : Gl X "len") (hm : X.mg "len" = none) (ha : PE X a (tVar i)) (hp : pln a = true) : PE X (.Call (.Name "len" p) [a] [] pos) (tF X.K T (evE G cl (.slen i))) := by
  refine imp (pe_callB call_len_seq hg hm PySem.boot_len (pa_cons ha pa_nil (pln_star hp _ _)) (he := pln_star hp _ _) (hpl := by rfl)) fun σ H Q q => ?_
  obtain ⟨φ, ρ, env, st, x, st', ws, sl, he, k⟩ := q
  simp only [evE] at he
  split at he
  · rename_i ns hs
    cases he
    obtain ⟨v, h1, ad, rfl, h2⟩ := sl.get i _ hs
    refine ⟨.ref ad, h1, ad, _, rfl, .inl h2.sq, ?_⟩
    rw [List.length_map]
    exact k _ _ (.at ws sl (.int _) (fun d e => by cases e))
  · cases he
theorem ok_sidx {i : Nat} {a b : Expr} {b' : IE} {pos : Pos} (ha : PE X a (tVar i)) (hb : PE X b (tF X.K T (evE G cl b'))) (hp : pln b = true) : PE X (.Subscript a b pos) (tF X.K T (evE G cl (.sidx i b'))) := by
  refine imp (pe_ix ix_list ha hb (pln_ix hp)) fun σ H Q q => ?_
  obtain ⟨φ, ρ, env, st, x, st', ws, sl, he, k⟩ := q
  simp only [evE] at he
  split at he
  · rename_i ns hs
    split at he
    · rename_i kk fr st1 h1
      split at he
      · rename_i v h2
        cases he
        obtain ⟨u, h3, ad, rfl, h4⟩ := sl.get i _ hs
        refine ⟨.ref ad, h3, seq1 ws sl h1 fun u2 H1 w1 s1 e1 r1 => ?_⟩
        cases (show RD X.K φ H1 u2 (.int kk) from r1)
        obtain ⟨ad2, e5, h5⟩ := (RS.ext (e1.more ws.sub) ws.fl (show RS X.K φ ρ H (.scr ns) (.ref ad) from ⟨ad, rfl, h4⟩) : RS X.K φ ρ H1 (.scr ns) (.ref ad))
        cases e5
        refine ⟨ad, _, kk, .int v, rfl, rfl, h5.sq, ?_, k _ _ ⟨w1, s1, e1, .int _, fun d e => by cases e⟩⟩
        unfold atI at h2 ⊢
        rw [List.length_map]
        cases e : ixN ns.length kk with
        | none => rw [e] at h2; cases h2
        | some j =>
          rw [e] at h2
          show (ns.map V.int)[j]? = some (.int v)
          rw [List.getElem?_map]
          have h2 : ns[j]? = some v := h2
          rw [h2]; rfl
      · cases he
    · cases he
  · cases he
end Ev
set_option linter.all false
set_option maxRecDepth 100000
set_option maxHeartbeats 4000000
/-! EvEn: enumerate of a tuple. -/
namespace Ev
open PySem PySem.Spec L2
theorem new_enum_tup (l : Addr) (items : Array Value) (o : Obj) (hT : o.cls = .type "tuple") (n : Nat) (hD : o.data = .seq items n) :
    Meets (Builtin.«enumerate.__new__» ⟨[.type "enumerate", .ref l], []⟩) (fun _ R s => s.heap.get? l = some o ∧
      R (.ok (.ret (.ref (s.heap.push { cls := .type "tuple_iterator", data := .fields #[.ref l, .int 0 0] }).objs.size)))
        { s with heap := (s.heap.push { cls := .type "tuple_iterator", data := .fields #[.ref l, .int 0 0] }).push { cls := .type "enumerate", data := .fields #[.none, .bool false, .ref s.heap.objs.size, rawInt 0, .none, .none] } }) :=
  .of_wp fun prog w A R s h => by
    obtain ⟨hp, g, d, tk, os⟩ := s
    obtain ⟨hl, h⟩ := h
    have sb := sub_enumerate
    have tup : Heap.IsTuple (Shared.heap ⟨hp, g, d, tk, os⟩) l items := ⟨_, hl, hT, n, hD⟩
    wp_walk using PySem.AutoSeq1.wpAny_loadPart' hl
    refine wpAny_stack_any fun sk => wpAny_pure ?_
    split
    · rename_i c _ _ _ _ _
      cases (c == Value.type "enumerate") <;>
      · wp_walk using PySem.AutoSeq1.wpAny_loadPart' hl, wpAny_pyIter_tuple tup
        exact ⟨_, rfl, h⟩
    · wp_walk using PySem.AutoSeq1.wpAny_loadPart' hl, wpAny_pyIter_tuple tup
      exact ⟨_, rfl, h⟩
section
variable {prog : Program} {w : World} {A : Around} {E : Value → Shared → Prop} {s : Shared}
theorem call_enum_tup {l : Addr} {items : Array Value} {Q : Value → Shared → Prop} (hL : s.heap.IsTuple l items)
    (h : ∀ h', IsEnum h' (s.heap.objs.size + 1) s.heap.objs.size 0 .none → h'.IsTupleIter s.heap.objs.size l 0 → (∀ b o, s.heap.get? b = some o → h'.get? b = some o) → Q (.ref (s.heap.objs.size + 1)) { s with heap := h' }) :
    wpAny (model prog w) A (call (.type "enumerate") [.ref l]) Q E s := by
  obtain ⟨o, hl, hc, n, hd⟩ := hL
  refine callType_new F.called_enumerate (by decide) (F.typeCall_enumerate_1 _) (F.newCall_enumerate_1 _) (fun ob => F.args_object_init_2 ob _) F.entry_enumerate_new (new_enum_tup l items o hc n hd) ⟨hl, ?_⟩
  generalize hi : ({ cls := .type "tuple_iterator", data := .fields #[.ref l, .int 0 0] } : Obj) = ti
  have hz : (s.heap.push ti).objs.size = s.heap.objs.size + 1 := Heap.size_push ..
  show _ ∧ _
  rw [hz]
  generalize he : ({ cls := .type "enumerate", data := .fields #[.none, .bool false, .ref s.heap.objs.size, rawInt 0, .none, .none] } : Obj) = te
  have h2 : ((s.heap.push ti).push te).get? (s.heap.objs.size + 1) = some te := by
    have q := Heap.get?_push_size (s.heap.push ti) (o := te) (by rw [← he]; rfl)
    rw [hz] at q
    exact q
  have en : IsEnum ((s.heap.push ti).push te) (s.heap.objs.size + 1) s.heap.objs.size 0 .none := by rw [← he] at h2 ⊢; exact h2
  refine ⟨⟨_, en, rfl⟩, h _ en ⟨ti, Heap.get?_push_of_some _ (Heap.get?_push_size _ (by rw [← hi]; rfl)), by rw [← hi], by rw [← hi]; rfl⟩ fun b ob x => Heap.get?_push_of_some _ (Heap.get?_push_of_some _ x)⟩
end
/-- the tuple at a, each item in a new pair -/
def IteT (K : PySem.W.Frag) (a : Addr) : It where
  go := fun i H => ∃ (xs : List V) (x : V), SqT K H a xs ∧ xs[i]? = some x
  yld := fun i H v H' => ∃ t x, v = .ref t ∧ H t = none ∧ H' = upd H t (.tup [.int (i : Nat), x]) ∧ ∀ xs, SqT K H a xs → xs[i]? = some x
  stop := fun i H => ∃ xs : List V, SqT K H a xs ∧ xs.length ≤ i
theorem turn_enumT {P : Program} {w : World} {K : PySem.W.Frag} {elts : List Expr} {kk : Nat} {tpos : Pos} (a e it : Addr) :
    Turn P w K (.Tuple elts kk tpos) (IteT K a) [e, it] e (fun i h => (∃ old, IsEnum h e it ((i : Nat) : Int) old) ∧ h.IsTupleIter it a i ∧ e ≠ it ∧ a ≠ it ∧ a ≠ e) where
  mem := by simp
  obj := fun i h st b hb => by
    obtain ⟨⟨old, he⟩, ⟨o, ho, hc, hd⟩, _⟩ := st
    rcases (by simpa using hb : b = e ∨ b = it) with z | z
    · rw [z]; exact ⟨_, he, fun v q => nomatch q⟩
    · rw [z]; exact ⟨o, ho, fun v q => by rw [hd] at q; cases q⟩
  keep := fun i h h' st k => by
    obtain ⟨⟨old, he⟩, hi, r⟩ := st
    exact ⟨⟨old, k e (by simp) _ he⟩, hi.at fun o q => k it (by simp) o q, r⟩
  item := by
    intro X hP hw hK hc i pins s σ H E I hf st hg
    subst hP hw hK
    obtain ⟨⟨old, he⟩, hit, hne, hai, hae⟩ := st
    obtain ⟨xs, x, hq, hx⟩ := hg
    obtain ⟨its, rv, p, hz⟩ := I.tuple hq
    obtain ⟨u, hu, ru⟩ := rv.get hx
    have el : e < s.heap.objs.size := Heap.lt_size he
    have il : it < s.heap.objs.size := by obtain ⟨_, q, _⟩ := hit; exact Heap.lt_size q
    have hlt : i < its.toArray.size := by
      rw [List.size_toArray]
      exact (List.getElem?_eq_some_iff.mp hu).1
    have hh : X.A.handled = none := I.ok.hd hc
    refine wpAny_pyNext_enum_itemD (Draws.tuple (A := X.A.in1) hh it a hai its.toArray) he ⟨hit, p⟩ hlt hne (by simp [hne, hae.symm]) fun y h' tk py ho hst hT hsz hk => ?_
    have ey : y = u := by
      have z : its.toArray[i]? = some y := py
      rw [List.getElem?_toArray, hu] at z
      exact (Option.some.inj z).symm
    subst ey
    refine ⟨_, rfl, wpAny_letOwnedTupleGo_enum (s := { s with heap := h', toks := tk + 1 }) ho fun h'' he' sb => ?_⟩
    have hT2 : h''.get? s.heap.objs.size = some { cls := .type "tuple", data := .seq #[.int i tk, y] } := (sb.2 _ (Nat.ne_of_gt el)).trans hT
    have new : ObjOk X.prog X.w (upd H s.heap.objs.size (.tup [.int (i : Nat), x])) h'' s.heap.objs.size (.tup [.int (i : Nat), x]) :=
      ⟨by show 2 ≤ sizeLine; decide, [.int i tk, y], .cons ⟨_, rfl⟩ (.cons ru .nil), ⟨_, hT2, rfl, _, rfl⟩⟩
    have I1 : Inv X pins σ (upd H s.heap.objs.size (.tup [.int (i : Nat), x])) { s with heap := h'', toks := tk + 1 } :=
      I.turnedNew (ch := [e, it]) (fun b ob hb q => (sb.2 b (fun z => hb (by simp [z]))).trans (hk b ob (fun z => hb (by simp [z])) (fun z => hb (by simp [z])) q)) hf (Nat.le_refl _) new
    refine ⟨.ref s.heap.objs.size, _, I1, rfl, ⟨_, x, rfl, I.hok.fresh (Nat.le_refl _), rfl, fun ys hy => by rw [I.tuple_inj hy hq]; exact hx⟩, ⟨⟨y, ?_⟩, hst.1.at fun o q => (sb.2 it (Ne.symm hne)).trans q, hne, hai, hae⟩, fun b hb => ?_⟩
    · rw [show ((i + 1 : Nat) : Int) = (i : Int) + 1 by omega]
      exact he'
    · have hb' : b < s.heap.objs.size := by
        rcases (by simpa using hb : b = e ∨ b = it) with z | z
        · rw [z]; exact el
        · rw [z]; exact il
      rw [upd_ne (Nat.ne_of_lt hb')]
      exact (hf b hb).1
  done := by
    intro X hP hw hK hc i pins s σ H E I hf st hg
    subst hP hw hK
    obtain ⟨⟨old, he⟩, hit, hne, hai, hae⟩ := st
    obtain ⟨xs, hq, hx⟩ := hg
    obtain ⟨its, rv, p, hz⟩ := I.tuple hq
    obtain ⟨f0, f1, f2, f3, f4, f5⟩ := hf it (by simp)
    have hl := rv.length
    have hh : X.A.handled = none := I.ok.hd hc
    have hT : s.TypeIs (.ref e) "enumerate" := ⟨_, he, rfl⟩
    unfold pyNext
    refine wpAny_bind (wpAny_attempt (wpAny_callSpecial?_slot (name := Str.ofString "__next__") hT F.slot_enumerate_next
      (wpAny_call_entry F.slot_enumerate_next hT F.entry_enumerate_next ?_ (F.args_enumerate_next_1 _))))
    show wpAny _ _ (field (.ref e) 2 >>= _) _ _ _
    refine wpAny_bind (wpAny_field he rfl (x := .ref it) rfl ?_)
    refine wpAny_bind (wpAny_nextOf_tuple_end (A := X.A.in1) hh hit p (by simp; omega) fun h' x he' hx' => ?_)
    obtain ⟨o, ho, hcx⟩ := hx'
    refine wpAny_bind (wpAny_isInstance (T := "StopIteration") (b := true) ⟨o, ho, hcx⟩ isSubtype_stop ?_)
    exact wpAny_pure ⟨rfl, I.turned (t' := s.toks) (fun b o hb q => he' b o hb q) f0 f1 f3 f4 f5⟩
  self := fun A i s Q E st h => let ⟨⟨_, he⟩, _⟩ := st; wpAny_pyIter_enum he h
def iEnumA (K : PySem.W.Frag) (ta : TA) : TI := fun σ H R => ta σ H fun vs H1 => ∃ a xs, vs = [.ref a] ∧ ((SqL K H1 a xs ∧ R (Ite K a) H1) ∨ (SqT K H1 a xs ∧ R (IteT K a) H1))
theorem pi_enumA {X : Cx} {e : Expr} {ta : TA} {p pos tpos : Pos} {elts : List Expr} {kk : Nat} (hg : Gl X "enumerate") (hm : X.mg "enumerate" = none) (ha : PA X [e] ta) (hs : starEach [e] X.env = [(false, eval e X.env)]) :
    PI X (.Tuple elts kk tpos) (.Call (.Name "enumerate" p) [e] [] pos) (iEnumA X.K ta) := by
  refine ⟨fun pins s σ H R I h => ?_⟩
  refine PyProof.Rows.Call_ (ld_blt I hg hm PyProof.Rows.boot_enumerate (PyProof.Rows.callWith_type1 (thn (ha.run pos pins s σ H _ I h) fun us s1 ⟨vs, H1, I1, r1, q1⟩ => ?_) hs rfl))
  obtain ⟨a, xs, ex, q1⟩ := q1
  subst ex
  obtain ⟨u, rfl, ru⟩ := vals1 r1
  cases (show u = Value.ref a from ru)
  have new2 : ∀ b ∈ [s1.heap.objs.size + 1, s1.heap.objs.size], FpOk X pins H1 b := fun b hb => by
    have le : s1.heap.objs.size ≤ b := by
      rcases (by simpa using hb : b = s1.heap.objs.size + 1 ∨ b = s1.heap.objs.size) with z | z <;> omega
    exact I1.fpOk le (I1.hok.fresh le)
  rcases q1 with ⟨hq, q⟩ | ⟨hq, q⟩
  · obtain ⟨its, rv, p', hz⟩ := I1.list hq
    refine call_enumerate_list p'.isList fun h' he hit hsz hk => wpAny_pyIter_enum he ?_
    exact ⟨s1.heap.objs.size + 1, [s1.heap.objs.size + 1, s1.heap.objs.size], _, _, H1, rfl, I1.kept (t' := s1.toks) hk, turn_enum a (s1.heap.objs.size + 1) s1.heap.objs.size, ⟨⟨.none, he⟩, hit, Nat.succ_ne_self _⟩, new2, q⟩
  · obtain ⟨its, rv, p', hz⟩ := I1.tuple hq
    have al : a < s1.heap.objs.size := by obtain ⟨_, z, _⟩ := id p'; exact Heap.lt_size z
    refine call_enum_tup p' fun h' he hit hk => wpAny_pyIter_enum he ?_
    exact ⟨s1.heap.objs.size + 1, [s1.heap.objs.size + 1, s1.heap.objs.size], _, _, H1, rfl, I1.kept (t' := s1.toks) hk, turn_enumT a (s1.heap.objs.size + 1) s1.heap.objs.size, ⟨⟨.none, he⟩, hit, Nat.succ_ne_self _, Nat.ne_of_lt al, Nat.ne_of_lt (Nat.lt_succ_of_lt al)⟩, new2, q⟩
end Ev
set_option linter.all false
set_option maxRecDepth 100000
set_option maxHeartbeats 4000000
/-! Ev7: what is walked, targets. -/
namespace Ev
open PySem PySem.Spec L2
variable {K : PySem.W.Frag} {T : List (Addr × Str)} {X : Cx} {G : Pk} {cl : Str → List SV → Sto → Option (ER × Sto)}

/-- the heap goes on, and so do the lists that are changed -/
structure Gr (φ φ' : List Addr) (H H' : Hp) : Prop where
  ext : Ext φ H H'
  pre : ∃ more, φ' = φ ++ more ∧ ∀ a ∈ more, H a = none
theorem Gr.lst {φ φ' : List Addr} {H H' : Hp} (g : Gr φ φ' H H') (f : Lst φ H) : Lst φ' H := fun a ha o e => by
  obtain ⟨more, rfl, hm⟩ := g.pre
  rcases List.mem_append.mp ha with h | h
  · exact f a h o e
  · rw [hm a h] at e; cases e
theorem Gr.sub {φ φ' : List Addr} {H H' : Hp} (g : Gr φ φ' H H') : ∀ a ∈ φ, a ∈ φ' := fun a ha => by
  obtain ⟨more, rfl, _⟩ := g.pre
  exact List.mem_append_left _ ha
theorem Gr.rd {φ φ' : List Addr} {H H' : Hp} (g : Gr φ φ' H H') (f : Lst φ H) {v : V} {d : D} (r : RD K φ H v d) : RD K φ' H' v d := by
  have r2 : RD K φ' H v d := by
    obtain ⟨more, rfl, hm⟩ := g.pre
    clear g f
    induction more generalizing φ with
    | nil => rw [List.append_nil]; exact r
    | cons p more ih =>
      have q := ih (φ := φ ++ [p]) (RD.fresh (hm p List.mem_cons_self) r) fun a ha => hm a (List.mem_cons_of_mem _ ha)
      rwa [List.append_assoc] at q
  exact RD.ext (g.ext.more g.sub) (g.lst f) r2
theorem Gr.refl (φ : List Addr) (H : Hp) : Gr φ φ H H := ⟨.refl _ _, [], by simp, by simp⟩
theorem Gr.trans {φ φ1 φ2 : List Addr} {H H1 H2 : Hp} (a : Gr φ φ1 H H1) (b : Gr φ1 φ2 H1 H2) (x : Ext φ H H2) : Gr φ φ2 H H2 := by
  refine ⟨x, ?_⟩
  obtain ⟨m1, rfl, h1⟩ := a.pre
  obtain ⟨m2, rfl, h2⟩ := b.pre
  refine ⟨m1 ++ m2, by rw [List.append_assoc], fun c hc => ?_⟩
  rcases List.mem_append.mp hc with h | h
  · exact h1 c h
  · exact a.ext.dom c (h2 c h)

/-! ### what is walked -/
/-- a later state, in which the lists of kp stand as they stood -/
structure Lt (K : PySem.W.Frag) (T : List (Addr × Str)) (φ ρ : List Addr) (H1 : Hp) (kp : List (Nat × List D)) (φ' ρ' : List Addr) (H : Hp) (st : Sto) : Prop where
  ws : Ws K T φ' ρ' H st
  kept : keptL st kp = true
  gr : Gr φ φ' H1 H
  pre : ∃ more, ρ' = ρ ++ more
structure WalkD (K : PySem.W.Frag) (T : List (Addr × Str)) (φ ρ : List Addr) (H1 : Hp) (xs : List D) (kp : List (Nat × List D)) (J : It) : Prop where
  goes : ∀ i φ' ρ' H st, i < xs.length → Lt K T φ ρ H1 kp φ' ρ' H st → J.go i H
  stops : ∀ φ' ρ' H st, Lt K T φ ρ H1 kp φ' ρ' H st → J.stop xs.length H
  yields : ∀ i φ' ρ' H st v H', i < xs.length → Lt K T φ ρ H1 kp φ' ρ' H st → J.yld i H v H' → (∃ d, xs[i]? = some d ∧ RD K φ' H' v d) ∧ (H' = H ∨ ∃ p o, H p = none ∧ (∀ ps, o ≠ .tbl ps) ∧ H' = upd H p o)
def SrcL (K : PySem.W.Frag) (T : List (Addr × Str)) (φ ρ : List Addr) (H1 : Hp) (xs : List D) (kp : List (Nat × List D)) (a : Addr) : Prop :=
  ∀ φ' ρ' H st, Lt K T φ ρ H1 kp φ' ρ' H st → ∃ vs, SqL K H a vs ∧ RDs K φ' H vs xs
def SrcT (K : PySem.W.Frag) (T : List (Addr × Str)) (φ ρ : List Addr) (H1 : Hp) (xs : List D) (kp : List (Nat × List D)) (a : Addr) : Prop :=
  ∀ φ' ρ' H st, Lt K T φ ρ H1 kp φ' ρ' H st → ∃ vs, SqT K H a vs ∧ RDs K φ' H vs xs
theorem keptL_app {st : Sto} : ∀ {kp kq : List (Nat × List D)}, keptL st (kp ++ kq) = (keptL st kp && keptL st kq)
  | [], kq => by simp [keptL]
  | (n, xs) :: r, kq => by
    show ((match st[n]? with | some ys => eqDs xs ys | none => false) && keptL st (r ++ kq)) = ((match st[n]? with | some ys => eqDs xs ys | none => false) && keptL st r && keptL st kq)
    rw [keptL_app, Bool.and_assoc]
section
variable {φ ρ : List Addr} {H1 : Hp} {xs ys : List D} {kp kq : List (Nat × List D)} {a b : Addr} {st1 : Sto}
theorem Lt.left {φ' ρ' : List Addr} {H : Hp} {st : Sto} (l : Lt K T φ ρ H1 (kp ++ kq) φ' ρ' H st) : Lt K T φ ρ H1 kp φ' ρ' H st := by
  have k := l.kept
  rw [keptL_app, Bool.and_eq_true] at k
  exact ⟨l.ws, k.1, l.gr, l.pre⟩
theorem Lt.right {φ' ρ' : List Addr} {H : Hp} {st : Sto} (l : Lt K T φ ρ H1 (kp ++ kq) φ' ρ' H st) : Lt K T φ ρ H1 kq φ' ρ' H st := by
  have k := l.kept
  rw [keptL_app, Bool.and_eq_true] at k
  exact ⟨l.ws, k.2, l.gr, l.pre⟩
/-- a source -/
theorem src_of {r : ER} {v : V} (ws : Ws K T φ ρ H1 st1) (rr : RR K φ ρ H1 r v) (h : srcE st1 r = some (xs, kp)) : keptL st1 kp = true ∧ ∃ a, v = .ref a ∧ ((srcT r = false ∧ SrcL K T φ ρ H1 xs kp a) ∨ (srcT r = true ∧ SrcT K T φ ρ H1 xs kp a)) := by
  unfold srcE at h
  split at h
  · cases h
    cases (show RD K φ H1 v (.list xs) from rr) with
    | lst n e r =>
      refine ⟨rfl, _, rfl, .inl ⟨rfl, fun φ' ρ' H st l => ?_⟩⟩
      cases l.gr.rd ws.fl (RD.lst n e r) with
      | lst n' e' r' => exact ⟨_, .inl (.inl e'), r'⟩
  · cases h
    cases (show RD K φ H1 v (.tuple xs) from rr) with
    | tup e r =>
      refine ⟨rfl, _, rfl, .inr ⟨rfl, fun φ' ρ' H st l => ?_⟩⟩
      cases l.gr.rd ws.fl (RD.tup e r) with
      | tup e' r' => exact ⟨_, e', r'⟩
  · rename_i n
    obtain ⟨zs, h1, h2⟩ := Option.map_eq_some_iff.mp h
    cases h2
    obtain ⟨a, h3, rfl⟩ := rr
    refine ⟨?_, a, rfl, .inl ⟨rfl, fun φ' ρ' H st l => ?_⟩⟩
    · show ((match st1[n]? with | some ys => eqDs xs ys | none => false) && keptL st1 []) = true
      rw [h1]
      simp [eqDs_refl, keptL]
    · have k := l.kept
      have k : ((match st[n]? with | some ys => eqDs xs ys | none => false) && keptL st []) = true := k
      cases e : st[n]? with
      | none => rw [e] at k; cases k
      | some ws' =>
        rw [e] at k
        simp only [keptL, Bool.and_true] at k
        have e2 := eqDs_eq k
        subst e2
        obtain ⟨a', vs, h5, h6, h7⟩ := l.ws.sto n _ e
        obtain ⟨more, rfl⟩ := l.pre
        have h8 : (ρ ++ more)[n]? = some a := by
          rw [List.getElem?_append_left (List.getElem?_eq_some_iff.mp h3).1]
          exact h3
        rw [h8] at h5
        cases h5
        exact ⟨vs, .inl (.inl h6), h7⟩
  · cases h
theorem walkL (s : SrcL K T φ ρ H1 xs kp a) : WalkD K T φ ρ H1 xs kp (Itl K a) where
  goes := fun i φ' ρ' H st hi l => by
    obtain ⟨vs, h1, h2⟩ := s _ _ _ _ l
    exact ⟨vs, vs[i]'(by rw [h2.length]; exact hi), h1, by simp⟩
  stops := fun φ' ρ' H st l => by
    obtain ⟨vs, h1, h2⟩ := s _ _ _ _ l
    exact ⟨vs, h1, Nat.le_of_eq h2.length⟩
  yields := fun i φ' ρ' H st v H' hi l y => by
    obtain ⟨vs, h1, h2⟩ := s _ _ _ _ l
    obtain ⟨rfl, f⟩ := y
    obtain ⟨d, h3, h4⟩ := h2.getV (f vs h1)
    exact ⟨⟨d, h3, h4⟩, .inl rfl⟩
theorem walkT (s : SrcT K T φ ρ H1 xs kp a) : WalkD K T φ ρ H1 xs kp (Itt K a) where
  goes := fun i φ' ρ' H st hi l => by
    obtain ⟨vs, h1, h2⟩ := s _ _ _ _ l
    exact ⟨vs, vs[i]'(by rw [h2.length]; exact hi), h1, by simp⟩
  stops := fun φ' ρ' H st l => by
    obtain ⟨vs, h1, h2⟩ := s _ _ _ _ l
    exact ⟨vs, h1, Nat.le_of_eq h2.length⟩
  yields := fun i φ' ρ' H st v H' hi l y => by
    obtain ⟨vs, h1, h2⟩ := s _ _ _ _ l
    obtain ⟨rfl, f⟩ := y
    obtain ⟨d, h3, h4⟩ := h2.getV (f vs h1)
    exact ⟨⟨d, h3, h4⟩, .inl rfl⟩
theorem walkR {lo : Int} {n : Nat} : WalkD K T φ ρ H1 ((List.range n).map fun (k : Nat) => .int (lo + (k : Int))) [] (Itr lo n) where
  goes := fun i φ' ρ' H st hi l => by show i < n; simpa using hi
  stops := fun φ' ρ' H st l => by show n ≤ _; simp
  yields := fun i φ' ρ' H st v H' hi l y => by
    obtain ⟨rfl, rfl⟩ := y
    have hi : i < n := by simpa using hi
    exact ⟨⟨.int (lo + (i : Int)), by rw [List.getElem?_map, List.getElem?_range hi]; rfl, .int _⟩, .inl rfl⟩
theorem enmD_get : ∀ (xs : List D) (k i : Nat), (enmD k xs)[i]? = xs[i]?.map fun x => .tuple [.int ((k + i : Nat) : Int), x]
  | [], _, _ => rfl
  | x :: r, k, 0 => rfl
  | x :: r, k, i + 1 => by
    show (enmD (k + 1) r)[i]? = _
    rw [enmD_get r (k + 1) i]
    simp only [List.getElem?_cons_succ]
    congr 1
    funext y
    rw [show k + 1 + i = k + (i + 1) by omega]
theorem enmD_len : ∀ (xs : List D) (k : Nat), (enmD k xs).length = xs.length
  | [], _ => rfl
  | x :: r, k => congrArg (· + 1) (enmD_len r (k + 1))
theorem pair_rd {φ' : List Addr} {H : Hp} {p : Addr} {v : V} {d : D} {u : V} {e : D} (f : Lst φ' H) (hp : H p = none) (r : RD K φ' H v d) (r2 : RD K φ' H u e) : RD K φ' (upd H p (.tup [v, u])) (.ref p) (.tuple [d, e]) :=
  .tup (.inl (.inl upd_same)) (.cons (RD.ext (.new hp) f r) (.cons (RD.ext (.new hp) f r2) .nil))
theorem walkEL (s : SrcL K T φ ρ H1 xs kp a) : WalkD K T φ ρ H1 (enmD 0 xs) kp (Ite K a) where
  goes := fun i φ' ρ' H st hi l => by
    obtain ⟨vs, h1, h2⟩ := s _ _ _ _ l
    rw [enmD_len] at hi
    exact ⟨vs, vs[i]'(by rw [h2.length]; exact hi), h1, by simp⟩
  stops := fun φ' ρ' H st l => by
    obtain ⟨vs, h1, h2⟩ := s _ _ _ _ l
    rw [enmD_len]
    exact ⟨vs, h1, Nat.le_of_eq h2.length⟩
  yields := fun i φ' ρ' H st v H' hi l y => by
    obtain ⟨vs, h1, h2⟩ := s _ _ _ _ l
    obtain ⟨p, x, rfl, hp, rfl, f⟩ := y
    obtain ⟨d, h3, h4⟩ := h2.getV (f vs h1)
    exact ⟨⟨_, by rw [enmD_get, h3]; rfl, pair_rd l.ws.fl hp (by rw [Nat.zero_add]; exact .int _) h4⟩, .inr ⟨p, _, hp, (fun _ z => by cases z), rfl⟩⟩
theorem walkET (s : SrcT K T φ ρ H1 xs kp a) : WalkD K T φ ρ H1 (enmD 0 xs) kp (IteT K a) where
  goes := fun i φ' ρ' H st hi l => by
    obtain ⟨vs, h1, h2⟩ := s _ _ _ _ l
    rw [enmD_len] at hi
    exact ⟨vs, vs[i]'(by rw [h2.length]; exact hi), h1, by simp⟩
  stops := fun φ' ρ' H st l => by
    obtain ⟨vs, h1, h2⟩ := s _ _ _ _ l
    rw [enmD_len]
    exact ⟨vs, h1, Nat.le_of_eq h2.length⟩
  yields := fun i φ' ρ' H st v H' hi l y => by
    obtain ⟨vs, h1, h2⟩ := s _ _ _ _ l
    obtain ⟨p, x, rfl, hp, rfl, f⟩ := y
    obtain ⟨d, h3, h4⟩ := h2.getV (f vs h1)
    exact ⟨⟨_, by rw [enmD_get, h3]; rfl, pair_rd l.ws.fl hp (by rw [Nat.zero_add]; exact .int _) h4⟩, .inr ⟨p, _, hp, (fun _ z => by cases z), rfl⟩⟩
theorem zipD_get : ∀ (xs ys : List D) (i : Nat) (x y : D), xs[i]? = some x → ys[i]? = some y → (zipD xs ys)[i]? = some (.tuple [x, y])
  | [], _, _, _, _, h, _ => by simp at h
  | _ :: _, [], _, _, _, _, h => by simp at h
  | a :: xs, b :: ys, 0, x, y, h1, h2 => by simp at h1 h2; subst h1; subst h2; rfl
  | a :: xs, b :: ys, i + 1, x, y, h1, h2 => by
    show (zipD xs ys)[i]? = _
    exact zipD_get xs ys i x y (by simpa using h1) (by simpa using h2)
theorem zipD_len : ∀ (xs ys : List D), (zipD xs ys).length = min xs.length ys.length
  | [], _ => by simp [zipD]
  | _ :: _, [] => by simp [zipD]
  | a :: xs, b :: ys => by
    show (zipD xs ys).length + 1 = _
    rw [zipD_len xs ys, List.length_cons, List.length_cons]
    omega
theorem walkZL (s : SrcL K T φ ρ H1 xs kp a) (t : SrcL K T φ ρ H1 ys kq b) : WalkD K T φ ρ H1 (zipD xs ys) (kp ++ kq) (Itz K a b) where
  goes := fun i φ' ρ' H st hi l => by
    obtain ⟨vs, h1, h2⟩ := s _ _ _ _ l.left
    obtain ⟨us, h3, h4⟩ := t _ _ _ _ l.right
    rw [zipD_len] at hi
    exact ⟨vs, us, vs[i]'(by rw [h2.length]; omega), us[i]'(by rw [h4.length]; omega), h1, h3, by simp, by simp⟩
  stops := fun φ' ρ' H st l => by
    obtain ⟨vs, h1, h2⟩ := s _ _ _ _ l.left
    obtain ⟨us, h3, h4⟩ := t _ _ _ _ l.right
    have e1 := h2.length
    have e2 := h4.length
    exact ⟨vs, us, h1, h3, by rw [zipD_len]; omega⟩
  yields := fun i φ' ρ' H st v H' hi l y => by
    obtain ⟨vs, h1, h2⟩ := s _ _ _ _ l.left
    obtain ⟨us, h3, h4⟩ := t _ _ _ _ l.right
    obtain ⟨p, x, z, rfl, hp, rfl, f, g⟩ := y
    obtain ⟨d, h5, h6⟩ := h2.getV (f vs h1)
    obtain ⟨e, h7, h8⟩ := h4.getV (g us h3)
    exact ⟨⟨_, zipD_get _ _ _ _ _ h5 h7, pair_rd l.ws.fl hp h6 h8⟩, .inr ⟨p, _, hp, (fun _ z => by cases z), rfl⟩⟩
theorem walkZT (s : SrcT K T φ ρ H1 xs kp a) (t : SrcT K T φ ρ H1 ys kq b) : WalkD K T φ ρ H1 (zipD xs ys) (kp ++ kq) (RZ.ItzT K a b) where
  goes := fun i φ' ρ' H st hi l => by
    obtain ⟨vs, h1, h2⟩ := s _ _ _ _ l.left
    obtain ⟨us, h3, h4⟩ := t _ _ _ _ l.right
    rw [zipD_len] at hi
    exact ⟨vs, us, vs[i]'(by rw [h2.length]; omega), us[i]'(by rw [h4.length]; omega), h1, h3, by simp, by simp⟩
  stops := fun φ' ρ' H st l => by
    obtain ⟨vs, h1, h2⟩ := s _ _ _ _ l.left
    obtain ⟨us, h3, h4⟩ := t _ _ _ _ l.right
    have e1 := h2.length
    have e2 := h4.length
    exact ⟨vs, us, h1, h3, by rw [zipD_len]; omega⟩
  yields := fun i φ' ρ' H st v H' hi l y => by
    obtain ⟨vs, h1, h2⟩ := s _ _ _ _ l.left
    obtain ⟨us, h3, h4⟩ := t _ _ _ _ l.right
    obtain ⟨p, x, z, rfl, hp, rfl, f, g⟩ := y
    obtain ⟨d, h5, h6⟩ := h2.getV (f vs h1)
    obtain ⟨e, h7, h8⟩ := h4.getV (g us h3)
    exact ⟨⟨_, zipD_get _ _ _ _ _ h5 h7, pair_rd l.ws.fl hp h6 h8⟩, .inr ⟨p, _, hp, (fun _ z => by cases z), rfl⟩⟩
end

def tI (K : PySem.W.Frag) (T : List (Addr × Str)) (F : Env → Sto → Option (List D × List (Nat × List D) × Sto)) : TI := fun σ H R =>
  ∃ φ ρ env st xs kp st', Ws K T φ ρ H st ∧ Sl K φ ρ H env σ ∧ F env st = some (xs, kp, st') ∧ ∀ J H1, PostB K T φ ρ H H1 env σ st' → keptL st' kp = true → WalkD K T φ ρ H1 xs kp J → R J H1
theorem impI {tg e : Expr} {t t' : TI} (h : PI X tg e t) (k : ∀ σ H R, t' σ H R → t σ H R) : PI X tg e t' := ⟨fun pins s σ H R I q => h.run pins s σ H R I (k σ H R q)⟩
/-- a list or a tuple -/
theorem pi_seq {tg l : Expr} {tl : TE} (hl : PE X l tl) : PI X tg l (fun σ H R => tl σ H fun x H1 => ∃ a, x = .ref a ∧ (((∃ xs, SqL X.K H1 a xs) ∧ R (Itl X.K a) H1) ∨ ((∃ xs, SqT X.K H1 a xs) ∧ R (Itt X.K a) H1))) := by
  refine ⟨fun pins s σ H R I h => thn (hl.run pins s σ H _ I h) fun v s1 ⟨x, H1, I1, r1, a, e, q⟩ => ?_⟩
  subst e
  cases (show v = Value.ref a from r1)
  have hn : ∀ b ∈ [s1.heap.objs.size], FpOk X pins H1 b := fun b hb => by
    rw [List.mem_singleton.mp hb]
    exact I1.fpOk (Nat.le_refl _) (I1.hok.fresh (Nat.le_refl _))
  rcases q with ⟨⟨xs, hq⟩, q⟩ | ⟨⟨xs, hq⟩, q⟩
  · obtain ⟨its, rv, p, hz⟩ := I1.list hq
    exact wpAny_pyIter_list p.isList ⟨_, [s1.heap.objs.size], _, _, H1, rfl, I1.kept (t' := s1.toks) fun b o e => Heap.get?_push_of_some _ e, turn_list a _, ⟨_, Heap.get?_push_size _ rfl, rfl, rfl⟩, hn, q⟩
  · obtain ⟨its, rv, p, hz⟩ := I1.tuple hq
    exact wpAny_pyIter_tuple p ⟨_, [s1.heap.objs.size], _, _, H1, rfl, I1.kept (t' := s1.toks) fun b o e => Heap.get?_push_of_some _ e, turn_tuple a _, ⟨_, Heap.get?_push_size _ rfl, rfl, rfl⟩, hn, q⟩
section
variable {tg a b : Expr} {a' b' : IE} {es' : List IE} {p pos : Pos}
theorem evDs_len : ∀ {es' : List IE} {env : Env} {st : Sto} {ds : List D} {st1 : Sto}, evDs G cl es' env st = some (ds, st1) → ds.length = es'.length
  | [], env, st, ds, st1, h => by simp only [evDs] at h; cases h; rfl
  | e :: es', env, st, ds, st1, h => by
    simp only [evDs] at h
    split at h
    · split at h
      · rename_i h2
        cases h
        exact congrArg (· + 1) (evDs_len h2)
      · cases h
    · cases h
theorem oki_of (ha : PE X a (tF X.K T (evE G cl a'))) : PI X tg a (tI X.K T (evI G cl (.of a'))) := by
  refine impI (pi_seq ha) fun σ H R q => ?_
  obtain ⟨φ, ρ, env, st, xs, kp, st', ws, sl, he, k⟩ := q
  simp only [evI] at he
  split at he
  · rename_i x st1 h1
    split at he
    · rename_i ys kq h2
      cases he
      refine seq1 ws sl h1 fun u H1 w1 s1 e1 r1 => ?_
      obtain ⟨kk, ad, rfl, hs⟩ := src_of w1 r1 h2
      have now : Lt X.K T φ ρ H1 kp φ ρ H1 st' := ⟨w1, kk, .refl _ _, [], by simp⟩
      rcases hs with ⟨_, hs⟩ | ⟨_, hs⟩
      · obtain ⟨vs, h3, _⟩ := hs _ _ _ _ now
        exact ⟨ad, rfl, .inl ⟨⟨vs, h3⟩, k _ _ ⟨w1, s1, e1⟩ kk (walkL hs)⟩⟩
      · obtain ⟨vs, h3, _⟩ := hs _ _ _ _ now
        exact ⟨ad, rfl, .inr ⟨⟨vs, h3⟩, k _ _ ⟨w1, s1, e1⟩ kk (walkT hs)⟩⟩
    · cases he
  · cases he
theorem oki_enm {elts : List Expr} {kk : Nat} {tpos : Pos} (hg : Gl X "enumerate") (hm : X.mg "enumerate" = none) (ha : PE X a (tF X.K T (evE G cl a'))) (hp : pln a = true) : PI X (.Tuple elts kk tpos) (.Call (.Name "enumerate" p) [a] [] pos) (tI X.K T (evI G cl (.enm a'))) := by
  refine impI (pi_enumA hg hm (pa_cons ha pa_nil (pln_star hp _ _)) (pln_star hp _ _)) fun σ H R q => ?_
  obtain ⟨φ, ρ, env, st, xs, kp, st', ws, sl, he, k⟩ := q
  simp only [evI] at he
  split at he
  · rename_i x st1 h1
    split at he
    · rename_i ys kq h2
      cases he
      refine seq1 ws sl h1 fun u H1 w1 s1 e1 r1 => ?_
      obtain ⟨kk, ad, rfl, hs⟩ := src_of w1 r1 h2
      have now : Lt X.K T φ ρ H1 kp φ ρ H1 st' := ⟨w1, kk, .refl _ _, [], by simp⟩
      rcases hs with ⟨_, hs⟩ | ⟨_, hs⟩
      · obtain ⟨vs, h3, _⟩ := hs _ _ _ _ now
        exact ⟨ad, vs, rfl, .inl ⟨h3, k _ _ ⟨w1, s1, e1⟩ kk (walkEL hs)⟩⟩
      · obtain ⟨vs, h3, _⟩ := hs _ _ _ _ now
        exact ⟨ad, vs, rfl, .inr ⟨h3, k _ _ ⟨w1, s1, e1⟩ kk (walkET hs)⟩⟩
    · cases he
  · cases he
theorem oki_rng1 (hg : Gl X "range") (hm : X.mg "range" = none) (hes : PA X [a] (tDs X.K T (evDs G cl es'))) (hl : es'.length = 1) (hp : pln a = true) : PI X tg (.Call (.Name "range" p) [a] [] pos) (tI X.K T (evI G cl (.rng es'))) := by
  refine impI (pi_range1 hg hm hes (pln_star hp _ _)) fun σ H R q => ?_
  obtain ⟨φ, ρ, env, st, xs, kp, st', ws, sl, he, k⟩ := q
  simp only [evI] at he
  split at he
  · rename_i n st1 h1
    split at he
    · rename_i hb
      cases he
      refine ⟨φ, ρ, env, st, _, _, ws, sl, h1, fun vs H1 pb rd => ?_⟩
      cases rd with
      | cons r rr =>
        cases rr
        cases r
        refine ⟨n, rfl, hb.1, hb.2, ?_⟩
        have w := walkR (K := X.K) (T := T) (φ := φ) (ρ := ρ) (H1 := H1) (lo := 0) (n := n.toNat)
        refine k _ _ pb rfl ?_
        unfold rngD
        rw [Int.sub_zero]
        exact w
    · cases he
  · rename_i c d st1 h1
    have := evDs_len h1
    rw [hl] at this
    cases this
  · cases he
theorem oki_rng2 (hg : Gl X "range") (hm : X.mg "range" = none) (hes : PA X [a, b] (tDs X.K T (evDs G cl es'))) (hl : es'.length = 2) (hp : pln a = true) (hp2 : pln b = true) : PI X tg (.Call (.Name "range" p) [a, b] [] pos) (tI X.K T (evI G cl (.rng es'))) := by
  refine impI (pi_range2 hg hm hes (by rw [pln_star hp, pln_star hp2]; rfl) (pln_star hp2 _ _)) fun σ H R q => ?_
  obtain ⟨φ, ρ, env, st, xs, kp, st', ws, sl, he, k⟩ := q
  simp only [evI] at he
  split at he
  · rename_i n st1 h1
    have := evDs_len h1
    rw [hl] at this
    cases this
  · rename_i c d st1 h1
    split at he
    · rename_i hb
      cases he
      refine ⟨φ, ρ, env, st, _, _, ws, sl, h1, fun vs H1 pb rd => ?_⟩
      cases rd with
      | cons r rr =>
        cases r
        cases rr with
        | cons r rr =>
          cases r
          cases rr
          exact ⟨c, d, rfl, ⟨hb.1, hb.2.1, hb.2.2.1, hb.2.2.2⟩, k _ _ pb rfl walkR⟩
    · cases he
  · cases he
theorem oki_zip {elts : List Expr} {kk : Nat} {tpos : Pos} (hg : Gl X "zip") (hm : X.mg "zip" = none) (ha : PE X a (tF X.K T (evE G cl a'))) (hb : PE X b (tF X.K T (evE G cl b'))) (hp : pln a = true) (hp2 : pln b = true) :
    PI X (.Tuple elts kk tpos) (.Call (.Name "zip" p) [a, b] [] pos) (tI X.K T (evI G cl (.zip a' b'))) := by
  refine impI (RZ.pi_zipA hg hm (pa_cons ha (pa_cons hb pa_nil (pln_star hp2 _ _)) (pln_star hp _ _)) (pln_star hp _ _) (back_pln (es := [b]) (by rw [List.all_cons, hp2]; rfl) _ _)) fun σ H R q => ?_
  obtain ⟨φ, ρ, env, st, xs, kp, st', ws, sl, he, k⟩ := q
  simp only [evI] at he
  split at he
  · rename_i x st1 h1
    split at he
    · rename_i y st2 h2
      split at he
      · rename_i us kq vs kr h3 h4
        split at he
        · rename_i hk
          cases he
          have hk : srcT x = srcT y := by simpa using hk
          refine seq2 ws sl h1 h2 fun u v H2 w2 s2 e2 ru rv => ?_
          obtain ⟨k1, a1, rfl, hs⟩ := src_of w2 ru h3
          obtain ⟨k2, a2, rfl, ht⟩ := src_of w2 rv h4
          have nowL : Lt X.K T φ ρ H2 kq φ ρ H2 st' := ⟨w2, k1, .refl _ _, [], by simp⟩
          have nowR : Lt X.K T φ ρ H2 kr φ ρ H2 st' := ⟨w2, k2, .refl _ _, [], by simp⟩
          have kk : keptL st' (kq ++ kr) = true := by rw [keptL_app, k1, k2]; rfl
          rcases hs with ⟨e1, hs⟩ | ⟨e1, hs⟩
          · rcases ht with ⟨e3, ht⟩ | ⟨e3, ht⟩
            · obtain ⟨us', h5, _⟩ := hs _ _ _ _ nowL
              obtain ⟨vs', h6, _⟩ := ht _ _ _ _ nowR
              exact ⟨a1, a2, us', vs', rfl, .inl ⟨h5, h6, k _ _ ⟨w2, s2, e2⟩ kk (walkZL hs ht)⟩⟩
            · rw [e1, e3] at hk; cases hk
          · rcases ht with ⟨e3, ht⟩ | ⟨e3, ht⟩
            · rw [e1, e3] at hk; cases hk
            · obtain ⟨us', h5, _⟩ := hs _ _ _ _ nowL
              obtain ⟨vs', h6, _⟩ := ht _ _ _ _ nowR
              exact ⟨a1, a2, us', vs', rfl, .inr ⟨h5, h6, k _ _ ⟨w2, s2, e2⟩ kk (walkZT hs ht)⟩⟩
        · cases he
      · cases he
    · cases he
  · cases he
end
end Ev
set_option linter.all false
set_option maxRecDepth 100000
set_option maxHeartbeats 4000000
/-! Ev8: targets, comprehensions. -/
namespace Ev
open PySem PySem.Spec L2
variable {K : PySem.W.Frag} {T : List (Addr × Str)} {X : Cx} {G : Pk} {cl : Str → List SV → Sto → Option (ER × Sto)}

/-! ### targets -/
theorem wipe_set {σ : L2.St} {i : Nat} {x : Option V} : ∀ {vs : List Nat}, L2.wipe (σ.set i x) vs = if i ∈ vs then L2.wipe σ vs else (L2.wipe σ vs).set i x
  | [] => by simp [L2.wipe]
  | k :: vs => by
    show (L2.wipe (σ.set i x) vs).set k none = _
    rw [wipe_set (vs := vs)]
    by_cases h : i ∈ vs
    · rw [if_pos h, if_pos (List.mem_cons_of_mem _ h)]; rfl
    · rw [if_neg h]
      by_cases e : i = k
      · subst e
        rw [if_pos List.mem_cons_self, List.set_set]; rfl
      · rw [if_neg (by simp [e, h]), List.set_comm _ _ e]; rfl
theorem wipe_in {σ : L2.St} {i : Nat} {x : Option V} {vs : List Nat} (h : i ∈ vs) : L2.wipe (σ.set i x) vs = L2.wipe σ vs := by rw [wipe_set, if_pos h]
theorem wipe_wipe {σ : L2.St} {vs : List Nat} : ∀ {us : List Nat}, (∀ i ∈ us, i ∈ vs) → L2.wipe (L2.wipe σ us) vs = L2.wipe σ vs
  | [], _ => rfl
  | u :: us, h => by
    show L2.wipe ((L2.wipe σ us).set u none) vs = _
    rw [wipe_in (h u List.mem_cons_self)]
    exact wipe_wipe fun i hi => h i (List.mem_cons_of_mem _ hi)
def tG (K : PySem.W.Frag) (T : List (Addr × Str)) (t : IT) : TG := fun v σ H Q => ∃ φ ρ env st d env', Ws K T φ ρ H st ∧ Sl K φ ρ H env σ ∧ RD K φ H v d ∧ bindT t d env = some env' ∧
  ∀ σ', Sl K φ ρ H env' σ' → (∀ vs, (∀ i ∈ slT t, i ∈ vs) → L2.wipe σ' vs = L2.wipe σ vs) → Q σ' H
def tGs (K : PySem.W.Frag) (T : List (Addr × Str)) (ts : List IT) : TGs := fun us σ H Q => ∃ φ ρ env st ds env', Ws K T φ ρ H st ∧ Sl K φ ρ H env σ ∧ RDs K φ H us ds ∧ bindTs ts ds env = some env' ∧
  ∀ σ', Sl K φ ρ H env' σ' → (∀ vs, (∀ i ∈ slTs ts, i ∈ vs) → L2.wipe σ' vs = L2.wipe σ vs) → Q σ' H
theorem impG {e : Expr} {t t' : TG} (h : PG X e t) (k : ∀ v σ H Q, t' v σ H Q → t v σ H Q) : PG X e t' := ⟨fun pins s σ H v u Q I r q => h.run pins s σ H v u Q I r (k v σ H Q q)⟩
theorem impGs {e : List Expr} {t t' : TGs} (h : PGs X e t) (k : ∀ v σ H Q, t' v σ H Q → t v σ H Q) : PGs X e t' := ⟨fun pins s σ H v u Q I r q => h.run pins s σ H v u Q I r (k v σ H Q q)⟩
/-- a name or a tuple of targets -/
def plnT : Expr → Bool
  | .Name .. => true
  | .Tuple .. => true
  | _ => false
theorem okg_nm {i : Nat} {x : Str} {pos : Pos} (hN : X.N.Nodup) (hi : X.N[i]? = some x) (hx : Loc X.env.scope x) (hf : X.fn x = true ∨ X.env.scope.names.lookup x = some .local) : PG X (.Name x pos) (tG X.K T (.nm i)) := by
  refine impG (pg_name hN hi hx hf) fun v σ H Q q => ?_
  obtain ⟨φ, ρ, env, st, d, env', ws, sl, rd, hb, k⟩ := q
  simp only [bindT] at hb
  split at hb
  · cases hb
    exact k _ (sl.set (s := .dat d) rd) fun vs h => wipe_in (h i (by simp [slT]))
  · cases hb
theorem okgs_nil : PGs X [] (tGs X.K T []) := by
  refine impGs pgs_nil fun v σ H Q q => ?_
  obtain ⟨φ, ρ, env, st, d, env', ws, sl, rd, hb, k⟩ := q
  cases rd with
  | nil =>
    simp only [bindTs] at hb
    cases hb
    exact ⟨rfl, k _ sl fun vs h => rfl⟩
  | cons a b => simp [bindTs] at hb
theorem okgs_cons {e : Expr} {es : List Expr} {t : IT} {ts : List IT} (hp : plnT e = true) (h : PG X e (tG X.K T t)) (hs : PGs X es (tGs X.K T ts)) : PGs X (e :: es) (tGs X.K T (t :: ts)) := by
  refine impGs (pgs_cons h hs (by cases e <;> first | rfl | (exact absurd (show false = true from hp) Bool.false_ne_true))) fun us σ H Q q => ?_
  obtain ⟨φ, ρ, env, st, d, env', ws, sl, rd, hb, k⟩ := q
  cases rd with
  | nil => simp [bindTs] at hb
  | cons a b =>
    simp only [bindTs] at hb
    split at hb
    · rename_i env1 h1
      refine ⟨_, _, rfl, φ, ρ, env, st, _, env1, ws, sl, a, h1, fun σ1 sl1 w1 => ⟨φ, ρ, env1, st, _, env', ws, sl1, b, hb, fun σ2 sl2 w2 => k σ2 sl2 fun vs h => ?_⟩⟩
      rw [w2 vs fun i hi => h i (by simp [slTs, hi]), w1 vs fun i hi => h i (by simp [slTs, hi])]
    · cases hb
theorem plnT_len {es : List Expr} {env : PySem.Env} (h : es.all plnT = true) : (assignEach es env).length = es.length ∧ (assignEach es env).findIdx? (·.1) = none := by
  induction es with
  | nil => exact ⟨rfl, rfl⟩
  | cons e es ih =>
    rw [List.all_cons, Bool.and_eq_true] at h
    obtain ⟨h1, h2⟩ := ih h.2
    have e1 : assignEach (e :: es) env = (false, assign e env) :: assignEach es env := by
      cases e <;> first | rfl | (exact absurd (show false = true from h.1) Bool.false_ne_true)
    rw [e1]
    refine ⟨congrArg (· + 1) h1, ?_⟩
    rw [List.findIdx?_cons]
    simp only [Bool.false_eq_true, if_false, h2, Option.map_none]
theorem okg_tp {es : List Expr} {ts : List IT} {k : Nat} {pos : Pos} (hc : X.calm = true) (hp : es.all plnT = true) (hl : es.length = ts.length) (hs : PGs X es (tGs X.K T ts)) : PG X (.Tuple es k pos) (tG X.K T (.tp ts)) := by
  refine impG (pg_tup hc hs (plnT_len hp).1 (plnT_len hp).2) fun v σ H Q q => ?_
  obtain ⟨φ, ρ, env, st, d, env', ws, sl, rd, hb, k⟩ := q
  cases rd with
  | tup h1 h2 =>
    simp only [bindT] at hb
    refine ⟨_, _, rfl, h1, ?_, φ, ρ, env, st, _, env', ws, sl, h2, hb, fun σ' sl' w => k σ' sl' fun vs h => w vs fun i hi => h i (by simpa [slT] using hi)⟩
    rw [h2.length, hl]
    have len : ∀ {ts : List IT} {ds : List D} {env env' : Env}, bindTs ts ds env = some env' → ds.length = ts.length := by
      intro ts
      induction ts with
      | nil => intro ds env env' h; cases ds with | nil => rfl | cons a b => simp [bindTs] at h
      | cons t ts ih =>
        intro ds env env' h
        cases ds with
        | nil => simp [bindTs] at h
        | cons a b =>
          simp only [bindTs] at h
          split at h
          · exact congrArg (· + 1) (ih h)
          · cases h
    exact len hb
  | non => simp [bindT] at hb
  | bl b => simp [bindT] at hb
  | int i => simp [bindT] at hb
  | str x => simp [bindT] at hb
  | lst a b c => simp [bindT] at hb
  | dct e => simp [bindT] at hb

/-! ### tests of a comprehension -/
def tCs (K : PySem.W.Frag) (T : List (Addr × Str)) (F : Env → Sto → Option (Bool × Sto)) : TT := fun σ H Q =>
  ∃ φ ρ env st b st', Ws K T φ ρ H st ∧ Sl K φ ρ H env σ ∧ F env st = some (b, st') ∧ ∀ H', PostB K T φ ρ H H' env σ st' → Q b H'
theorem okc_nil : PTs X [] (tCs X.K T (evCs G cl [])) := by
  refine ⟨fun pins s σ H Q I q => pts_nil.run pins s σ H Q I ?_⟩
  obtain ⟨φ, ρ, env, st, b, st', ws, sl, he, k⟩ := q
  simp only [evCs] at he
  cases he
  exact k H ⟨ws, sl, .refl _ _⟩
theorem okc_one {c : Expr} {c' : IE} (h : PT X c (tT X.K T (evE G cl c'))) : PTs X [c] (tCs X.K T (evCs G cl [c'])) := by
  refine ⟨fun pins s σ H Q I q => (pts_one h).run pins s σ H Q I ?_⟩
  obtain ⟨φ, ρ, env, st, b, st', ws, sl, he, k⟩ := q
  simp only [evCs] at he
  split at he
  · rename_i st1 h1
    cases he
    exact seqT ws sl h1 fun H1 w1 s1 e1 => k H1 ⟨w1, s1, e1⟩
  · rename_i st1 h1
    cases he
    exact seqT ws sl h1 fun H1 w1 s1 e1 => k H1 ⟨w1, s1, e1⟩
  · cases he

/-! ### list comprehensions -/
section
variable {φ ρ : List Addr} {H H' : Hp} {st : Sto} {p : Addr} {xs : List V} {o : HO}
theorem Ws.weak {ψ : List Addr} (w : Ws K T φ ρ H st) (h : ∀ a ∈ ψ, a ∈ φ) (r : ∀ a ∈ ρ, a ∈ ψ) : Ws K T ψ ρ H st :=
  ⟨w.len, fun n ds e => let ⟨a, xs, h1, h2, h3⟩ := w.sto n ds e; ⟨a, xs, h1, h2, h3.weak h⟩, w.nd, r, fun a ha => w.fx a (h a ha), w.tab⟩
/-- a forbidden list, none of the store's, is changed -/
theorem Ws.put {ys : List V} (w : Ws K T φ ρ H st) (h1 : p ∈ φ) (h2 : p ∉ ρ) : Ws K T φ ρ (upd H p (.lst ys)) st := by
  have x : Ext φ H (upd H p (.lst ys)) := .at h1
  obtain ⟨zs, ez⟩ := w.fx p h1
  refine ⟨w.len, fun n ds e => ?_, w.nd, w.sub, fun a ha => ?_, Tabs_ext (φ := φ) w.tab (.inr ⟨zs, ez⟩)⟩
  · obtain ⟨a, xs, h3, h4, h5⟩ := w.sto n ds e
    exact ⟨a, xs, h3, (upd_ne fun z => h2 (by rw [← z]; exact List.mem_of_getElem? h3)).trans h4, h5.ext x w.fl⟩
  · by_cases e : a = p
    · rw [e]; exact ⟨ys, upd_same⟩
    · obtain ⟨xs, h3⟩ := w.fx a ha
      exact ⟨xs, (upd_ne e).trans h3⟩
end
/-- the state within a comprehension: the new list at d, what it holds so far -/
structure Lc (K : PySem.W.Frag) (T : List (Addr × Str)) (φ ρ : List Addr) (H1 : Hp) (env : Env) (σ : L2.St) (d : Addr) (H : Hp) (st : Sto) (vs : List V) (ds : List D) : Prop where
  ws : Ws K T (φ ++ [d]) ρ H st
  sl : Sl K (φ ++ [d]) ρ H env σ
  at' : H d = some (.lst vs)
  rd : RDs K (φ ++ [d]) H vs ds
  ext : Ext ρ H1 H
  non : H1 d = none
  out : d ∉ φ
section
variable {φ ρ : List Addr} {H1 H H' : Hp} {env : Env} {σ : L2.St} {d : Addr} {st st' : Sto} {vs : List V} {ds : List D}
theorem Lc.gr (l : Lc K T φ ρ H1 env σ d H st vs ds) (sub : ∀ a ∈ ρ, a ∈ φ) : Gr φ (φ ++ [d]) H1 H := ⟨l.ext.more sub, [d], rfl, fun a ha => by rw [List.mem_singleton.mp ha]; exact l.non⟩
theorem Lc.nr (l : Lc K T φ ρ H1 env σ d H st vs ds) (sub : ∀ a ∈ ρ, a ∈ φ) : d ∉ ρ := fun z => l.out (sub _ z)
theorem Lc.start (ws : Ws K T φ ρ H1 st) (sl : Sl K φ ρ H1 env σ) (n : H1 d = none) : Lc K T φ ρ H1 env σ d (upd H1 d (.lst [])) st [] [] := by
  have out : d ∉ φ := fun z => by obtain ⟨xs, e⟩ := ws.fx d z; rw [n] at e; cases e
  refine ⟨ws.fresh n, ?_, upd_same, .nil, .new n, n, out⟩
  obtain ⟨p, xs, ds, e1, e2, e3, e4, e5, e6, e7⟩ := (Post.lst (ds := []) ws sl n .nil).fr _ rfl
  cases e2
  exact e7
/-- a step that changes nothing at d -/
theorem Lc.step (l : Lc K T φ ρ H1 env σ d H st vs ds) (sub : ∀ a ∈ ρ, a ∈ φ) (w : Ws K T (φ ++ [d]) ρ H' st') (x : Ext ρ H H') : Lc K T φ ρ H1 env σ d H' st' vs ds :=
  ⟨w, l.sl.ext (x.more l.ws.sub) l.ws.fl, x.keep _ _ l.at' (l.nr sub) (fun ps z => by cases z), l.rd.ext (x.more l.ws.sub) l.ws.fl, l.ext.trans x, l.non, l.out⟩
/-- one more item -/
theorem Lc.push {v : V} {z : D} (l : Lc K T φ ρ H1 env σ d H st vs ds) (sub : ∀ a ∈ ρ, a ∈ φ) (r : RD K (φ ++ [d]) H v z) : Lc K T φ ρ H1 env σ d (upd H d (.lst (vs ++ [v]))) st (vs ++ [v]) (ds ++ [z]) := by
  have hd : d ∈ φ ++ [d] := by simp
  have x : Ext (φ ++ [d]) H (upd H d (.lst (vs ++ [v]))) := .at hd
  refine ⟨l.ws.put hd (l.nr sub), l.sl.ext x l.ws.fl, upd_same, (l.rd.append (.cons r .nil)).ext x l.ws.fl, ⟨fun b o e n t => ?_, fun b e => ?_⟩, l.non, l.out⟩
  · have nb : b ≠ d := fun q => by rw [q, l.non] at e; cases e
    exact (upd_ne nb).trans (l.ext.keep b o e n t)
  · by_cases q : b = d
    · rw [q]; exact l.non
    · exact l.ext.dom b ((upd_ne q).symm.trans e)
theorem Lc.post {env0 : Env} {σ0 : L2.St} {H0 : Hp} (l : Lc K T φ ρ H1 env σ d H st vs ds) (sub : ∀ a ∈ ρ, a ∈ φ) (w1 : Ws K T φ ρ H1 st') (s1 : Sl K φ ρ H1 env0 σ0) (x : Ext ρ H0 H1) : Post K T φ ρ H0 H env0 σ0 st (.dat (.list ds) true) (.ref d) := by
  have g := l.gr sub
  refine ⟨l.ws.weak (fun a ha => List.mem_append_left _ ha) sub, s1.ext g.ext w1.fl, x.trans l.ext, .lst l.out l.at' (l.rd.weak fun a ha => List.mem_append_left _ ha), fun z e => ?_⟩
  cases e
  refine ⟨d, vs, ds, rfl, rfl, x.dom _ l.non, l.at', l.rd, l.ws, s1.len, fun i s e => ?_⟩
  obtain ⟨u, h1, h2⟩ := s1.get i s e
  refine ⟨u, h1, ?_⟩
  cases s with
  | dat z => exact g.rd w1.fl h2
  | loc n => exact h2
  | scr ns => exact RS.ext g.ext w1.fl h2
end
theorem lc_read {own : List (Str × Nat)} {t : IT} {it : II} {cs : List IE} {e : IE} (hown : ∀ i ∈ slT t, i ∈ own.map (·.2)) (σ : L2.St) (H : Hp) (Q : VK) (q : tF K T (evE G cl (.lc own t it cs e)) σ H Q) :
    tLc (tI K T (evI G cl it)) (tG K T t) (tCs K T (evCs G cl cs)) (tF K T (evE G cl e)) (own.map (·.2)) σ H Q := by
  obtain ⟨φ, ρ, env, st, x, st', ws, sl, hev, k⟩ := q
  simp only [evE] at hev
  split at hev
  · rename_i xs kp st1 h1
    split at hev
    · rename_i ys st2 h2
      split at hev
      · rename_i hlen
        cases hev
        refine ⟨φ, ρ, env, st, xs, kp, st1, ws, sl, h1, fun J H1 p kk walk dd hdd => ?_⟩
        have sub := p.ws.sub
        have slw : Sl K φ ρ H1 (wipeE env (own.map (·.2))) (L2.wipe σ (own.map (·.2))) := p.sl.wipe _
        generalize hF : (fun (d : D) (s : Sto) => match bindT t d (wipeE env (own.map (·.2))) with
          | some env1 => match evCs G cl cs env1 s with
            | some (true, s1) => match evE G cl e env1 s1 with
              | some (.dat y _, s2) => if keptL s2 kp then some ([y], s2) else none
              | _ => none
            | some (false, s1) => if keptL s1 kp then some ([], s1) else none
            | none => none
          | none => none) = F at h2
        refine ⟨fun i m Hh => m = xs.length - i ∧ i ≤ xs.length ∧ ∃ stc vs done rest, Lc K T φ ρ H1 (wipeE env (own.map (·.2))) (L2.wipe σ (own.map (·.2))) dd Hh stc vs done ∧ keptL stc kp = true ∧ compL F (xs.drop i) stc = some (rest, st') ∧ done ++ rest = ys,
          ⟨xs.length, by simp, Nat.zero_le _, st1, [], [], ys, Lc.start p.ws slw hdd, kk, h2, rfl⟩, ?_⟩
        rintro i m Hh ⟨rfl, hi, stc, vs, done, rest, l, kc, hrest, hys⟩
        have lt : Lt K T φ ρ H1 kp (φ ++ [dd]) ρ Hh stc := ⟨l.ws, kc, l.gr sub, [], by simp⟩
        by_cases hlt : i < xs.length
        · refine .inr ⟨walk.goes i _ _ _ _ hlt lt, ?_⟩
          have hdrop : xs.drop i = xs[i] :: xs.drop (i + 1) := List.drop_eq_getElem_cons hlt
          rw [hdrop] at hrest
          simp only [compL] at hrest
          split at hrest
          · rename_i zs sta ha
            split at hrest
            · rename_i ws' stb hb
              cases hrest
              refine ⟨fun H' => ∃ vs2, Lc K T φ ρ H1 (wipeE env (own.map (·.2))) (L2.wipe σ (own.map (·.2))) dd H' sta vs2 (done ++ zs) ∧ keptL sta kp = true, fun H' hN' => ?_, fun u Hy hy => ?_⟩
              · obtain ⟨vs2, l2, k2⟩ := hN'
                exact ⟨xs.length - (i + 1), by omega, rfl, hlt, sta, vs2, done ++ zs, ws', l2, k2, hb, by rw [List.append_assoc]; exact hys⟩
              · obtain ⟨⟨d0, hd0, rd0⟩, hch⟩ := walk.yields i _ _ _ _ u Hy hlt lt hy
                have ed : d0 = xs[i] := by rw [List.getElem?_eq_getElem hlt] at hd0; exact (Option.some.inj hd0).symm
                subst ed
                have ly : Lc K T φ ρ H1 (wipeE env (own.map (·.2))) (L2.wipe σ (own.map (·.2))) dd Hy stc vs done := by
                  rcases hch with rfl | ⟨pp, oo, hp0, hoo, rfl⟩
                  · exact l
                  · exact l.step sub (l.ws.new hp0 hoo) (.new hp0)
                rw [← hF] at ha
                simp only at ha
                split at ha
                · rename_i env1 hb1
                  refine ⟨φ ++ [dd], ρ, _, stc, xs[i], env1, ly.ws, ly.sl, rd0, hb1, fun σ2 sl2 w2 => ⟨(w2 _ hown).trans (wipe_wipe fun _ h => h), ?_⟩⟩
                  split at ha
                  · rename_i s1 hc1
                    split at ha
                    · rename_i y fr s2 he2
                      split at ha
                      · rename_i hk2
                        cases ha
                        refine ⟨φ ++ [dd], ρ, env1, stc, true, s1, ly.ws, sl2, hc1, fun H3 p3 => iteT ⟨φ ++ [dd], ρ, env1, s1, _, sta, p3.ws, p3.sl, he2, fun v4 H4 p4 => ?_⟩⟩
                        have l4 := (ly.step sub p3.ws p3.ext).step sub p4.ws p4.ext
                        have hlen2 : vs.length < sizeLine := by
                          rw [l4.rd.length]
                          have : (done ++ ([y] ++ ws')).length ≤ sizeLine := by rw [hys]; exact hlen
                          simp only [List.length_append, List.length_cons, List.length_nil] at this
                          omega
                        exact ⟨vs, l4.at', hlen2, vs ++ [v4], l4.push sub p4.rr, hk2⟩
                      · cases ha
                    · cases ha
                  · rename_i s1 hc1
                    split at ha
                    · rename_i hk2
                      cases ha
                      exact ⟨φ ++ [dd], ρ, env1, stc, false, sta, ly.ws, sl2, hc1, fun H3 p3 => iteF ⟨vs, by rw [List.append_nil]; exact ly.step sub p3.ws p3.ext, hk2⟩⟩
                    · cases ha
                  · cases ha
                · cases ha
            · cases hrest
          · cases hrest
        · have e : i = xs.length := by omega
          subst e
          refine .inl ⟨walk.stops _ _ _ _ lt, ?_⟩
          rw [List.drop_length] at hrest
          simp only [compL] at hrest
          cases hrest
          rw [List.append_nil] at hys
          subst hys
          exact k _ _ (l.post sub p.ws p.sl p.ext)
      · cases hev
    · cases hev
  · cases hev
theorem ok_lc {elt tg iter : Expr} {ifs : List Expr} {scope : Scope} {own : List (Str × Nat)} {pos : Pos} {t : IT} {it : II} {cs : List IE} {e : IE} (hc : X.calm = true) (hN : X.N.Nodup) (hi : PI X tg iter (tI X.K T (evI G cl it))) (ok : BlkOk X.N X.env.scope scope own)
    (hg : ∀ (s : Shared) (H : Hp) (C : Addr) (cl : List (Str × Addr)) (fp : List Addr), PG (X.blk s H scope (compEnvC scope cl C X.env) fp) tg (tG X.K T t))
    (ht : ∀ (s : Shared) (H : Hp) (C : Addr) (cc : List (Str × Addr)) (fp : List Addr), PTs (X.blk s H scope (compEnvC scope cc C X.env) fp) ifs (tCs X.K T (evCs G cl cs)))
    (he : ∀ (s : Shared) (H : Hp) (C : Addr) (cc : List (Str × Addr)) (fp : List Addr), PE (X.blk s H scope (compEnvC scope cc C X.env) fp) elt (tF X.K T (evE G cl e)))
    (hs : pln iter = true) (hown : ∀ i ∈ slT t, i ∈ own.map (·.2)) :
    PE X (.ListComp elt [⟨tg, iter, ifs, 0⟩] scope pos) (tF X.K T (evE G cl (.lc own t it cs e))) := by
  exact imp (pe_lc hc hN hi ok hg ht he (fun x => pln_fold hs _ x)) (lc_read hown)
end Ev
set_option linter.all false
set_option maxRecDepth 100000
set_option maxHeartbeats 8000000
/-! Ev9: comprehensions of two fors. -/
namespace Ev
open PySem PySem.Spec L2
variable {K : PySem.W.Frag} {T : List (Addr × Str)} {X : Cx} {G : Pk} {cl : Str → List SV → Sto → Option (ER × Sto)}
theorem Lc.slots {φ ρ : List Addr} {H1 H : Hp} {env env' : Env} {σ σ' : L2.St} {d : Addr} {st : Sto} {vs : List V} {ds : List D} (l : Lc K T φ ρ H1 env σ d H st vs ds) (s : Sl K (φ ++ [d]) ρ H env' σ') : Lc K T φ ρ H1 env' σ' d H st vs ds :=
  ⟨l.ws, s, l.at', l.rd, l.ext, l.non, l.out⟩
theorem lc2_read {own : List (Str × Nat)} {vs1 : List Nat} {t t1 : IT} {it it1 : II} {cs cs1 : List IE} {e : IE} (hown : ∀ i ∈ slT t, i ∈ own.map (·.2)) (hown1 : ∀ i ∈ slT t1, i ∈ vs1) (σ : L2.St) (H : Hp) (Q : VK) (q : tF K T (evE G cl (.lc2 own vs1 t it cs t1 it1 cs1 e)) σ H Q) :
    tLc2 (tI K T (evI G cl it)) (tG K T t) (tCs K T (evCs G cl cs)) (tI K T (evI G cl it1)) (tG K T t1) (tCs K T (evCs G cl cs1)) (tF K T (evE G cl e)) (own.map (·.2)) vs1 σ H Q := by
  obtain ⟨φ, ρ, env, st, x, st', ws, sl, hev, k⟩ := q
  simp only [evE] at hev
  split at hev
  · rename_i xs kp st1 h1
    split at hev
    · rename_i ys st2 h2
      split at hev
      · rename_i hlen
        cases hev
        refine ⟨φ, ρ, env, st, xs, kp, st1, ws, sl, h1, fun J H1 p kk walk dd hdd => ?_⟩
        have sub := p.ws.sub
        have slw : Sl K φ ρ H1 (wipeE env (own.map (·.2))) (L2.wipe σ (own.map (·.2))) := p.sl.wipe _
        generalize hF : (fun (d : D) (s : Sto) => match bindT t d (wipeE env (own.map (·.2))) with
          | some env1 => match evCs G cl cs env1 s with
            | some (true, s1) => match evI G cl it1 env1 s1 with
              | some (zs, kp1, s2) => match compL (fun d1 s => match bindT t1 d1 (wipeE env1 vs1) with
                  | some env2 => match evCs G cl cs1 env2 s with
                    | some (true, s3) => match evE G cl e env2 s3 with
                      | some (.dat y _, s4) => if keptL s4 kp1 then some ([y], s4) else none
                      | _ => none
                    | some (false, s3) => if keptL s3 kp1 then some ([], s3) else none
                    | none => none
                  | none => none) zs s2 with
                | some (ys, s5) => if keptL s5 kp then some (ys, s5) else none
                | none => none
              | none => none
            | some (false, s1) => if keptL s1 kp then some ([], s1) else none
            | none => none
          | none => none) = F at h2
        refine ⟨fun i m Hh => m = xs.length - i ∧ i ≤ xs.length ∧ ∃ stc vs done rest, Lc K T φ ρ H1 (wipeE env (own.map (·.2))) (L2.wipe σ (own.map (·.2))) dd Hh stc vs done ∧ keptL stc kp = true ∧ compL F (xs.drop i) stc = some (rest, st') ∧ done ++ rest = ys,
          ⟨xs.length, by simp, Nat.zero_le _, st1, [], [], ys, Lc.start p.ws slw hdd, kk, h2, rfl⟩, ?_⟩
        rintro i m Hh ⟨rfl, hi, stc, vs, done, rest, l, kc, hrest, hys⟩
        have lt : Lt K T φ ρ H1 kp (φ ++ [dd]) ρ Hh stc := ⟨l.ws, kc, l.gr sub, [], by simp⟩
        by_cases hlt : i < xs.length
        · refine .inr ⟨walk.goes i _ _ _ _ hlt lt, ?_⟩
          have hdrop : xs.drop i = xs[i] :: xs.drop (i + 1) := List.drop_eq_getElem_cons hlt
          rw [hdrop] at hrest
          simp only [compL] at hrest
          split at hrest
          · rename_i zs sta ha
            split at hrest
            · rename_i ws' stb hb
              cases hrest
              refine ⟨fun H' => ∃ vs2, Lc K T φ ρ H1 (wipeE env (own.map (·.2))) (L2.wipe σ (own.map (·.2))) dd H' sta vs2 (done ++ zs) ∧ keptL sta kp = true, fun H' hN' => ?_, fun u Hy hy => ?_⟩
              · obtain ⟨vs2, l2, k2⟩ := hN'
                exact ⟨xs.length - (i + 1), by omega, rfl, hlt, sta, vs2, done ++ zs, ws', l2, k2, hb, by rw [List.append_assoc]; exact hys⟩
              · obtain ⟨⟨d0, hd0, rd0⟩, hch⟩ := walk.yields i _ _ _ _ u Hy hlt lt hy
                have ed : d0 = xs[i] := by rw [List.getElem?_eq_getElem hlt] at hd0; exact (Option.some.inj hd0).symm
                subst ed
                have ly : Lc K T φ ρ H1 (wipeE env (own.map (·.2))) (L2.wipe σ (own.map (·.2))) dd Hy stc vs done := by
                  rcases hch with rfl | ⟨pp, oo, hp0, hoo, rfl⟩
                  · exact l
                  · exact l.step sub (l.ws.new hp0 hoo) (.new hp0)
                have hdd2 : dd ∈ φ ++ [dd] := by simp
                rw [← hF] at ha
                simp only at ha
                split at ha
                · rename_i env1 hb1
                  refine ⟨φ ++ [dd], ρ, _, stc, xs[i], env1, ly.ws, ly.sl, rd0, hb1, fun σ2 sl2 w2 => ⟨(w2 _ hown).trans (wipe_wipe fun _ h => h), ?_⟩⟩
                  split at ha
                  · rename_i s1 hc1
                    split at ha
                    · rename_i us kp1 s2 hi2
                      split at ha
                      · rename_i yi s5 hcomp
                        split at ha
                        · rename_i hk5
                          cases ha
                          refine ⟨φ ++ [dd], ρ, env1, stc, true, s1, ly.ws, sl2, hc1, fun H3 p3 => iteT ⟨φ ++ [dd], ρ, env1, s1, us, kp1, s2, p3.ws, p3.sl, hi2, fun J1 H4 p4 kk1 walk1 => ?_⟩⟩
                          have l4 := (ly.step sub p3.ws p3.ext).step sub p4.ws p4.ext
                          have sl4 : Sl K (φ ++ [dd]) ρ H4 env1 σ2 := p4.sl
                          generalize hF1 : (fun (d1 : D) (s : Sto) => match bindT t1 d1 (wipeE env1 vs1) with
                            | some env2 => match evCs G cl cs1 env2 s with
                              | some (true, s3) => match evE G cl e env2 s3 with
                                | some (.dat y _, s4) => if keptL s4 kp1 then some ([y], s4) else none
                                | _ => none
                              | some (false, s3) => if keptL s3 kp1 then some ([], s3) else none
                              | none => none
                            | none => none) = F1 at hcomp
                          refine ⟨fun j m Hh => m = us.length - j ∧ j ≤ us.length ∧ ∃ stc vs done2 rest2, Lc K T φ ρ H1 (wipeE env1 vs1) (L2.wipe σ2 vs1) dd Hh stc vs (done ++ done2) ∧ Sl K (φ ++ [dd]) ρ Hh (wipeE env (own.map (·.2))) (L2.wipe σ (own.map (·.2))) ∧ Ext (φ ++ [dd]) H4 Hh ∧ keptL stc kp1 = true ∧ compL F1 (us.drop j) stc = some (rest2, sta) ∧ done2 ++ rest2 = zs,
                            ⟨us.length, by simp, Nat.zero_le _, s2, vs, [], zs, by rw [List.append_nil]; exact l4.slots (sl4.wipe _), l4.sl, .refl _ _, kk1, hcomp, rfl⟩, ?_⟩
                          rintro j m2 Hj ⟨rfl, hj, stj, vsj, done2, rest2, lj, slj, xj, kj, hrest2, hzs⟩
                          have ltj : Lt K T (φ ++ [dd]) ρ H4 kp1 (φ ++ [dd]) ρ Hj stj := ⟨lj.ws, kj, ⟨xj, [], by simp, by simp⟩, [], by simp⟩
                          by_cases hltj : j < us.length
                          · refine .inr ⟨walk1.goes j _ _ _ _ hltj ltj, ?_⟩
                            have hdropj : us.drop j = us[j] :: us.drop (j + 1) := List.drop_eq_getElem_cons hltj
                            rw [hdropj] at hrest2
                            simp only [compL] at hrest2
                            split at hrest2
                            · rename_i qs stq hq
                              split at hrest2
                              · rename_i wq stb2 hb2
                                cases hrest2
                                refine ⟨fun H' => ∃ vs2, Lc K T φ ρ H1 (wipeE env1 vs1) (L2.wipe σ2 vs1) dd H' stq vs2 (done ++ (done2 ++ qs)) ∧ Sl K (φ ++ [dd]) ρ H' (wipeE env (own.map (·.2))) (L2.wipe σ (own.map (·.2))) ∧ Ext (φ ++ [dd]) H4 H' ∧ keptL stq kp1 = true, fun H' hN' => ?_, fun u2 Hz hz => ?_⟩
                                · obtain ⟨vs2, l2, slx, xx, k2⟩ := hN'
                                  exact ⟨us.length - (j + 1), by omega, rfl, hltj, stq, vs2, done2 ++ qs, wq, l2, slx, xx, k2, hb2, by rw [List.append_assoc]; exact hzs⟩
                                · obtain ⟨⟨d1, hd1, rd1⟩, hch1⟩ := walk1.yields j _ _ _ _ u2 Hz hltj ltj hz
                                  have ed1 : d1 = us[j] := by rw [List.getElem?_eq_getElem hltj] at hd1; exact (Option.some.inj hd1).symm
                                  subst ed1
                                  have lz : Lc K T φ ρ H1 (wipeE env1 vs1) (L2.wipe σ2 vs1) dd Hz stj vsj (done ++ done2) ∧ Sl K (φ ++ [dd]) ρ Hz (wipeE env (own.map (·.2))) (L2.wipe σ (own.map (·.2))) ∧ Ext (φ ++ [dd]) H4 Hz := by
                                    rcases hch1 with rfl | ⟨pp, oo, hp0, hoo, rfl⟩
                                    · exact ⟨lj, slj, xj⟩
                                    · exact ⟨lj.step sub (lj.ws.new hp0 hoo) (.new hp0), slj.ext (.new hp0) lj.ws.fl, xj.trans (.new hp0)⟩
                                  obtain ⟨lz, slz, xz⟩ := lz
                                  rw [← hF1] at hq
                                  simp only at hq
                                  split at hq
                                  · rename_i env2 hb3
                                    refine ⟨φ ++ [dd], ρ, _, stj, us[j], env2, lz.ws, lz.sl, rd1, hb3, fun σ3 sl3 w3 => ⟨(w3 _ hown1).trans (wipe_wipe fun _ h => h), ?_⟩⟩
                                    split at hq
                                    · rename_i s3 hc3
                                      split at hq
                                      · rename_i y fr s4 he4
                                        split at hq
                                        · rename_i hk4
                                          cases hq
                                          refine ⟨φ ++ [dd], ρ, env2, stj, true, s3, lz.ws, sl3, hc3, fun H6 p6 => iteT ⟨φ ++ [dd], ρ, env2, s3, _, stq, p6.ws, p6.sl, he4, fun v7 H7 p7 => ?_⟩⟩
                                          have l7 := (lz.step sub p6.ws p6.ext).step sub p7.ws p7.ext
                                          have x7 : Ext (φ ++ [dd]) Hz H7 := (p6.ext.trans p7.ext).more lz.ws.sub
                                          have s7 := (slz.ext x7 lz.ws.fl)
                                          have hlen2 : vsj.length < sizeLine := by
                                            rw [l7.rd.length]
                                            have h0 : (done ++ (done2 ++ ([y] ++ wq) ++ ws')).length ≤ sizeLine := by rw [hzs, hys]; exact hlen
                                            simp only [List.length_append, List.length_cons, List.length_nil] at h0 ⊢
                                            omega
                                          refine ⟨vsj, l7.at', hlen2, vsj ++ [v7], by rw [← List.append_assoc]; exact l7.push sub p7.rr, s7.ext (.at hdd2) l7.ws.fl, (xz.trans x7).trans (.at hdd2), hk4⟩
                                        · cases hq
                                      · cases hq
                                    · rename_i s3 hc3
                                      split at hq
                                      · rename_i hk4
                                        cases hq
                                        refine ⟨φ ++ [dd], ρ, env2, stj, false, stq, lz.ws, sl3, hc3, fun H6 p6 => iteF ⟨vsj, by rw [List.append_nil]; exact lz.step sub p6.ws p6.ext, slz.ext (p6.ext.more lz.ws.sub) lz.ws.fl, xz.trans (p6.ext.more lz.ws.sub), hk4⟩⟩
                                      · cases hq
                                    · cases hq
                                  · cases hq
                              · cases hrest2
                            · cases hrest2
                          · have ej : j = us.length := by omega
                            subst ej
                            refine .inl ⟨walk1.stops _ _ _ _ ltj, ?_⟩
                            rw [List.drop_length] at hrest2
                            simp only [compL] at hrest2
                            cases hrest2
                            rw [List.append_nil] at hzs
                            subst hzs
                            exact ⟨vsj, lj.slots slj, hk5⟩
                        · cases ha
                      · cases ha
                    · cases ha
                  · rename_i s1 hc1
                    split at ha
                    · rename_i hk2
                      cases ha
                      exact ⟨φ ++ [dd], ρ, env1, stc, false, sta, ly.ws, sl2, hc1, fun H3 p3 => iteF ⟨vs, by rw [List.append_nil]; exact ly.step sub p3.ws p3.ext, hk2⟩⟩
                    · cases ha
                  · cases ha
                · cases ha
            · cases hrest
          · cases hrest
        · have e : i = xs.length := by omega
          subst e
          refine .inl ⟨walk.stops _ _ _ _ lt, ?_⟩
          rw [List.drop_length] at hrest
          simp only [compL] at hrest
          cases hrest
          rw [List.append_nil] at hys
          subst hys
          exact k _ _ (l.post sub p.ws p.sl p.ext)
      · cases hev
    · cases hev
  · cases hev
theorem ok_lc2 {elt tg iter tg1 iter1 : Expr} {ifs ifs1 : List Expr} {scope : Scope} {own : List (Str × Nat)} {vs1 : List Nat} {pos : Pos} {t t1 : IT} {it it1 : II} {cs cs1 : List IE} {e : IE} (hc : X.calm = true) (hN : X.N.Nodup) (hi : PI X tg iter (tI X.K T (evI G cl it))) (ok : BlkOk X.N X.env.scope scope own)
    (hv : ∀ i ∈ vs1, i ∈ own.map (·.2))
    (hg : ∀ (s : Shared) (H : Hp) (C : Addr) (cl : List (Str × Addr)) (fp : List Addr), PG (X.blk s H scope (compEnvC scope cl C X.env) fp) tg (tG X.K T t))
    (ht : ∀ (s : Shared) (H : Hp) (C : Addr) (cc : List (Str × Addr)) (fp : List Addr), PTs (X.blk s H scope (compEnvC scope cc C X.env) fp) ifs (tCs X.K T (evCs G cl cs)))
    (hi1 : ∀ (s : Shared) (H : Hp) (C : Addr) (cc : List (Str × Addr)) (fp : List Addr), PI (X.blk s H scope (compEnvC scope cc C X.env) fp) tg1 iter1 (tI X.K T (evI G cl it1)))
    (hg1 : ∀ (s : Shared) (H : Hp) (C : Addr) (cl : List (Str × Addr)) (fp : List Addr), PG (X.blk s H scope (compEnvC scope cl C X.env) fp) tg1 (tG X.K T t1))
    (ht1 : ∀ (s : Shared) (H : Hp) (C : Addr) (cc : List (Str × Addr)) (fp : List Addr), PTs (X.blk s H scope (compEnvC scope cc C X.env) fp) ifs1 (tCs X.K T (evCs G cl cs1)))
    (he : ∀ (s : Shared) (H : Hp) (C : Addr) (cc : List (Str × Addr)) (fp : List Addr), PE (X.blk s H scope (compEnvC scope cc C X.env) fp) elt (tF X.K T (evE G cl e)))
    (hs : pln iter = true) (hs1 : pln iter1 = true) (hown : ∀ i ∈ slT t, i ∈ own.map (·.2)) (hown1 : ∀ i ∈ slT t1, i ∈ vs1) :
    PE X (.ListComp elt [⟨tg, iter, ifs, 0⟩, ⟨tg1, iter1, ifs1, 0⟩] scope pos) (tF X.K T (evE G cl (.lc2 own vs1 t it cs t1 it1 cs1 e))) := by
  exact imp (pe_lc2 hc hN hi ok hv hg ht hi1 hg1 ht1 he (fun x => pln_fold hs _ x) (fun env x => pln_fold hs1 _ x)) (lc2_read hown hown1)
end Ev
set_option linter.all false
set_option maxRecDepth 100000
set_option maxHeartbeats 4000000
/-! EvL: a lambda of one parameter, called. -/
namespace Ev
open PySem PySem.Spec L2
/-- the names of a lambda of one parameter x (a local, or a cell): the others are captured or global -/
structure Lm (sc scope : Scope) (x : Str) : Prop where
  kind : scope.kind = .function
  co : scope.isCoroutine = false
  gen : scope.isGenerator = false
  par : scope.names.lookup x = some .local ∨ scope.names.lookup x = some .cell
  loc : ∀ y ∈ scope.names, y.2 = .local → y.1 = x
  cel : scope.names.filter (fun y => y.2 == .cell) = if scope.names.lookup x = some .cell then [(x, .cell)] else []
  free : ∀ y ∈ scope.names, y.2 = .free → sc.names.lookup y.1 = some .cell ∨ sc.names.lookup y.1 = some .free
def lmB (sc scope : Scope) (x : Str) : Bool :=
  decide (scope.kind = .function) && !scope.isCoroutine && !scope.isGenerator && (decide (scope.names.lookup x = some .local) || decide (scope.names.lookup x = some .cell)) &&
  scope.names.all (fun y => !decide (y.2 = .local) || decide (y.1 = x)) && decide (scope.names.filter (fun y => y.2 == .cell) = if scope.names.lookup x = some .cell then [(x, .cell)] else []) &&
  scope.names.all fun y => !decide (y.2 = .free) || decide (sc.names.lookup y.1 = some .cell) || decide (sc.names.lookup y.1 = some .free)
theorem lm_by {sc scope : Scope} {x : Str} (h : lmB sc scope x = true) : Lm sc scope x := by
  unfold lmB at h
  simp only [Bool.and_eq_true, Bool.or_eq_true, Bool.not_eq_true', decide_eq_true_eq, decide_eq_false_iff_not, List.all_eq_true] at h
  obtain ⟨⟨⟨⟨⟨⟨h1, h2⟩, h3⟩, h4⟩, h5⟩, h6⟩, h7⟩ := h
  refine ⟨h1, h2, h3, h4, fun y hy e => (h5 y hy).resolve_left (fun z => z e), h6, fun y hy e => ?_⟩
  rcases h7 y hy with (z | z) | z
  · exact absurd e z
  · exact .inl z
  · exact .inr z
theorem cellsFrom_nil {cl : List (Str × Addr)} : ∀ {names : List (Str × NameKind)} {n : Nat}, names.filter (fun y => y.2 == .cell) = [] → cellsFrom n names cl = cl
  | [], _, _ => rfl
  | (y, k) :: r, n, h => by
    unfold cellsFrom
    cases hk : k == NameKind.cell with
    | true => rw [List.filter_cons, if_pos hk] at h; cases h
    | false => rw [List.filter_cons, if_neg (by simp [hk])] at h; exact cellsFrom_nil h
theorem cellsFrom_one {x : Str} {cl : List (Str × Addr)} : ∀ {names : List (Str × NameKind)} {n : Nat}, names.filter (fun y => y.2 == .cell) = [(x, .cell)] → cellsFrom n names cl = (x, n) :: cl
  | [], _, h => by cases h
  | (y, k) :: r, n, h => by
    unfold cellsFrom
    cases hk : k == NameKind.cell with
    | true =>
      rw [List.filter_cons, if_pos hk] at h
      injection h with h1 h2
      injection h1 with h3 h4
      subst h3
      exact cellsFrom_nil h2
    | false => rw [List.filter_cons, if_neg (by simp [hk])] at h; exact cellsFrom_one h
theorem pushCells_nil : ∀ {names : List (Str × NameKind)} {h : Heap}, names.filter (fun y => y.2 == .cell) = [] → pushCells h names = h
  | [], _, _ => rfl
  | (y, k) :: r, n, h => by
    unfold pushCells
    cases hk : k == NameKind.cell with
    | true => rw [List.filter_cons, if_pos hk] at h; cases h
    | false => rw [List.filter_cons, if_neg (by simp [hk])] at h; exact pushCells_nil h
theorem pushCells_one {x : Str} : ∀ {names : List (Str × NameKind)} {h : Heap}, names.filter (fun y => y.2 == .cell) = [(x, .cell)] → pushCells h names = h.push { cls := .type "cell", data := .cell none }
  | [], _, h => by cases h
  | (y, k) :: r, n, h => by
    unfold pushCells
    cases hk : k == NameKind.cell with
    | true =>
      rw [List.filter_cons, if_pos hk] at h
      injection h with h1 h2
      exact pushCells_nil h2
    | false => rw [List.filter_cons, if_neg (by simp [hk])] at h; exact pushCells_one h
/-- the lambda's cells -/
def lmCells (X : Cx) (scope : Scope) (L : Addr) (x : Str) : List (Str × Addr) :=
  if scope.names.lookup x = some .cell then (x, L + 1) :: cloFrom X.env.cells scope.names [] else cloFrom X.env.cells scope.names []
abbrev lmEnv (X : Cx) (scope : Scope) (L f c' : Addr) (x : Str) : PySem.Env := PySem.W.envX (X.env.qual ++ "<lambda>") scope L f (.ref c') (lmCells X scope L x)
/-- the context of the lambda's body -/
def lmCx (X : Cx) (A : Around) (s : Shared) (H : Hp) (scope : Scope) (f c' : Addr) (x : Str) : Cx where
  prog := X.prog
  w := X.w
  K := X.K
  mg := X.mg
  base := X.base
  A := A.deeper (lmEnv X scope s.heap.objs.size f c' x)
  N := X.N
  s_0 := s
  H_0 := H
  env := lmEnv X scope s.heap.objs.size f c' x
  outer := X.stack
  stack := lmEnv X scope s.heap.objs.size f c' x :: X.stack
  ex := []
  fn := fun _ => false
  calm := true
  pn := []
  xe := fun _ _ => False
section
variable {X : Cx} {pins : List (Addr × Obj)} {σ : L2.St} {H : Hp} {s : Shared}
theorem lm_new {E : Value → Shared → Prop} {M : Model} {A : Around} {scope : Scope} {globals : Addr} {cl : List (Str × Addr)} {x : Str} {u : Value} {qual : Str} {func : Option Addr} {code : Value} {builtins : Addr} {Q : PySem.Env → Shared → Prop} {sc : Scope}
    (L : Lm sc scope x)
    (h : ∀ env h' tk, env = newEnv scope s.heap.objs.size globals (if scope.names.lookup x = some .cell then (x, s.heap.objs.size + 1) :: cl else cl) qual func code none builtins →
      (∀ b o, s.heap.get? b = some o → h'.get? b = some o) → h'.Ns s.heap.objs.size (fun y => if scope.names.lookup x = some .cell then none else if y = x then some u else none) →
      (scope.names.lookup x = some .cell → h'.IsCell (s.heap.objs.size + 1) (some u)) → Q env { s with heap := h', toks := tk }) :
    wpAny M A (newFunctionEnv scope globals cl [(x, u)] qual func code none builtins) Q E s := by
  by_cases hx : scope.names.lookup x = some .cell
  · have cel := L.cel
    rw [if_pos hx] at cel
    simp only [newFunctionEnv, Option.isSome_none, Bool.false_eq_true, if_false]
    refine wpAny_bind (wpAny_alloc ?_)
    refine wpAny_bind (wpAny_layCells _ (fun name kind cells => by cases hkc : kind == NameKind.cell <;> simp [hkc]) _ _ _ _ ?_)
    rw [cellsFrom_one cel, pushCells_one cel]
    have e1 : ({ s with heap := s.heap.push { cls := .type "frame", data := .dict #[] } } : Shared).heap.objs.size = s.heap.objs.size + 1 := Heap.size_push ..
    rw [e1]
    have hc : ((s.heap.push { cls := .type "frame", data := .dict #[] }).push { cls := .type "cell", data := .cell none }).IsCell (s.heap.objs.size + 1) none :=
      ⟨{ cls := .type "cell", data := .cell none }, by
        have q := Heap.get?_push_size (o := { cls := .type "cell", data := .cell none }) (s.heap.push { cls := .type "frame", data := .dict #[] }) rfl
        rw [Heap.size_push] at q
        exact q, rfl⟩
    rw [List.forIn_cons]
    refine wpAny_bind (wpAny_bind (wpAny_bind (wpAny_storeName_cell L.kind hx (by simp [newEnv]) hc fun h' hc' hs' => wpAny_pure ?_)))
    simp only [List.forIn_nil]
    refine wpAny_pure (wpAny_pure ?_)
    refine h _ h' _ (by rw [if_pos hx]; rfl) (fun b o e => ?_) ?_ (fun _ => hc')
    · have lt := Heap.lt_size e
      refine hs'.extBut b o (Nat.ne_of_lt (Nat.lt_succ_of_lt lt)) (Heap.get?_push_of_some _ (Heap.get?_push_of_some _ e))
    · refine Heap.Ns.sameBut ?_ hs' (Nat.ne_of_lt (Nat.lt_succ_self _))
      have q : (s.heap.push { cls := .type "frame", data := .dict #[] }).Ns s.heap.objs.size (fun _ => none) := Heap.Ns.new s.heap (.type "frame")
      have e : (fun y => if scope.names.lookup x = some .cell then none else if y = x then some u else none) = (fun _ : Str => (none : Option Value)) := by
        funext y; rw [if_pos hx]
      rw [e]
      exact q.keeps fun b o z => Heap.get?_push_of_some _ z
  · have cel := L.cel
    rw [if_neg hx] at cel
    have hl : scope.names.lookup x = some .local := L.par.resolve_right hx
    refine wpAny_newFunctionEnv (fun y hy e => ?_) (fun y hy => ?_) (fun h' hns hsb => ?_) L.kind
    · have : y ∈ scope.names.filter (fun y => y.2 == .cell) := List.mem_filter.mpr ⟨hy, by rw [e]; rfl⟩
      rw [cel] at this
      cases this
    · rw [List.mem_singleton.mp hy]; exact hl
    · refine h _ h' _ (by rw [if_neg hx]) (fun b o e => hsb.extBut b o (Nat.ne_of_lt (Heap.lt_size e)) (Heap.get?_push_of_some _ e)) ?_ (fun z => absurd z hx)
      have e : (fun y => if scope.names.lookup x = some .cell then none else if y = x then some u else none) = (fun y => [(x, u)].reverse.lookup y) := by
        funext y
        rw [if_neg hx]
        simp only [List.reverse_cons, List.reverse_nil, List.nil_append, List.lookup]
        by_cases hy : y = x
        · rw [if_pos hy, beq_iff_eq.mpr hy]
        · rw [if_neg hy, beq_eq_false_iff_ne.mpr hy]
      rw [e]
      exact hns
theorem Lm.has {X : Cx} {scope : Scope} {x : Str} (L : Lm X.env.scope scope x) (ok : X.Ok) : ∀ y ∈ scope.names, y.2 = .free → ∃ c, X.env.cells.lookup y.1 = some c := fun y hy e => by
  rcases L.free y hy e with k | k
  · exact ok.has _ (.inl k)
  · exact ok.has _ (.inr k)
theorem lm_start {A : Around} {scope : Scope} {x : Str} {f c' : Addr} {h₁ : Heap} {tk i : Nat} {v : V} {u : Value} (I : Inv X pins σ H s) (L : Lm X.env.scope scope x) (hd : A.handled = none) (hfr : A.frames = X.A.frames) (hi : X.N[i]? = some x) (hN : X.N.Nodup) (rv : RelV v u)
    (kp : ∀ b o, s.heap.get? b = some o → h₁.get? b = some o) (hns : h₁.Ns s.heap.objs.size (fun y => if scope.names.lookup x = some .cell then none else if y = x then some u else none))
    (hcl : scope.names.lookup x = some .cell → h₁.IsCell (s.heap.objs.size + 1) (some u)) :
    Inv (lmCx X A s H scope f c' x) [] (σ.set i (some v)) H { s with heap := h₁, toks := tk } := by
  have e0 := I.env0
  have hfree := L.has I.ok
  have cm : ∀ {y c}, (cloFrom X.env.cells scope.names []).lookup y = some c → X.env.cells.lookup y = some c := fun {y c} e => by
    rcases cloFrom_mem (PySem.mem_of_lookup e) with hm | ⟨h1, h2⟩
    · cases hm
    · obtain ⟨c1, hc⟩ := hfree _ h1 rfl
      have hc : X.env.cells.lookup y = some c1 := hc
      have e2 : c = c1 := by rw [h2, hc] <;> rfl
      rw [e2]
      exact hc
  have look : ∀ {y}, scope.names.lookup y = some .free → ∃ c, (cloFrom X.env.cells scope.names []).lookup y = some c := fun {y} hl => mem_lookup (cloFrom_has (cells := X.env.cells) (acc := []) (PySem.mem_of_lookup hl))
  have old : ∀ {y c}, (cloFrom X.env.cells scope.names []).lookup y = some c → c < s.heap.objs.size := fun {y c} e => by
    obtain ⟨v, z⟩ := I.cell y c (cm e)
    exact z.lt
  have cellK : ∀ {c : Addr} {v : Option Value}, s.heap.IsCell c v → h₁.IsCell c v := fun {c v} ⟨o, ho, hd⟩ => ⟨o, kp _ _ ho, hd⟩
  have cs : ∀ {y c}, (lmCells X scope s.heap.objs.size x).lookup y = some c → (scope.names.lookup x = some .cell ∧ y = x ∧ c = s.heap.objs.size + 1) ∨ (cloFrom X.env.cells scope.names []).lookup y = some c := fun {y c} e => by
    unfold lmCells at e
    split at e
    · rename_i hx
      simp only [List.lookup] at e
      split at e
      · rename_i hy
        cases e
        exact .inl ⟨hx, beq_iff_eq.mp hy, rfl⟩
      · exact .inr e
    · exact .inr e
  have noA : ∀ b : Addr, b ∉ (lmCx X A s H scope f c' x).ex := fun b z => absurd (show b ∈ ([] : List Addr) from z) (by simp)
  have notfree : scope.names.lookup x ≠ some .free := fun z => by rcases L.par with p | p <;> rw [p] at z <;> cases z
  have lookC : ∀ {y c}, y ≠ x → (cloFrom X.env.cells scope.names []).lookup y = some c → (lmCells X scope s.heap.objs.size x).lookup y = some c := fun {y c} hy e => by
    unfold lmCells
    split
    · simp only [List.lookup]
      rw [beq_eq_false_iff_ne.mpr hy]
      exact e
    · exact e
  refine ⟨⟨e0.mod, L.kind, rfl, rfl, Nat.le_refl _, fun y z c e1 e2 => ?_, fun y hy => ?_, fun y c z _ => ?_, fun _ => hd, Around.frames_deeper (hfr.trans e0.frames), .inr ⟨rfl, rfl⟩, fun b z => absurd z (noA b), e0.bs, e0.bsz, fun b _ _ => noA b,
      fun b z => absurd z (noA b), e0.funs, e0.frf⟩,
    rfl, e0.bare, Un.kept kp, ⟨_, hns, fun j y v' e1 e2 e3 => ?_⟩, fun y c e => ?_, e0.hok.fresh (Nat.le_refl _), fun y c e => ?_, fun q hq => absurd (show q ∈ ([] : List (Addr × Obj)) ++ [] from hq) (by simp), e0.hok.kept kp, by rw [List.length_set]; exact I.len⟩
  · rcases cs e1 with ⟨_, rfl, h1⟩ | h1
    · rcases cs e2 with ⟨_, rfl, h2⟩ | h2
      · rfl
      · have := old h2
        rw [h1] at this
        exact absurd (Nat.lt_of_succ_lt this) (Nat.lt_irrefl _)
    · rcases cs e2 with ⟨_, rfl, h2⟩ | h2
      · have := old h1
        rw [h2] at this
        exact absurd (Nat.lt_of_succ_lt this) (Nat.lt_irrefl _)
      · exact I.ok.inj y z c (cm h1) (cm h2)
  · have hy : scope.names.lookup y = some .cell ∨ scope.names.lookup y = some .free := hy
    show ∃ c, (lmCells X scope s.heap.objs.size x).lookup y = some c
    rcases hy with hy | hy
    · have hm : (y, NameKind.cell) ∈ scope.names.filter (fun y => y.2 == .cell) := List.mem_filter.mpr ⟨PySem.mem_of_lookup hy, rfl⟩
      rw [L.cel] at hm
      split at hm
      · rename_i hx
        have e : y = x := by
          have := List.mem_singleton.mp hm
          injection this
        subst e
        exact ⟨s.heap.objs.size + 1, by unfold lmCells; rw [if_pos hx]; simp⟩
      · cases hm
    · obtain ⟨c, hc⟩ := look hy
      exact ⟨c, lookC (fun z => notfree (z ▸ hy)) hc⟩
  · have z : false = true := z
    cases z
  · have e1 : X.N[j]? = some y := e1
    have e3 : Vis scope y := e3
    have hlen : σ.length = X.N.length := I.len
    by_cases hy : y = x
    · subst hy
      have hij : i = j := nodup_ix hN hi e1
      subst hij
      have hlt : i < σ.length := by rw [hlen]; exact (List.getElem?_eq_some_iff.mp hi).1
      rw [List.getElem?_set_self hlt] at e2
      cases e2
      rcases L.par with p | p
      · exact ⟨u, rv, .inl ⟨p, by
          show (if scope.names.lookup y = some .cell then none else if y = y then some u else none) = some u
          rw [if_neg (by rw [p]; decide), if_pos rfl]⟩⟩
      · refine ⟨u, rv, .inr ⟨.inl p, s.heap.objs.size + 1, ?_, hcl p⟩⟩
        show (lmCells X scope s.heap.objs.size y).lookup y = _
        unfold lmCells
        rw [if_pos p]
        simp
    · have hij : i ≠ j := fun z => hy (by
        rw [← z, hi] at e1
        exact (Option.some.inj e1).symm)
      rw [List.getElem?_set_ne hij] at e2
      rcases e3 with k | k | k
      · exact absurd (L.loc _ (PySem.mem_of_lookup k) rfl) hy
      · have hm : (y, NameKind.cell) ∈ scope.names.filter (fun y => y.2 == .cell) := List.mem_filter.mpr ⟨PySem.mem_of_lookup k, rfl⟩
        rw [L.cel] at hm
        split at hm
        · have := List.mem_singleton.mp hm
          injection this with h1 h2
          exact absurd h1 hy
        · cases hm
      · obtain ⟨m, hn, hl⟩ := I.loc
        have hvis : Vis X.env.scope y := (L.free _ (PySem.mem_of_lookup k) rfl).elim (fun k => .inr (.inl k)) (fun k => .inr (.inr k))
        obtain ⟨w', r, q⟩ := hl j y v' e1 e2 hvis
        obtain ⟨c2, h2⟩ := look k
        refine ⟨w', r, .inr ⟨.inr k, c2, lookC hy h2, ?_⟩⟩
        have c1 := cm h2
        rcases q with ⟨k', _⟩ | ⟨_, c3, e', z⟩
        · have k' : X.env.scope.names.lookup y = some .local := k'
          rcases L.free _ (PySem.mem_of_lookup k) rfl with k2 | k2 <;> rw [show X.env.scope.names.lookup y = _ from k2] at k' <;> cases k'
        · rw [c1] at e'
          cases e'
          exact cellK z
  · rcases cs e with ⟨hx, _, hc⟩ | hc
    · rw [hc]
      exact ⟨some u, hcl hx⟩
    · obtain ⟨w', z⟩ := I.cell y c (cm hc)
      exact ⟨w', cellK z⟩
  · rcases cs e with ⟨hx, _, hc⟩ | hc
    · rw [hc]
      exact e0.hok.fresh (Nat.le_succ _)
    · exact I.freeC y c (cm hc)
/-- the lambda called -/
theorem lm_run {A : Around} {scope : Scope} {params : Arguments} {body : Expr} {x : Str} {f c' : Addr} {i : Nat} {v : V} {u : Value} {pm ctv : Value} {tb : TE} {Q : VK} (I : Inv X pins σ H s) (L : Lm X.env.scope scope x) (hd : A.handled = none) (hfr : A.frames = X.A.frames) (hdep : A.depth < recursionLimit)
    (hi : X.N[i]? = some x) (hN : X.N.Nodup) (rv : RelV v u)
    (hf : s.heap.get? f = some (PySem.W.kla_obj "<lambda>" (X.env.qual ++ "<lambda>") params body scope (cloFrom X.env.cells scope.names []) pm c' ctv))
    (hbind : ∀ (q : Str) (cl : List (Str × Addr)) (pm cv ctv : Value) (u : Value), bindArgs (PySem.W.kla_fn "<lambda>" q params body scope cl pm cv ctv) ⟨[u], []⟩ = pure [(x, u)])
    (hc : H c' = some (LamX.CodeO c' (X.env.qual ++ "<lambda>")))
    (hbody : PE (lmCx X A s H scope f c' x) body tb) (h : tb (σ.set i (some v)) H Q) :
    codeAny (model X.prog X.w) A (.call (.ref f) ⟨[u], []⟩) (CR L2.CX0 X.stack X.prog X.w H s Q E0) s := by
  obtain ⟨⟨oc, vs, t, hoc, hdc, hvc⟩, _, _⟩ := I.hok c' _ hc
  refine PySem.W.kla_callFunE hdep hf rfl L.co L.gen rfl ⟨c', oc, vs, t, rfl, hoc, hdc, hvc⟩ ?_
  rw [hbind]
  refine wpAny_pure (lm_new L fun env h' tk he kp hns hcl => ⟨I.nolimit.keeps kp, ?_⟩)
  have he2 : env = lmEnv X scope s.heap.objs.size f c' x := he
  rw [he2]
  have J := lm_start (A := A) (f := f) (c' := c') (tk := tk) I L hd hfr hi hN rv kp hns hcl
  refine PySem.W.kla_codeExpr (wpAny_mono (hbody.run [] _ _ H Q J h) (fun v s' hq => ?_) fun e s' hq => hq.elim)
  obtain ⟨w', H', J', rv', q⟩ := hq
  exact ⟨w', H', J'.os, J'.bare, J'.base, J'.hok, rv', q⟩
end
end Ev
set_option linter.all false
set_option maxRecDepth 100000
set_option maxHeartbeats 4000000
/-! EvS: sorted with key= a lambda. -/
namespace Ev
open PySem PySem.Spec L2 PyProof.Rows
section
variable {prog : Program} {w : World} {A : Around} {E : Value → Shared → Prop} {s : Shared}
theorem sorted_shell {src : Value} {kw : List (Str × Value)} {Q : Value → Shared → Prop} {Pu : List Value → Heap → Prop} (ha1 : argsOk "sorted" ⟨[src], kw⟩) (ha2 : ∀ x, argsOk "list.sort" ⟨[.ref x], kw⟩)
    (hcol : ∀ (A' : Around) (E' : Value → Shared → Prop) (Q' : List Value → Shared → Prop), A'.handled = A.handled →
      (∀ (us : List Value) (h' : Heap) (tk : Nat), (∀ b o, s.heap.get? b = some o → h'.get? b = some o) → Pu us h' → Q' us { s with heap := h', toks := tk }) → wpAny (model prog w) A' (collect src) Q' E' s)
    (hP : ∀ us h', Pu us h' → us.length ≤ sizeLine)
    (body : ∀ (us : List Value) (h' : Heap) (tk : Nat), (∀ b o, s.heap.get? b = some o → h'.get? b = some o) → Pu us h' → ∀ E' : Value → Shared → Prop,
      wpAny (model prog w) A.in1.in1 (Builtin.«list.sort» ⟨[.ref h'.objs.size], kw⟩) (fun f s' => f = .done (.ret .none) ∧ Q (.ref h'.objs.size) s') E' { s with heap := h'.push (seqObj "list" us.toArray 0), toks := tk }) :
    wpAny (model prog w) A (call (.builtin "sorted") [src] kw) Q E s := by
  refine call_function_entry_kw kind_sorted plain_sorted entry_sorted ha1 ?_
  unfold Builtin.«sorted»
  refine wpAny_bind (m := checkCount "sorted" 1 1 _) (wpAny_pure ?_)
  refine wpAny_bind (hcol _ _ _ rfl fun us h' tk kp hu => ?_)
  refine wpAny_bind (wpAny_newList ?_ (hP us h' hu))
  have hat : (h'.push (seqObj "list" us.toArray 0)).get? h'.objs.size = some (seqObj "list" us.toArray 0) := Heap.get?_push_size _ rfl
  refine wpAny_bind (wpAny_holding (wpAny_call_entry_kw slot_list_sort ⟨_, hat, rfl⟩ entry_list_sort ?body (ha2 _)))
  case body =>
    refine wpAny_mono (body us h' tk kp hu _) (fun f s' hf => ?_) fun _ _ e => e
    obtain ⟨rfl, hq⟩ := hf
    exact ⟨_, rfl, wpAny_pure ⟨_, rfl, hq⟩⟩
theorem col_list {l : Addr} {vs : List Value} (hl : s.heap.IsList l vs.toArray) (hL : vs.length ≤ sizeLine) (A' : Around) (E' : Value → Shared → Prop) (Q' : List Value → Shared → Prop)
    (h : ∀ (us : List Value) (h' : Heap) (tk : Nat), (∀ b o, s.heap.get? b = some o → h'.get? b = some o) → (us = vs ∧ s.heap.objs.size ≤ h'.objs.size) → Q' us { s with heap := h', toks := tk }) : wpAny (model prog w) A' (collect (.ref l)) Q' E' s := by
  refine collect_list hl (h vs _ s.toks (fun b o e => ?_) ⟨rfl, by rw [Heap.size_update, Heap.size_push]; exact Nat.le_succ _⟩) hL
  have lt := Heap.lt_size e
  exact (Heap.get?_update_ne _ _ _ _ (Nat.ne_of_lt lt)).trans (Heap.get?_push_of_some _ e)
end
/-! ### the order -/
def leK (rev : Bool) (a b : D × Int) : Bool := if rev then decide (b.2 ≤ a.2) else decide (a.2 ≤ b.2)
theorem insK_eq (rev : Bool) (x : D × Int) : ∀ l₁ l₂ : List (D × Int), (∀ b ∈ l₁, leK rev x b = false) → (∀ b ∈ l₂, leK rev x b = true) → insK rev x (l₁ ++ l₂) = l₁ ++ x :: l₂
  | [], [], _, _ => rfl
  | [], y :: l, _, h => by
    have q := h y (List.mem_cons_self ..)
    show (if (if rev then y.2 ≤ x.2 else x.2 ≤ y.2) then x :: y :: l else y :: insK rev x l) = _
    rw [if_pos]
    · rfl
    · unfold leK at q
      cases rev <;> simpa using q
  | y :: l₁, l₂, h, h2 => by
    have q := h y (List.mem_cons_self ..)
    show (if (if rev then y.2 ≤ x.2 else x.2 ≤ y.2) then x :: y :: (l₁ ++ l₂) else y :: insK rev x (l₁ ++ l₂)) = _
    rw [if_neg, insK_eq rev x l₁ l₂ (fun b hb => h b (List.mem_cons_of_mem _ hb)) h2]
    · rfl
    · unfold leK at q
      cases rev <;> simpa using q
theorem leK_trans (rev : Bool) (a b c : D × Int) (h1 : leK rev a b = true) (h2 : leK rev b c = true) : leK rev a c = true := by
  unfold leK at *
  cases rev <;> simp only [if_true, Bool.false_eq_true, if_false, decide_eq_true_eq] at * <;> omega
theorem leK_total (rev : Bool) (a b : D × Int) : (leK rev a b || leK rev b a) = true := by
  unfold leK
  cases rev <;> simp only [if_true, Bool.false_eq_true, if_false, Bool.or_eq_true, decide_eq_true_eq] <;> omega
theorem sortK_eq (rev : Bool) : ∀ l : List (D × Int), l.mergeSort (leK rev) = sortK rev l
  | [] => List.mergeSort_nil
  | x :: l => by
    obtain ⟨l₁, l₂, e1, e2, h⟩ := List.mergeSort_cons (leK_trans rev) (leK_total rev) x l
    have hp := List.pairwise_mergeSort (leK_trans rev) (leK_total rev) (x :: l)
    rw [e1] at hp
    rw [e1]
    show _ = insK rev x (sortK rev l)
    rw [← sortK_eq rev l, e2, insK_eq rev x l₁ l₂ (fun b hb => by simpa using h b hb) fun b hb => ?_]
    exact (List.pairwise_cons.mp (List.pairwise_append.mp hp).2.1).1 b hb
theorem le_data (rev : Bool) : PySem.W.dataLe rev (fun b : D × Int => PyData.int b.2) = leK rev := by
  cases rev with
  | false => rw [PySem.W.dataLe_int (fun b : D × Int => b.2)]; funext a b; rfl
  | true => rw [PySem.W.dataGe_int (fun b : D × Int => b.2)]; funext a b; rfl
/-! ### the keys, one after another -/
def KeysR (F : D → Sto → Option (ER × Sto)) : List D → Sto → List Int → Sto → Prop
  | [], st, [], st' => st = st'
  | d :: ds, st, y :: ys, st' => ∃ st1 fr, F d st = some (.dat (.int y) fr, st1) ∧ KeysR F ds st1 ys st'
  | _, _, _, _ => False
theorem keysR_of (F : D → Sto → Option (ER × Sto)) : ∀ (xs : List D) (st : Sto) (ks : List D) (is : List Int) (st2 : Sto), compL (fun d s => match F d s with
    | some (.dat (.int y) _, s1) => some ([.int y], s1)
    | _ => none) xs st = some (ks, st2) → intsD ks = some is → KeysR F xs st is st2
  | [], st, ks, is, st2, h, hi => by
    simp only [compL] at h
    cases h
    cases hi
    exact rfl
  | d :: ds, st, ks, is, st2, h, hi => by
    simp only [compL] at h
    split at h
    · rename_i ys st1 h1
      split at h1
      · rename_i y fr s1 h2
        cases h1
        split at h
        · rename_i zs st3 h3
          cases h
          simp only [List.singleton_append, intsD, Option.map_eq_some_iff] at hi
          obtain ⟨js, h4, rfl⟩ := hi
          exact ⟨_, fr, h2, keysR_of F ds _ _ _ _ h3 h4⟩
        · cases h
      · cases h1
    · cases h
theorem KeysR.len {F : D → Sto → Option (ER × Sto)} : ∀ {xs : List D} {st : Sto} {is : List Int} {st2 : Sto}, KeysR F xs st is st2 → xs.length = is.length
  | [], _, [], _, _ => rfl
  | _ :: _, _, _ :: _, _, ⟨_, _, _, h⟩ => congrArg (· + 1) h.len
  | [], _, _ :: _, _, h => h.elim
  | _ :: _, _, [], _, h => h.elim
theorem each_vals {K : PySem.W.Frag} {φ : List Addr} {H : Hp} : ∀ (vsV : List V) (us : List Value) (xs : List D) (is : List Int), Vals vsV us → RDs K φ H vsV xs → xs.length = is.length →
    PySem.W.EachIs (fun (u : Value) (b : D × Int) => ∃ v, RelV v u ∧ RD K φ H v b.1) us (xs.zip is)
  | [], _, _, is, .nil, .nil, h => by
    cases is with
    | nil => exact .nil
    | cons _ _ => cases h
  | v :: vs, _, _, is, .cons r rs, .cons d ds, h => by
    cases is with
    | nil => cases h
    | cons i is => exact .cons ⟨v, r, d⟩ (each_vals vs _ _ is rs ds (by simpa using h))
theorem vals_each {K : PySem.W.Frag} {φ : List Addr} {H : Hp} : ∀ {us : List Value} {bs : List (D × Int)}, PySem.W.EachIs (fun (u : Value) (b : D × Int) => ∃ v, RelV v u ∧ RD K φ H v b.1) us bs → ∃ vsV, Vals vsV us ∧ RDs K φ H vsV (bs.map (·.1))
  | _, _, .nil => ⟨[], .nil, .nil⟩
  | _, _, .cons ⟨v, r, d⟩ t => by
    obtain ⟨vs, a, b⟩ := vals_each t
    exact ⟨v :: vs, .cons r a, .cons d b⟩
theorem zip_snd_ints : ∀ {xs : List D} {is : List Int}, xs.length = is.length → (xs.zip is).map (fun b => PyData.int b.2) = is.map PyData.int
  | [], [], _ => rfl
  | _ :: xs, _ :: is, h => by
    simp only [List.zip_cons_cons, List.map_cons]
    rw [zip_snd_ints (by simpa using h)]
  | [], _ :: _, h => by cases h
  | _ :: _, [], h => by cases h

section
variable {X : Cx} {pins : List (Addr × Obj)} {σ : L2.St} {H : Hp} {s : Shared} {G : Pk} {cl : Str → List SV → Sto → Option (ER × Sto)} {T : List (Addr × Str)} {φ ρ : List Addr} {env : Env} {st st2 : Sto}
structure KJ (X : Cx) (pins : List (Addr × Obj)) (σ : L2.St) (T : List (Addr × Str)) (φ ρ : List Addr) (env : Env) (H : Hp) (a kS f : Addr) (fo : Obj) (e1 : Nat) (F : D → Sto → Option (ER × Sto)) (xs : List D) (is : List Int) (st2 : Sto) (j : Nat) (s' : Shared) (Hj : Hp) (stj : Sto) (kA : Array Value) (e : Nat) : Prop where
  I : Inv X pins σ Hj s'
  ws : Ws X.K T φ ρ Hj stj
  sl : Sl X.K φ ρ Hj env σ
  ext : Ext ρ H Hj
  nA : Hj a = none
  nK : Hj kS = none
  nF : Hj f = none
  gK : s'.heap.get? kS = some (seqObj "list" kA e)
  gA : s'.heap.get? a = some (seqObj "list" #[] e1)
  gF : s'.heap.get? f = some fo
  ks : PySem.W.EachIs (fun (v : Value) (n : Int) => ∃ t, v = Value.int n t) kA.toList (is.take j)
  go : KeysR F (xs.drop j) stj (is.drop j) st2
theorem ksk_core {scope : Scope} {params : Arguments} {body : Expr} {x : Str} {f c' : Addr} {i : Nat} {pm ctv : Value} {k' : IE} {rev : Bool} {E : Value → Shared → Prop} {Q : VK} {h' : Heap} {tk : Nat} {us : List Value} {vsV : List V} {xs : List D} {is : List Int}
    (I : Inv X pins σ H s) (ws : Ws X.K T φ ρ H st) (sl : Sl X.K φ ρ H env σ) (L : Lm X.env.scope scope x) (hroom : Room 0 X.A) (hi : X.N[i]? = some x) (hN : X.N.Nodup)
    (hf : s.heap.get? f = some (PySem.W.kla_obj "<lambda>" (X.env.qual ++ "<lambda>") params body scope (cloFrom X.env.cells scope.names []) pm c' ctv)) (hfn : H f = none) (hfr : f ∉ frs X.stack)
    (hbind : ∀ (q : Str) (cl : List (Str × Addr)) (pm cv ctv : Value) (u : Value), bindArgs (PySem.W.kla_fn "<lambda>" q params body scope cl pm cv ctv) ⟨[u], []⟩ = pure [(x, u)])
    (hc : H c' = some (LamX.CodeO c' (X.env.qual ++ "<lambda>")))
    (hbody : ∀ (s : Shared) (H : Hp), PE (lmCx X X.A.in1.in1 s H scope f c' x) body (tF X.K T (evE G cl k')))
    (rv : Vals vsV us) (rd : RDs X.K φ H vsV xs) (hl : xs.length ≤ 1000) (hk : KeysR (fun d s => evE G cl k' (env.set i (some (.dat d))) s) xs st is st2)
    (kp : ∀ b o, s.heap.get? b = some o → h'.get? b = some o) (hsz : s.heap.objs.size ≤ h'.objs.size)
    (hQ : ∀ p H', Post X.K T φ ρ H H' env σ st2 (.dat (.list ((sortK rev (xs.zip is)).map (·.1))) true) (.ref p) → Q (.ref p) H') :
    wpAny (model X.prog X.w) X.A.in1.in1 (ksk_tree h'.objs.size (.ref f) rev) (fun fl s' => fl = .done (.ret .none) ∧ EP X pins σ Q (.ref h'.objs.size) s') E { s with heap := h'.push (seqObj "list" us.toArray 0), toks := tk } := by
  have hlu : us.length = xs.length := by rw [← rv.length, rd.length]
  have hZ : us.length ≤ sizeLine := by rw [hlu, sizeLine_eq]; omega
  have hlk := hk.len
  -- the objects laid ahead of the calls
  generalize ha : h'.objs.size = a
  have hsa : s.heap.objs.size ≤ a := by rw [← ha]; exact hsz
  have ho : (h'.push (seqObj "list" us.toArray 0)).get? a = some (seqObj "list" us.toArray 0) := by rw [← ha]; exact Heap.get?_push_size _ rfl
  generalize hA : h'.push (seqObj "list" us.toArray 0) = hA' at ho
  have kpA : ∀ b o, s.heap.get? b = some o → hA'.get? b = some o := fun b o e => by rw [← hA]; exact Heap.get?_push_of_some _ (kp b o e)
  have szA : hA'.objs.size = a + 1 := by rw [← hA, Heap.size_push, ha]
  obtain ⟨e1, ho1⟩ : ∃ e1, (hA'.update a (Obj.mapSeq fun _ => (#[] : Array Value))).get? a = some (seqObj "list" #[] e1) := ⟨_, get?_update_seq ho fun _ => #[]⟩
  unfold ksk_tree
  refine wpAny_bind (listItems_at ho rfl ?_)
  refine wpAny_bind (listUpdate_at ho rfl ?_ (by rw [List.size_toArray]; exact hZ) (Nat.zero_le _))
  refine wpAny_bind (seqEpoch_at ho1 rfl ?_)
  refine wpAny_bind (wpAny_newTuple ?_ (by show us.length ≤ _; exact hZ))
  refine wpAny_bind (wpAny_newList ?_ (Nat.zero_le _))
  refine wpAny_holding ?_
  generalize hk1 : ((hA'.update a (Obj.mapSeq fun _ => (#[] : Array Value))).push (seqObj "tuple" us.toArray 0)).objs.size = kS
  have eK : kS = a + 2 := by rw [← hk1, Heap.size_push, Heap.size_update, szA]
  have hka : kS ≠ a := by rw [eK]; exact Nat.ne_of_gt (Nat.lt_succ_of_lt (Nat.lt_succ_self a))
  have hsk : s.heap.objs.size ≤ kS := by rw [eK]; exact Nat.le_trans hsa (Nat.le_add_right a 2)
  generalize hB : ((hA'.update a (Obj.mapSeq fun _ => (#[] : Array Value))).push (seqObj "tuple" us.toArray 0)).push (seqObj "list" #[] 0) = hB'
  have kpB : ∀ b o, s.heap.get? b = some o → hB'.get? b = some o := fun b o e => by
    rw [← hB]
    refine Heap.get?_push_of_some _ (Heap.get?_push_of_some _ ?_)
    exact (Heap.get?_update_ne _ _ _ _ (Nat.ne_of_lt (Nat.lt_of_lt_of_le (Heap.lt_size e) hsa))).trans (kpA b o e)
  have atK : hB'.get? kS = some (seqObj "list" #[] 0) := by rw [← hB, ← hk1]; exact Heap.get?_push_size _ rfl
  have atA : hB'.get? a = some (seqObj "list" #[] e1) := by rw [← hB]; exact Heap.get?_push_of_some _ (Heap.get?_push_of_some _ ho1)
  have I4 : Inv X pins σ H { s with heap := hB', toks := tk } := I.kept kpB
  have nA : H a = none := I.hok.fresh hsa
  have nK : H kS = none := I.hok.fresh hsk
  have fpA : ∀ {H' : Hp}, H' a = none → FpOk X pins H' a := fun e => I.fpOk hsa e
  have fpK : ∀ {H' : Hp}, H' kS = none → FpOk X pins H' kS := fun e => I.fpOk hsk e
  have nfA : a ∉ frs X.stack := fun z => by
    rcases List.mem_cons.mp (I.stkSub _ z) with e | e
    · have h1 := I.lt
      rw [← e] at h1
      exact Nat.lt_irrefl _ (Nat.lt_of_lt_of_le h1 hsa)
    · exact I.nofs hsa e
  have nfK : kS ∉ frs X.stack := fun z => by
    rcases List.mem_cons.mp (I.stkSub _ z) with e | e
    · have h1 := I.lt
      rw [← e] at h1
      exact Nat.lt_irrefl _ (Nat.lt_of_lt_of_le h1 hsk)
    · exact I.nofs hsk e
  have hcne : ∀ c o, H c = some o → (∀ xs, o ≠ .lst xs) → c ∉ ρ := fun c o e n z => by
    obtain ⟨ys, q⟩ := ws.fx c (ws.sub c z)
    rw [e] at q
    exact n ys (Option.some.inj q)
  unfold ksk_rest
  refine wpAny_bind (wpAny_rule ?_)
  first
    | rw [List.forIn_toArray]
    | (rw [← Array.forIn_toList]; simp only [List.toList_toArray])
    | rw [← Array.forIn_toList]
  refine wpAny_bind (ksk_fold (fun j s' => ∃ Hj stj kA e, KJ X pins σ T φ ρ env H a kS f _ e1 (fun d s => evE G cl k' (env.set i (some (.dat d))) s) xs is st2 j s' Hj stj kA e) us 0 _
    ⟨H, st, #[], 0, ⟨I4, ws, sl, .refl _ _, nA, nK, hfn, atK, atA, kpB _ _ hf, .nil, hk⟩⟩ ?step ?done)
  case step =>
    rintro j u s' hu ⟨Hj, stj, kA, e, J⟩
    simp only [Nat.zero_add] at J ⊢
    have hj : j < us.length := (List.getElem?_eq_some_iff.mp hu).1
    have hjx : j < xs.length := by rw [← hlu]; exact hj
    have hji : j < is.length := by rw [← hlk]; exact hjx
    have go := J.go
    rw [List.drop_eq_getElem_cons hjx, List.drop_eq_getElem_cons hji] at go
    obtain ⟨st1, fr, g1, g2⟩ := go
    have hv : ∃ v, vsV[j]? = some v ∧ RelV v u := by
      have hjv : j < vsV.length := by rw [rv.length]; exact hj
      obtain ⟨u', hu', r⟩ := rv.get (List.getElem?_eq_getElem hjv)
      rw [hu] at hu'
      cases hu'
      exact ⟨_, List.getElem?_eq_getElem hjv, r⟩
    obtain ⟨v, hv1, hv2⟩ := hv
    have rdj := rd.ext (J.ext.more ws.sub) ws.fl
    have hvd : RD X.K φ Hj v xs[j] := by
      obtain ⟨d, hd1, hd2⟩ := rdj.getV hv1
      rw [List.getElem?_eq_getElem hjx] at hd1
      cases hd1
      exact hd2
    have hcj : Hj c' = some (LamX.CodeO c' (X.env.qual ++ "<lambda>")) := J.ext.keep _ _ hc (hcne _ _ hc (fun ys z => by cases z)) (fun ps z => by cases z)
    have hz : kA.size ≤ us.length := by
      have h1 := J.ks.length
      rw [Array.length_toList, List.length_take] at h1
      omega
    have run := lm_run (A := X.A.in1.in1) (Q := fun v' H' => ∃ y fr', v' = V.int y ∧ y = is[j] ∧ Post X.K T φ ρ Hj H' (env.set i (some (.dat xs[j]))) (σ.set i (some v)) st1 (.dat (.int y) fr') v') J.I L hroom.hd rfl (by have := hroom.dp; show X.A.depth < _; omega) hi hN hv2 J.gF hbind hcj (hbody s' Hj)
      ⟨φ, ρ, env.set i (some (.dat xs[j])), stj, _, st1, J.ws, J.sl.set (s := .dat xs[j]) hvd, g1, fun v' H' p => ⟨is[j], fr, by cases (show RD X.K φ H' v' (.int is[j]) from p.rr); rfl, rfl, p⟩⟩
    refine wpAny_bind (wpAny_attempt (wpAny_call (codeAny_mono run fun r s2 hq => ?_)))
    match r, hq with
    | .ok (.ret u2), hq =>
      obtain ⟨v', H', os, bare, un, hok, rr, y, fr', ev, ey, p⟩ := hq
      obtain ⟨hh, g, dd, t, os'⟩ := s2
      obtain rfl : os' = s'.os := os
      have I2 : Inv X pins σ H' ⟨hh, g, dd, t, s'.os⟩ := J.I.call (h' := hh) (g' := g) (d' := dd) (t' := t) (ch := []) un hok bare (fun b z => absurd z (by simp))
      subst ev
      obtain ⟨tk2, rfl⟩ : ∃ tk2, u2 = Value.int y tk2 := rr
      have gK2 : hh.get? kS = some (seqObj "list" kA e) := un.keep kS _ J.gK J.nK nfK (by simp)
      have gA2 : hh.get? a = some (seqObj "list" #[] e1) := un.keep a _ J.gA J.nA nfA (by simp)
      have gF2 : hh.get? f = some _ := un.keep f _ J.gF J.nF hfr (by simp)
      have nK2 : H' kS = none := un.free kS _ J.gK J.nK (by simp)
      have nA2 : H' a = none := un.free a _ J.gA J.nA (by simp)
      have nF2 : H' f = none := un.free f _ J.gF J.nF (by simp)
      have s1 := Heap.SameBut.update hh kS (Obj.mapSeq (·.push (Value.int y tk2)))
      obtain ⟨c2, hc2⟩ : ∃ c2, (hh.update kS (Obj.mapSeq (·.push (Value.int y tk2)))).get? kS = some (seqObj "list" (kA.push (Value.int y tk2)) c2) := ⟨_, get?_update_seq gK2 (·.push (Value.int y tk2))⟩
      refine wpAny_bind (listUpdate_at gK2 rfl ?_ (Nat.le_trans hz hZ) (Nat.le_trans (Nat.le_of_eq (Array.size_push ..)) (Nat.succ_le_succ (Nat.le_trans hz hZ))))
      have kpU : ∀ b o, b ∉ [kS] → hh.get? b = some o → (hh.update kS (Obj.mapSeq (·.push (Value.int y tk2)))).get? b = some o := fun b o hb e => (s1.2 b (fun z => hb (by simp [z]))).trans e
      have hfK : f ≠ kS := fun z => by
        have q := Heap.lt_size hf
        rw [z] at q
        exact Nat.lt_irrefl _ (Nat.lt_of_lt_of_le q hsk)
      have I3 : Inv X pins σ H' { heap := hh.update kS (Obj.mapSeq (·.push (Value.int y tk2))), gens := g, drawn := dd, toks := t, os := s'.os } := I2.turnedL (t' := t) kpU (fun b hb => by rw [List.mem_singleton.mp hb]; exact fpK nK2)
      have ek : is.take (j + 1) = is.take j ++ [y] := by rw [List.take_add_one, List.getElem?_eq_getElem hji, ey]; rfl
      refine wpAny_pure ⟨rfl, H', st1, kA.push (Value.int y tk2), c2, ⟨I3, p.ws, J.sl.ext (p.ext.more J.ws.sub) J.ws.fl, J.ext.trans p.ext, nA2, nK2, nF2, hc2, (s1.2 a hka.symm).trans gA2, (s1.2 f hfK).trans gF2, ?_, g2⟩⟩
      rw [ek, Array.toList_push]
      exact PySem.W.each_snoc (R := fun (v : Value) (n : Int) => ∃ t, v = Value.int n t) ⟨tk2, rfl⟩ J.ks
  case done =>
    rintro s' ⟨Hn, stn, kA, e, J⟩
    simp only [Nat.zero_add] at J
    have go := J.go
    rw [List.drop_of_length_le (by omega), List.drop_of_length_le (by omega)] at go
    have go : stn = st2 := go
    subst go
    have ks := J.ks
    rw [List.take_of_length_le (by omega)] at ks
    have hks : PySem.W.EachIs (fun v d => ∃ as, Reads s'.heap v d as) kA.toList ((xs.zip is).map fun b => PyData.int b.2) := by
      rw [zip_snd_ints hlk]
      refine PySem.W.each_map (R := fun v d => ∃ as, Reads s'.heap v d as) PyData.int (ks.mono fun v n ⟨t, e⟩ => ?_)
      subst e
      exact ⟨[], .int _ _⟩
    have hal : PySem.W.AllAlike ((xs.zip is).map fun b => PyData.int b.2) := PySem.W.AllAlike.of fun _ _ => by simp [PySem.W.alike]
    have hsk' : PySem.W.Sortable ((xs.zip is).map fun b => PyData.int b.2) := PySem.W.Sortable.others fun b => ⟨by simp, fun _ => by simp⟩
    have hsz2 : kA.size = us.length := by
      have h1 := ks.length
      rw [Array.length_toList] at h1
      omega
    try dsimp only
    refine wpAny_bind (listItems_at J.gK rfl ?_)
    obtain ⟨G1, g1, g2⟩ := restrict s'.heap fun b => decide (b ≠ kS)
    obtain ⟨G2, g3, g4⟩ := restrict s'.heap fun b => decide (b ≠ kS ∧ b ≠ a)
    refine PySem.W.keyH_end (κ := PySem.W.dataKind s'.heap ((xs.zip is).map fun b => PyData.int b.2)) (h₁ := G1) (fun b o hb e => ?_) (g2 kS (by simp)) J.gK J.gA hka
      (PySem.W.SortsAt.data hks hal hsk' fun d hd => ?_) hsz2 hZ fun h3 tk3 c k3 n3 => ?_
    · by_cases hbk : b = kS
      · rw [hbk, g2 kS (by simp)] at e; cases e
      · rw [g1 b (by simp [hbk])] at e; exact e
    · obtain ⟨b, _, rfl⟩ := List.mem_map.mp hd
      have := hroom.un
      show X.A.units + 2 + (PyData.int b.2).depth < _
      simp only [PyData.depth]
      omega
    · have eo := PySem.W.sortVals_each (κ := PySem.W.dataKind s'.heap ((xs.zip is).map fun b => PyData.int b.2)) (rev := rev) (fun b : D × Int => PySem.W.keyToks (.int b.2)) (each_vals _ _ _ _ rv (rd.ext (J.ext.more ws.sub) ws.fl) hlk)
        (PySem.W.each_of_map (fun b : D × Int => PyData.int b.2) (PySem.W.each_keys hal hks))
      have ed : PySem.W.sortLe (PySem.W.dataKind s'.heap ((xs.zip is).map fun b => PyData.int b.2)).toKeyOrd rev (fun b : D × Int => PySem.W.keyToks (.int b.2)) = leK rev := le_data rev
      rw [ed, sortK_eq] at eo
      obtain ⟨outV, ov, od⟩ := vals_each eo
      have IG : Inv X pins σ Hn { s' with heap := G2 } := J.I.turnedL (t' := s'.toks) (ch := [kS, a]) (fun b o hb e => by rw [g3 b (by simpa using hb)]; exact e) (fun b hb => by
        rcases List.mem_cons.mp hb with z | z
        · rw [z]; exact fpK J.nK
        · rw [List.mem_singleton.mp z]; exact fpA J.nA)
      have k23 : ∀ b o, G2.get? b = some o → h3.get? b = some o := fun b o e => by
        by_cases hb : b ≠ kS ∧ b ≠ a
        · rw [g3 b (by simpa using hb)] at e
          exact k3 b o hb.2 (by rw [g1 b (by simpa using hb.1)]; exact e)
        · rw [g4 b (by simpa using hb)] at e; cases e
      have hlo : outV.length ≤ sizeLine := by
        rw [od.length, List.length_map, ← sortK_eq, List.length_mergeSort, List.length_zip, sizeLine_eq]
        omega
      refine ⟨rfl, .ref a, upd Hn a (.lst outV), IG.laidN (t' := tk3) k23 (g4 a (by simp)) J.nA ⟨hlo, _, c, ov, n3⟩, rfl, ?_⟩
      exact hQ a _ ((Post.lst J.ws J.sl J.nA od).pre J.ext)
end
end Ev
set_option linter.all false
set_option maxRecDepth 100000
set_option maxHeartbeats 4000000
/-! EvM: a lambda is made; sorted, as a rule. -/
namespace Ev
open PySem PySem.Spec L2 PyProof.Rows
section
variable {X : Cx} {pins : List (Addr × Obj)} {σ : L2.St} {H : Hp} {s : Shared} {T : List (Addr × Str)}
/-- what the making of a lambda does to what is tracked -/
def MadeL (H H1 : Hp) (P c' : Addr) (q : Str) : Prop := H1 = H ∨ ∃ (tb more : Array Value), H P = some (.tbl tb) ∧ H c' = none ∧ H1 = upd (upd H P (.tbl (tb ++ more))) c' (LamX.CodeO c' q)
theorem lm_make {cd P : Addr} {params : Arguments} {body : Expr} {scope : Scope} {pos : Pos} {E : Value → Shared → Prop} {Q : Value → Shared → Prop} {q : Str} (hq : X.env.qual ++ "<lambda>" = q) (I : Inv X pins σ H s) (TB : LamX.TabB X.base X.mg cd P) (hcode : X.env.code = .ref cd)
    (hm : (P, q) ∈ T) (hu : ∀ p ∈ T, p.1 = P → p.2 = q) (hT : LamX.Tabs T H) (hdef : defaultsOf params X.env = ([], [])) (hfree : ∀ y ∈ scope.names, y.2 = .free → ∃ c, X.env.cells.lookup y.1 = some c)
    (h : ∀ (f c' : Addr) (pm ctv : Value) (H1 : Hp) (s' : Shared), Inv X pins σ H1 s' → MadeL H H1 P c' q → LamX.Tabs T H1 →
      s'.heap.get? f = some (PySem.W.kla_obj "<lambda>" q params body scope (cloFrom X.env.cells scope.names []) pm c' ctv) → H1 f = none → f ∉ frs X.stack → H1 c' = some (LamX.CodeO c' q) → s'.heap.objs.size = f + 1 → Q (.ref f) s') :
    wpAny (model X.prog X.w) X.A (eval (.Lambda params body scope pos) X.env) Q E s := by
  subst hq
  obtain ⟨tb, tP, tOk, tIn⟩ := hT _ hm
  have gP : s.heap.get? P = some { cls := .none, data := .fields tb } := I.hok P _ tP
  have bP : s.heap.BuiltinsAt X.mg P := TB.bm.keeps I.bk
  have out : ∀ f, s.heap.objs.size ≤ f → f ∉ frs X.stack := fun f hf z => by
    rcases List.mem_cons.mp (I.stkSub _ z) with e | e
    · have lt := I.lt
      rw [← e] at lt
      exact absurd (Nat.lt_of_lt_of_le lt hf) (Nat.lt_irrefl _)
    · exact I.nofs hf e
  refine PySem.W.kla_eval hdef ?_
  cases hca : codeAmong pos tb.toList with
  | some cv =>
    obtain ⟨c', rfl, at'⟩ := tIn pos cv hca
    refine PySem.W.kla_makeFunctionHit (mg := X.mg) (c := cd) (P := P) (ps := tb) (closure_ok hfree) I.ok.glob (I.mod.glob.keeps I.bk) hcode (TB.code.keeps I.bk) gP tOk hca bP fun ctv h' tk hx hsz => ?_
    exact h h'.objs.size c' _ ctv H _ (I.kept (t' := tk) fun b o e => Heap.get?_push_of_some _ (hx b o e)) (.inl rfl) hT (Heap.get?_push_size _ rfl) (I.hok.fresh hsz) (out _ hsz) at' (Heap.size_push ..)
  | none =>
    refine PySem.W.kla_makeFunction (mg := X.mg) (c := cd) (P := P) (ps := tb) (closure_ok hfree) I.ok.glob (I.mod.glob.keeps I.bk) hcode (TB.code.keeps I.bk) gP tOk hca TB.gP bP fun c' ctv h' tk hx hge hlt hrec htb => ?_
    obtain ⟨c2, oc, vs, t, e2, hoc, hd, hv⟩ := hrec
    cases e2
    have nc : H c' = none := I.hok.fresh hge
    have hsz : s.heap.objs.size ≤ h'.objs.size := Nat.le_trans hge (Nat.le_of_lt hlt)
    have made : MadeL H (upd (upd H P (.tbl (tb ++ #[rawInt pos.line, rawInt pos.col, .ref c']))) c' (LamX.CodeO c' (X.env.qual ++ "<lambda>"))) P c' (X.env.qual ++ "<lambda>") := .inr ⟨tb, _, tP, nc, rfl⟩
    have I1 := LamX.inv_table (t' := tk) (more := #[rawInt pos.line, rawInt pos.col, .ref c']) (h' := h'.push (PySem.W.kla_obj "<lambda>" (X.env.qual ++ "<lambda>") params body scope (cloFrom X.env.cells scope.names []) ((X.mg "__name__").getD .none) c' ctv)) I tP
      (fun b o hb e => Heap.get?_push_of_some _ (hx b o hb e)) (Heap.get?_push_of_some _ htb) hge ⟨oc, vs, t, Heap.get?_push_of_some _ hoc, hd, hv⟩
    have same : ∀ b o, H b = some o → (∀ ps, o ≠ .tbl ps) → upd (upd H P (.tbl (tb ++ #[rawInt pos.line, rawInt pos.col, .ref c']))) c' (LamX.CodeO c' (X.env.qual ++ "<lambda>")) b = some o := fun b o e n => by
      have hb : b ≠ P := fun z => by rw [z, tP] at e; exact n _ (Option.some.inj e).symm
      rw [upd_ne (ne_of_none e nc), upd_ne hb]
      exact e
    have lst : (tb ++ #[rawInt pos.line, rawInt pos.col, .ref c']).toList = tb.toList ++ [rawInt pos.line, rawInt pos.col, .ref c'] := by simp
    refine h h'.objs.size c' _ ctv _ _ I1 made (fun p hp => ?_) (Heap.get?_push_size _ rfl) ?_ (out _ hsz) upd_same (Heap.size_push ..)
    · by_cases hb : p.1 = P
      · refine ⟨tb ++ #[rawInt pos.line, rawInt pos.col, .ref c'], by rw [hb, upd_ne (ne_of_none tP nc), upd_same], by rw [lst]; exact PySem.TriplesOk_snoc _ _ _ _ tOk, fun p' cv hcv => ?_⟩
        rw [hu p hp hb]
        rw [lst] at hcv
        rcases LamX.among_app _ tOk hcv with z | z
        · obtain ⟨c0, k1, k2⟩ := tIn p' cv z
          exact ⟨c0, k1, same _ _ k2 (LamX.codeO_ne)⟩
        · exact ⟨c', z, upd_same⟩
      · obtain ⟨t2, k1, k2, k3⟩ := hT p hp
        refine ⟨t2, by rw [upd_ne (ne_of_none k1 nc), upd_ne hb]; exact k1, k2, fun p' cv hcv => ?_⟩
        obtain ⟨c0, k4, k5⟩ := k3 p' cv hcv
        exact ⟨c0, k4, same _ _ k5 (LamX.codeO_ne)⟩
    · rw [upd_ne (Nat.ne_of_gt hlt), upd_ne (Nat.ne_of_gt (Nat.lt_of_lt_of_le (Heap.lt_size gP) hsz))]
      exact I.hok.fresh hsz
theorem MadeL.ext {H1 : Hp} {P c' : Addr} {q : Str} {ρ : List Addr} (m : MadeL H H1 P c' q) : Ext ρ H H1 := by
  rcases m with rfl | ⟨tb, more, h1, h2, rfl⟩
  · exact .refl _ _
  · refine ⟨fun b o e _ n => ?_, fun b e => ?_⟩
    · have hb : b ≠ P := fun z => by rw [z, h1] at e; exact n _ (Option.some.inj e).symm
      rw [upd_ne (ne_of_none e h2), upd_ne hb]
      exact e
    · by_cases z : b = c'
      · rw [z]; exact h2
      · rw [upd_ne z] at e
        by_cases z2 : b = P
        · rw [z2, upd_same] at e; cases e
        · rw [upd_ne z2] at e; exact e
theorem MadeL.ws {K : PySem.W.Frag} {H1 : Hp} {P c' : Addr} {q : Str} {φ ρ : List Addr} {st : Sto} (m : MadeL H H1 P c' q) (t : LamX.Tabs T H1) (w : Ws K T φ ρ H st) : Ws K T φ ρ H1 st := by
  have x : Ext φ H H1 := m.ext
  refine ⟨w.len, fun n ds e => ?_, w.nd, w.sub, fun a ha => ?_, t, fun a ps e => ?_⟩
  · obtain ⟨a, xs, h1, h2, h3⟩ := w.sto n ds e
    exact ⟨a, xs, h1, (m.ext (ρ := [])).keep _ _ h2 (by simp) (fun _ z => by cases z), h3.ext x w.fl⟩
  · obtain ⟨xs, e⟩ := w.fx a ha
    exact ⟨xs, (m.ext (ρ := [])).keep _ _ e (by simp) (fun _ z => by cases z)⟩
  · rcases m with rfl | ⟨tb, more, h1, h2, rfl⟩
    · exact w.tab.2 a ps e
    · by_cases z : a = c'
      · rw [z, upd_same] at e
        exact absurd (Option.some.inj e) (LamX.codeO_ne ps)
      · rw [upd_ne z] at e
        by_cases z2 : a = P
        · rw [z2]; exact w.tab.2 P tb h1
        · rw [upd_ne z2] at e; exact w.tab.2 a ps e
end
theorem sortE_some {F : D → Sto → Option (ER × Sto)} {rev : Bool} {xs : List D} {st st2 : Sto} {r : ER} (h : sortE F rev xs st = some (r, st2)) : ∃ is, KeysR F xs st is st2 ∧ xs.length ≤ 1000 ∧ r = .dat (.list ((sortK rev (xs.zip is)).map (·.1))) true := by
  unfold sortE at h
  split at h
  · rename_i ks st2 h1
    split at h
    · rename_i is h2
      split at h
      · rename_i hl
        cases h
        exact ⟨is, keysR_of F _ _ _ _ _ h1 h2, hl, rfl⟩
      · cases h
    · cases h
  · cases h
/-- where lambdas may be made -/
structure LamI (X : Cx) (T : List (Addr × Str)) (q : Str) : Prop where
  ex : ∃ c P, X.env.code = .ref c ∧ LamX.TabB X.base X.mg c P ∧ (P, q) ∈ T ∧ ∀ p ∈ T, p.1 = P → p.2 = q
  q : X.env.qual ++ "<lambda>" = q
/-- a lambda of one parameter, plainly -/
def lamP (x : Str) (p : Arguments) : Bool := match p with
  | ⟨[], [⟨y, _, _⟩], none, [], [], none, []⟩ => decide (x = y)
  | _ => false
theorem lamP_bind {x : Str} {params : Arguments} {body : Expr} {scope : Scope} (h : lamP x params = true) (q : Str) (cl : List (Str × Addr)) (pm cv ctv : Value) (u : Value) : bindArgs (PySem.W.kla_fn "<lambda>" q params body scope cl pm cv ctv) ⟨[u], []⟩ = pure [(x, u)] := by
  unfold lamP at h
  split at h
  · have h := of_decide_eq_true h
    subst h
    have hx : (x == x) = true := beq_self_eq_true x
    unfold bindArgs
    simp [PySem.W.kla_fn, seqItems?, List.lookup]
    rfl
  · cases h
theorem lamP_dflt {x : Str} {params : Arguments} {env : PySem.Env} (h : lamP x params = true) : defaultsOf params env = ([], []) := by
  unfold lamP at h
  split at h
  · rfl
  · cases h
/-- the keywords of the sort -/
def kwS (rev : Bool) (kws : List Keyword) (params : Arguments) (body : Expr) (scope : Scope) : Prop :=
  (∃ lp kp, kws = [⟨some (Str.ofString "key"), .Lambda params body scope lp, kp⟩] ∧ rev = false) ∨
  (∃ lp kp b j bp kp2, kws = [⟨some (Str.ofString "key"), .Lambda params body scope lp, kp⟩, ⟨some (Str.ofString "reverse"), .Constant (.bool b) j bp, kp2⟩] ∧ rev = b)
section
variable {X : Cx} {G : Pk} {cl : Str → List SV → Sto → Option (ER × Sto)} {T : List (Addr × Str)} {q x : Str} {params : Arguments} {body : Expr} {scope : Scope} {kws : List Keyword} {rev : Bool} {i : Nat} {k' a' : IE}
/-- the keywords evaluated: the lambda f, and what is handed on -/
theorem kws_run {pins : List (Addr × Obj)} {σ : L2.St} {H : Hp} {s : Shared} {pos : Pos} {R : List Value → Shared → Prop} (hk : kwS rev kws params body scope) (I : Inv X pins σ H s) (lam : LamI X T q) (L : Lm X.env.scope scope x) (hp : lamP x params = true) (hT : LamX.Tabs T H)
    (h : ∀ (f c' P : Addr) (pm ctv : Value) (H1 : Hp) (s' : Shared) (kvs : List Value), Inv X pins σ H1 s' → MadeL H H1 P c' q → LamX.Tabs T H1 →
      s'.heap.get? f = some (PySem.W.kla_obj "<lambda>" (X.env.qual ++ "<lambda>") params body scope (cloFrom X.env.cells scope.names []) pm c' ctv) → H1 f = none → f ∉ frs X.stack → H1 c' = some (LamX.CodeO c' (X.env.qual ++ "<lambda>")) → s'.heap.objs.size = f + 1 →
      (∀ (src : Value), argsOk "sorted" ⟨[src], ((backToKw pos (keywordEach kws X.env)).filterMap (·.1)).zip kvs⟩) → (∀ (src : Value), argsOk "list.sort" ⟨[src], ((backToKw pos (keywordEach kws X.env)).filterMap (·.1)).zip kvs⟩) →
      (∀ a, Builtin.«list.sort» ⟨[.ref a], ((backToKw pos (keywordEach kws X.env)).filterMap (·.1)).zip kvs⟩ = ksk_tree a (.ref f) rev) → R kvs s') :
    wpAny (model X.prog X.w) X.A (evalAll ((backToKw pos (keywordEach kws X.env)).map (·.2))) R X.xe s := by
  obtain ⟨cd, P, hcode, TB, hm, hu⟩ := lam.ex
  have hq := lam.q
  rcases hk with ⟨lp, kp, rfl, rfl⟩ | ⟨lp, kp, b, j, bp, kp2, rfl, rfl⟩
  · show wpAny _ _ (evalAll [(do let v ← eval (.Lambda params body scope lp) X.env; standAt pos; pure v)]) _ _ s
    refine wpAny_evalAll_cons (wpAny_bind (lm_make hq I TB hcode hm hu hT (lamP_dflt hp) (L.has I.ok) fun f c' pm ctv H1 s' I1 m t hf hn hfr hc hsf => wpAny_bind (wpAny_standAt (wpAny_pure (wpAny_evalAll_nil ?_)))))
    exact h f c' P pm ctv H1 s' _ I1 m t (by rw [hq]; exact hf) hn hfr (by rw [hq]; exact hc) hsf (fun src => ksk_s1 _ _) (fun src => ksk_l1 _ _) fun a => ksk_t1 _ _
  · show wpAny _ _ (evalAll [(do let v ← eval (.Lambda params body scope lp) X.env; standAt pos; pure v), (do let v ← eval (.Constant (.bool rev) j bp) X.env; standAt pos; pure v)]) _ _ s
    refine wpAny_evalAll_cons (wpAny_bind (lm_make hq I TB hcode hm hu hT (lamP_dflt hp) (L.has I.ok) fun f c' pm ctv H1 s' I1 m t hf hn hfr hc hsf => wpAny_bind (wpAny_standAt (wpAny_pure ?_))))
    refine wpAny_evalAll_cons (wpAny_bind (Constant_bool (wpAny_bind (wpAny_standAt (wpAny_pure (wpAny_evalAll_nil ?_))))))
    exact h f c' P pm ctv H1 s' _ I1 m t (by rw [hq]; exact hf) hn hfr (by rw [hq]; exact hc) hsf (fun src => ksk_s2 _ _ _) (fun src => ksk_l2 _ _ _) fun a => ksk_t2 _ _ _
theorem kws_flat (hk : kwS rev kws params body scope) (pos : Pos) (env : PySem.Env) : (backToKw pos (keywordEach kws env)).all (·.1.isSome) = true ∧ (backToKw pos (keywordEach kws env)).any (·.1.isNone) = false := by
  rcases hk with ⟨lp, kp, rfl, rfl⟩ | ⟨lp, kp, b, j, bp, kp2, rfl, rfl⟩ <;> exact ⟨rfl, rfl⟩
theorem ok_sortl {a : Expr} {p pos : Pos} (hk : kwS rev kws params body scope) (lam : LamI X T q) (L : Lm X.env.scope scope x) (hp : lamP x params = true) (hg : Gl X "sorted") (hm : X.mg "sorted" = none) (hroom : Room 0 X.A) (hi : X.N[i]? = some x) (hN : X.N.Nodup)
    (ha : PE X a (tF X.K T (evE G cl a'))) (hpl : pln a = true)
    (hbody : ∀ (s : Shared) (H : Hp) (f c' : Addr), PE (lmCx X X.A.in1.in1 s H scope f c' x) body (tF X.K T (evE G cl k'))) :
    PE X (.Call (.Name "sorted" p) [a] kws pos) (tF X.K T (evE G cl (.sortl a' i k' rev))) := by
  refine ⟨fun pins s σ H Q I qq => ?_⟩
  obtain ⟨φ, ρ, env, st, x0, st', ws, sl, he, k⟩ := qq
  simp only [evE] at he
  split at he
  · rename_i xr st1 h1
    split at he
    · rename_i xs h2
      obtain ⟨is, hkeys, hlen, rfl⟩ := sortE_some he
      refine wpAny_Call_Name_kw (ld_blt I hg hm boot_sorted ?_ (by decide) (by decide))
      have hargs := pa_cons (es := []) ha pa_nil (pln_star hpl _ _)
      refine PyProof.Rows.callWith_kw (thn (hargs.run pos pins s σ H (fun vs H1 => ∃ v, vs = [v] ∧ PostB X.K T φ ρ H H1 env σ st1 ∧ RR X.K φ ρ H1 xr v) I (seq1 ws sl h1 fun u H1 w1 s1 e1 r1 => ⟨u, rfl, ⟨w1, s1, e1⟩, r1⟩)) fun us s1 q1 => ?_) (by rw [pln_star hpl]; rfl) (by rw [pln_star hpl]; rfl) (kws_flat hk pos _).1 (kws_flat hk pos _).2
      obtain ⟨vs, H1, I1, rvs, v, rfl, pb, rr⟩ := q1
      cases rvs with
      | cons r0 rn =>
        cases rn
        refine kws_run hk I1 lam L hp pb.ws.tab.1 fun f c' P pm ctv H2 s2 kvs I2 made tabs hf hfn hfr hc hsf ao1 ao2 ht => ?_
        have w2 := made.ws tabs pb.ws
        have x2 : Ext φ H1 H2 := made.ext
        have rr2 := RS.ext x2 pb.ws.fl rr
        obtain ⟨l, vsV, rfl, hsq, rds⟩ := rd_view w2 rr2 h2
        obtain rfl : _ = Value.ref l := r0
        obtain ⟨its, rvl, hl, hz⟩ := I2.list (.inl (.inl hsq))
        refine sorted_shell (Pu := fun us h' => us = its ∧ s2.heap.objs.size ≤ h'.objs.size) (ao1 _) (fun x => ao2 _) (fun A' E' Q' _ hq => col_list hl.isList (by rw [← rvl.length]; exact hz) A' E' Q' hq) (fun us h' hu => by rw [hu.1, ← rvl.length]; exact hz) (fun us h' tk kp hu E' => ?_)
        obtain ⟨rfl, hsz⟩ := hu
        rw [ht]
        exact ksk_core I2 w2 (pb.sl.ext x2 pb.ws.fl) L hroom hi hN hf hfn hfr (lamP_bind hp) hc (fun s H => hbody s H f c') rvl rds hlen hkeys kp hsz fun p H' pp => k _ _ (pp.pre (pb.ext.trans made.ext))
    · cases he
  · cases he
theorem vals_nats : ∀ (l : List Value) (off : Nat), (∀ (j : Nat) v, l[j]? = some v → ∃ t, v = Value.int ((off + j : Nat) : Int) t) → Vals ((List.range' off l.length).map fun k => V.int ((k : Nat) : Int)) l
  | [], _, _ => .nil
  | v :: l, off, h => by
    have h0 := h 0 v rfl
    rw [List.length_cons, List.range'_succ, List.map_cons]
    refine .cons h0 (vals_nats l (off + 1) fun j u hu => ?_)
    have := h (j + 1) u (by simpa using hu)
    rw [show off + 1 + j = off + (j + 1) by omega]
    exact this
theorem rds_nats {K : PySem.W.Frag} {φ : List Addr} {H : Hp} : ∀ (l : List Nat), RDs K φ H (l.map fun k => V.int ((k : Nat) : Int)) (l.map fun k => PyData.int (0 + ((k : Nat) : Int)))
  | [] => .nil
  | k :: l => by
    refine .cons ?_ (rds_nats l)
    show RD K φ H (V.int ((k : Nat) : Int)) (PyData.int (0 + ((k : Nat) : Int)))
    rw [Int.zero_add]
    exact .int _
theorem ok_sortr {a : Expr} {p p2 pos2 pos : Pos} (hk : kwS rev kws params body scope) (lam : LamI X T q) (L : Lm X.env.scope scope x) (hp : lamP x params = true) (hg : Gl X "sorted") (hm : X.mg "sorted" = none) (hgr : Gl X "range") (hmr : X.mg "range" = none) (hroom : Room 0 X.A) (hi : X.N[i]? = some x) (hN : X.N.Nodup)
    (ha : PE X a (tF X.K T (evE G cl a'))) (hpl : pln a = true)
    (hbody : ∀ (s : Shared) (H : Hp) (f c' : Addr), PE (lmCx X X.A.in1.in1 s H scope f c' x) body (tF X.K T (evE G cl k'))) :
    PE X (.Call (.Name "sorted" p) [.Call (.Name "range" p2) [a] [] pos2] kws pos) (tF X.K T (evE G cl (.sortr a' i k' rev))) := by
  refine ⟨fun pins s σ H Q I qq => ?_⟩
  obtain ⟨φ, ρ, env, st, x0, st', ws, sl, he, k⟩ := qq
  simp only [evE] at he
  split at he
  · rename_i n fr st1 h1
    split at he
    · rename_i hn
      obtain ⟨is, hkeys, hlen, rfl⟩ := sortE_some he
      refine wpAny_Call_Name_kw (ld_blt I hg hm boot_sorted ?_ (by decide) (by decide))
      have hargs := pa_cons (es := []) ha pa_nil (pln_star hpl _ _)
      refine PyProof.Rows.callWith_kw ?_ rfl rfl (kws_flat hk pos _).1 (kws_flat hk pos _).2
      show wpAny _ _ (spliced ((false, eval (.Call (.Name "range" p2) [a] [] pos2) X.env) :: backTo pos (starEach [] X.env))) _ _ s
      refine Calls.spliced_cons (Call_ (ld_blt I hgr hmr boot_range (PyProof.Rows.callWith_type1 (thn (hargs.run pos2 pins s σ H (fun vs H1 => vs = [V.int n] ∧ PostB X.K T φ ρ H H1 env σ st1) I (seq1 ws sl h1 fun u H1 w1 s1 e1 r1 => ⟨by cases (show RD X.K φ H1 u (.int n) from r1); rfl, ⟨w1, s1, e1⟩⟩)) fun us s1 q1 => ?_) (pln_star hpl _ _) rfl)))
      obtain ⟨vs, H1, I1, rvs, rfl, pb⟩ := q1
      cases rvs with
      | cons r0 rn =>
        cases rn
        obtain ⟨t, rfl⟩ := r0
        refine call_range_1 ?_
        refine Calls.spliced_nil ?_
        -- the range stands, pinned
        have kp0 : ∀ b o, s1.heap.get? b = some o → (s1.heap.push { cls := .type "range", data := .fields #[.int 0 s1.toks, .int n t, .int 1 (s1.toks + 1)] }).get? b = some o := fun b o e => Heap.get?_push_of_some _ e
        have I1' : Inv X pins σ H1 { s1 with heap := s1.heap.push { cls := .type "range", data := .fields #[.int 0 s1.toks, .int n t, .int 1 (s1.toks + 1)] }, toks := s1.toks + 1 + 1 } := I1.kept kp0
        have I1p : Inv X ((s1.heap.objs.size, { cls := .type "range", data := .fields #[.int 0 s1.toks, .int n t, .int 1 (s1.toks + 1)] }) :: pins) σ H1 { s1 with heap := s1.heap.push { cls := .type "range", data := .fields #[.int 0 s1.toks, .int n t, .int 1 (s1.toks + 1)] }, toks := s1.toks + 1 + 1 } := by
          refine I1'.pins_of fun pp hpp => ?_
          rcases List.mem_cons.mp hpp with rfl | hpp
          · exact ⟨Heap.get?_push_size _ rfl, I1.hok.fresh (Nat.le_refl _), Nat.ne_of_gt I1.lt, I1.nofs (Nat.le_refl _), fun v z => by cases z⟩
          · exact I1'.pin pp (List.mem_append_right _ hpp)
        refine kws_run hk I1p lam L hp pb.ws.tab.1 fun f c' P pm ctv H2 s2 kvs I2 made tabs hf hfn hfr hc hsf ao1 ao2 ht => ?_
        have w2 := made.ws tabs pb.ws
        have x2 : Ext φ H1 H2 := made.ext
        have hr := (I2.pin (s1.heap.objs.size, { cls := .type "range", data := .fields #[.int 0 s1.toks, .int n t, .int 1 (s1.toks + 1)] }) (List.mem_append_right _ (List.mem_cons_self ..))).1
        have hr : IsRange s2.heap s1.heap.objs.size 0 n 1 s1.toks t (s1.toks + 1) := hr
        have hsm : Builtin.Range.small 0 n 1 = true := small_one (by omega) (by omega) (by omega) (by omega)
        have hrs : Builtin.Range.rangeSize 0 n 1 = (n.toNat : Nat) := by rw [rangeSize_one]; split <;> omega
        refine wpAny_mono (Q := EP X ((s1.heap.objs.size, { cls := .type "range", data := .fields #[.int 0 s1.toks, .int n t, .int 1 (s1.toks + 1)] }) :: pins) σ Q) ?_ (fun v s' hv => ?_) (fun _ _ z => z)
        · refine sorted_shell (Pu := fun us h' => Vals ((List.range' 0 n.toNat).map fun k => V.int ((k : Nat) : Int)) us ∧ s2.heap.objs.size ≤ h'.objs.size) (ao1 _) (fun x => ao2 _) (fun A' E' Q' hA hq => ?_) (fun us h' hu => ?_) (fun us h' tk kp hu E' => ?_)
          · refine collect_range (hA.trans hroom.hd) hr hsm hrs (by omega) fun h' tk acc kp hacc => hq _ _ _ kp ⟨?_, ?_⟩
            · have hz : acc.toList.length = n.toNat := by rw [Array.length_toList]; exact hacc.1
              rw [← hz]
              refine vals_nats acc.toList 0 fun j v hv => ?_
              obtain ⟨t', e⟩ := hacc.2 j v (by simpa using hv)
              refine ⟨t', ?_⟩
              rw [e]
              congr 1
              omega
            · rw [hsf]
              exact Heap.lt_size (kp f _ hf)
          · rw [← hu.1.length, List.length_map, List.length_range', sizeLine_eq]
            omega
          · rw [ht]
            refine ksk_core I2 w2 (pb.sl.ext x2 pb.ws.fl) L hroom hi hN hf hfn hfr (lamP_bind hp) hc (fun s H => hbody s H f c') hu.1 (xs := rngD 0 n) ?_ hlen hkeys kp hu.2 fun p H' pp => k _ _ (pp.pre (pb.ext.trans made.ext))
            unfold rngD
            rw [Int.sub_zero, List.range_eq_range']
            exact rds_nats _
        · obtain ⟨w', H', I', r', q'⟩ := hv
          exact ⟨w', H', I'.pins_of fun p hp => I'.pin p (List.mem_append_right _ (List.mem_cons_of_mem _ hp)), r', q'⟩
    · cases he
  · cases he
end
end Ev
set_option linter.all false
set_option maxRecDepth 100000
set_option maxHeartbeats 4000000
/-! Ev10: statements: what they work out to, and their readings. -/
namespace Ev
open PySem PySem.Spec L2
variable {K : PySem.W.Frag} {T : List (Addr × Str)} {X : Cx} {G : Pk} {cl : Str → List SV → Sto → Option (ER × Sto)}

/-- name = ..: a list just made comes to stand in the store, if its name is one whose list is changed -/
def stoE (mu : List Nat) (i : Nat) (r : ER) (env : Env) (st : Sto) : Env × Sto :=
  match r, mu.contains i with
  | .dat (.list ds) true, true => (env.set i (some (.loc st.length)), st ++ [ds])
  | r, _ => (env.set i (some (svE r)), st)
def keepFl (kp : List (Nat × List D)) : Fl → Bool
  | .nx _ st => keptL st kp
  | .ct _ st => keptL st kp
  | _ => true
section
variable (G : Pk) (cl : Str → List SV → Sto → Option (ER × Sto)) (mu : List Nat)
/-- a, b = x, y: the values, one after another -/
def evP : List (Nat × IE) → Env → Sto → Option (List (Nat × SV) × Sto)
  | [], _, st => some ([], st)
  | (i, e) :: r, env, st => match evE G cl e env st with
    | some (.dat (.list ds) true, st1) => match mu.contains i with
      | true => match evP r env (st1 ++ [ds]) with
        | some (ss, st2) => some ((i, .loc st1.length) :: ss, st2)
        | none => none
      | false => match evP r env st1 with
        | some (ss, st2) => some ((i, .dat (.list ds)) :: ss, st2)
        | none => none
    | some (x, st1) => match evP r env st1 with
      | some (ss, st2) => some ((i, svE x) :: ss, st2)
      | none => none
    | none => none
def setAll : List (Nat × SV) → Env → Env
  | [], env => env
  | (i, s) :: r, env => setAll r (env.set i (some s))
mutual
def evS : IS → Env → Sto → Option Fl
  | .asg (.nm i) e, env, st => match evE G cl e env st with
    | some (r, st1) => let p := stoE mu i r env st1; some (.nx p.1 p.2)
    | none => none
  | .asg (.tp ts) e, env, st => match evE G cl e env st with
    | some (.dat d _, st1) => match bindT (.tp ts) d env with
      | some env1 => some (.nx env1 st1)
      | none => none
    | _ => none
  | .par is es, env, st => match evP G cl mu (is.zip es) env st with
    | some (ss, st1) => some (.nx (setAll ss env) st1)
    | none => none
  | .seti i a e, env, st => match evE G cl e env st with
    | some (.dat d _, st1) => match env[i]? with
      | some (some (.loc n)) => match evE G cl a env st1 with
        | some (.dat (.int k) _, st2) => match st2[n]? with
          | some xs => match ixN xs.length k with
            | some j => some (.nx env (st2.set n (xs.set j d)))
            | none => none
          | none => none
        | _ => none
      | _ => none
    | _ => none
  | .app i e, env, st => match env[i]? with
    | some (some (.loc n)) => match evE G cl e env st with
      | some (.dat d _, st1) => match st1[n]? with
        | some xs => if xs.length < sizeLine then some (.nx env (st1.set n (xs ++ [d]))) else none
        | none => none
      | _ => none
    | _ => none
  | .ins i a e, env, st => match env[i]? with
    | some (some (.loc n)) => match evE G cl a env st with
      | some (.dat (.int k) _, st0) => match evE G cl e env st0 with
        | some (.dat d _, st1) => match st1[n]? with
          | some xs => if xs.length < sizeLine ∧ 0 ≤ k ∧ k < 2 ^ 63 then some (.nx env (st1.set n (xs.take k.toNat ++ d :: xs.drop k.toNat))) else none
          | none => none
        | _ => none
      | _ => none
    | _ => none
  | .exp e, env, st => match evE G cl e env st with
    | some (_, st1) => some (.nx env st1)
    | none => none
  | .ite c a b, env, st => match tstE (evE G cl c env st) with
    | some (true, st1) => evSs a env st1
    | some (false, st1) => evSs b env st1
    | none => none
  | .loop t it b, env, st => match evI G cl it env st with
    | some (xs, kp, st1) => forL (fun d env s => match bindT t d env with
        | some env1 => match evSs b env1 s with
          | some f => if keepFl kp f then some f else none
          | none => none
        | none => none) xs env st1
    | none => none
  | .whl c b, env, st => whlL (fun env st => tstE (evE G cl c env st)) (fun env st => evSs b env st) G.wf env st
  | .ret none, env, st => some (.rt (.dat .none false) st)
  | .ret (some e), env, st => match evE G cl e env st with
    | some (r, st1) => some (.rt r st1)
    | none => none
  | .nev, _, _ => none
  | .pas, env, st => some (.nx env st)
  | .brk, env, st => some (.bk env st)
  | .cnt, env, st => some (.ct env st)
def evSs : List IS → Env → Sto → Option Fl
  | [], env, st => some (.nx env st)
  | s :: ss, env, st => match evS s env st with
    | some (.nx env1 st1) => evSs ss env1 st1
    | r => r
end
end

/-! ### readings -/
/-- the heap and the store go on -/
structure Gs (φ ρ : List Addr) (H : Hp) (φ' ρ' : List Addr) (H' : Hp) : Prop where
  ext : Ext ρ H H'
  pre : ∃ more, φ' = φ ++ more ∧ ρ' = ρ ++ more ∧ ∀ a ∈ more, H a = none
theorem Gs.refl (φ ρ : List Addr) (H : Hp) : Gs φ ρ H φ ρ H := ⟨.refl _ _, [], by simp, by simp, by simp⟩
theorem Gs.of {φ ρ : List Addr} {H H' : Hp} (x : Ext ρ H H') : Gs φ ρ H φ ρ H' := ⟨x, [], by simp, by simp, by simp⟩
theorem Gs.trans {φ ρ φ1 ρ1 φ2 ρ2 : List Addr} {H H1 H2 : Hp} (a : Gs φ ρ H φ1 ρ1 H1) (b : Gs φ1 ρ1 H1 φ2 ρ2 H2) : Gs φ ρ H φ2 ρ2 H2 := by
  obtain ⟨x, m1, rfl, rfl, h1⟩ := a
  obtain ⟨y, m2, rfl, rfl, h2⟩ := b
  refine ⟨⟨fun c o e n t => y.keep c o (x.keep c o e n t) (fun z => ?_) t, fun c e => x.dom c (y.dom c e)⟩, m1 ++ m2, by rw [List.append_assoc], by rw [List.append_assoc], fun c hc => ?_⟩
  · rcases List.mem_append.mp z with z | z
    · exact n z
    · rw [h1 c z] at e; cases e
  · rcases List.mem_append.mp hc with h | h
    · exact h1 c h
    · exact x.dom c (h2 c h)
theorem Gs.gr {φ ρ φ' ρ' : List Addr} {H H' : Hp} (g : Gs φ ρ H φ' ρ' H') (sub : ∀ a ∈ ρ, a ∈ φ) : Gr φ φ' H H' := by
  obtain ⟨x, m, rfl, rfl, h⟩ := g
  exact ⟨x.more sub, m, rfl, h⟩
structure NxP (K : PySem.W.Frag) (T : List (Addr × Str)) (φ ρ : List Addr) (H : Hp) (env' : Env) (st' : Sto) (φ' ρ' : List Addr) (σ' : L2.St) (H' : Hp) : Prop where
  ws : Ws K T φ' ρ' H' st'
  sl : Sl K φ' ρ' H' env' σ'
  gs : Gs φ ρ H φ' ρ' H'
structure RtP (K : PySem.W.Frag) (T : List (Addr × Str)) (φ ρ : List Addr) (H : Hp) (r : ER) (st' : Sto) (φ' ρ' : List Addr) (v : V) (H' : Hp) : Prop where
  post : Post K T φ' ρ' H H' [] [] st' r v
  gs : Gs φ ρ H φ' ρ' H'
def EndOk (K : PySem.W.Frag) (T : List (Addr × Str)) (φ ρ : List Addr) (H : Hp) (D : Ends) : Fl → Prop
  | .nx env' st' => ∀ φ' ρ' σ' H', NxP K T φ ρ H env' st' φ' ρ' σ' H' → D.nx σ' H'
  | .bk env' st' => ∀ φ' ρ' σ' H', NxP K T φ ρ H env' st' φ' ρ' σ' H' → D.bk σ' H'
  | .ct env' st' => ∀ φ' ρ' σ' H', NxP K T φ ρ H env' st' φ' ρ' σ' H' → D.ct σ' H'
  | .rt r st' => ∀ φ' ρ' v H', RtP K T φ ρ H r st' φ' ρ' v H' → D.rt v H'
def tS (K : PySem.W.Frag) (T : List (Addr × Str)) (F : Env → Sto → Option Fl) : TS := fun D σ H =>
  ∃ φ ρ env st f, Ws K T φ ρ H st ∧ Sl K φ ρ H env σ ∧ F env st = some f ∧ EndOk K T φ ρ H D f
theorem impS {s : Stmt} {t t' : TS} (h : PS X s t) (k : ∀ D σ H, t' D σ H → t D σ H) : PS X s t' := ⟨fun pins s σ H D I q => h.run pins s σ H D I (k D σ H q)⟩
theorem impSs {s : List Stmt} {t t' : TS} (h : PSs X s t) (k : ∀ D σ H, t' D σ H → t D σ H) : PSs X s t' := ⟨fun pins s σ H D I q => h.run pins s σ H D I (k D σ H q)⟩
theorem EndOk.pre {φ ρ φ1 ρ1 : List Addr} {H H1 : Hp} {D : Ends} {f : Fl} (g : Gs φ ρ H φ1 ρ1 H1) (h : EndOk K T φ ρ H D f) : EndOk K T φ1 ρ1 H1 D f := by
  cases f with
  | nx e s => exact fun φ' ρ' σ' H' p => h φ' ρ' σ' H' ⟨p.ws, p.sl, g.trans p.gs⟩
  | bk e s => exact fun φ' ρ' σ' H' p => h φ' ρ' σ' H' ⟨p.ws, p.sl, g.trans p.gs⟩
  | ct e s => exact fun φ' ρ' σ' H' p => h φ' ρ' σ' H' ⟨p.ws, p.sl, g.trans p.gs⟩
  | rt r s =>
    refine fun φ' ρ' v H' p => h φ' ρ' v H' ⟨?_, g.trans p.gs⟩
    have q := g.trans p.gs
    refine Post.mk p.post.ws p.post.sl (q.ext.more fun a ha => ?_) p.post.rr fun d e => ?_
    · obtain ⟨_, m, _, e, _⟩ := q
      rw [e]; exact List.mem_append_left _ ha
    · obtain ⟨pp, xs, ds, h1, h2, h3, h4⟩ := p.post.fr d e
      exact ⟨pp, xs, ds, h1, h2, g.ext.dom _ h3, h4⟩
/-- a list just made comes into the store -/
theorem alloc {φ ρ : List Addr} {H H' : Hp} {env : Env} {σ : L2.St} {st' : Sto} {ds : List D} {v : V} (sub : ∀ a ∈ ρ, a ∈ φ) (p : Post K T φ ρ H H' env σ st' (.dat (.list ds) true) v) :
    ∃ q, v = .ref q ∧ Ws K T (φ ++ [q]) (ρ ++ [q]) H' (st' ++ [ds]) ∧ Sl K (φ ++ [q]) (ρ ++ [q]) H' env σ ∧ Gs φ ρ H (φ ++ [q]) (ρ ++ [q]) H' ∧ RS K (φ ++ [q]) (ρ ++ [q]) H' (.loc st'.length) v := by
  obtain ⟨q, xs, ds', e1, rfl, h1, h2, h3, h4, h5⟩ := p.fr _ rfl
  cases e1
  have nq : q ∉ φ := fun z => by
    obtain ⟨ys, e⟩ := p.ws.fx q z
    cases p.rr with
    | lst n _ _ => exact n z
  refine ⟨q, rfl, ⟨?_, fun n ds' e => ?_, ?_, fun a ha => ?_, h4.fx, h4.tab⟩, ⟨h5.len, fun i s e => ?_⟩, ⟨p.ext, [q], rfl, rfl, fun a ha => by rw [List.mem_singleton.mp ha]; exact h1⟩, q, ?_, rfl⟩
  · rw [List.length_append, List.length_append, p.ws.len]; rfl
  · by_cases hn : n < st'.length
    · rw [List.getElem?_append_left hn] at e
      obtain ⟨a, ys, a1, a2, a3⟩ := h4.sto n ds' e
      exact ⟨a, ys, by rw [List.getElem?_append_left (by rw [p.ws.len]; exact hn)]; exact a1, a2, a3⟩
    · have en : n = st'.length := by
        have := (List.getElem?_eq_some_iff.mp e).1
        rw [List.length_append] at this
        simp at this; omega
      subst en
      rw [List.getElem?_append_right (Nat.le_refl _), Nat.sub_self] at e
      cases e
      exact ⟨q, xs, by rw [List.getElem?_append_right (by rw [p.ws.len]; exact Nat.le_refl _), p.ws.len, Nat.sub_self]; rfl, h2, h3⟩
  · rw [List.nodup_append]
    exact ⟨p.ws.nd, by simp, fun a ha b hb => by rw [List.mem_singleton.mp hb]; exact fun z => nq (sub q (z ▸ ha))⟩
  · rcases List.mem_append.mp ha with h | h
    · exact List.mem_append_left _ (sub a h)
    · exact List.mem_append_right _ h
  · obtain ⟨u, a1, a2⟩ := h5.get i s e
    refine ⟨u, a1, ?_⟩
    cases s with
    | dat d => exact a2
    | loc n =>
      obtain ⟨a, b1, b2⟩ := a2
      exact ⟨a, by rw [List.getElem?_append_left (List.getElem?_eq_some_iff.mp b1).1]; exact b1, b2⟩
    | scr ns => exact a2
  · rw [List.getElem?_append_right (by rw [p.ws.len]; exact Nat.le_refl _), p.ws.len, Nat.sub_self]; rfl
end Ev
set_option linter.all false
set_option maxRecDepth 100000
set_option maxHeartbeats 8000000
/-! Ev11: each statement's rule. -/
namespace Ev
open PySem PySem.Spec L2
variable {K : PySem.W.Frag} {T : List (Addr × Str)} {X : Cx} {G : Pk} {cl : Str → List SV → Sto → Option (ER × Sto)} {mu : List Nat}

section
variable {φ ρ : List Addr} {H H' : Hp} {st : Sto} {n : Nat} {a : Addr} {ds : List D} {ys : List V}
/-- a list of the store is changed -/
theorem Ws.setN (w : Ws K T φ ρ H st) (ha : ρ[n]? = some a) (r : RDs K φ H ys ds) : Ws K T φ ρ (upd H a (.lst ys)) (st.set n ds) := by
  have am : a ∈ ρ := List.mem_of_getElem? ha
  have x : Ext φ H (upd H a (.lst ys)) := .at (w.sub a am)
  obtain ⟨zs, ez⟩ := w.fx a (w.sub a am)
  have nl : n < st.length := by rw [← w.len]; exact (List.getElem?_eq_some_iff.mp ha).1
  refine ⟨by rw [List.length_set]; exact w.len, fun m es e => ?_, w.nd, w.sub, fun b hb => ?_, Tabs_ext (φ := φ) w.tab (.inr ⟨zs, ez⟩)⟩
  · by_cases h : m = n
    · subst h
      rw [List.getElem?_set_self nl] at e
      cases e
      exact ⟨a, ys, ha, upd_same, r.ext x w.fl⟩
    · rw [List.getElem?_set_ne (Ne.symm h)] at e
      obtain ⟨b, us, h1, h2, h3⟩ := w.sto m es e
      have nb : b ≠ a := fun z => h ((List.getElem_inj w.nd).mp ((List.getElem?_eq_some_iff.mp h1).2.trans (z.trans (List.getElem?_eq_some_iff.mp ha).2.symm)))
      exact ⟨b, us, h1, (upd_ne nb).trans h2, h3.ext x w.fl⟩
  · by_cases e : b = a
    · rw [e]; exact ⟨ys, upd_same⟩
    · obtain ⟨us, h3⟩ := w.fx b hb
      exact ⟨us, (upd_ne e).trans h3⟩
end
theorem wipe0 : True := True.intro
section
variable {φ ρ : List Addr} {H H1 : Hp} {env : Env} {σ : L2.St} {st st1 : Sto} {D : Ends} {f : Fl}
theorem nx_of {env' : Env} {σ' : L2.St} (w : Ws K T φ ρ H1 st1) (s : Sl K φ ρ H1 env' σ') (x : Ext ρ H H1) : NxP K T φ ρ H env' st1 φ ρ σ' H1 := ⟨w, s, .of x⟩
end
theorem okSs_nil : PSs X [] (tS X.K T (fun env st => evSs G cl mu [] env st)) := by
  refine impSs pss_nil fun D σ H q => ?_
  obtain ⟨φ, ρ, env, st, f, ws, sl, he, k⟩ := q
  simp only [evSs] at he
  cases he
  exact k φ ρ σ H ⟨ws, sl, .refl _ _ _⟩
theorem okSs_cons {s : Stmt} {ss : List Stmt} {s' : IS} {ss' : List IS} (h1 : PS X s (tS X.K T (fun env st => evS G cl mu s' env st))) (h2 : PSs X ss (tS X.K T (fun env st => evSs G cl mu ss' env st))) : PSs X (s :: ss) (tS X.K T (fun env st => evSs G cl mu (s' :: ss') env st)) := by
  refine impSs (pss_cons h1 h2) fun D σ H q => ?_
  obtain ⟨φ, ρ, env, st, f, ws, sl, he, k⟩ := q
  simp only [evSs] at he
  split at he
  · rename_i env1 st1 h3
    exact ⟨φ, ρ, env, st, _, ws, sl, h3, fun φ' ρ' σ' H' p => ⟨φ', ρ', env1, st1, f, p.ws, p.sl, he, k.pre p.gs⟩⟩
  · rename_i h3
    refine ⟨φ, ρ, env, st, f, ws, sl, he, ?_⟩
    cases f with
    | nx e s => exact absurd he (h3 e s)
    | bk e s => exact k
    | ct e s => exact k
    | rt r s => exact k
theorem okS_nev {s : Stmt} : PS X s (tS X.K T (fun env st => evS G cl mu .nev env st)) := by
  refine impS ps_never fun D σ H q => ?_
  obtain ⟨φ, ρ, env, st, f, ws, sl, he, k⟩ := q
  simp only [evS] at he
  cases he
theorem okS_pas {pos : Pos} : PS X (.Pass pos) (tS X.K T (fun env st => evS G cl mu .pas env st)) := by
  refine impS ps_pass fun D σ H q => ?_
  obtain ⟨φ, ρ, env, st, f, ws, sl, he, k⟩ := q
  simp only [evS] at he
  cases he
  exact k φ ρ σ H ⟨ws, sl, .refl _ _ _⟩
theorem okS_brk {pos : Pos} : PS X (.Break pos) (tS X.K T (fun env st => evS G cl mu .brk env st)) := by
  refine impS ps_break fun D σ H q => ?_
  obtain ⟨φ, ρ, env, st, f, ws, sl, he, k⟩ := q
  simp only [evS] at he
  cases he
  exact k φ ρ σ H ⟨ws, sl, .refl _ _ _⟩
theorem okS_cnt {pos : Pos} : PS X (.Continue pos) (tS X.K T (fun env st => evS G cl mu .cnt env st)) := by
  refine impS ps_continue fun D σ H q => ?_
  obtain ⟨φ, ρ, env, st, f, ws, sl, he, k⟩ := q
  simp only [evS] at he
  cases he
  exact k φ ρ σ H ⟨ws, sl, .refl _ _ _⟩
theorem okS_retN {pos : Pos} : PS X (.Return none pos) (tS X.K T (fun env st => evS G cl mu (.ret none) env st)) := by
  refine impS ps_retN fun D σ H q => ?_
  obtain ⟨φ, ρ, env, st, f, ws, sl, he, k⟩ := q
  simp only [evS] at he
  cases he
  exact k φ ρ _ H ⟨.at ws ⟨rfl, fun i s e => by simp at e⟩ .non (fun d e => by cases e), .refl _ _ _⟩
theorem Post.noSl {φ ρ : List Addr} {H H' : Hp} {env : Env} {σ : L2.St} {st' : Sto} {r : ER} {v : V} (p : Post K T φ ρ H H' env σ st' r v) : Post K T φ ρ H H' [] [] st' r v :=
  ⟨p.ws, ⟨rfl, fun i s e => by simp at e⟩, p.ext, p.rr, fun d e => let ⟨q, xs, ds, h1, h2, h3, h4, h5, h6, _⟩ := p.fr d e; ⟨q, xs, ds, h1, h2, h3, h4, h5, h6, rfl, fun i s e => by simp at e⟩⟩
theorem okS_ret {e : Expr} {e' : IE} {pos : Pos} (he : PE X e (tF X.K T (evE G cl e'))) : PS X (.Return (some e) pos) (tS X.K T (fun env st => evS G cl mu (.ret (some e')) env st)) := by
  refine impS (ps_ret he) fun D σ H q => ?_
  obtain ⟨φ, ρ, env, st, f, ws, sl, h, k⟩ := q
  simp only [evS] at h
  split at h
  · rename_i r st1 h1
    cases h
    exact ⟨φ, ρ, env, st, r, st1, ws, sl, h1, fun v H' p => k φ ρ v H' ⟨p.noSl, .of p.ext⟩⟩
  · cases h
theorem okS_exp {e : Expr} {e' : IE} {pos : Pos} (he : PE X e (tF X.K T (evE G cl e'))) (hs : swapsWith e none pos.line X.env = pure false) : PS X (.Expr e pos) (tS X.K T (fun env st => evS G cl mu (.exp e') env st)) := by
  refine impS (ps_expr he hs) fun D σ H q => ?_
  obtain ⟨φ, ρ, env, st, f, ws, sl, h, k⟩ := q
  simp only [evS] at h
  split at h
  · rename_i r st1 h1
    cases h
    exact seq1 ws sl h1 fun u H1 w1 s1 e1 r1 => k φ ρ σ H1 ⟨w1, s1, .of e1⟩
  · cases h
theorem okS_ite {c : Expr} {a b : List Stmt} {c' : IE} {a' b' : List IS} {pos : Pos} (hc : PT X c (tT X.K T (evE G cl c'))) (ha : PSs X a (tS X.K T (fun env st => evSs G cl mu a' env st))) (hb : PSs X b (tS X.K T (fun env st => evSs G cl mu b' env st))) :
    PS X (.If c a b pos) (tS X.K T (fun env st => evS G cl mu (.ite c' a' b') env st)) := by
  refine impS (ps_if hc ha hb) fun D σ H q => ?_
  obtain ⟨φ, ρ, env, st, f, ws, sl, h, k⟩ := q
  simp only [evS] at h
  split at h
  · rename_i st1 h1
    exact seqT ws sl h1 fun H1 w1 s1 e1 => iteT ⟨φ, ρ, env, st1, f, w1, s1, h, k.pre (.of e1)⟩
  · rename_i st1 h1
    exact seqT ws sl h1 fun H1 w1 s1 e1 => iteF ⟨φ, ρ, env, st1, f, w1, s1, h, k.pre (.of e1)⟩
  · cases h

/-! ### assignments -/
theorem okS_asg {i : Nat} {x : Str} {e : Expr} {e' : IE} {p' pos : Pos} (h : PS X (.Assign [.Name x p'] e pos) (tAsg (tF X.K T (evE G cl e')) (gName i))) : PS X (.Assign [.Name x p'] e pos) (tS X.K T (fun env st => evS G cl mu (.asg (.nm i) e') env st)) := by
  refine impS h fun D σ H q => ?_
  obtain ⟨φ, ρ, env, st, f, ws, sl, h, k⟩ := q
  simp only [evS] at h
  split at h
  · rename_i r st1 h1
    cases h
    refine ⟨φ, ρ, env, st, r, st1, ws, sl, h1, fun v H' p => ?_⟩
    unfold stoE at k
    split at k
    · rename_i ds hm
      obtain ⟨q, rfl, w, s, g, rs⟩ := alloc ws.sub p
      exact k _ _ _ _ ⟨w, s.set rs, g⟩
    · exact k _ _ _ _ ⟨p.ws, p.sl.set p.rr, .of p.ext⟩
  · cases h
theorem okS_asgT {ts : List IT} {tg e : Expr} {e' : IE} {pos : Pos} (he : PE X e (tF X.K T (evE G cl e'))) (hg : PG X tg (tG X.K T (.tp ts))) (hs : swapsWithSole [tg] e pos.line X.env = pure false) (hw : swappedStores [tg] e X.env = pure none) (h1 : (assignEach [tg] X.env).map (·.2) = [assign tg X.env]) :
    PS X (.Assign [tg] e pos) (tS X.K T (fun env st => evS G cl mu (.asg (.tp ts) e') env st)) := by
  refine impS (ps_asg he hg hs hw h1) fun D σ H q => ?_
  obtain ⟨φ, ρ, env, st, f, ws, sl, h, k⟩ := q
  simp only [evS] at h
  split at h
  · rename_i d fr st1 h2
    split at h
    · rename_i env1 h3
      cases h
      exact seq1 ws sl h2 fun u H1 w1 s1 e1 r1 => ⟨φ, ρ, env, st1, d, env1, w1, s1, r1, h3, fun σ' sl' _ => k _ _ _ _ ⟨w1, sl', .of e1⟩⟩
    · cases h
  · cases h
/-- the values of a, b = x, y -/
def tP (K : PySem.W.Frag) (T : List (Addr × Str)) (F : Env → Sto → Option (List (Nat × SV) × Sto)) : TA := fun σ H Q =>
  ∃ φ ρ env st ss st', Ws K T φ ρ H st ∧ Sl K φ ρ H env σ ∧ F env st = some (ss, st') ∧
    ∀ vs φ' ρ' H', Ws K T φ' ρ' H' st' → Sl K φ' ρ' H' env σ → Gs φ ρ H φ' ρ' H' → Paired (fun (s : Nat × SV) v => RS K φ' ρ' H' s.2 v) ss vs → Q vs H'
theorem RS.gs {φ ρ φ' ρ' : List Addr} {H H' : Hp} {s : SV} {v : V} (g : Gs φ ρ H φ' ρ' H') (sub : ∀ a ∈ ρ, a ∈ φ) (f : Lst φ H) (r : RS K φ ρ H s v) : RS K φ' ρ' H' s v := by
  have gr := g.gr sub
  cases s with
  | dat d => exact gr.rd f r
  | loc n =>
    obtain ⟨a, h1, h2⟩ := r
    obtain ⟨x, m, rfl, rfl, h⟩ := g
    exact ⟨a, by rw [List.getElem?_append_left (List.getElem?_eq_some_iff.mp h1).1]; exact h1, h2⟩
  | scr ns =>
    obtain ⟨a, e, h⟩ := RS.ext (ρ := ρ) gr.ext f r
    exact ⟨a, e, h⟩
theorem Sl.gs {φ ρ φ' ρ' : List Addr} {H H' : Hp} {env : Env} {σ : L2.St} (g : Gs φ ρ H φ' ρ' H') (sub : ∀ a ∈ ρ, a ∈ φ) (f : Lst φ H) (s : Sl K φ ρ H env σ) : Sl K φ' ρ' H' env σ :=
  ⟨s.len, fun i t e => let ⟨v, h1, h2⟩ := s.get i t e; ⟨v, h1, h2.gs g sub f⟩⟩
theorem okp_nil : PA X [] (tP X.K T (evP G cl mu [])) := by
  refine impA pa_nil fun σ H Q q => ?_
  obtain ⟨φ, ρ, env, st, ss, st', ws, sl, he, k⟩ := q
  simp only [evP] at he
  cases he
  exact k [] φ ρ H ws sl (.refl _ _ _) .nil
theorem okp_cons {i : Nat} {r : List (Nat × IE)} {e : Expr} {es : List Expr} {e' : IE} (hp : pln e = true) (he : PE X e (tF X.K T (evE G cl e'))) (hes : PA X es (tP X.K T (evP G cl mu r))) : PA X (e :: es) (tP X.K T (evP G cl mu ((i, e') :: r))) := by
  refine impA (pa_cons he hes (pln_star hp es _)) fun σ H Q q => ?_
  obtain ⟨φ, ρ, env, st, ss, st', ws, sl, h, k⟩ := q
  simp only [evP] at h
  split at h
  · rename_i ds st1 h1
    split at h
    · split at h
      · rename_i ss2 st2 h2
        cases h
        refine ⟨φ, ρ, env, st, _, st1, ws, sl, h1, fun v H1 p => ?_⟩
        obtain ⟨q, rfl, w, s, g, rs⟩ := alloc ws.sub p
        exact ⟨_, _, env, _, ss2, _, w, s, h2, fun vs φ' ρ' H' w2 s2 g2 pr => k _ φ' ρ' H' w2 s2 (g.trans g2) (.cons (rs.gs g2 w.sub w.fl) pr)⟩
      · cases h
    · split at h
      · rename_i ss2 st2 h2
        cases h
        refine ⟨φ, ρ, env, st, _, st1, ws, sl, h1, fun v H1 p => ?_⟩
        exact ⟨_, _, env, _, ss2, _, p.ws, p.sl, h2, fun vs φ' ρ' H' w2 s2 g2 pr => k _ φ' ρ' H' w2 s2 ((Gs.of p.ext).trans g2) (.cons (RS.gs g2 p.ws.sub p.ws.fl p.rr) pr)⟩
      · cases h
  · rename_i x st1 _ h1
    split at h
    · rename_i ss2 st2 h2
      cases h
      refine ⟨φ, ρ, env, st, _, st1, ws, sl, h1, fun v H1 p => ?_⟩
      exact ⟨_, _, env, _, ss2, _, p.ws, p.sl, h2, fun vs φ' ρ' H' w2 s2 g2 pr => k _ φ' ρ' H' w2 s2 ((Gs.of p.ext).trans g2) (.cons (RS.gs g2 p.ws.sub p.ws.fl p.rr) pr)⟩
    · cases h
  · cases h
theorem evP_keys : ∀ {l : List (Nat × IE)} {env : Env} {st : Sto} {ss : List (Nat × SV)} {st' : Sto}, evP G cl mu l env st = some (ss, st') → ss.map (·.1) = l.map (·.1)
  | [], env, st, ss, st', h => by simp only [evP] at h; cases h; rfl
  | (i, e) :: r, env, st, ss, st', h => by
    simp only [evP] at h
    split at h
    · split at h
      · split at h
        · rename_i h2; cases h; exact congrArg (i :: ·) (evP_keys h2)
        · cases h
      · split at h
        · rename_i h2; cases h; exact congrArg (i :: ·) (evP_keys h2)
        · cases h
    · split at h
      · rename_i h2; cases h; exact congrArg (i :: ·) (evP_keys h2)
      · cases h
    · cases h
theorem okS_par3 {i j l : Nat} {a' b' c' : IE} {st : Stmt} (h : PS X st (tPar3 i j l (tP X.K T (evP G cl mu [(i, a'), (j, b'), (l, c')])))) : PS X st (tS X.K T (fun env st => evS G cl mu (.par [i, j, l] [a', b', c']) env st)) := by
  refine impS h fun D σ H q => ?_
  obtain ⟨φ, ρ, env, st, f, ws, sl, h, k⟩ := q
  simp only [evS] at h
  split at h
  · rename_i ss st1 h1
    cases h
    have h1' : evP G cl mu [(i, a'), (j, b'), (l, c')] env st = some (ss, st1) := h1
    refine ⟨φ, ρ, env, st, ss, st1, ws, sl, h1', fun vs φ' ρ' H' w s g pr => ?_⟩
    obtain ⟨s1, s2, s3, rfl⟩ : ∃ s1 s2 s3, ss = [(i, s1), (j, s2), (l, s3)] := by
      have q := evP_keys h1'
      match ss, q with
      | [(i', s1), (j', s2), (l', s3)], q =>
        simp only [List.map_cons, List.map_nil, List.cons.injEq, and_true] at q
        exact ⟨s1, s2, s3, by rw [q.1, q.2.1, q.2.2]⟩
    cases pr with
    | cons r1 pr =>
      cases pr with
      | cons r2 pr =>
        cases pr with
        | cons r3 pr =>
          cases pr
          exact ⟨_, _, _, rfl, k φ' ρ' _ H' ⟨w, ((s.set r1).set r2).set r3, g⟩⟩
  · cases h
theorem okS_par2 {i j : Nat} {a' b' : IE} {st : Stmt} (h : PS X st (tPar i j (tP X.K T (evP G cl mu [(i, a'), (j, b')])))) : PS X st (tS X.K T (fun env st => evS G cl mu (.par [i, j] [a', b']) env st)) := by
  refine impS h fun D σ H q => ?_
  obtain ⟨φ, ρ, env, st, f, ws, sl, h, k⟩ := q
  simp only [evS] at h
  split at h
  · rename_i ss st1 h1
    cases h
    have h1' : evP G cl mu [(i, a'), (j, b')] env st = some (ss, st1) := h1
    refine ⟨φ, ρ, env, st, ss, st1, ws, sl, h1', fun vs φ' ρ' H' w s g pr => ?_⟩
    obtain ⟨s1, s2, rfl⟩ : ∃ s1 s2, ss = [(i, s1), (j, s2)] := by
      have q := evP_keys h1'
      match ss, q with
      | [(i', s1), (j', s2)], q =>
        simp only [List.map_cons, List.map_nil, List.cons.injEq, and_true] at q
        exact ⟨s1, s2, by rw [q.1, q.2]⟩
    cases pr with
    | cons r1 pr =>
      cases pr with
      | cons r2 pr =>
        cases pr
        exact ⟨_, _, rfl, k φ' ρ' _ H' ⟨w, (s.set r1).set r2, g⟩⟩
  · cases h

/-! ### lists of the store -/
theorem okS_seti {i : Nat} {x : Str} {a e : Expr} {a' e' : IE} {p p2 pos : Pos} (hx : PE X (.Name x p) (tVar i)) (ha : PE X a (tF X.K T (evE G cl a'))) (he : PE X e (tF X.K T (evE G cl e'))) (hs : swapsWithSole [.Subscript (.Name x p) a p2] e pos.line X.env = pure false) (hw : swappedStores [.Subscript (.Name x p) a p2] e X.env = pure none)
    (hass : ∀ v, assign (.Subscript (.Name x p) a p2) X.env v = (do
      let ov ← holding [v] (eval (.Name x p) X.env)
      let iv ← holding [v, ov] (eval a X.env)
      standAt p2
      holding [v, ov, iv] (setItem ov iv v)
      release [v, ov, iv] [])) :
    PS X (.Assign [.Subscript (.Name x p) a p2] e pos) (tS X.K T (fun env st => evS G cl mu (.seti i a' e') env st)) := by
  refine impS (ps_asg he (pg_sub hx ha set_list hass) hs hw rfl) fun D σ H q => ?_
  obtain ⟨φ, ρ, env, st, f, ws, sl, h, k⟩ := q
  simp only [evS] at h
  split at h
  · rename_i d fr st1 h1
    split at h
    · rename_i n hn
      split at h
      · rename_i kk fr2 st2 h2
        split at h
        · rename_i xs h3
          split at h
          · rename_i j h4
            cases h
            refine seq1 ws sl h1 fun u H1 w1 s1 e1 r1 => ?_
            obtain ⟨v, hv, ad, had, rfl⟩ := s1.get i _ hn
            refine ⟨.ref ad, hv, seq1 w1 s1 h2 fun u2 H2 w2 s2 e2 r2 => ?_⟩
            cases (show RD X.K φ H2 u2 (.int kk) from r2)
            obtain ⟨ad', ys, h5, h6, h7⟩ := w2.sto n xs h3
            rw [had] at h5; cases h5
            have am : ad ∈ ρ := List.mem_of_getElem? had
            have ru : RD X.K φ H2 u d := RD.ext (e2.more w1.sub) w1.fl r1
            refine ⟨ad, ys, kk, j, rfl, rfl, h6, by rw [h7.length]; exact h4, k φ ρ σ _ ⟨w2.setN had (h7.set ru j), s2.ext (.at (w2.sub _ am)) w2.fl, .of ((e1.trans e2).trans (.at am))⟩⟩
          · cases h
        · cases h
      · cases h
    · cases h
  · cases h
theorem loc_push {i : Nat} {n : Nat} {φ ρ : List Addr} {H : Hp} {env : Env} {σ : L2.St} {st : Sto} (ws : Ws K T φ ρ H st) (sl : Sl K φ ρ H env σ) (hn : env[i]? = some (some (.loc n))) : ∃ ad, σ[i]? = some (some (.ref ad)) ∧ ρ[n]? = some ad := by
  obtain ⟨v, hv, ad, had, rfl⟩ := sl.get i _ hn
  exact ⟨ad, hv, had⟩
theorem okS_app {i : Nat} {x : Str} {e : Expr} {e' : IE} {p apos cpos pos : Pos} (hx : PE X (.Name x p) (tVar i)) (he : PE X e (tF X.K T (evE G cl e'))) (hp : pln e = true) (hl : (apos.endLine == cpos.line) = true) :
    PS X (.Expr (.Call (.Attribute (.Name x p) "append" apos) [e] [] cpos) pos) (tS X.K T (fun env st => evS G cl mu (.app i e') env st)) := by
  refine impS (ps_expr (pe_bm PySem.F.plainAttrs_list PySem.F.slot_list_append PySem.F.type_list_append mt_append hx (pa_cons he pa_nil (pln_star hp _ _)) (by rfl) (by rw [pln_star hp]; rfl) hl (pln_star hp _ _) (by rfl)) (by rfl)) fun D σ H q => ?_
  obtain ⟨φ, ρ, env, st, f, ws, sl, h, k⟩ := q
  simp only [evS] at h
  split at h
  · rename_i n hn
    split at h
    · rename_i d fr st1 h1
      split at h
      · rename_i xs h3
        split at h
        · rename_i hlen
          cases h
          obtain ⟨ad, hv, had⟩ := loc_push ws sl hn
          obtain ⟨ys0, hys0⟩ := ws.fx ad (ws.sub _ (List.mem_of_getElem? had))
          refine ⟨.ref ad, hv, .inl ⟨rfl, ys0, .inl (.inl hys0)⟩, seq1 ws sl h1 fun u H1 w1 s1 e1 r1 => ?_⟩
          obtain ⟨ad', ys, h5, h6, h7⟩ := w1.sto n xs h3
          rw [had] at h5; cases h5
          have am : ad ∈ ρ := List.mem_of_getElem? had
          exact ⟨ad, ys, u, rfl, rfl, h6, by rw [h7.length]; exact hlen, k φ ρ σ _ ⟨w1.setN had (h7.append (.cons r1 .nil)), s1.ext (.at (w1.sub _ am)) w1.fl, .of (e1.trans (.at am))⟩⟩
        · cases h
      · cases h
    · cases h
  · cases h
theorem okS_ins {i : Nat} {x : Str} {a e : Expr} {a' e' : IE} {p apos cpos pos : Pos} (hx : PE X (.Name x p) (tVar i)) (ha : PE X a (tF X.K T (evE G cl a'))) (he : PE X e (tF X.K T (evE G cl e'))) (hp1 : pln a = true) (hp : pln e = true) (hl : (apos.endLine == cpos.line) = true) :
    PS X (.Expr (.Call (.Attribute (.Name x p) "insert" apos) [a, e] [] cpos) pos) (tS X.K T (fun env st => evS G cl mu (.ins i a' e') env st)) := by
  refine impS (ps_expr (pe_bm PySem.F.plainAttrs_list PySem.F.slot_list_insert PySem.F.type_list_insert mt_insert hx (pa_cons ha (pa_cons he pa_nil (pln_star hp _ _)) (pln_star hp1 _ _)) (by rfl) (by rw [pln_star hp1, pln_star hp]; rfl) hl (pln_star hp1 _ _) (by rw [pln_star hp]; rfl)) (by rfl)) fun D σ H q => ?_
  obtain ⟨φ, ρ, env, st, f, ws, sl, h, k⟩ := q
  simp only [evS] at h
  split at h
  · rename_i n hn
    split at h
    · rename_i kk fr0 st0 h0
      split at h
      · rename_i d fr st1 h1
        split at h
        · rename_i xs h3
          split at h
          · rename_i hlen
            cases h
            obtain ⟨ad, hv, had⟩ := loc_push ws sl hn
            obtain ⟨ys0, hys0⟩ := ws.fx ad (ws.sub _ (List.mem_of_getElem? had))
            refine ⟨.ref ad, hv, .inl ⟨rfl, ys0, .inl (.inl hys0)⟩, seq2 ws sl h0 h1 fun u0 u H1 w1 s1 e1 r0 r1 => ?_⟩
            cases (show RD X.K φ H1 u0 (.int kk) from r0)
            obtain ⟨ad', ys, h5, h6, h7⟩ := w1.sto n xs h3
            rw [had] at h5; cases h5
            have am : ad ∈ ρ := List.mem_of_getElem? had
            have rr : RDs X.K φ H1 (ys.take kk.toNat ++ [u] ++ ys.drop kk.toNat) (xs.take kk.toNat ++ d :: xs.drop kk.toNat) := by
              rw [List.append_assoc]
              exact (h7.take _).append (.cons r1 (h7.drop _))
            exact ⟨ad, ys, kk, u, rfl, rfl, h6, by rw [h7.length]; exact hlen.1, hlen.2.1, hlen.2.2, k φ ρ σ _ ⟨w1.setN had rr, s1.ext (.at (w1.sub _ am)) w1.fl, .of (e1.trans (.at am))⟩⟩
          · cases h
        · cases h
      · cases h
    · cases h
  · cases h

/-! ### loops -/
theorem okS_loop {tg iter : Expr} {body : List Stmt} {t : IT} {it : II} {b' : List IS} {pos : Pos} (hp : PassesOwn (model X.prog X.w) X.A X.env X.xe) (hc : X.calm = true) (hi : PI X tg iter (tI X.K T (evI G cl it))) (hg : PG X tg (tG X.K T t)) (hb : PSs X body (tS X.K T (fun env st => evSs G cl mu b' env st))) (hs : pln iter = true) :
    PS X (.For tg iter body [] pos) (tS X.K T (fun env st => evS G cl mu (.loop t it b') env st)) := by
  refine impS (ps_for hp hc hi hg hb (fun x => pln_fold hs _ x)) fun D σ H q => ?_
  obtain ⟨φ, ρ, env, st, f, ws, sl, h, k⟩ := q
  simp only [evS] at h
  split at h
  · rename_i xs kp st1 h1
    generalize hF : (fun (d : Ev.D) (env : Env) (s : Sto) => match bindT t d env with
        | some env1 => match evSs G cl mu b' env1 s with
          | some f => if keepFl kp f then some f else none
          | none => none
        | none => none) = F at h
    refine ⟨φ, ρ, env, st, xs, kp, st1, ws, sl, h1, fun J H1 p kk walk => ?_⟩
    have k1 : EndOk X.K T φ ρ H1 D f := k.pre (.of p.ext)
    have sub := p.ws.sub
    refine ⟨fun i m σ' Hh => m = xs.length - i ∧ i ≤ xs.length ∧ ∃ φ' ρ' env' st', Ws X.K T φ' ρ' Hh st' ∧ Sl X.K φ' ρ' Hh env' σ' ∧ Gs φ ρ H1 φ' ρ' Hh ∧ keptL st' kp = true ∧ forL F (xs.drop i) env' st' = some f,
      ⟨xs.length, by simp, Nat.zero_le _, φ, ρ, env, st1, p.ws, p.sl, .refl _ _ _, kk, h⟩, ?_⟩
    rintro i m σ' Hh ⟨rfl, hi, φ', ρ', env', st', w', s', g', kc, hf⟩
    have lt : Lt X.K T φ ρ H1 kp φ' ρ' Hh st' := ⟨w', kc, g'.gr sub, by obtain ⟨_, m, _, e, _⟩ := g'; exact ⟨m, e⟩⟩
    by_cases hlt : i < xs.length
    · refine .inr ⟨walk.goes i _ _ _ _ hlt lt, ?_⟩
      rw [show xs.drop i = xs[i] :: xs.drop (i + 1) from List.drop_eq_getElem_cons hlt] at hf
      simp only [forL] at hf
      refine ⟨fun σ2 H2 => ∃ e s, (F xs[i] env' st' = some (.nx e s) ∨ F xs[i] env' st' = some (.ct e s)) ∧ ∃ φ2 ρ2, Ws X.K T φ2 ρ2 H2 s ∧ Sl X.K φ2 ρ2 H2 e σ2 ∧ Gs φ ρ H1 φ2 ρ2 H2 ∧ keptL s kp = true, fun σ2 H2 hN => ?_, fun u Hy hy => ?_⟩
      · obtain ⟨e, s, he, φ2, ρ2, w2, s2, g2, k2⟩ := hN
        refine ⟨xs.length - (i + 1), by omega, rfl, hlt, φ2, ρ2, e, s, w2, s2, g2, k2, ?_⟩
        rcases he with he | he <;> (rw [he] at hf; exact hf)
      · obtain ⟨⟨d0, hd0, rd0⟩, hch⟩ := walk.yields i _ _ _ _ u Hy hlt lt hy
        have ed : d0 = xs[i] := by rw [List.getElem?_eq_getElem hlt] at hd0; exact (Option.some.inj hd0).symm
        subst ed
        obtain ⟨wy, sy, gy⟩ : Ws X.K T φ' ρ' Hy st' ∧ Sl X.K φ' ρ' Hy env' σ' ∧ Gs φ ρ H1 φ' ρ' Hy := by
          rcases hch with rfl | ⟨pp, oo, hp0, hoo, rfl⟩
          · exact ⟨w', s', g'⟩
          · exact ⟨w'.new hp0 hoo, s'.ext (.new hp0) w'.fl, g'.trans (.of (.new hp0))⟩
        have key : ∀ {r : Option Fl}, F xs[i] env' st' = r → r ≠ none := fun {r} e z => by rw [e, z] at hf; cases hf
        have hFx := (congrFun (congrFun (congrFun hF xs[i]) env') st').symm
        split at hFx
        · rename_i env1 hb1
          split at hFx
          · rename_i f0 hf0
            split at hFx
            · rename_i hk0
              refine ⟨φ', ρ', env', st', xs[i], env1, wy, sy, rd0, hb1, fun σ2 sl2 _ => ⟨φ', ρ', env1, st', f0, wy, sl2, hf0, ?_⟩⟩
              cases f0 with
              | nx e s => exact fun φ2 ρ2 σ3 H3 q => ⟨e, s, .inl hFx, φ2, ρ2, q.ws, q.sl, gy.trans q.gs, hk0⟩
              | ct e s => exact fun φ2 ρ2 σ3 H3 q => ⟨e, s, .inr hFx, φ2, ρ2, q.ws, q.sl, gy.trans q.gs, hk0⟩
              | bk e s =>
                rw [hFx] at hf
                cases hf
                exact fun φ2 ρ2 σ3 H3 q => k1 φ2 ρ2 σ3 H3 ⟨q.ws, q.sl, gy.trans q.gs⟩
              | rt r s =>
                rw [hFx] at hf
                cases hf
                exact k1.pre gy
            · exact absurd rfl (key hFx)
          · exact absurd rfl (key hFx)
        · exact absurd rfl (key hFx)
    · have e : i = xs.length := by omega
      subst e
      refine .inl ⟨walk.stops _ _ _ _ lt, ?_⟩
      rw [List.drop_length] at hf
      simp only [forL] at hf
      cases hf
      exact k1 φ' ρ' σ' Hh ⟨w', s', g'⟩
  · cases h
theorem okS_whl {c : Expr} {body : List Stmt} {c' : IE} {b' : List IS} {pos : Pos} (hp : PassesOwn (model X.prog X.w) X.A X.env X.xe) (hc : PT X c (tT X.K T (evE G cl c'))) (hb : PSs X body (tS X.K T (fun env st => evSs G cl mu b' env st))) :
    PS X (.While c body [] pos) (tS X.K T (fun env st => evS G cl mu (.whl c' b') env st)) := by
  refine impS (ps_while hp hc hb) fun D σ H q => ?_
  obtain ⟨φ, ρ, env, st, f, ws, sl, h, k⟩ := q
  simp only [evS] at h
  refine ⟨fun m σ' Hh => ∃ φ' ρ' env' st', Ws X.K T φ' ρ' Hh st' ∧ Sl X.K φ' ρ' Hh env' σ' ∧ Gs φ ρ H φ' ρ' Hh ∧ whlL (fun env st => tstE (evE G cl c' env st)) (fun env st => evSs G cl mu b' env st) m env' st' = some f,
    ⟨G.wf, φ, ρ, env, st, ws, sl, .refl _ _ _, h⟩, ?_⟩
  rintro m σ' Hh ⟨φ', ρ', env', st', w', s', g', hf⟩
  cases m with
  | zero => simp only [whlL] at hf; cases hf
  | succ m =>
    simp only [whlL] at hf
    split at hf
    · rename_i st1 h1
      refine seqT w' s' h1 fun H1 w1 s1 e1 => iteT ⟨fun σ2 H2 => ∃ e s, (evSs G cl mu b' env' st1 = some (.nx e s) ∨ evSs G cl mu b' env' st1 = some (.ct e s)) ∧ ∃ φ2 ρ2, Ws X.K T φ2 ρ2 H2 s ∧ Sl X.K φ2 ρ2 H2 e σ2 ∧ Gs φ ρ H φ2 ρ2 H2, fun σ2 H2 hN => ?_, ?_⟩
      · obtain ⟨e, s, he, φ2, ρ2, w2, s2, g2⟩ := hN
        refine ⟨m, Nat.lt_succ_self m, φ2, ρ2, e, s, w2, s2, g2, ?_⟩
        rcases he with he | he <;> (rw [he] at hf; exact hf)
      · have g1 := g'.trans (Gs.of e1)
        cases hbd : evSs G cl mu b' env' st1 with
        | none => rw [hbd] at hf; cases hf
        | some f0 =>
          refine ⟨φ', ρ', env', st1, f0, w1, s1, hbd, ?_⟩
          cases f0 with
          | nx e s => exact fun φ2 ρ2 σ3 H3 q => ⟨e, s, .inl rfl, φ2, ρ2, q.ws, q.sl, g1.trans q.gs⟩
          | ct e s => exact fun φ2 ρ2 σ3 H3 q => ⟨e, s, .inr rfl, φ2, ρ2, q.ws, q.sl, g1.trans q.gs⟩
          | bk e s =>
            rw [hbd] at hf
            cases hf
            exact fun φ2 ρ2 σ3 H3 q => k φ2 ρ2 σ3 H3 ⟨q.ws, q.sl, g1.trans q.gs⟩
          | rt r s =>
            rw [hbd] at hf
            cases hf
            exact k.pre g1
    · rename_i st1 h1
      cases hf
      exact seqT w' s' h1 fun H1 w1 s1 e1 => iteF (k φ' ρ' σ' H1 ⟨w1, s1, g'.trans (.of e1)⟩)
    · cases hf
end Ev
set_option linter.all false
set_option maxRecDepth 100000
set_option maxHeartbeats 8000000
/-! Ev12: a function's text held against its program in the small language: expressions. -/
namespace Ev
open PySem PySem.Spec L2

structure Sx where
  N : List Str
  sc : Scope
  tg : Str → Bool
  q : Option Str
def visB (sc : Scope) (x : Str) : Bool := match sc.names.lookup x with
  | some .local => true
  | some .cell => true
  | some .free => true
  | _ => false
def gloB (sc : Scope) (x : Str) : Bool := match sc.names.lookup x with
  | some .globalImplicit => true
  | _ => false
def ownB (sc : Scope) (x : Str) : Bool := match sc.names.lookup x with
  | some .local => true
  | some .cell => true
  | _ => false
def nmB (x : Str) : Bool := !(x == ("__debug__" : Str)) && !(x == ("__classdict__" : Str))
def tyB (t : String) : Bool := ["int", "bool", "tuple", "str", "list", "dict"].contains t
def Sx.blk (s : Sx) (scope : Scope) : Sx := ⟨s.N, relS scope s.sc, ownB scope, none⟩
/-- a lambda's names -/
def Sx.lam (s : Sx) (scope : Scope) : Sx := ⟨s.N, scope, fun _ => false, none⟩
mutual
def chT : IT → Sx → Expr → Bool
  | .nm i, s, e => match e with
    | .Name x _ => decide (s.N[i]? = some x) && s.tg x
    | _ => false
  | .tp ts, s, e => match e with
    | .Tuple es _ _ => decide (es.length = ts.length) && chTs ts s es
    | _ => false
def chTs : List IT → Sx → List Expr → Bool
  | [], _, es => match es with
    | [] => true
    | _ => false
  | t :: ts, s, es => match es with
    | e :: es => plnT e && chT t s e && chTs ts s es
    | [] => false
end
section
variable (fs : List (Str × List Str)) (bl : List Str) (G : Pk)
def glB (s : Sx) (x : Str) : Bool := gloB s.sc x && nmB x
def blB (s : Sx) (x : Str) : Bool := gloB s.sc x && nmB x && bl.contains x
mutual
def chE : IE → Sx → Expr → Bool
  | .int i, _, e => match e with
    | .Constant (.int j) _ _ => decide (i = j)
    | _ => false
  | .str x, _, e => match e with
    | .Constant (.str y) _ _ => decide (x = y)
    | _ => false
  | .bl b, _, e => match e with
    | .Constant (.bool c) _ _ => b == c
    | _ => false
  | .non, _, e => match e with
    | .Constant .none _ _ => true
    | _ => false
  | .slot i, s, e => match e with
    | .Name x _ => decide (s.N[i]? = some x) && visB s.sc x && nmB x
    | _ => false
  | .con y, s, e => match e with
    | .Name x _ => decide (x = y) && glB s x && (G.con y).isSome
    | _ => false
  | .tup es, s, e => match e with
    | .Tuple l _ _ => chEs es s l
    | _ => false
  | .lst es, s, e => match e with
    | .List l _ => chEs es s l
    | _ => false
  | .bin o a b, s, e => match e with
    | .BinOp l op r _ => decide (o = op) && chE a s l && chE b s r
    | _ => false
  | .neg a, s, e => match e with
    | .UnaryOp .USub l _ => chE a s l
    | _ => false
  | .no a, s, e => match e with
    | .UnaryOp .Not l _ => chE a s l
    | _ => false
  | .land a b, s, e => match e with
    | .BoolOp .And [l, r] _ => chE a s l && chE b s r
    | .BoolOp .And (l :: r :: q :: rest) p => chE a s l && chE b s (.BoolOp .And (r :: q :: rest) p)
    | _ => false
  | .lor a b, s, e => match e with
    | .BoolOp .Or [l, r] _ => chE a s l && chE b s r
    | .BoolOp .Or (l :: r :: q :: rest) p => chE a s l && chE b s (.BoolOp .Or (r :: q :: rest) p)
    | _ => false
  | .cmp o a b, s, e => match e with
    | .Compare l [op] [r] _ => decide (o = op) && pln r && chE a s l && chE b s r
    | _ => false
  | .cmp2 o p a b c, s, e => match e with
    | .Compare l [op, oq] [m, r] _ => decide (o = op) && decide (p = oq) && pln r && chE a s l && chE b s m && chE c s r
    | _ => false
  | .ite c a b, s, e => match e with
    | .IfExp t x y _ => chE c s t && chE a s x && chE b s y
    | _ => false
  | .call f es, s, e => match e with
    | .Call (.Name g _) (l :: ls) [] _ => decide (f = g) && glB s f && decide ((fs.lookup f).map List.length = some es.length) && (l :: ls).all pln && chEs es s (l :: ls)
    | .Call (.Name g _) [] [] _ => decide (f = g) && glB s f && decide (fs.lookup f = some []) && es.isEmpty
    | _ => false
  | .blt f es, s, e => match e with
    | .Call (.Name g _) (l :: ls) [] _ => decide (g = f.nm) && blB bl s g && (l :: ls).all pln && chEs es s (l :: ls)
    | _ => false
  | .isi a t, s, e => match e with
    | .Call (.Name g _) [l, .Name h _] [] _ => decide (g = "isinstance") && blB bl s g && decide (h = Str.ofString t) && blB bl s h && tyB t && pln l && chE a s l
    | _ => false
  | .idx a b, s, e => match e with
    | .Subscript l r _ => pln r && chE a s l && chE b s r
    | _ => false
  | .cut a lo hi, s, e => match e with
    | .Subscript l (.Slice x y none _) _ => chE a s l && chO lo s x && chO hi s y
    | _ => false
  | .rev _, _, _ => false
  | .look g a, s, e => match e with
    | .Subscript (.Name h _) r _ => decide (g = h) && glB s h && (G.dic g).isSome && pln r && chE a s r
    | _ => false
  | .mth _ _ _, _, _ => false
  | .callk f ks es ix, s, e => match e with
    | .Call (.Name g _) [] kws _ => decide (f = g) && glB s f && decide ((f, ks, ix) ∈ G.kc) && decide (kws.map (·.arg) = ks.map some) && decide (es.length = ks.length) && chKs es s kws
    | _ => false
  | .lc own t it cs e', s, e => match e with
    | .ListComp elt [⟨tg, iter, ifs, 0⟩] scope _ => blkC s.N s.sc scope own && pln iter && (slT t).all (own.map (·.2)).contains && chI it s tg iter && chT t (s.blk scope) tg && chCs cs (s.blk scope) ifs && chE e' (s.blk scope) elt
    | _ => false
  | .lc2 own vs1 t it cs t1 it1 cs1 e', s, e => match e with
    | .ListComp elt [⟨tg, iter, ifs, 0⟩, ⟨tg1, iter1, ifs1, 0⟩] scope _ => blkC s.N s.sc scope own && pln iter && pln iter1 && (slT t).all (own.map (·.2)).contains && vs1.all (own.map (·.2)).contains && (slT t1).all vs1.contains &&
        chI it s tg iter && chT t (s.blk scope) tg && chCs cs (s.blk scope) ifs && chI it1 (s.blk scope) tg1 iter1 && chT t1 (s.blk scope) tg1 && chCs cs1 (s.blk scope) ifs1 && chE e' (s.blk scope) elt
    | _ => false
  | .sortl a i k rev, s, e => match e with
    | .Call (.Name g _) [l] [⟨some kn, .Lambda params body scope _, _⟩] _ => decide (g = "sorted") && blB bl s g && pln l && s.q.isSome && chE a s l && decide (kn = Str.ofString "key") && !rev &&
        lamP ((s.N[i]?).getD "") params && lmB s.sc scope ((s.N[i]?).getD "") && (s.N[i]?).isSome && chE k (s.lam scope) body
    | .Call (.Name g _) [l] [⟨some kn, .Lambda params body scope _, _⟩, ⟨some rn, .Constant (.bool b) _ _, _⟩] _ => decide (g = "sorted") && blB bl s g && pln l && s.q.isSome && chE a s l && decide (kn = Str.ofString "key") && (rev == b) &&
        lamP ((s.N[i]?).getD "") params && lmB s.sc scope ((s.N[i]?).getD "") && (s.N[i]?).isSome && chE k (s.lam scope) body && decide (rn = Str.ofString "reverse")
    | _ => false
  | .sortr a i k rev, s, e => match e with
    | .Call (.Name g _) [.Call (.Name h _) [l] [] _] [⟨some kn, .Lambda params body scope _, _⟩] _ => decide (g = "sorted") && blB bl s g && decide (h = "range") && blB bl s h && pln l && s.q.isSome && chE a s l && decide (kn = Str.ofString "key") && !rev &&
        lamP ((s.N[i]?).getD "") params && lmB s.sc scope ((s.N[i]?).getD "") && (s.N[i]?).isSome && chE k (s.lam scope) body
    | .Call (.Name g _) [.Call (.Name h _) [l] [] _] [⟨some kn, .Lambda params body scope _, _⟩, ⟨some rn, .Constant (.bool b) _ _, _⟩] _ => decide (g = "sorted") && blB bl s g && decide (h = "range") && blB bl s h && pln l && s.q.isSome && chE a s l && decide (kn = Str.ofString "key") && (rev == b) &&
        lamP ((s.N[i]?).getD "") params && lmB s.sc scope ((s.N[i]?).getD "") && (s.N[i]?).isSome && chE k (s.lam scope) body && decide (rn = Str.ofString "reverse")
    | _ => false
  | .slen i, s, e => match e with
    | .Call (.Name g _) [.Name x _] [] _ => decide (g = "len") && blB bl s g && decide (s.N[i]? = some x) && visB s.sc x && nmB x
    | _ => false
  | .sidx i a, s, e => match e with
    | .Subscript (.Name x _) r _ => decide (s.N[i]? = some x) && visB s.sc x && nmB x && pln r && chE a s r
    | _ => false
def chEs : List IE → Sx → List Expr → Bool
  | [], _, es => match es with
    | [] => true
    | _ => false
  | a :: as, s, es => match es with
    | e :: es => pln e && chE a s e && chEs as s es
    | [] => false
def chKs : List IE → Sx → List Keyword → Bool
  | [], _, es => match es with
    | [] => true
    | _ => false
  | a :: as, s, es => match es with
    | ⟨_, e, _⟩ :: es => chE a s e && chKs as s es
    | [] => false
def chO : Option IE → Sx → Option Expr → Bool
  | none, _, x => match x with
    | none => true
    | _ => false
  | some a, s, x => match x with
    | some e => chE a s e
    | none => false
def chCs : List IE → Sx → List Expr → Bool
  | [], _, es => match es with
    | [] => true
    | _ => false
  | [c], s, es => match es with
    | [e] => chE c s e
    | _ => false
  | _, _, _ => false
def chI : II → Sx → Expr → Expr → Bool
  | .of a, s, _, e => chE a s e
  | .rng es, s, _, e => match e with
    | .Call (.Name g _) [x] [] _ => decide (g = "range") && blB bl s g && decide (es.length = 1) && chEs es s [x]
    | .Call (.Name g _) [x, y] [] _ => decide (g = "range") && blB bl s g && decide (es.length = 2) && chEs es s [x, y]
    | _ => false
  | .enm a, s, tg, e => match tg with
    | .Tuple .. => match e with
      | .Call (.Name g _) [x] [] _ => decide (g = "enumerate") && blB bl s g && pln x && chE a s x
      | _ => false
    | _ => false
  | .zip a b, s, tg, e => match tg with
    | .Tuple .. => match e with
      | .Call (.Name g _) [x, y] [] _ => decide (g = "zip") && blB bl s g && pln x && pln y && chE a s x && chE b s y
      | _ => false
    | _ => false
end
end

structure Gd (fs : List (Str × List Str)) (bl : List Str) (G : Pk) (T : List (Addr × Str)) (n : Nat) (cl : Str → List SV → Sto → Option (ER × Sto)) (s : Sx) (X : Cx) : Prop where
  N : X.N = s.N
  sc : X.env.scope = s.sc
  nd : X.N.Nodup
  tg : ∀ x, s.tg x = true → Loc X.env.scope x ∧ (X.fn x = true ∨ X.env.scope.names.lookup x = some .local)
  calm : X.calm = true
  room : Room n X.A
  gu : X.A.guards = some []
  ck : ClOk X.prog X.w X.K X.mg X.base T n cl fs G.kc
  bl : ∀ x ∈ bl, X.mg x = none
  con : ∀ x d, G.con x = some d → ∃ u v, X.mg x = some u ∧ RelV v u ∧ ∀ φ H, RD X.K φ H v d
  dic : ∀ g kvs, G.dic g = some kvs → ∃ p, X.mg g = some (.ref p) ∧ ∀ k d, kvs.lookup k = some d → ∃ v, KDct X.K X.w p k v ∧ ∀ φ H, RD X.K φ H v d
  lam : ∀ q, s.q = some q → LamI X T q ∧ Room (n + 1) X.A
section
variable {fs : List (Str × List Str)} {bl : List Str} {G : Pk} {T : List (Addr × Str)} {n : Nat} {cl : Str → List SV → Sto → Option (ER × Sto)} {s : Sx} {X : Cx}
theorem Gd.vis (g : Gd fs bl G T n cl s X) {x : Str} (h : visB s.sc x = true) : Vis X.env.scope x := by
  unfold visB at h
  rw [← g.sc] at h
  split at h
  · exact .inl (by assumption)
  · exact .inr (.inl (by assumption))
  · exact .inr (.inr (by assumption))
  · cases h
theorem nm1 {x : Str} (h : nmB x = true) : (x == ("__debug__" : Str)) = false := by
  simp only [nmB, Bool.and_eq_true, Bool.not_eq_true'] at h; exact h.1
theorem nm2 {x : Str} (h : nmB x = true) : (x == ("__classdict__" : Str)) = false := by
  simp only [nmB, Bool.and_eq_true, Bool.not_eq_true'] at h; exact h.2
theorem Gd.gl (g : Gd fs bl G T n cl s X) {x : Str} (h : gloB s.sc x = true) : Gl X x := by
  unfold gloB at h
  rw [← g.sc] at h
  split at h
  · assumption
  · cases h
theorem Gd.bt (g : Gd fs bl G T n cl s X) {x : Str} (h : blB bl s x = true) : Gl X x ∧ X.mg x = none := by
  simp only [blB, Bool.and_eq_true] at h
  exact ⟨g.gl h.1.1, g.bl x (by simpa using h.2)⟩
theorem Gd.var (g : Gd fs bl G T n cl s X) {x : Str} {i : Nat} {pos : Pos} (h1 : s.N[i]? = some x) (h2 : visB s.sc x = true) (h3 : nmB x = true) : PE X (.Name x pos) (tVar i) :=
  pe_var (by rw [g.N]; exact h1) (g.vis h2) (nm1 h3) (nm2 h3)
theorem Gd.u (g : Gd fs bl G T n cl s X) : X.A.units + 65 < cLine := by have := g.room.un; omega
/-- a comprehension's block -/
theorem Gd.blk (g : Gd fs bl G T n cl s X) {scope : Scope} (st : Shared) (H : Hp) (C : Addr) (cc : List (Str × Addr)) (fp : List Addr) : Gd fs bl G T n cl (s.blk scope) (X.blk st H scope (compEnvC scope cc C X.env) fp) := by
  have hsc : (compEnvC scope cc C X.env).scope = relS scope s.sc := by rw [← g.sc]; rfl
  refine ⟨g.N, hsc, g.nd, fun x h => ?_, g.calm, g.room, g.gu, g.ck, g.bl, g.con, g.dic, fun q z => by cases z⟩
  have h : ownB scope x = true := h
  show Loc (compEnvC scope cc C X.env).scope x ∧ ((scope.names.lookup x == some .cell) = true ∨ (compEnvC scope cc C X.env).scope.names.lookup x = some .local)
  rw [hsc]
  unfold ownB at h
  split at h
  · rename_i hl
    have e := lookup_relS_keep (sc := s.sc) (k := .local) (by decide) hl
    exact ⟨.inl e, .inr e⟩
  · rename_i hl
    have e := lookup_relS_keep (sc := s.sc) (k := .cell) (by decide) hl
    exact ⟨.inr e, .inl (by rw [hl]; rfl)⟩
  · cases h
/-- a lambda's body -/
theorem Gd.lm (g : Gd fs bl G T n cl s X) {scope : Scope} (hr : Room (n + 1) X.A) (st : Shared) (H : Hp) (f c' : Addr) (x : Str) : Gd fs bl G T n cl (s.lam scope) (lmCx X X.A.in1.in1 st H scope f c' x) :=
  ⟨g.N, rfl, g.nd, (fun x h => by cases h), rfl, ⟨hr.hd, by have := hr.dp; show X.A.depth + 1 + 3 * n + 5 < _; omega, by have := hr.un; show X.A.units + 1 + 1 + 3 + 16 * n + 200 < _; omega⟩, g.gu, g.ck, g.bl, g.con, g.dic, fun q z => by cases z⟩
mutual
theorem sndT : ∀ (t : IT) (s : Sx) (X : Cx) (e : Expr), Gd fs bl G T n cl s X → chT t s e = true → PG X e (tG X.K T t)
  | .nm i, s, X, e, g, h => by
    simp only [chT] at h
    split at h
    · simp only [Bool.and_eq_true, decide_eq_true_eq] at h
      obtain ⟨h1, h2⟩ := g.tg _ h.2
      exact okg_nm g.nd (by rw [g.N]; exact h.1) h1 h2
    · cases h
  | .tp ts, s, X, e, g, h => by
    simp only [chT] at h
    split at h
    · simp only [Bool.and_eq_true, decide_eq_true_eq] at h
      obtain ⟨h1, h2⟩ := sndTs ts s X _ g h.2
      exact okg_tp g.calm h1 h.1 h2
    · cases h
theorem sndTs : ∀ (ts : List IT) (s : Sx) (X : Cx) (es : List Expr), Gd fs bl G T n cl s X → chTs ts s es = true → es.all plnT = true ∧ PGs X es (tGs X.K T ts)
  | [], s, X, es, g, h => by
    simp only [chTs] at h
    split at h
    · exact ⟨rfl, okgs_nil⟩
    · cases h
  | t :: ts, s, X, es, g, h => by
    simp only [chTs] at h
    split at h
    · simp only [Bool.and_eq_true] at h
      obtain ⟨h1, h2⟩ := sndTs ts s X _ g h.2
      exact ⟨by rw [List.all_cons, h.1.1, h1]; rfl, okgs_cons h.1.1 (sndT t s X _ g h.1.2) h2⟩
    · cases h
end
end
end Ev
set_option linter.all false
set_option maxRecDepth 100000
set_option maxHeartbeats 8000000
/-! Ev13: what the static check is good for: expressions. -/
namespace Ev
open PySem PySem.Spec L2
def isBO : Expr → Bool
  | .BoolOp .. => true
  | _ => false
structure Ok (T : List (Addr × Str)) (F : Env → Sto → Option (ER × Sto)) (X : Cx) (e : Expr) : Prop where
  pe : PE X e (tF X.K T F)
  pt : PT X e (tT X.K T F)
  pw : isBO e = true → PW X e (tT X.K T F)
theorem Ok.pl {T : List (Addr × Str)} {F : Env → Sto → Option (ER × Sto)} {X : Cx} {e : Expr} (he : PE X e (tF X.K T F)) (h : ∀ whole, isTrue e X.env whole = (do let v ← whole; standAt e.pos; holding [v] (truthy v))) (hb : isBO e = false) : Ok T F X e :=
  ⟨he, pt_plain he h, fun z => by rw [hb] at z; cases z⟩
theorem Ok.tt {T : List (Addr × Str)} {F : Env → Sto → Option (ER × Sto)} {X : Cx} {e : Expr} (he : PE X e (tF X.K T F)) (h : PT X e (tT X.K T F)) (hb : isBO e = false) : Ok T F X e :=
  ⟨he, h, fun z => by rw [hb] at z; cases z⟩
variable {fs : List (Str × List Str)} {bl : List Str} {G : Pk} {T : List (Addr × Str)} {n : Nat} {cl : Str → List SV → Sto → Option (ER × Sto)}
theorem ty_facts {t : String} (h : tyB t = true) : bootBuiltins (Str.ofString t) = some (.type t) ∧ Str.ofString t ≠ "__name__" ∧ (Str.ofString t == ("__debug__" : Str)) = false := by
  simp only [tyB, List.contains_eq_mem, List.mem_cons, List.not_mem_nil, or_false, decide_eq_true_eq] at h
  rcases h with rfl | rfl | rfl | rfl | rfl | rfl <;> decide +kernel
theorem all_mem {xs ys : List Nat} (h : xs.all ys.contains = true) : ∀ i ∈ xs, i ∈ ys := fun i hi => by
  have := List.all_eq_true.mp h i hi
  simpa using this
mutual
theorem snd : ∀ (c : IE) (s : Sx) (X : Cx) (e : Expr), Gd fs bl G T n cl s X → chE fs bl G c s e = true → Ok T (evE G cl c) X e
  | .int i, s, X, e, g, h => by
    simp only [chE] at h
    split at h
    · simp only [decide_eq_true_eq] at h
      subst h
      exact .pl (ok_const pe_int (fun env st => by simp only [evE]) fun φ H => .int _) (by intro _; rfl) rfl
    · cases h
  | .str x, s, X, e, g, h => by
    simp only [chE] at h
    split at h
    · simp only [decide_eq_true_eq] at h
      subst h
      exact .pl (ok_const pe_str (fun env st => by simp only [evE]) fun φ H => .str _) (by intro _; rfl) rfl
    · cases h
  | .bl b, s, X, e, g, h => by
    simp only [chE] at h
    split at h
    · have h := eq_of_beq h
      subst h
      exact .pl (ok_const pe_bl (fun env st => by simp only [evE]) fun φ H => .bl _) (by intro _; rfl) rfl
    · cases h
  | .non, s, X, e, g, h => by
    simp only [chE] at h
    split at h
    · exact .pl (ok_const pe_non (fun env st => by simp only [evE]) fun φ H => .non) (by intro _; rfl) rfl
    · cases h
  | .slot i, s, X, e, g, h => by
    simp only [chE] at h
    split at h
    · simp only [Bool.and_eq_true, decide_eq_true_eq] at h
      exact .pl (ok_slot (g.var h.1.1 h.1.2 h.2)) (by intro _; rfl) rfl
    · cases h
  | .con y, s, X, e, g, h => by
    simp only [chE] at h
    split at h
    · simp only [Bool.and_eq_true, decide_eq_true_eq, glB] at h
      obtain ⟨⟨rfl, h1, h2⟩, h3⟩ := h
      obtain ⟨d, hd⟩ := Option.isSome_iff_exists.mp h3
      obtain ⟨u, v, hu, r, rd⟩ := g.con _ d hd
      exact .pl (ok_con (pe_glob (g.gl h1) hu r (nm1 h2)) hd rd) (by intro _; rfl) rfl
    · cases h
  | .tup es, s, X, e, g, h => by
    simp only [chE] at h
    split at h
    · exact .pl (ok_tup (sndEs es s X _ g h).2.2) (by intro _; rfl) rfl
    · cases h
  | .lst es, s, X, e, g, h => by
    simp only [chE] at h
    split at h
    · exact .pl (ok_lst (sndEs es s X _ g h).2.2) (by intro _; rfl) rfl
    · cases h
  | .bin o a b, s, X, e, g, h => by
    simp only [chE] at h
    split at h
    · simp only [Bool.and_eq_true, decide_eq_true_eq] at h
      obtain ⟨⟨rfl, h1⟩, h2⟩ := h
      exact .pl (ok_bin (snd a s X _ g h1).pe (snd b s X _ g h2).pe) (by intro _; rfl) rfl
    · cases h
  | .neg a, s, X, e, g, h => by
    simp only [chE] at h
    split at h
    · exact .pl (ok_neg (snd a s X _ g h).pe) (by intro _; rfl) rfl
    · cases h
  | .no a, s, X, e, g, h => by
    simp only [chE] at h
    split at h
    · have i := snd a s X _ g h
      exact .tt (ok_no i.pe) (okT_no i.pt) rfl
    · cases h
  | .land a b, s, X, e, g, h => by
    simp only [chE] at h
    split at h
    · simp only [Bool.and_eq_true] at h
      have i := snd a s X _ g h.1
      have j := snd b s X _ g h.2
      exact ⟨ok_land i.pe (pe_one j.pe), (okW_land (rest := []) i.pt (pw_and1 j.pt)).pt, fun _ => okW_land (rest := []) i.pt (pw_and1 j.pt)⟩
    · simp only [Bool.and_eq_true] at h
      have i := snd a s X _ g h.1
      have j := snd b s X _ g h.2
      have w := okW_land i.pt (j.pw rfl)
      exact ⟨ok_land i.pe j.pe, w.pt, fun _ => w⟩
    · cases h
  | .lor a b, s, X, e, g, h => by
    simp only [chE] at h
    split at h
    · simp only [Bool.and_eq_true] at h
      have i := snd a s X _ g h.1
      have j := snd b s X _ g h.2
      exact ⟨ok_lor i.pe (pe_one j.pe), (okW_lor (rest := []) i.pt (pw_or1 j.pt)).pt, fun _ => okW_lor (rest := []) i.pt (pw_or1 j.pt)⟩
    · simp only [Bool.and_eq_true] at h
      have i := snd a s X _ g h.1
      have j := snd b s X _ g h.2
      have w := okW_lor i.pt (j.pw rfl)
      exact ⟨ok_lor i.pe j.pe, w.pt, fun _ => w⟩
    · cases h
  | .cmp o a b, s, X, e, g, h => by
    simp only [chE] at h
    split at h
    · simp only [Bool.and_eq_true, decide_eq_true_eq] at h
      obtain ⟨⟨⟨rfl, h1⟩, h2⟩, h3⟩ := h
      have i := snd a s X _ g h2
      have j := snd b s X _ g h3
      exact .tt (ok_cmp g.u i.pe j.pe h1) (okT_cmp g.u i.pe j.pe h1) rfl
    · cases h
  | .cmp2 o p a b c, s, X, e, g, h => by
    simp only [chE] at h
    split at h
    · simp only [Bool.and_eq_true, decide_eq_true_eq] at h
      obtain ⟨⟨⟨⟨⟨rfl, rfl⟩, h1⟩, h2⟩, h3⟩, h4⟩ := h
      have i := snd a s X _ g h2
      have j := snd b s X _ g h3
      have l := snd c s X _ g h4
      exact .tt (ok_cmp2 g.u i.pe j.pe l.pe h1) (okT_cmp2 g.u i.pe j.pe l.pe h1) rfl
    · cases h
  | .ite c a b, s, X, e, g, h => by
    simp only [chE] at h
    split at h
    · simp only [Bool.and_eq_true] at h
      have i := snd c s X _ g h.1.1
      have j := snd a s X _ g h.1.2
      have l := snd b s X _ g h.2
      exact .tt (ok_ite i.pt j.pe l.pe) (okT_ite i.pt j.pt l.pt) rfl
    · cases h
  | .call f es, s, X, e, g, h => by
    simp only [chE] at h
    split at h
    · simp only [Bool.and_eq_true, decide_eq_true_eq, glB] at h
      obtain ⟨⟨⟨⟨rfl, h1, h2⟩, h3⟩, h4⟩, h5⟩ := h
      cases hf : fs.lookup f with
      | none => rw [hf] at h3; cases h3
      | some ps =>
        rw [hf] at h3
        have hl : ps.length = es.length := by simpa using h3
        exact .pl (ok_call g.ck hf g.room g.gu (g.gl h1) (nm1 h2) hl (sndEs es s X _ g h5).2.1 h4) (by intro _; rfl) rfl
    · simp only [Bool.and_eq_true, decide_eq_true_eq, glB] at h
      obtain ⟨⟨⟨rfl, h1, h2⟩, h3⟩, h4⟩ := h
      cases es with
      | nil => exact .pl (ok_call0 g.ck h3 g.room g.gu (g.gl h1) (nm1 h2)) (by intro _; rfl) rfl
      | cons _ _ => cases h4
    · cases h
  | .blt f es, s, X, e, g, h => by
    simp only [chE] at h
    split at h
    · simp only [Bool.and_eq_true, decide_eq_true_eq] at h
      obtain ⟨⟨⟨rfl, h1⟩, h4⟩, h5⟩ := h
      exact .pl (ok_blt g.calm g.gu g.u (g.bt h1).1 (g.bt h1).2 (sndEs es s X _ g h5).2.1 h4) (by intro _; rfl) rfl
    · cases h
  | .isi a t, s, X, e, g, h => by
    simp only [chE] at h
    split at h
    · simp only [Bool.and_eq_true, decide_eq_true_eq] at h
      obtain ⟨⟨⟨⟨⟨⟨rfl, h1⟩, rfl⟩, h2⟩, h3⟩, h4⟩, h5⟩ := h
      obtain ⟨f1, f2, f3⟩ := ty_facts h3
      exact .pl (ok_isi (g.bt h1).1 (g.bt h1).2 (g.bt h2).1 (g.bt h2).2 f1 f2 f3 (snd a s X _ g h5).pe h4) (by intro _; rfl) rfl
    · cases h
  | .idx a b, s, X, e, g, h => by
    simp only [chE] at h
    split at h
    · simp only [Bool.and_eq_true] at h
      exact .pl (ok_idx (snd a s X _ g h.1.2).pe (snd b s X _ g h.2).pe h.1.1) (by intro _; rfl) rfl
    · cases h
  | .cut a lo hi, s, X, e, g, h => by
    simp only [chE] at h
    split at h
    · simp only [Bool.and_eq_true] at h
      exact .pl (ok_cut (snd a s X _ g h.1.1).pe (sndO lo s X _ g h.1.2) (sndO hi s X _ g h.2)) (by intro _; rfl) rfl
    · cases h
  | .rev a, s, X, e, g, h => by simp only [chE] at h; cases h
  | .look gg a, s, X, e, g, h => by
    simp only [chE] at h
    split at h
    · simp only [Bool.and_eq_true, decide_eq_true_eq, glB] at h
      obtain ⟨⟨⟨⟨rfl, h1, h2⟩, h3⟩, h4⟩, h5⟩ := h
      obtain ⟨kvs, hd⟩ := Option.isSome_iff_exists.mp h3
      obtain ⟨p, hp, hv⟩ := g.dic _ kvs hd
      exact .pl (ok_look (p2 := default) (g.gl h1) hp (nm1 h2) hd hv (snd a s X _ g h5).pe h4) (by intro _; rfl) rfl
    · cases h
  | .mth m a es, s, X, e, g, h => by simp only [chE] at h; cases h
  | .callk f ks es ix, s, X, e, g, h => by
    simp only [chE] at h
    split at h
    · simp only [Bool.and_eq_true, decide_eq_true_eq, glB] at h
      obtain ⟨⟨⟨⟨⟨rfl, h1, h2⟩, h3⟩, h4⟩, h5⟩, h6⟩ := h
      exact .pl (ok_callk g.ck h3 g.room g.gu (g.gl h1) (nm1 h2) h4 h5 (sndKs es s X _ g h6)) (by intro _; rfl) rfl
    · cases h
  | .lc own t it cs e', s, X, e, g, h => by
    simp only [chE] at h
    split at h
    · simp only [Bool.and_eq_true] at h
      obtain ⟨⟨⟨⟨⟨⟨h1, h2⟩, h3⟩, h4⟩, h5⟩, h6⟩, h7⟩ := h
      refine .pl (ok_lc g.calm g.nd (sndI it s X _ _ g h4) (blkOk_by (by rw [g.N, g.sc]; exact h1)) (fun st H C cc fp => sndT t _ _ _ (g.blk st H C cc fp) h5)
        (fun st H C cc fp => sndCs cs _ _ _ (g.blk st H C cc fp) h6) (fun st H C cc fp => (snd e' _ _ _ (g.blk st H C cc fp) h7).pe) h2 (all_mem h3)) (by intro _; rfl) rfl
    · cases h
  | .lc2 own vs1 t it cs t1 it1 cs1 e', s, X, e, g, h => by
    simp only [chE] at h
    split at h
    · simp only [Bool.and_eq_true] at h
      obtain ⟨⟨⟨⟨⟨⟨⟨⟨⟨⟨⟨⟨h1, h2⟩, h3⟩, h4⟩, h5⟩, h6⟩, h7⟩, h8⟩, h9⟩, ha⟩, hb⟩, hc⟩, hd⟩ := h
      refine .pl (ok_lc2 g.calm g.nd (sndI it s X _ _ g h7) (blkOk_by (by rw [g.N, g.sc]; exact h1)) (all_mem h5) (fun st H C cc fp => sndT t _ _ _ (g.blk st H C cc fp) h8)
        (fun st H C cc fp => sndCs cs _ _ _ (g.blk st H C cc fp) h9) (fun st H C cc fp => sndI it1 _ _ _ _ (g.blk st H C cc fp) ha) (fun st H C cc fp => sndT t1 _ _ _ (g.blk st H C cc fp) hb)
        (fun st H C cc fp => sndCs cs1 _ _ _ (g.blk st H C cc fp) hc) (fun st H C cc fp => (snd e' _ _ _ (g.blk st H C cc fp) hd).pe) h2 h3 (all_mem h4) (all_mem h6)) (by intro _; rfl) rfl
    · cases h
  | .sortl a i k rev, s, X, e, g, h => by
    simp only [chE] at h
    split at h
    · simp only [Bool.and_eq_true, decide_eq_true_eq, Bool.not_eq_true'] at h
      obtain ⟨⟨⟨⟨⟨⟨⟨⟨⟨⟨rfl, h1⟩, h3⟩, h4⟩, h5⟩, rfl⟩, h7⟩, h8⟩, h9⟩, ha⟩, hb⟩ := h
      obtain ⟨x, hx⟩ := Option.isSome_iff_exists.mp ha
      rw [hx] at h8 h9
      obtain ⟨q, hq⟩ := Option.isSome_iff_exists.mp h4
      obtain ⟨lam, hr⟩ := g.lam q hq
      exact .pl (ok_sortl (.inl ⟨_, _, rfl, h7⟩) lam (lm_by (by rw [g.sc]; exact h9)) h8 (g.bt h1).1 (g.bt h1).2 (g.room.mono (Nat.zero_le _)) (by rw [g.N]; exact hx) g.nd (snd a s X _ g h5).pe h3 (fun st H f c' => (snd k _ _ _ (g.lm hr st H f c' x) hb).pe)) (by intro _; rfl) rfl
    · simp only [Bool.and_eq_true, decide_eq_true_eq, Bool.not_eq_true'] at h
      obtain ⟨⟨⟨⟨⟨⟨⟨⟨⟨⟨⟨rfl, h1⟩, h3⟩, h4⟩, h5⟩, rfl⟩, h7⟩, h8⟩, h9⟩, ha⟩, hb⟩, rfl⟩ := h
      obtain ⟨x, hx⟩ := Option.isSome_iff_exists.mp ha
      rw [hx] at h8 h9
      obtain ⟨q, hq⟩ := Option.isSome_iff_exists.mp h4
      obtain ⟨lam, hr⟩ := g.lam q hq
      exact .pl (ok_sortl (.inr ⟨_, _, _, _, _, _, rfl, eq_of_beq h7⟩) lam (lm_by (by rw [g.sc]; exact h9)) h8 (g.bt h1).1 (g.bt h1).2 (g.room.mono (Nat.zero_le _)) (by rw [g.N]; exact hx) g.nd (snd a s X _ g h5).pe h3 (fun st H f c' => (snd k _ _ _ (g.lm hr st H f c' x) hb).pe)) (by intro _; rfl) rfl
    · cases h
  | .sortr a i k rev, s, X, e, g, h => by
    simp only [chE] at h
    split at h
    · simp only [Bool.and_eq_true, decide_eq_true_eq, Bool.not_eq_true'] at h
      obtain ⟨⟨⟨⟨⟨⟨⟨⟨⟨⟨⟨⟨rfl, h1⟩, rfl⟩, h2⟩, h3⟩, h4⟩, h5⟩, rfl⟩, h7⟩, h8⟩, h9⟩, ha⟩, hb⟩ := h
      obtain ⟨x, hx⟩ := Option.isSome_iff_exists.mp ha
      rw [hx] at h8 h9
      obtain ⟨q, hq⟩ := Option.isSome_iff_exists.mp h4
      obtain ⟨lam, hr⟩ := g.lam q hq
      exact .pl (ok_sortr (.inl ⟨_, _, rfl, h7⟩) lam (lm_by (by rw [g.sc]; exact h9)) h8 (g.bt h1).1 (g.bt h1).2 (g.bt h2).1 (g.bt h2).2 (g.room.mono (Nat.zero_le _)) (by rw [g.N]; exact hx) g.nd (snd a s X _ g h5).pe h3 (fun st H f c' => (snd k _ _ _ (g.lm hr st H f c' x) hb).pe)) (by intro _; rfl) rfl
    · simp only [Bool.and_eq_true, decide_eq_true_eq, Bool.not_eq_true'] at h
      obtain ⟨⟨⟨⟨⟨⟨⟨⟨⟨⟨⟨⟨⟨rfl, h1⟩, rfl⟩, h2⟩, h3⟩, h4⟩, h5⟩, rfl⟩, h7⟩, h8⟩, h9⟩, ha⟩, hb⟩, rfl⟩ := h
      obtain ⟨x, hx⟩ := Option.isSome_iff_exists.mp ha
      rw [hx] at h8 h9
      obtain ⟨q, hq⟩ := Option.isSome_iff_exists.mp h4
      obtain ⟨lam, hr⟩ := g.lam q hq
      exact .pl (ok_sortr (.inr ⟨_, _, _, _, _, _, rfl, eq_of_beq h7⟩) lam (lm_by (by rw [g.sc]; exact h9)) h8 (g.bt h1).1 (g.bt h1).2 (g.bt h2).1 (g.bt h2).2 (g.room.mono (Nat.zero_le _)) (by rw [g.N]; exact hx) g.nd (snd a s X _ g h5).pe h3 (fun st H f c' => (snd k _ _ _ (g.lm hr st H f c' x) hb).pe)) (by intro _; rfl) rfl
    · cases h
  | .slen i, s, X, e, g, h => by
    simp only [chE] at h
    split at h
    · simp only [Bool.and_eq_true, decide_eq_true_eq] at h
      obtain ⟨⟨⟨⟨rfl, h1⟩, h2⟩, h3⟩, h4⟩ := h
      exact .pl (ok_slen (g.bt h1).1 (g.bt h1).2 (g.var h2 h3 h4) rfl) (by intro _; rfl) rfl
    · cases h
  | .sidx i a, s, X, e, g, h => by
    simp only [chE] at h
    split at h
    · simp only [Bool.and_eq_true, decide_eq_true_eq] at h
      obtain ⟨⟨⟨⟨h1, h2⟩, h3⟩, h4⟩, h5⟩ := h
      exact .pl (ok_sidx (g.var h1 h2 h3) (snd a s X _ g h5).pe h4) (by intro _; rfl) rfl
    · cases h
theorem sndEs : ∀ (cs : List IE) (s : Sx) (X : Cx) (es : List Expr), Gd fs bl G T n cl s X → chEs fs bl G cs s es = true → es.all pln = true ∧ PA X es (tFs X.K T (evEs G cl cs)) ∧ PA X es (tDs X.K T (evDs G cl cs))
  | [], s, X, es, g, h => by
    simp only [chEs] at h
    split at h
    · exact ⟨rfl, oks_nil, okd_nil⟩
    · cases h
  | a :: as, s, X, es, g, h => by
    simp only [chEs] at h
    split at h
    · simp only [Bool.and_eq_true] at h
      have i := snd a s X _ g h.1.2
      obtain ⟨j1, j2, j3⟩ := sndEs as s X _ g h.2
      exact ⟨by rw [List.all_cons, h.1.1, j1]; rfl, oks_cons h.1.1 i.pe j2, okd_cons h.1.1 i.pe j3⟩
    · cases h
theorem sndKs : ∀ (cs : List IE) (s : Sx) (X : Cx) (es : List Keyword), Gd fs bl G T n cl s X → chKs fs bl G cs s es = true → PK X es (tFs X.K T (evEs G cl cs))
  | [], s, X, es, g, h => by
    simp only [chKs] at h
    split at h
    · exact okk_nil
    · cases h
  | a :: as, s, X, es, g, h => by
    simp only [chKs] at h
    split at h
    · simp only [Bool.and_eq_true] at h
      exact okk_cons (snd a s X _ g h.1).pe (sndKs as s X _ g h.2)
    · cases h
theorem sndO : ∀ (c : Option IE) (s : Sx) (X : Cx) (e : Option Expr), Gd fs bl G T n cl s X → chO fs bl G c s e = true → PO X e (tOO X.K T (evO G cl c))
  | none, s, X, e, g, h => by
    simp only [chO] at h
    split at h
    · exact oko_none
    · cases h
  | some a, s, X, e, g, h => by
    simp only [chO] at h
    split at h
    · exact oko_some (snd a s X _ g h).pe
    · cases h
theorem sndCs : ∀ (cs : List IE) (s : Sx) (X : Cx) (es : List Expr), Gd fs bl G T n cl s X → chCs fs bl G cs s es = true → PTs X es (tCs X.K T (evCs G cl cs))
  | [], s, X, es, g, h => by
    simp only [chCs] at h
    split at h
    · exact okc_nil
    · cases h
  | [c], s, X, es, g, h => by
    simp only [chCs] at h
    split at h
    · exact okc_one (snd c s X _ g h).pt
    · cases h
  | _ :: _ :: _, s, X, es, g, h => by simp only [chCs] at h; cases h
theorem sndI : ∀ (c : II) (s : Sx) (X : Cx) (tg e : Expr), Gd fs bl G T n cl s X → chI fs bl G c s tg e = true → PI X tg e (tI X.K T (evI G cl c))
  | .of a, s, X, tg, e, g, h => by
    simp only [chI] at h
    exact oki_of (snd a s X _ g h).pe
  | .rng es, s, X, tg, e, g, h => by
    simp only [chI] at h
    split at h
    · simp only [Bool.and_eq_true, decide_eq_true_eq] at h
      obtain ⟨⟨⟨rfl, h1⟩, h2⟩, h3⟩ := h
      obtain ⟨j1, j2, j3⟩ := sndEs es s X _ g h3
      simp only [List.all_cons, List.all_nil, Bool.and_true] at j1
      exact oki_rng1 (g.bt h1).1 (g.bt h1).2 j3 h2 j1
    · simp only [Bool.and_eq_true, decide_eq_true_eq] at h
      obtain ⟨⟨⟨rfl, h1⟩, h2⟩, h3⟩ := h
      obtain ⟨j1, j2, j3⟩ := sndEs es s X _ g h3
      simp only [List.all_cons, List.all_nil, Bool.and_true, Bool.and_eq_true] at j1
      exact oki_rng2 (g.bt h1).1 (g.bt h1).2 j3 h2 j1.1 j1.2
    · cases h
  | .enm a, s, X, tg, e, g, h => by
    simp only [chI] at h
    split at h
    · split at h
      · simp only [Bool.and_eq_true, decide_eq_true_eq] at h
        obtain ⟨⟨⟨rfl, h1⟩, h2⟩, h3⟩ := h
        exact oki_enm (g.bt h1).1 (g.bt h1).2 (snd a s X _ g h3).pe h2
      · cases h
    · cases h
  | .zip a b, s, X, tg, e, g, h => by
    simp only [chI] at h
    split at h
    · split at h
      · simp only [Bool.and_eq_true, decide_eq_true_eq] at h
        obtain ⟨⟨⟨⟨⟨rfl, h1⟩, h2⟩, h3⟩, h4⟩, h5⟩ := h
        exact oki_zip (g.bt h1).1 (g.bt h1).2 (snd a s X _ g h4).pe (snd b s X _ g h5).pe h2 h3
      · cases h
    · cases h
end
end Ev
set_option linter.all false
set_option maxRecDepth 100000
set_option maxHeartbeats 8000000
/-! Ev14: the check of statements, and what it is good for. -/
namespace Ev
open PySem PySem.Spec L2
def isCp : Expr → Bool
  | .ListComp .. => true
  | .SetComp .. => true
  | .DictComp .. => true
  | _ => false
def isTp : Expr → Bool
  | .Tuple .. => true
  | _ => false
def locB (sc : Scope) (x : Str) : Bool := match sc.names.lookup x with
  | some .local => true
  | _ => false
/-- does the comprehension hand its list over to the name? -/
def swB (sc : Scope) (y : Str) (py : Pos) (scope : Scope) (pos : Pos) : Bool :=
  locB sc y && (py.line == pos.line) && !(scope.names.any fun (n, k) => n == y && (k == .local || k == .cell))
theorem sw_no {e : Expr} {t : Option Expr} {l : Nat} {env : PySem.Env} (h : isCp e = false) : swapsWith e t l env = pure false := by
  cases e <;> first | rfl | cases h
theorem sw_nm {y : Str} {py : Pos} {l : Nat} {env : PySem.Env} (hk : env.scope.kind = .function) {elt : Expr} {gs : List Comprehension} {scope : Scope} {pos : Pos} (h : swB env.scope y py scope pos = false) :
    swapsWith (.ListComp elt gs scope pos) (some (.Name y py)) l env = pure false := by
  have hb : env.blockKind = .function := by unfold Env.blockKind; rw [hk]; rfl
  unfold swB locB at h
  unfold swapsWith
  simp only [hb, Expr.pos]
  cases e : env.scope.names.lookup y with
  | none =>
    have ky : env.kindOf y = none := e
    simp only [ky]
    rfl
  | some k =>
    have ky : env.kindOf y = some k := e
    rw [e] at h
    simp only [ky]
    cases k with
    | «local» =>
      simp only [Bool.true_and] at h
      show pure (true && true && _ && _) = _
      rw [Bool.true_and, Bool.true_and, h]
    | _ => rfl
theorem sw_sole {tg e : Expr} {l : Nat} {env : PySem.Env} (h : ∀ x p, tg ≠ .Name x p) : swapsWithSole [tg] e l env = pure false := by
  show swapsWith e (some tg) l env = pure false
  by_cases hc : isCp e = false
  · exact sw_no hc
  · cases e <;> first | (exact absurd rfl hc) | skip
    all_goals (cases tg <;> first | rfl | exact absurd rfl (h _ _))
theorem swp_no {tg e : Expr} {env : PySem.Env} (h : isTp e = false) : swappedStores [tg] e env = pure none := by
  cases tg <;> cases e <;> first | rfl | cases h
/-- a, b = .. -/
def parB (sc : Scope) (ts vs : List Expr) (line : Nat) : Bool :=
  (ts.all fun t => match t with
    | .Name id pos => locB sc id && (pos.line == line)
    | _ => false) && vs.all pln && !(vs.all (foldedForSure 8)) && !(vs.all (constantsAlone 8))
theorem loc_of {sc : Scope} {x : Str} (h : locB sc x = true) : sc.names.lookup x = some .local := by
  unfold locB at h
  split at h
  · assumption
  · cases h
theorem any_star {vs : List Expr} (h : vs.all pln = true) : (vs.any fun | .Starred .. => true | _ => false) = false := by
  induction vs with
  | nil => rfl
  | cons v vs ih =>
    rw [List.all_cons, Bool.and_eq_true] at h
    rw [List.any_cons, ih h.2]
    cases v <;> first | rfl | (exact absurd h.1 Bool.false_ne_true)
section
variable (fs : List (Str × List Str)) (bl : List Str) (G : Pk)
mutual
def chS : IS → Sx → Stmt → Bool
  | .asg (.nm i) e, s, st => match st with
    | .Assign [.Name x p] v pos => decide (s.N[i]? = some x) && s.tg x && chE fs bl G e s v && (match v with
      | .ListComp elt gs scope lp => !swB s.sc x p scope lp || (match e with
        | .lc .. => true
        | .lc2 .. => true
        | _ => false)
      | _ => !isCp v)
    | _ => false
  | .asg (.tp ts) e, s, st => match st with
    | .Assign [tg] v pos => isTp tg && !isTp v && chT (.tp ts) s tg && chE fs bl G e s v
    | _ => false
  | .par is es, s, st => match st with
    | .Assign [.Tuple [.Name x px, .Name y py] _ _] (.Tuple [a, b] _ _) _ => decide (is.map (s.N[·]?) = [some x, some y]) && is.Nodup && decide (x ≠ y) && parB s.sc [.Name x px, .Name y py] [a, b] px.line && decide (es.length = 2) && chEs fs bl G es s [a, b]
    | .Assign [.Tuple [.Name x px, .Name y py, .Name z pz] _ _] (.Tuple [a, b, c] _ _) _ => decide (is.map (s.N[·]?) = [some x, some y, some z]) && is.Nodup && decide ([x, y, z].Nodup) && parB s.sc [.Name x px, .Name y py, .Name z pz] [a, b, c] px.line && decide (es.length = 3) && chEs fs bl G es s [a, b, c]
    | _ => false
  | .seti i a e, s, st => match st with
    | .Assign [.Subscript (.Name x p) l _] v _ => decide (s.N[i]? = some x) && visB s.sc x && nmB x && pln l && chE fs bl G a s l && chE fs bl G e s v
    | _ => false
  | .app i e, s, st => match st with
    | .Expr (.Call (.Attribute (.Name x p) m ap) [v] [] cp) _ => decide (m = "append") && decide (s.N[i]? = some x) && visB s.sc x && nmB x && pln v && (ap.endLine == cp.line) && chE fs bl G e s v
    | _ => false
  | .ins i a e, s, st => match st with
    | .Expr (.Call (.Attribute (.Name x p) m ap) [u, v] [] cp) _ => decide (m = "insert") && decide (s.N[i]? = some x) && visB s.sc x && nmB x && pln u && pln v && (ap.endLine == cp.line) && chE fs bl G a s u && chE fs bl G e s v
    | _ => false
  | .exp e, s, st => match st with
    | .Expr v _ => !isCp v && chE fs bl G e s v
    | _ => false
  | .ite c a b, s, st => match st with
    | .If t x y _ => chE fs bl G c s t && chSs a s x && chSs b s y
    | _ => false
  | .loop t it b, s, st => match st with
    | .For tg iter body [] _ => pln iter && chT t s tg && chI fs bl G it s tg iter && chSs b s body
    | _ => false
  | .whl c b, s, st => match st with
    | .While t body [] _ => chE fs bl G c s t && chSs b s body
    | _ => false
  | .ret none, s, st => match st with
    | .Return none _ => true
    | _ => false
  | .ret (some e), s, st => match st with
    | .Return (some v) _ => chE fs bl G e s v
    | _ => false
  | .pas, _, st => match st with
    | .Pass _ => true
    | _ => false
  | .brk, _, st => match st with
    | .Break _ => true
    | _ => false
  | .cnt, _, st => match st with
    | .Continue _ => true
    | _ => false
  | .nev, _, _ => true
def chSs : List IS → Sx → List Stmt → Bool
  | [], _, sts => match sts with
    | [] => true
    | _ => false
  | a :: as, s, sts => match sts with
    | st :: sts => chS a s st && chSs as s sts
    | [] => false
end
end
section
variable {fs : List (Str × List Str)} {bl : List Str} {G : Pk} {T : List (Addr × Str)} {n : Nat} {cl : Str → List SV → Sto → Option (ER × Sto)} {mu : List Nat} {s : Sx} {X : Cx}
theorem pairs_of {sc : Scope} {env : PySem.Env} (hs : env.scope = sc) (hk : sc.kind = .function) {x y : Str} {px py pt : Pos} {a b : Expr} {kt k2 : Nat} {pt2 : Pos} (hxy : x ≠ y) (h : parB sc [.Name x px, .Name y py] [a, b] px.line = true) :
    swappedStores [.Tuple [.Name x px, .Name y py] kt pt] (.Tuple [a, b] k2 pt2) env = pure (some [x, y]) := by
  have hb : env.blockKind = .function := by unfold Env.blockKind; rw [hs, hk]; rfl
  simp only [parB, List.all_cons, List.all_nil, Bool.and_true, Bool.and_eq_true, Bool.not_eq_true'] at h
  obtain ⟨⟨⟨⟨⟨h1, h2⟩, h3, h4⟩, h5⟩, h6⟩, h7⟩ := h
  have kx : env.kindOf x = some .local := by show env.scope.names.lookup x = _; rw [hs]; exact loc_of h1
  have ky : env.kindOf y = some .local := by show env.scope.names.lookup y = _; rw [hs]; exact loc_of h3
  have st : ([a, b].any fun | .Starred .. => true | _ => false) = false := any_star (by simp only [List.all_cons, List.all_nil, Bool.and_true, Bool.and_eq_true]; exact h5)
  have f1 : [a, b].all (foldedForSure 8) = false := by simp only [List.all_cons, List.all_nil, Bool.and_true]; exact h6
  have f2 : [a, b].all (constantsAlone 8) = false := by simp only [List.all_cons, List.all_nil, Bool.and_true]; exact h7
  have ed : [x, y].eraseDups.length = 2 := by
    rw [List.eraseDups_cons, List.filter_cons, if_pos (by simp only [Bool.not_eq_true', beq_eq_false_iff_ne]; exact fun e => hxy e.symm)]
    rfl
  unfold swappedStores
  simp only [hb, st, f1, f2, List.filterMap_cons, List.filterMap_nil, kx, ky, h4, h2, ed, List.head?_cons, Option.map_some, Option.getD_some, Expr.pos, beq_self_eq_true, Bool.and_self, Bool.true_and, if_true]
  refine (if_neg (by simp)).trans ?_
  refine (if_neg fun z => ?_).trans rfl
  exact Bool.false_ne_true (st.symm.trans z)
theorem threes_of {sc : Scope} {env : PySem.Env} (hs : env.scope = sc) (hk : sc.kind = .function) {x y z : Str} {px py pz pt : Pos} {a b c : Expr} {kt k2 : Nat} {pt2 : Pos} (hn : [x, y, z].Nodup) (h : parB sc [.Name x px, .Name y py, .Name z pz] [a, b, c] px.line = true) :
    swappedStores [.Tuple [.Name x px, .Name y py, .Name z pz] kt pt] (.Tuple [a, b, c] k2 pt2) env = pure (some [x, y, z]) := by
  have hb : env.blockKind = .function := by unfold Env.blockKind; rw [hs, hk]; rfl
  simp only [parB, List.all_cons, List.all_nil, Bool.and_true, Bool.and_eq_true, Bool.not_eq_true'] at h
  obtain ⟨⟨⟨⟨⟨h1, h2⟩, ⟨h3, h4⟩, h8, h9⟩, h5⟩, h6⟩, h7⟩ := h
  have kx : env.kindOf x = some .local := by show env.scope.names.lookup x = _; rw [hs]; exact loc_of h1
  have ky : env.kindOf y = some .local := by show env.scope.names.lookup y = _; rw [hs]; exact loc_of h3
  have kz : env.kindOf z = some .local := by show env.scope.names.lookup z = _; rw [hs]; exact loc_of h8
  have st : ([a, b, c].any fun | .Starred .. => true | _ => false) = false := any_star (by simp only [List.all_cons, List.all_nil, Bool.and_true, Bool.and_eq_true]; exact h5)
  have f1 : [a, b, c].all (foldedForSure 8) = false := by simp only [List.all_cons, List.all_nil, Bool.and_true]; exact h6
  have f2 : [a, b, c].all (constantsAlone 8) = false := by simp only [List.all_cons, List.all_nil, Bool.and_true]; exact h7
  simp only [List.nodup_cons, List.mem_cons, List.not_mem_nil, or_false, not_or, not_false_eq_true, List.nodup_nil, and_true] at hn
  have ed : [x, y, z].eraseDups.length = 3 := by
    rw [List.eraseDups_cons, List.filter_cons, if_pos (by simp only [Bool.not_eq_true', beq_eq_false_iff_ne]; exact fun e => hn.1.1 e.symm), List.filter_cons, if_pos (by simp only [Bool.not_eq_true', beq_eq_false_iff_ne]; exact fun e => hn.1.2 e.symm),
      List.filter_nil, List.eraseDups_cons, List.filter_cons, if_pos (by simp only [Bool.not_eq_true', beq_eq_false_iff_ne]; exact fun e => hn.2 e.symm)]
    rfl
  unfold swappedStores
  simp only [hb, st, f1, f2, List.filterMap_cons, List.filterMap_nil, kx, ky, kz, h4, h2, h9, ed, List.head?_cons, Option.map_some, Option.getD_some, Expr.pos, beq_self_eq_true, Bool.and_self, Bool.true_and, if_true]
  refine (if_neg (by simp)).trans ?_
  refine (if_neg fun z => ?_).trans rfl
  exact Bool.false_ne_true (st.symm.trans z)
theorem assign_sub {x : Str} {p p2 : Pos} {a : Expr} {env : PySem.Env} (hp : pln a = true) (v : Value) : assign (.Subscript (.Name x p) a p2) env v = (do
      let ov ← holding [v] (eval (.Name x p) env)
      let iv ← holding [v, ov] (eval a env)
      standAt p2
      holding [v, ov, iv] (setItem ov iv v)
      release [v, ov, iv] []) := by
  cases a <;> first | rfl | (exact absurd (show false = true from hp) Bool.false_ne_true)
theorem map_two {N : List Str} {is : List Nat} {x y : Str} (h : is.map (N[·]?) = [some x, some y]) : ∃ i j, is = [i, j] ∧ N[i]? = some x ∧ N[j]? = some y := by
  match is, h with
  | [i, j], h =>
    simp only [List.map_cons, List.map_nil, List.cons.injEq, and_true] at h
    exact ⟨i, j, rfl, h.1, h.2⟩
  | [], h => simp at h
  | [_], h => simp at h
  | _ :: _ :: _ :: _, h => simp at h
theorem map_three {N : List Str} {is : List Nat} {x y z : Str} (h : is.map (N[·]?) = [some x, some y, some z]) : ∃ i j l, is = [i, j, l] ∧ N[i]? = some x ∧ N[j]? = some y ∧ N[l]? = some z := by
  match is, h with
  | [i, j, l], h =>
    simp only [List.map_cons, List.map_nil, List.cons.injEq, and_true] at h
    exact ⟨i, j, l, rfl, h.1, h.2.1, h.2.2⟩
  | [], h => simp at h
  | [_], h => simp at h
  | [_, _], h => simp at h
  | _ :: _ :: _ :: _ :: _, h => simp at h
theorem sndPar2 {i j : Nat} {es : List IE} {a b : Expr} (g : Gd fs bl G T n cl s X) (hl : es.length = 2) (h : chEs fs bl G es s [a, b] = true) :
    ∃ a' b', es = [a', b'] ∧ PA X [a, b] (tP X.K T (evP G cl mu [(i, a'), (j, b')])) := by
  match es, hl with
  | [a', b'], _ =>
    simp only [chEs, Bool.and_eq_true, and_true] at h
    exact ⟨a', b', rfl, okp_cons h.1.1 (snd a' s X _ g h.1.2).pe (okp_cons h.2.1 (snd b' s X _ g h.2.2).pe okp_nil)⟩
theorem sndPar3 {i j l : Nat} {es : List IE} {a b c : Expr} (g : Gd fs bl G T n cl s X) (hl : es.length = 3) (h : chEs fs bl G es s [a, b, c] = true) :
    ∃ a' b' c', es = [a', b', c'] ∧ PA X [a, b, c] (tP X.K T (evP G cl mu [(i, a'), (j, b'), (l, c')])) := by
  match es, hl with
  | [a', b', c'], _ =>
    simp only [chEs, Bool.and_eq_true, and_true] at h
    exact ⟨a', b', c', rfl, okp_cons h.1.1 (snd a' s X _ g h.1.2).pe (okp_cons h.2.1.1 (snd b' s X _ g h.2.1.2).pe (okp_cons h.2.2.1 (snd c' s X _ g h.2.2.2).pe okp_nil))⟩
theorem asg_lc {i : Nat} {y : Str} {py : Pos} {e' : IE} {elt : Expr} {gs : List Comprehension} {scope : Scope} {pos spos : Pos} (g : Gd fs bl G T n cl s X) (hk : s.sc.kind = .function) (hi : s.N[i]? = some y) (hsw : swB s.sc y py scope pos = true)
    (hlc : (match e' with | .lc .. => true | .lc2 .. => true | _ => false) = true) (h : chE fs bl G e' s (.ListComp elt gs scope pos) = true) :
    PS X (.Assign [.Name y py] (.ListComp elt gs scope pos) spos) (tAsg (tF X.K T (evE G cl e')) (gName i)) := by
  simp only [swB, Bool.and_eq_true, Bool.not_eq_true'] at hsw
  have hyl : X.env.scope.names.lookup y = some .local := by rw [g.sc]; exact loc_of hsw.1.1
  have sw := sw_true (elt := elt) (gs := gs) (l := spos.line) (by rw [g.sc]; exact hk) hyl hsw.1.2 hsw.2
  have hi : X.N[i]? = some y := by rw [g.N]; exact hi
  cases e' with
  | lc own t it cs e1 =>
    simp only [chE] at h
    split at h
    · rename_i heq
      cases heq
      simp only [Bool.and_eq_true] at h
      obtain ⟨⟨⟨⟨⟨⟨h1, h2⟩, h3⟩, h4⟩, h5⟩, h6⟩, h7⟩ := h
      exact impS (ps_setLc g.calm g.nd hi hyl sw (sndI it s X _ _ g h4) (blkOk_by (by rw [g.N, g.sc]; exact h1)) (fun st H C cc fp => sndT t _ _ _ (g.blk st H C cc fp) h5)
        (fun st H C cc fp => sndCs cs _ _ _ (g.blk st H C cc fp) h6) (fun st H C cc fp => (snd e1 _ _ _ (g.blk st H C cc fp) h7).pe) (fun x => pln_fold h2 _ x)) fun D σ H q => lc_read (all_mem h3) σ H _ q
    · cases h
  | lc2 own vs1 t it cs t1 it1 cs1 e1 =>
    simp only [chE] at h
    split at h
    · rename_i heq
      cases heq
      simp only [Bool.and_eq_true] at h
      obtain ⟨⟨⟨⟨⟨⟨⟨⟨⟨⟨⟨⟨h1, h2⟩, h3⟩, h4⟩, h5⟩, h6⟩, h7⟩, h8⟩, h9⟩, ha⟩, hb⟩, hc⟩, hd⟩ := h
      exact impS (ps_setLc2 g.calm g.nd hi hyl sw (sndI it s X _ _ g h7) (blkOk_by (by rw [g.N, g.sc]; exact h1)) (all_mem h5) (fun st H C cc fp => sndT t _ _ _ (g.blk st H C cc fp) h8)
        (fun st H C cc fp => sndCs cs _ _ _ (g.blk st H C cc fp) h9) (fun st H C cc fp => sndI it1 _ _ _ _ (g.blk st H C cc fp) ha) (fun st H C cc fp => sndT t1 _ _ _ (g.blk st H C cc fp) hb)
        (fun st H C cc fp => sndCs cs1 _ _ _ (g.blk st H C cc fp) hc) (fun st H C cc fp => (snd e1 _ _ _ (g.blk st H C cc fp) hd).pe) (fun x => pln_fold h2 _ x) (fun env x => pln_fold h3 _ x)) fun D σ H q => lc2_read (all_mem h4) (all_mem h6) σ H _ q
    · cases h
  | _ => cases hlc
mutual
theorem sndS : ∀ (c : IS) (s : Sx) (X : Cx) (st : Stmt), Gd fs bl G T n cl s X → s.sc.kind = .function → X.xe = (fun _ _ => False) → chS fs bl G c s st = true → PS X st (tS X.K T (fun env st => evS G cl mu c env st))
  | .asg (.nm i) e, s, X, st, g, hk, hx, h => by
    simp only [chS] at h
    split at h
    · simp only [Bool.and_eq_true, decide_eq_true_eq] at h
      obtain ⟨⟨⟨h1, h2⟩, h3⟩, h4⟩ := h
      obtain ⟨t1, t2⟩ := g.tg _ h2
      refine okS_asg ?_
      split at h4
      · rename_i elt gs scope lp
        rw [Bool.or_eq_true, Bool.not_eq_true'] at h4
        cases hsw : swB s.sc _ _ scope lp with
        | false => exact ps_set g.nd (by rw [g.N]; exact h1) t1 (snd e s X _ g h3).pe (sw_nm (by rw [g.sc]; exact hk) (by rw [g.sc]; exact hsw)) t2
        | true =>
          rw [hsw] at h4
          exact asg_lc g hk h1 hsw (h4.resolve_left (fun z => Bool.noConfusion z)) h3
      · exact ps_set g.nd (by rw [g.N]; exact h1) t1 (snd e s X _ g h3).pe (sw_no (by simpa using h4)) t2
    · cases h
  | .asg (.tp ts) e, s, X, st, g, hk, hx, h => by
    simp only [chS] at h
    split at h
    · rename_i tg v pos
      simp only [Bool.and_eq_true, Bool.not_eq_true'] at h
      obtain ⟨⟨⟨h1, h2⟩, h3⟩, h4⟩ := h
      have hn : ∀ x p, tg ≠ .Name x p := fun x p z => by rw [z] at h1; cases h1
      have ha : (assignEach [tg] X.env).map (·.2) = [assign tg X.env] := by cases tg <;> first | rfl | cases h1
      exact okS_asgT (snd e s X _ g h4).pe (sndT _ s X _ g h3) (sw_sole hn) (swp_no h2) ha
    · cases h
  | .par is es, s, X, st, g, hk, hx, h => by
    simp only [chS] at h
    split at h
    · rename_i x px y py kt pt a b k2 pt2 pos
      simp only [Bool.and_eq_true, decide_eq_true_eq] at h
      obtain ⟨⟨⟨⟨⟨h1, h2⟩, h3⟩, h4⟩, h5⟩, h6⟩ := h
      obtain ⟨i, j, rfl, hi, hj⟩ := map_two h1
      obtain ⟨a', b', rfl, ha⟩ := sndPar2 (i := i) (j := j) (mu := mu) g h5 h6
      have h4' := h4
      simp only [parB, List.all_cons, List.all_nil, Bool.and_true, Bool.and_eq_true] at h4'
      have hij : i ≠ j := by simpa using h2
      exact okS_par2 (ps_par g.calm g.nd (by rw [g.N]; exact hi) (by rw [g.N]; exact hj) hij (by rw [g.sc]; exact loc_of h4'.1.1.1.1.1) (by rw [g.sc]; exact loc_of h4'.1.1.1.2.1) ha (pairs_of g.sc hk h3 h4))
    · rename_i x px y py z pz kt pt a b c k2 pt2 pos
      simp only [Bool.and_eq_true, decide_eq_true_eq] at h
      obtain ⟨⟨⟨⟨⟨h1, h2⟩, h3⟩, h4⟩, h5⟩, h6⟩ := h
      obtain ⟨i, j, l, rfl, hi, hj, hl⟩ := map_three h1
      obtain ⟨a', b', c', rfl, ha⟩ := sndPar3 (i := i) (j := j) (l := l) (mu := mu) g h5 h6
      have h4' := h4
      simp only [parB, List.all_cons, List.all_nil, Bool.and_true, Bool.and_eq_true] at h4'
      have hij : (i ≠ j ∧ i ≠ l) ∧ j ≠ l := by simpa using h2
      exact okS_par3 (ps_par3 g.calm g.nd (by rw [g.N]; exact hi) (by rw [g.N]; exact hj) (by rw [g.N]; exact hl) hij.1.1 hij.1.2 hij.2 (by rw [g.sc]; exact loc_of h4'.1.1.1.1.1) (by rw [g.sc]; exact loc_of h4'.1.1.1.2.1.1) (by rw [g.sc]; exact loc_of h4'.1.1.1.2.2.1) ha (threes_of g.sc hk h3 h4))
    · cases h
  | .seti i a e, s, X, st, g, hk, hx, h => by
    simp only [chS] at h
    split at h
    · simp only [Bool.and_eq_true, decide_eq_true_eq] at h
      obtain ⟨⟨⟨⟨⟨h1, h2⟩, h3⟩, h4⟩, h5⟩, h6⟩ := h
      exact okS_seti (g.var h1 h2 h3) (snd a s X _ g h5).pe (snd e s X _ g h6).pe (sw_sole (fun _ _ => Expr.noConfusion)) rfl (fun v => assign_sub h4 v)
    · cases h
  | .app i e, s, X, st, g, hk, hx, h => by
    simp only [chS] at h
    split at h
    · simp only [Bool.and_eq_true, decide_eq_true_eq] at h
      obtain ⟨⟨⟨⟨⟨⟨rfl, h1⟩, h2⟩, h3⟩, h4⟩, h5⟩, h6⟩ := h
      exact okS_app (g.var h1 h2 h3) (snd e s X _ g h6).pe h4 h5
    · cases h
  | .ins i a e, s, X, st, g, hk, hx, h => by
    simp only [chS] at h
    split at h
    · simp only [Bool.and_eq_true, decide_eq_true_eq] at h
      obtain ⟨⟨⟨⟨⟨⟨⟨⟨rfl, h1⟩, h2⟩, h3⟩, h4⟩, h5⟩, h6⟩, h7⟩, h8⟩ := h
      exact okS_ins (g.var h1 h2 h3) (snd a s X _ g h7).pe (snd e s X _ g h8).pe h4 h5 h6
    · cases h
  | .exp e, s, X, st, g, hk, hx, h => by
    simp only [chS] at h
    split at h
    · simp only [Bool.and_eq_true, Bool.not_eq_true'] at h
      exact okS_exp (snd e s X _ g h.2).pe (sw_no h.1)
    · cases h
  | .ite c a b, s, X, st, g, hk, hx, h => by
    simp only [chS] at h
    split at h
    · simp only [Bool.and_eq_true] at h
      exact okS_ite (snd c s X _ g h.1.1).pt (sndSs a s X _ g hk hx h.1.2) (sndSs b s X _ g hk hx h.2)
    · cases h
  | .loop t it b, s, X, st, g, hk, hx, h => by
    simp only [chS] at h
    split at h
    · simp only [Bool.and_eq_true] at h
      exact okS_loop (by rw [hx]; exact .never) g.calm (sndI it s X _ _ g h.1.2) (sndT t s X _ g h.1.1.2) (sndSs b s X _ g hk hx h.2) h.1.1.1
    · cases h
  | .whl c b, s, X, st, g, hk, hx, h => by
    simp only [chS] at h
    split at h
    · simp only [Bool.and_eq_true] at h
      exact okS_whl (by rw [hx]; exact .never) (snd c s X _ g h.1).pt (sndSs b s X _ g hk hx h.2)
    · cases h
  | .ret none, s, X, st, g, hk, hx, h => by
    simp only [chS] at h
    split at h
    · exact okS_retN
    · cases h
  | .ret (some e), s, X, st, g, hk, hx, h => by
    simp only [chS] at h
    split at h
    · exact okS_ret (snd e s X _ g h).pe
    · cases h
  | .pas, s, X, st, g, hk, hx, h => by
    simp only [chS] at h
    split at h
    · exact okS_pas
    · cases h
  | .brk, s, X, st, g, hk, hx, h => by
    simp only [chS] at h
    split at h
    · exact okS_brk
    · cases h
  | .cnt, s, X, st, g, hk, hx, h => by
    simp only [chS] at h
    split at h
    · exact okS_cnt
    · cases h
  | .nev, s, X, st, g, hk, hx, h => okS_nev
theorem sndSs : ∀ (cs : List IS) (s : Sx) (X : Cx) (sts : List Stmt), Gd fs bl G T n cl s X → s.sc.kind = .function → X.xe = (fun _ _ => False) → chSs fs bl G cs s sts = true → PSs X sts (tS X.K T (fun env st => evSs G cl mu cs env st))
  | [], s, X, sts, g, hk, hx, h => by
    simp only [chSs] at h
    split at h
    · exact okSs_nil
    · cases h
  | a :: as, s, X, sts, g, hk, hx, h => by
    simp only [chSs] at h
    split at h
    · simp only [Bool.and_eq_true] at h
      exact okSs_cons (sndS a s X _ g hk hx h.1) (sndSs as s X _ g hk hx h.2)
    · cases h
end
end
end Ev
set_option linter.all false
set_option maxRecDepth 100000
set_option maxHeartbeats 4000000
/-! Ev15: functions: what they work out to, and that they keep it. -/
namespace Ev
open PySem PySem.Spec L2
/-- what a call leaves: the store as far as the caller knows it -/
def finR (base : Nat) : ER → Sto → Option (ER × Sto)
  | .dat d fr, st => some (.dat d fr, st.take base)
  | .loc n, st => if n < base then some (.loc n, st.take base) else
    match st[n]? with
    | some ds => some (.dat (.list ds) true, st.take base)
    | none => none
  | .scr ns, st => some (.scr ns, st.take base)
def finF (base : Nat) : Option Fl → Option (ER × Sto)
  | some (.nx _ st) => some (.dat .none false, st.take base)
  | some (.rt r st) => finR base r st
  | _ => none
def evF (G : Pk) : Nat → Str → List SV → Sto → Option (ER × Sto)
  | 0, _, _, _ => none
  | n + 1, f, args, st => match G.fn f with
    | some F => if args.length = F.ps then finF st.length (evSs G (evF G n) F.mu F.body (args.map some ++ List.replicate (F.len - F.ps) none) st) else none
    | none => none
section
variable {K : PySem.W.Frag} {T : List (Addr × Str)} {φ ρ φ' ρ' : List Addr} {H H' : Hp} {st st' : Sto}
theorem Gs.fxs (g : Gs φ ρ H φ' ρ' H') : ∀ a ∈ φ, a ∈ φ' := fun a ha => by
  obtain ⟨_, m, rfl, _⟩ := g
  exact List.mem_append_left _ ha
theorem Ws.back {m : List Addr} (w : Ws K T (φ ++ m) (ρ ++ m) H' st') (sub : ∀ a ∈ ρ, a ∈ φ) : Ws K T φ ρ H' (st'.take ρ.length) := by
  have hl : ρ.length ≤ st'.length := by rw [← w.len, List.length_append]; omega
  refine ⟨by rw [List.length_take, Nat.min_eq_left hl], fun n ds e => ?_, (List.nodup_append.mp w.nd).1, sub, fun a ha => w.fx a (List.mem_append_left _ ha), w.tab⟩
  have hn : n < ρ.length := by
    have := (List.getElem?_eq_some_iff.mp e).1
    rw [List.length_take] at this
    omega
  rw [List.getElem?_take_of_lt hn] at e
  obtain ⟨a, xs, h1, h2, h3⟩ := w.sto n ds e
  rw [List.getElem?_append_left hn] at h1
  exact ⟨a, xs, h1, h2, h3.weak fun a ha => List.mem_append_left _ ha⟩
theorem Post.back {m : List Addr} {x : ER} {v : V} {r : ER} {st1 : Sto} (g : Gs φ ρ H (φ ++ m) (ρ ++ m) H') (hm : ∀ a ∈ m, H a = none) (sub : ∀ a ∈ ρ, a ∈ φ) (fx : ∀ a ∈ φ, ∃ xs, H a = some (.lst xs)) (p : Post K T (φ ++ m) (ρ ++ m) H H' [] [] st' x v) (h : finR ρ.length x st' = some (r, st1)) : Post K T φ ρ H H' [] [] st1 r v := by
  have wk : ∀ a ∈ φ, a ∈ φ ++ m := fun a ha => List.mem_append_left _ ha
  have sl0 : ∀ ψ, Sl K ψ ρ H' [] [] := fun ψ => ⟨rfl, fun i s e => by simp at e⟩
  have wb := p.ws.back sub
  cases x with
  | dat d fr =>
    simp only [finR] at h
    cases h
    refine ⟨wb, sl0 _, g.ext, p.rr.weak wk, fun d' e => ?_⟩
    cases e
    obtain ⟨q, xs, ds, h1, h2, h3, h4, h5, h6, h7⟩ := p.fr _ rfl
    have wk2 : ∀ a ∈ φ ++ [q], a ∈ φ ++ m ++ [q] := fun a ha => by
      rcases List.mem_append.mp ha with h | h
      · exact List.mem_append_left _ (wk a h)
      · exact List.mem_append_right _ h
    refine ⟨q, xs, ds, h1, h2, h3, h4, h5.weak wk2, ⟨wb.len, fun n es e => ?_, wb.nd, fun a ha => List.mem_append_left _ (sub a ha), fun a ha => h6.fx a (wk2 a ha), wb.tab⟩, sl0 _⟩
    have hl : ρ.length ≤ st'.length := by rw [← p.ws.len, List.length_append]; omega
    have hn : n < ρ.length := by
      have := (List.getElem?_eq_some_iff.mp e).1
      rw [List.length_take] at this
      omega
    rw [List.getElem?_take_of_lt hn] at e
    obtain ⟨a, xs, k1, k2, k3⟩ := h6.sto n es e
    rw [List.getElem?_append_left hn] at k1
    exact ⟨a, xs, k1, k2, k3.weak wk2⟩
  | loc n =>
    simp only [finR] at h
    split at h
    · rename_i hn
      cases h
      refine ⟨wb, sl0 _, g.ext, ?_, fun d e => by cases e⟩
      obtain ⟨a, h1, h2⟩ := p.rr
      rw [List.getElem?_append_left hn] at h1
      exact ⟨a, h1, h2⟩
    · rename_i hn
      split at h
      · rename_i ds e
        cases h
        obtain ⟨a, h1, h2⟩ := p.rr
        obtain ⟨b, xs, k1, k2, k3⟩ := p.ws.sto n ds e
        rw [h1] at k1
        cases k1
        have hb : a ∈ m := by
          rw [List.getElem?_append_right (by omega)] at h1
          exact List.mem_of_getElem? h1
        have nb := hm a hb
        have nphi : a ∉ φ := fun z => by
          obtain ⟨ys, e⟩ := fx a z
          rw [nb] at e; cases e
        have wk2 : ∀ c ∈ φ ++ [a], c ∈ φ ++ m := fun c hc => by
          rcases List.mem_append.mp hc with h | h
          · exact wk c h
          · rw [List.mem_singleton.mp h]; exact List.mem_append_right _ hb
        have w2 : Ws K T (φ ++ [a]) ρ H' (st'.take ρ.length) := by
          refine ⟨wb.len, fun n es e => ?_, wb.nd, fun a ha => List.mem_append_left _ (sub a ha), fun c hc => p.ws.fx c (wk2 c hc), wb.tab⟩
          have hl : ρ.length ≤ st'.length := by rw [← p.ws.len, List.length_append]; omega
          have hn : n < ρ.length := by
            have := (List.getElem?_eq_some_iff.mp e).1
            rw [List.length_take] at this
            omega
          rw [List.getElem?_take_of_lt hn] at e
          obtain ⟨a, xs, k1, k2, k3⟩ := p.ws.sto n es e
          rw [List.getElem?_append_left hn] at k1
          exact ⟨a, xs, k1, k2, k3.weak wk2⟩
        refine ⟨wb, sl0 _, g.ext, ?_, fun d e => ?_⟩
        · rw [h2]
          exact .lst nphi k2 (k3.weak wk)
        · cases e
          exact ⟨a, xs, ds, rfl, h2, nb, k2, k3.weak wk2, w2, sl0 _⟩
      · cases h
  | scr ns =>
    simp only [finR] at h
    cases h
    exact ⟨wb, sl0 _, g.ext, p.rr, fun d e => by cases e⟩
end
/-- the name of a function's lambdas -/
def lamQ (f : Str) : Str := f ++ ".<locals>." ++ "<lambda>"
/-- what is known of the module's functions; cs: code objects with their tables, T: the tables with the names -/
structure FnM (K : PySem.W.Frag) (G : Pk) (fs : List (Str × List Str)) (bl : List Str) (cs : List (Addr × Addr)) (T : List (Addr × Str)) (f : Str) (ps : List Str) (fd : FuncData) (a : Addr) : Prop where
  ok : ∃ (st : Stmt) (F : FnD) (N : List Str) (oc : Value) (od : Option Addr) (kV doc pm : Value) (an : Option Addr) (cdv ct : Value) (osl : Array (Option Value)),
    fd = PySem.W.fnOf f f (defArgs st) (defBody st) (defScope st) .none kV doc pm an cdv ct ∧ K.lookup a = some ⟨oc, od, .func fd, osl⟩ ∧ PySem.W.codeIn K cdv f = true ∧
    FnScope N ps (defScope st) ∧ G.fn f = some F ∧ F.ps = ps.length ∧ F.len = N.length ∧ ps.length ≤ N.length ∧
    chSs fs bl G F.body ⟨N, defScope st, ownB (defScope st), if F.lam = true then some (lamQ f) else none⟩ (defBody st) = true ∧
    (F.lam = true → ∃ c P, cdv = .ref c ∧ (c, P) ∈ cs ∧ (P, lamQ f) ∈ T ∧ ∀ p ∈ T, p.1 = P → p.2 = lamQ f)
/-- what is known of the module -/
structure MdB (K : PySem.W.Frag) (w : World) (mg : Str → Option Value) (G : Pk) (bl : List Str) : Prop where
  bl : ∀ x ∈ bl, mg x = none
  con : ∀ x d, G.con x = some d → ∃ u v, mg x = some u ∧ RelV v u ∧ ∀ φ H, RD K φ H v d
  dic : ∀ g kvs, G.dic g = some kvs → ∃ p, mg g = some (.ref p) ∧ ∀ k d, kvs.lookup k = some d → ∃ v, KDct K w p k v ∧ ∀ φ H, RD K φ H v d
structure MdK (w : World) (K : PySem.W.Frag) (mg : Str → Option Value) (G : Pk) (fs : List (Str × List Str)) (bl : List Str) (cs : List (Addr × Addr)) (T : List (Addr × Str)) : Prop where
  b : MdB K w mg G bl
  fn : ∀ f ps, fs.lookup f = some ps → ∃ a fd, mg f = some (.ref a) ∧ PySem.W.keepIn K (.ref a) = true ∧ Binds K fd ps [] ∧ FnM K G fs bl cs T f ps fd a
  kw : ∀ f ks ix, (f, ks, ix) ∈ G.kc → ∃ ps a fd, mg f = some (.ref a) ∧ PySem.W.keepIn K (.ref a) = true ∧ ix.length = ps.length ∧ (∀ i ∈ ix, i < ks.length) ∧
    (∀ (s : Shared) (ws : List Value), ws.length = ks.length → BindsTo s fd ⟨[], ks.zip ws⟩ (ps.zip (pick ix ws))) ∧ FnM K G fs bl cs T f ps fd a
section
variable {P : Program} {w : World} {K : PySem.W.Frag} {mg : Str → Option Value} {base : Heap} {T : List (Addr × Str)} {G : Pk} {fs : List (Str × List Str)} {bl : List Str} {f : Str} {ps : List Str} {fd : FuncData} {a : Addr} {cs : List (Addr × Addr)}
theorem rrs_slots {φ ρ : List Addr} {H : Hp} (m : Nat) : ∀ {rs : List ER} {vs : List V}, RRs K φ ρ H rs vs → Sl K φ ρ H ((rs.map svE).map some ++ List.replicate m none) (vs.map some ++ List.replicate m none) := by
  intro rs vs r
  refine ⟨by simp only [List.length_append, List.length_map, List.length_replicate]; rw [r.length], fun i s e => ?_⟩
  by_cases hi : i < vs.length
  · have hr : i < rs.length := by rw [r.length]; exact hi
    rw [List.getElem?_append_left (by simpa using hr)] at e
    obtain ⟨x, hx, rr⟩ := RRs.get _ _ _ _ r (List.getElem?_eq_getElem hi)
    rw [List.getElem?_map, List.getElem?_map, hx] at e
    cases e
    refine ⟨vs[i], ?_, ?_⟩
    · rw [List.getElem?_append_left (by simpa using hi), List.getElem?_map, List.getElem?_eq_getElem hi]; rfl
    · cases x <;> exact rr
  · rw [List.getElem?_append_right (by simp only [List.length_map]; rw [r.length]; omega), List.getElem?_replicate] at e
    split at e <;> cases e
theorem run_fn {n : Nat} (mb : MdB K w mg G bl) (tb : ∀ p ∈ cs, LamX.TabB base mg p.1 p.2) (m : FnM K G fs bl cs T f ps fd a) (ck : ClOk P w K mg base T (2 * n) (evF G n) fs G.kc) : FnE P w K mg base (2 * n + 2) a fd ps (spC K T (evF G (n + 1)) f ps.length) := by
  obtain ⟨st, F, N, oc, od, kV, doc, pm, an, cdv, ct, osl, rfl, lk, hcd, S, hF, hps, hlen, hle, hch, hlam⟩ := m.ok
  refine ⟨fun A outer s H us vs Q hr hgu e0 rv hsp args hb => ?_⟩
  obtain ⟨hl, φ, ρ, rs, st0, r, st1, ws, rr, he, k⟩ := hsp
  refine LamX.run_ofS (N := N) lk hcd S hr e0 hb rv hl fun hr' => ?_
  have g : Gd fs bl G T (2 * n) (evF G n) ⟨N, defScope st, ownB (defScope st), if F.lam = true then some (lamQ f) else none⟩ (cxOf CX0 P w K mg base N f (defScope st) a cdv A outer s H E0).nox := by
    refine ⟨rfl, rfl, S.nd, fun x hx => ⟨?_, .inl rfl⟩, rfl, hr'.mono (Nat.le_succ _), hgu, ck, mb.bl, mb.con, mb.dic, fun q hq => ⟨?_, hr'⟩⟩
    rotate_left
    · have hq : (if F.lam = true then some (lamQ f) else none) = some q := hq
      split at hq
      · rename_i hl
        cases hq
        obtain ⟨c, P, rfl, h1, h2, h3⟩ := hlam hl
        exact ⟨⟨c, P, rfl, tb _ h1, h2, h3⟩, rfl⟩
      · cases hq
    have hx : ownB (defScope st) x = true := hx
    unfold ownB at hx
    split at hx
    · exact .inl (by assumption)
    · exact .inr (by assumption)
    · cases hx
  have body := sndSs (mu := F.mu) F.body _ _ _ g S.kind rfl hch
  refine ⟨_, body.nox, φ, ρ, (rs.map svE).map some ++ List.replicate (F.len - F.ps) none, st0, ?_⟩
  simp only [evF, hF] at he
  have hlr : rs.length = ps.length := by rw [rr.length, hl]
  rw [if_pos (by rw [List.length_map, hlr, hps])] at he
  have hst : L2.start N vs = vs.map some ++ List.replicate (F.len - F.ps) none := by
    unfold L2.start
    rw [hlen, hps, hl]
  cases hfl : evSs G (evF G n) F.mu F.body ((rs.map svE).map some ++ List.replicate (F.len - F.ps) none) st0 with
  | none => rw [hfl] at he; cases he
  | some fl =>
    rw [hfl] at he
    refine ⟨fl, ws, by rw [hst]; exact rrs_slots _ rr, hfl, ?_⟩
    cases fl with
    | nx env' st' =>
      intro φ' ρ' σ' H' p
      simp only [finF] at he
      cases he
      obtain ⟨x, mr, rfl, rfl, hm⟩ := p.gs
      refine k .non H' (Post.back (x := .dat .none false) ⟨x, mr, rfl, rfl, hm⟩ hm ws.sub ws.fx (.mk p.ws ⟨rfl, fun i s e => by simp at e⟩ (x.more fun a ha => List.mem_append_left _ ha) RD.non fun d e => by cases e) ?_)
      rw [ws.len]
      rfl
    | rt x' st' =>
      intro φ' ρ' v H' p
      simp only [finF] at he
      obtain ⟨x, mr, rfl, rfl, hm⟩ := p.gs
      exact k v H' (Post.back ⟨x, mr, rfl, rfl, hm⟩ hm ws.sub ws.fx p.post (by rw [ws.len]; exact he))
    | bk env' st' => cases he
    | ct env' st' => cases he
theorem cl_ok (m : MdK w K mg G fs bl cs T) (tb : ∀ p ∈ cs, LamX.TabB base mg p.1 p.2) : ∀ n, ClOk P w K mg base T (2 * n) (evF G n) fs G.kc
  | 0 => by
    refine ⟨fun f ks ix h => ?_, fun f ps h => ?_⟩
    · obtain ⟨ps, a, fd, h1, h2, h3, h4, h5, h6⟩ := m.kw f ks ix h
      exact ⟨ps, a, fd, h1, h2, h3, h4, h5, ⟨fun A outer s H us vs Q hr hgu e0 rv hsp args hb => by
        obtain ⟨hl, φ, ρ, rs, st0, r, st1, ws, rr, he, k⟩ := hsp
        cases he⟩⟩
    · obtain ⟨a, fd, h1, h2, h3, h4⟩ := m.fn f ps h
      exact ⟨a, fd, h1, h2, h3, ⟨fun A outer s H us vs Q hr hgu e0 rv hsp args hb => by
        obtain ⟨hl, φ, ρ, rs, st0, r, st1, ws, rr, he, k⟩ := hsp
        cases he⟩⟩
  | n + 1 => by
    have ih := cl_ok m tb n
    refine ⟨fun f ks ix h => ?_, fun f ps h => ?_⟩
    · obtain ⟨ps, a, fd, h1, h2, h3, h4, h5, h6⟩ := m.kw f ks ix h
      exact ⟨ps, a, fd, h1, h2, h3, h4, h5, run_fn m.b tb h6 ih⟩
    · obtain ⟨a, fd, h1, h2, h3, h4⟩ := m.fn f ps h
      exact ⟨a, fd, h1, h2, h3, run_fn m.b tb h4 ih⟩
end
end Ev
set_option linter.all false
set_option maxRecDepth 100000
set_option maxHeartbeats 4000000
/-! Ev16: a law's row from its function's evaluation. -/
namespace Ev
open PySem PySem.Spec PyProof.Rows L2
section
variable {P : Program} {w : World} {K : PySem.W.Frag} {h : Heap} {a : Addr} {cs : List (Addr × Addr)} {items : List Value} {ns : List Int}
/-- what is tracked as the law begins: the tables, and the script (where it is no written object) -/
structure Beg (P : Program) (w : World) (K : PySem.W.Frag) (h : Heap) (cs : List (Addr × Addr)) (a : Addr) (items : List Value) (ns : List Int) (H : Hp) : Prop where
  tab : ∀ p ∈ cs, H p.2 = some (.tbl #[])
  only : ∀ b, b ∉ cs.map (·.2) → H b = none ∨ (b = a ∧ K.lookup a = none ∧ ∃ o, H b = some (.frz o (.lst (ns.map V.int))))
  scr : ScR K H a ns
  ok : HOk P w H h
theorem beg_of (KX : K.In h) (hT : ∀ p ∈ cs, h.get? p.2 = some { cls := .none, data := .fields #[] }) (ha : h.get? a = some { cls := .type "list", data := .seq items.toArray }) (hi : IntsAre items ns) (hl : ns.length ≤ sizeLine) : ∃ H, Beg P w K h cs a items ns H := by
  have tabAt : ∀ b, b ∈ cs.map (·.2) → h.get? b = some { cls := .none, data := .fields #[] } := by
    intro b hb
    obtain ⟨p, hp, rfl⟩ := List.mem_map.mp hb
    exact hT p hp
  have notTab : a ∉ cs.map (·.2) := by
    intro z
    have q := (tabAt a z).symm.trans ha
    injection q with q
    injection q with _ _ q
    cases q
  have rel := vals_ints hi
  let sh : Option HO := if K.lookup a = none then some (.frz { cls := .type "list", data := .seq items.toArray } (.lst (ns.map V.int))) else none
  refine ⟨fun b => if b ∈ cs.map (·.2) then some (.tbl #[]) else if b = a then sh else none, fun p hp => if_pos (List.mem_map.mpr ⟨p, hp, rfl⟩), fun b hb => ?_, ?_, fun b u e => ?_⟩
  · show (if b ∈ cs.map (·.2) then _ else _) = _ ∨ (_ ∧ _ ∧ ∃ o, (if b ∈ cs.map (·.2) then _ else _) = _)
    rw [if_neg hb]
    by_cases hba : b = a
    · rw [if_pos hba]
      by_cases hk : K.lookup a = none
      · exact .inr ⟨hba, hk, _, if_pos hk⟩
      · exact .inl (if_neg hk)
    · rw [if_neg hba]
      exact .inl rfl
  · cases hk : K.lookup a with
    | none =>
      refine .inl ⟨{ cls := .type "list", data := .seq items.toArray }, ?_⟩
      show (if a ∈ cs.map (·.2) then _ else if a = a then sh else none) = _
      rw [if_neg notTab, if_pos rfl]
      exact if_pos hk
    | some o =>
      have e := KX a o hk
      rw [ha] at e
      cases e
      exact .inr ⟨_, items.toArray, _, hk, rfl, rfl, rfl, by rw [List.size_toArray, hi.length]; exact hl, by simpa using rel⟩
  · have e : (if b ∈ cs.map (·.2) then some (HO.tbl #[]) else if b = a then sh else none) = some u := e
    split at e
    · rename_i hb
      cases e
      exact tabAt b hb
    · split at e
      · rename_i hba
        have e : (if K.lookup a = none then some (HO.frz { cls := .type "list", data := .seq items.toArray } (.lst (ns.map V.int))) else none) = some u := e
        split at e
        · cases e
          rw [hba]
          exact ⟨ha, by rw [List.length_map]; exact hl, items, _, rel, ha⟩
        · cases e
      · cases e
theorem law_run {k : Nat} {mg mb : Str → Option Value} {fa : Addr} {fd : FuncData} {x : Str} {sp : Sp} {s₁ : Shared} {T : List (Addr × Str)}
    (KX : K.In s₁.heap) (nsG : s₁.heap.Ns mainGlobals mg) (nsB : s₁.heap.Ns builtinsNs mb) (bb : ∀ x : Str, x ≠ "__name__" → mb x = bootBuiltins x) (lim : s₁.heap.NoLimit) (g0 : s₁.gens = #[])
    (hT : ∀ p ∈ cs, s₁.heap.get? p.2 = some { cls := .none, data := .fields #[] }) (nT : ∀ p ∈ cs, K.lookup p.2 = none) (C : ∀ p ∈ cs, PySem.W.CodeHd s₁.heap p.1 p.2)
    (bm : ∃ (b : Addr) (ob : Obj), mg "__builtins__" = some (.ref b) ∧ b ≠ builtinsNs ∧ s₁.heap.get? b = some ob ∧ ob.cls = .type "module" ∧ ob.dict = some builtinsNs ∧ ob.data = .plain)
    (ha : s₁.heap.get? a = some { cls := .type "list", data := .seq items.toArray }) (hi : IntsAre items ns) (hl : ns.length ≤ sizeLine) (hr : Room k callerA)
    (F : ∀ base : Heap, K.In base → base.Ns mainGlobals mg → (∀ p ∈ cs, LamX.TabB base mg p.1 p.2) → FnE P w K mg base k fa fd [x] sp) (bind : ∀ u : Value, BindsTo s₁ fd ⟨[u], []⟩ [(x, u)])
    (hsp : ∀ H : Hp, Beg P w K s₁.heap cs a items ns H → sp [.ref a] H (fun v _ => v = .bl true) E0) :
    codeAny (model P w) callerA (.call (.ref fa) ⟨[.ref a], []⟩) (fun r s' => r = .ok (.ret (.bool true)) ∧ OldK s₁.heap s'.heap ∧ s'.os = s₁.os ∧ AllBare s'.gens) s₁ := by
  obtain ⟨H, B⟩ := beg_of (P := P) (w := w) KX hT ha hi hl
  -- what isn't tracked stands in the base
  have shown : ∀ {b : Addr} {o : Obj}, s₁.heap.get? b = some o → H b = none → (hidT s₁.heap H).get? b = some o := fun e n => hidT_get e n
  have plain : ∀ {b : Addr} {o : Obj}, s₁.heap.get? b = some o → (∀ xs n, o.data ≠ .seq xs n) → o.data ≠ .fields #[] → H b = none := by
    intro b o e n1 n2
    by_cases hb : b ∈ cs.map (·.2)
    · obtain ⟨p, hp, rfl⟩ := List.mem_map.mp hb
      have q := e.symm.trans (hT p hp)
      injection q with q
      exact absurd (by rw [q]) n2
    · rcases B.only b hb with z | ⟨rfl, _⟩
      · exact z
      · have q := e.symm.trans ha
        injection q with q
        exact absurd (by rw [q]) (n1 items.toArray 0)
  have ofDict : ∀ {b : Addr} {o : Obj} {es : Array DictEntry} {ep : Nat}, s₁.heap.get? b = some o → o.data = .dict es ep → H b = none := fun e d =>
    plain e (fun xs n z => by rw [d] at z; cases z) (fun z => by rw [d] at z; cases z)
  have nsH : ∀ {b : Addr} {m : Str → Option Value}, s₁.heap.Ns b m → (hidT s₁.heap H).Ns b m := fun q => by
    obtain ⟨o, es, ep, e, d, rest⟩ := q
    exact ⟨o, es, ep, shown e (ofDict e d), d, rest⟩
  have inH : K.In (hidT s₁.heap H) := fun b o e => by
    refine shown (KX b o e) ?_
    by_cases hb : b ∈ cs.map (·.2)
    · obtain ⟨p, hp, rfl⟩ := List.mem_map.mp hb
      rw [nT p hp] at e; cases e
    · rcases B.only b hb with z | ⟨rfl, n, _⟩
      · exact z
      · rw [n] at e; cases e
  have notG : ∀ {b : Addr} {o : Obj}, s₁.heap.get? b = some o → (∀ es ep, o.data ≠ .dict es ep) → b ≠ mainGlobals := by
    intro b o e n z
    obtain ⟨og, es, ep, eg, dg, _⟩ := nsG
    rw [z, eg] at e
    injection e with e
    exact n es ep (e ▸ dg)
  have TB : ∀ p ∈ cs, LamX.TabB (hidT s₁.heap H) mg p.1 p.2 := by
    intro p hp
    refine ⟨?_, ?_, fun z => notG (hT p hp) (fun es ep q => by cases q) z.symm⟩
    · obtain ⟨o, us, file, tf, flags, tg, inF, text, tt, e1, r1, r2, r3, rest⟩ := C p hp
      refine ⟨o, us, file, tf, flags, tg, inF, text, tt, shown e1 (plain e1 (fun xs n z => by rw [r2] at z; cases z) fun z => ?_), r1, r2, r3, rest⟩
      rw [r2] at z
      injection z with z
      rw [z] at r3
      simp at r3
    · obtain ⟨b, ob, b1, b2, b3, b4, b5, b6⟩ := bm
      have dp : ∀ {d : Data}, d = ob.data → d = .plain := fun e => e.trans b6
      refine ⟨b, ob, b1, b2, notG b3 (fun es ep q => by rw [b6] at q; cases q), fun z => ?_, shown b3 (plain b3 (fun xs n z => by rw [b6] at z; cases z) fun z => by rw [b6] at z; cases z), b4, b5, b6⟩
      have q := b3.symm.trans (z ▸ hT p hp)
      injection q with q
      rw [q] at b6
      cases b6
  have md : L2.Mod K mg (hidT s₁.heap H) := by
    obtain ⟨mc, l1, l2⟩ := lim
    exact ⟨inH, nsH nsG, ⟨mb, nsH nsB, bb⟩, mc, nsH l1, l2⟩
  have env : Env0 P w K mg (hidT s₁.heap H) callerA [] s₁ H := { frames := rfl, mod := md, bs := fun b o e => of_hidT e, bsz := Nat.le_of_eq (hidT_size _ _), funs := trivial, frf := fun b hb => absurd (show b ∈ ([] : List Addr) from hb) (by simp), hok := B.ok, bare := .of_eq g0 }
  have run := (F _ inH (nsH nsG) TB).run callerA [] s₁ H [.ref a] [.ref a] (fun v _ => v = .bl true) hr rfl env (.cons rfl .nil) (hsp H B) ⟨[.ref a], []⟩ (bind (.ref a))
  refine codeAny_mono run fun r s' hq => ?_
  match r, hq with
  | .ok (.ret u), ⟨v, H', os, bare, un, hok', rel, q⟩ =>
    have q : v = .bl true := q
    subst q
    obtain rfl : u = Value.bool true := rel
    have stays : ∀ b o, b ∉ cs.map (·.2) → s₁.heap.get? b = some o → s'.heap.get? b = some o := by
      intro b o nb e
      rcases B.only b nb with z | ⟨_, _, ob, z⟩
      · exact un.keep b o e z (fun q => nomatch (show b ∈ ([] : List Addr) from q)) (by simp)
      · have k1 := (B.ok b _ z).1
        rw [e] at k1
        cases k1
        exact (hok' b _ (un.frzs b _ _ z)).1
    have grows : ∀ b, b ∈ cs.map (·.2) → ∃ p ∈ cs, p.2 = b ∧ ∃ more : Array Value, s'.heap.get? b = some { cls := .none, data := .fields more } := by
      intro b hb
      obtain ⟨p, hp, rfl⟩ := List.mem_map.mp hb
      obtain ⟨more, z⟩ := un.tbls p.2 #[] (B.tab p hp)
      exact ⟨p, hp, rfl, _, hok' p.2 _ z⟩
    refine ⟨rfl, ⟨fun b o e => ?_, fun b o e => ?_⟩, os, bare⟩
    · by_cases hb : b ∈ cs.map (·.2)
      · obtain ⟨p, hp, rfl, more, hm⟩ := grows b hb
        rw [hT p hp] at e
        cases e
        exact .inr (.inl ⟨((C p hp).tab (hT p hp)).isCodeTable, rfl, #[], more, rfl, by rw [Array.empty_append]; exact hm⟩)
      · exact .inl (stays b o hb e)
    · by_cases hb : b ∈ cs.map (·.2)
      · obtain ⟨p, hp, rfl, more, hm⟩ := grows b hb
        exact ⟨_, hm⟩
      · exact ⟨o, stays b o hb e⟩
/-- what a law's row asks of the evaluation -/
structure LawE (w : World) (K : PySem.W.Frag) (mg : Str → Option Value) (h : Heap) (k n : Nat) (f x : Str) : Prop where
  ex : ∃ (G : Pk) (fs : List (Str × List Str)) (bl : List Str) (cs : List (Addr × Addr)) (T : List (Addr × Str)),
    (∀ p ∈ cs, h.get? p.2 = some { cls := .none, data := .fields #[] }) ∧ (∀ p ∈ cs, K.lookup p.2 = none) ∧ (∀ p ∈ cs, PySem.W.CodeHd h p.1 p.2) ∧ T.map (·.1) = cs.map (·.2) ∧
    MdK w K mg G fs bl cs T ∧ fs.lookup f = some [x] ∧
    ∀ ns : List Int, ns.length ≤ n → (∀ z ∈ ns, Builtin.Int.intBits z ≤ 1048576) → ∃ fr st', evF G (k + 1) f [.scr ns] [] = some (.dat (.bool true) fr, st')
theorem walk_law {l : PySem.W.OpenLaw} {n k : Nat} {q : Program} {loose : List Str} {XP : (Str → Option Value) → Heap → Prop} {YP : World → Heap → Prop} {d : DefRec} {K : Params → PySem.W.Frag} {x : Str}
    (hn : l.most = some n) (hn2 : n ≤ sizeLine) (hdf : d.params.defaults = []) (hr : Room (2 * k + 2) callerA) (hY : ∀ (w : World) (h : Heap), YP w h → (K w.params).In h)
    (F : ∀ (w : World) (mg : Str → Option Value) (h : Heap), YP w h → (K w.params).In h → h.Ns mainGlobals mg →
      (∀ (f : Str) (a : Addr), ((recsOf q).any fun e => e.name == f) = true → mg f = some (.ref a) → LamX.OwnTab (K w.params) a h) → LawE w (K w.params) mg h k n d.name x) :
    PySem.W.WalkO q loose XP YP l.row.toRowW d [] (fun f vs => PySem.call f vs) := by
  refine Att.attach_callB hn hdf fun w s₀ s₁ mg mb fa o pm cd doc a vs ns G Y ho hd hcd hmg hobj hints hlen hbits hg => ?_
  have KX := hY w _ Y
  have own : ∀ (f : Str) (a : Addr), ((recsOf q).any fun e => e.name == f) = true → mg f = some (.ref a) → LamX.OwnTab (K w.params) a s₁.heap := by
    intro f a hf hma c P o1 fd1 e dd us sl k1 k2 k3 k4 k5
    obtain ⟨dr, hdr, hname⟩ := List.any_eq_true.mp hf
    obtain ⟨a2, o2, fd2, c2, P2, m1, m2, m3, m4, m5, m6⟩ := G.T.tab dr hdr
    rw [beq_iff_eq.mp hname, hma] at m1
    cases m1
    have z1 := m2.symm.trans (KX _ _ k1)
    cases z1
    have z2 := m3.symm.trans k2
    cases z2
    have z3 := m4.symm.trans k3
    cases z3
    obtain ⟨⟨oc, vc, n1, n2, n3, n4⟩, hP⟩ := m6
    have z4 := n1.symm.trans (KX _ _ k4)
    cases z4
    cases n3
    have z5 := n4.symm.trans k5
    cases z5
    exact hP
  obtain ⟨Gp, fs, bl, cs, T, hT, nT, C, hTc, m, hfs, hev⟩ := (F w mg _ Y KX G.T.g own).ex
  obtain ⟨a', fd, e1, e2, hb, hm⟩ := m.fn d.name [x] hfs
  rw [hmg] at e1
  cases e1
  obtain ⟨fr, st', he⟩ := hev ns hlen hbits
  refine law_run (k := 2 * k + 2) (T := T) (sp := spC (K w.params) T (evF Gp (k + 1)) d.name 1) KX G.T.g G.T.b G.T.builtins G.T.nolimit hg hT nT C G.T.bmain hobj hints (Nat.le_trans hlen hn2) hr (fun base inB nsB tb => run_fn m.b tb hm (cl_ok m tb k)) (fun u => hb _ [u] KX rfl) fun H B => ?_
  refine ⟨rfl, [], [], [.scr ns], [], _, _, ⟨rfl, (fun n ds e => by simp at e), List.nodup_nil, (fun a ha => by cases ha), (fun a ha => by cases ha), fun p hp => ?_, fun a ps e => ?_⟩, ⟨⟨a, rfl, B.scr⟩, True.intro⟩, he, fun v H' p => ?_⟩
  · have : p.1 ∈ cs.map (·.2) := by rw [← hTc]; exact List.mem_map.mpr ⟨p, hp, rfl⟩
    obtain ⟨c, hc, e⟩ := List.mem_map.mp this
    exact LamX.TabS.nil (by rw [← e]; exact B.tab c hc)
  · rw [hTc]
    refine Decidable.byContradiction fun hn => ?_
    rcases B.only a hn with z | ⟨_, _, o, z⟩ <;> rw [z] at e <;> cases e
  · cases (show RD (K w.params) [] H' v (.bool true) from p.rr)
    rfl
end
end Ev
set_option linter.all false
set_option maxRecDepth 100000
set_option maxHeartbeats 4000000
namespace Ev
open PySem PySem.Spec L2 PyProof.Rows
/-- a def of the module, as the top wrote it -/
structure FF (K : PySem.W.Frag) (f : Str) (st : Stmt) : Prop where
  ex : ∃ (a : Addr) (oc : Value) (od : Option Addr) (kV doc pm : Value) (an : Option Addr) (cdv ct : Value) (osl : Array (Option Value)),
    PySem.W.nsIn K mainGlobals f = some (some (.ref a)) ∧ K.lookup a = some ⟨oc, od, .func (PySem.W.fnOf f f (defArgs st) (defBody st) (defScope st) .none kV doc pm an cdv ct), osl⟩ ∧ PySem.W.codeIn K cdv f = true ∧ PySem.W.keepIn K (.ref a) = true
theorem ff_mk {K : PySem.W.Frag} {f : Str} {st : Stmt} {a : Addr} {oc : Value} {od : Option Addr} {kV doc pm : Value} {an : Option Addr} {cdv ct : Value} {osl : Array (Option Value)}
    (h1 : PySem.W.nsIn K mainGlobals f = some (some (.ref a))) (h2 : K.lookup a = some ⟨oc, od, .func (PySem.W.fnOf f f (defArgs st) (defBody st) (defScope st) .none kV doc pm an cdv ct), osl⟩) (h3 : PySem.W.codeIn K cdv f = true) (h4 : PySem.W.keepIn K (.ref a) = true) : FF K f st :=
  ⟨a, oc, od, kV, doc, pm, an, cdv, ct, osl, h1, h2, h3, h4⟩
/-- .. that makes lambdas: c its code object, P the table -/
structure FL (K : PySem.W.Frag) (f : Str) (st : Stmt) (c P : Addr) : Prop where
  ex : ∃ (a : Addr) (oc : Value) (od : Option Addr) (kV doc pm : Value) (an : Option Addr) (ct : Value) (osl : Array (Option Value)),
    PySem.W.nsIn K mainGlobals f = some (some (.ref a)) ∧ K.lookup a = some ⟨oc, od, .func (PySem.W.fnOf f f (defArgs st) (defBody st) (defScope st) .none kV doc pm an (.ref c) ct), osl⟩ ∧ PySem.W.codeIn K (.ref c) f = true ∧ PySem.W.keepIn K (.ref a) = true
  lc : ∃ e dd vs sl, K.lookup c = some ⟨e, dd, .fields vs, sl⟩ ∧ vs[11]? = some (.ref P)
  hd : PySem.W.codeHdIn K c P = true
  np : K.lookup P = none
theorem fl_mk {K : PySem.W.Frag} {f : Str} {st : Stmt} {a c P : Addr} {oc : Value} {od : Option Addr} {kV doc pm : Value} {an : Option Addr} {ct : Value} {osl : Array (Option Value)} {e : Value} {dd : Option Addr} {vs : Array Value} {sl : Array (Option Value)}
    (h1 : PySem.W.nsIn K mainGlobals f = some (some (.ref a))) (h2 : K.lookup a = some ⟨oc, od, .func (PySem.W.fnOf f f (defArgs st) (defBody st) (defScope st) .none kV doc pm an (.ref c) ct), osl⟩) (h3 : PySem.W.codeIn K (.ref c) f = true) (h4 : PySem.W.keepIn K (.ref a) = true)
    (h5 : K.lookup c = some ⟨e, dd, .fields vs, sl⟩) (h6 : vs[11]? = some (.ref P)) (h7 : PySem.W.codeHdIn K c P = true) (h8 : K.lookup P = none) : FL K f st c P :=
  ⟨⟨a, oc, od, kV, doc, pm, an, ct, osl, h1, h2, h3, h4⟩, ⟨e, dd, vs, sl, h5, h6⟩, h7, h8⟩
/-- a constant of the module -/
structure CF (K : PySem.W.Frag) (x : Str) (d : D) : Prop where
  ex : ∃ u v, PySem.W.nsIn K mainGlobals x = some (some u) ∧ RelV v u ∧ ∀ φ H, RD K φ H v d
theorem cf_int {K : PySem.W.Frag} {x : Str} {i : Int} {t : Tok} (h : PySem.W.nsIn K mainGlobals x = some (some (.int i t))) : CF K x (.int i) := ⟨_, .int i, h, ⟨t, rfl⟩, fun _ _ => .int i⟩
theorem cf_strs2 {K : PySem.W.Frag} {x a b : Str} {p : Addr} {s t : Tok} {dd : Option Addr} {n : Nat} {sl : Array (Option Value)} (h : PySem.W.nsIn K mainGlobals x = some (some (.ref p))) (h2 : K.lookup p = some ⟨.type "tuple", dd, .seq #[.str a s, .str b t] n, sl⟩) : CF K x (.tuple [.str a, .str b]) :=
  ⟨_, .ref p, h, rfl, fun φ H => .tup (xs := [.str a, .str b]) (.inr ⟨_, _, _, h2, rfl, rfl, (by show 2 ≤ sizeLine; decide), .cons ⟨s, rfl⟩ (.cons ⟨t, rfl⟩ .nil)⟩) (.cons (.str a) (.cons (.str b) .nil))⟩
theorem cf_ints2 {K : PySem.W.Frag} {x : Str} {a b : Int} {p : Addr} {s t : Tok} {dd : Option Addr} {n : Nat} {sl : Array (Option Value)} (h : PySem.W.nsIn K mainGlobals x = some (some (.ref p))) (h2 : K.lookup p = some ⟨.type "tuple", dd, .seq #[.int a s, .int b t] n, sl⟩) : CF K x (.tuple [.int a, .int b]) :=
  ⟨_, .ref p, h, rfl, fun φ H => .tup (xs := [.int a, .int b]) (.inr ⟨_, _, _, h2, rfl, rfl, (by show 2 ≤ sizeLine; decide), .cons ⟨s, rfl⟩ (.cons ⟨t, rfl⟩ .nil)⟩) (.cons (.int a) (.cons (.int b) .nil))⟩
/-- a dict of the module, of two texts to texts -/
structure DF (K : PySem.W.Frag) (w : World) (g : Str) (kvs : List (Str × D)) : Prop where
  ex : ∃ p, PySem.W.nsIn K mainGlobals g = some (some (.ref p)) ∧ ∀ k d, kvs.lookup k = some d → ∃ v, KDct K w p k v ∧ ∀ φ H, RD K φ H v d
theorem df_2 {K : PySem.W.Frag} {w : World} {g a b c d : Str} {p : Addr} {es : Array DictEntry} {n : Nat} {t u : Tok} (h : PySem.W.nsIn K mainGlobals g = some (some (.ref p))) (h2 : K.lookup p = some ⟨.type "dict", none, .dict es n, #[]⟩) (h3 : PySem.W.KeysLit w.params es.toList)
    (h4 : PySem.W.nsIn K p a = some (some (.str c t))) (h5 : PySem.W.nsIn K p b = some (some (.str d u))) : DF K w g [(a, .str c), (b, .str d)] := by
  refine ⟨p, h, fun k x hk => ?_⟩
  simp only [List.lookup] at hk
  split at hk
  · rename_i e
    cases hk
    rw [beq_iff_eq.mp e]
    exact ⟨.str c, ⟨es, n, _, h2, h3, h4, t, rfl⟩, fun _ _ => .str c⟩
  · split at hk
    · rename_i e
      cases hk
      rw [beq_iff_eq.mp e]
      exact ⟨.str d, ⟨es, n, _, h2, h3, h5, u, rfl⟩, fun _ _ => .str d⟩
    · cases hk
/-- what is known of a def's text -/
structure SI (G : Pk) (fs : List (Str × List Str)) (bl : List Str) (f : Str) (ps : List Str) (st : Stmt) (F : FnD) (N : List Str) : Prop where
  S : FnScope N ps (defScope st)
  fn : G.fn f = some F
  p : F.ps = ps.length
  l : F.len = N.length
  le : ps.length ≤ N.length
  ch : chSs fs bl G F.body ⟨N, defScope st, ownB (defScope st), if F.lam = true then some (lamQ f) else none⟩ (defBody st) = true
  b : ∀ (kV doc pm : Value) (an : Option Addr) (cdv ct : Value) (us : List Value), us.length = ps.length → bindArgs (PySem.W.fnOf f f (defArgs st) (defBody st) (defScope st) .none kV doc pm an cdv ct) ⟨us, []⟩ = pure (ps.zip us)
/-- .. and of a call of it by names -/
structure KB (f : Str) (ps : List Str) (st : Stmt) (ks : List Str) (ix : List Nat) : Prop where
  len : ix.length = ps.length
  lt : ∀ i ∈ ix, i < ks.length
  b : ∀ (kV doc pm : Value) (an : Option Addr) (cdv ct : Value) (ws : List Value), ws.length = ks.length → bindArgs (PySem.W.fnOf f f (defArgs st) (defBody st) (defScope st) .none kV doc pm an cdv ct) ⟨[], ks.zip ws⟩ = pure (ps.zip (pick ix ws))
/-- a def: its text and what the top wrote -/
inductive FI (K : PySem.W.Frag) (G : Pk) (fs : List (Str × List Str)) (bl : List Str) (cs : List (Addr × Addr)) (T : List (Addr × Str)) (f : Str) (ps : List Str) (st : Stmt) : Prop
  | plain {F : FnD} {N : List Str} (i : SI G fs bl f ps st F N) (k : FF K f st) (n : F.lam = false) : FI K G fs bl cs T f ps st
  | lam {F : FnD} {N : List Str} {c P : Addr} (i : SI G fs bl f ps st F N) (k : FL K f st c P) (h1 : (c, P) ∈ cs) (h2 : (P, lamQ f) ∈ T) (h3 : ∀ p ∈ T, p.1 = P → p.2 = lamQ f) : FI K G fs bl cs T f ps st
section
variable {w : World} {K : PySem.W.Frag} {mg : Str → Option Value} {h : Heap} {G : Pk} {fs : List (Str × List Str)} {bl : List Str} {cs : List (Addr × Addr)} {T : List (Addr × Str)} {f : Str} {ps : List Str} {st : Stmt}
theorem FI.get (X : K.In h) (G0 : h.Ns mainGlobals mg) (i : FI K G fs bl cs T f ps st) : ∃ (a : Addr) (kV doc pm : Value) (an : Option Addr) (cdv ct : Value), mg f = some (.ref a) ∧ PySem.W.keepIn K (.ref a) = true ∧
    (∀ us : List Value, us.length = ps.length → bindArgs (PySem.W.fnOf f f (defArgs st) (defBody st) (defScope st) .none kV doc pm an cdv ct) ⟨us, []⟩ = pure (ps.zip us)) ∧
    FnM K G fs bl cs T f ps (PySem.W.fnOf f f (defArgs st) (defBody st) (defScope st) .none kV doc pm an cdv ct) a := by
  cases i with
  | plain i k n =>
    rename_i F N
    obtain ⟨a, oc, od, kV, doc, pm, an, cdv, ct, osl, h1, h2, h3, h4⟩ := k.ex
    exact ⟨a, kV, doc, pm, an, cdv, ct, PySem.W.mg_of X G0 h1, h4, i.b kV doc pm an cdv ct, ⟨st, F, N, oc, od, kV, doc, pm, an, cdv, ct, osl, rfl, h2, h3, i.S, i.fn, i.p, i.l, i.le, i.ch, fun z => by rw [n] at z; cases z⟩⟩
  | lam i k q1 q2 q3 =>
    rename_i F N c P
    obtain ⟨a, oc, od, kV, doc, pm, an, ct, osl, h1, h2, h3, h4⟩ := k.ex
    exact ⟨a, kV, doc, pm, an, .ref c, ct, PySem.W.mg_of X G0 h1, h4, i.b kV doc pm an (.ref c) ct, ⟨st, F, N, oc, od, kV, doc, pm, an, .ref c, ct, osl, rfl, h2, h3, i.S, i.fn, i.p, i.l, i.le, i.ch, fun _ => ⟨c, P, rfl, q1, q2, q3⟩⟩⟩
def AllF (K : PySem.W.Frag) (G : Pk) (fs : List (Str × List Str)) (bl : List Str) (cs : List (Addr × Addr)) (T : List (Addr × Str)) : List (Str × List Str) → Prop
  | [] => True
  | (f, ps) :: r => (∃ st, FI K G fs bl cs T f ps st) ∧ AllF K G fs bl cs T r
theorem AllF.get : ∀ {l : List (Str × List Str)}, AllF K G fs bl cs T l → l.lookup f = some ps → ∃ st, FI K G fs bl cs T f ps st
  | [], _, h => by cases h
  | (g, qs) :: r, a, h => by
    simp only [List.lookup] at h
    split at h
    · rename_i e
      cases h
      rw [beq_iff_eq.mp e]
      exact a.1
    · exact AllF.get a.2 h
def AllK (K : PySem.W.Frag) (G : Pk) (fs : List (Str × List Str)) (bl : List Str) (cs : List (Addr × Addr)) (T : List (Addr × Str)) : List (Str × List Str × List Nat) → Prop
  | [] => True
  | (f, ks, ix) :: r => (∃ ps st, FI K G fs bl cs T f ps st ∧ KB f ps st ks ix) ∧ AllK K G fs bl cs T r
theorem AllK.get {ks : List Str} {ix : List Nat} : ∀ {l : List (Str × List Str × List Nat)}, AllK K G fs bl cs T l → (f, ks, ix) ∈ l → ∃ ps st, FI K G fs bl cs T f ps st ∧ KB f ps st ks ix
  | [], _, h => by cases h
  | (g, qs, jx) :: r, a, h => by
    rcases List.mem_cons.mp h with e | h
    · cases e
      exact a.1
    · exact AllK.get a.2 h
def AllB (K : PySem.W.Frag) : List Str → Prop
  | [] => True
  | x :: r => PySem.W.nsIn K mainGlobals x = some none ∧ AllB K r
theorem AllB.get {x : Str} : ∀ {l : List Str}, AllB K l → x ∈ l → PySem.W.nsIn K mainGlobals x = some none
  | [], _, h => by cases h
  | y :: r, a, h => by
    rcases List.mem_cons.mp h with rfl | h
    · exact a.1
    · exact AllB.get a.2 h
def AllC (K : PySem.W.Frag) : List (Str × D) → Prop
  | [] => True
  | (x, d) :: r => CF K x d ∧ AllC K r
theorem AllC.get {x : Str} {d : D} : ∀ {l : List (Str × D)}, AllC K l → l.lookup x = some d → CF K x d
  | [], _, h => by cases h
  | (y, e) :: r, a, h => by
    simp only [List.lookup] at h
    split at h
    · rename_i q
      cases h
      rw [beq_iff_eq.mp q]
      exact a.1
    · exact AllC.get a.2 h
def AllD (K : PySem.W.Frag) (w : World) : List (Str × List (Str × D)) → Prop
  | [] => True
  | (x, d) :: r => DF K w x d ∧ AllD K w r
theorem AllD.get {x : Str} {d : List (Str × D)} : ∀ {l : List (Str × List (Str × D))}, AllD K w l → l.lookup x = some d → DF K w x d
  | [], _, h => by cases h
  | (y, e) :: r, a, h => by
    simp only [List.lookup] at h
    split at h
    · rename_i q
      cases h
      rw [beq_iff_eq.mp q]
      exact a.1
    · exact AllD.get a.2 h
theorem mdk_of {cons : List (Str × D)} {dics : List (Str × List (Str × D))} (X : K.In h) (G0 : h.Ns mainGlobals mg) (ec : ∀ x, G.con x = cons.lookup x) (ed : ∀ x, G.dic x = dics.lookup x) (af : AllF K G fs bl cs T fs) (ak : AllK K G fs bl cs T G.kc) (ab : AllB K bl) (ac : AllC K cons) (ad : AllD K w dics) :
    MdK w K mg G fs bl cs T := by
  refine ⟨⟨fun x hx => PySem.W.mg_none_of X G0 (ab.get hx), fun x d hd => ?_, fun g kvs hd => ?_⟩, fun f ps hf => ?_, fun f ks ix hk => ?_⟩
  · rw [ec] at hd
    obtain ⟨u, v, h1, h2, h3⟩ := (ac.get hd).ex
    exact ⟨u, v, PySem.W.mg_of X G0 h1, h2, h3⟩
  · rw [ed] at hd
    obtain ⟨p, h1, h2⟩ := (ad.get hd).ex
    exact ⟨p, PySem.W.mg_of X G0 h1, h2⟩
  · obtain ⟨st, i⟩ := af.get hf
    obtain ⟨a, kV, doc, pm, an, cdv, ct, h1, h2, h3, h4⟩ := i.get X G0
    exact ⟨a, _, h1, h2, .all h3, h4⟩
  · obtain ⟨ps, st, i, kb⟩ := ak.get hk
    cases i with
    | plain i k n =>
      rename_i F N
      obtain ⟨a, oc, od, kV, doc, pm, an, cdv, ct, osl, h1, h2, h3, h4⟩ := k.ex
      exact ⟨ps, a, _, PySem.W.mg_of X G0 h1, h4, kb.len, kb.lt, fun s ws hw => .of_eq (kb.b kV doc pm an cdv ct ws hw), ⟨st, F, N, oc, od, kV, doc, pm, an, cdv, ct, osl, rfl, h2, h3, i.S, i.fn, i.p, i.l, i.le, i.ch, fun z => by rw [n] at z; cases z⟩⟩
    | lam i k q1 q2 q3 =>
      rename_i F N c P
      obtain ⟨a, oc, od, kV, doc, pm, an, ct, osl, h1, h2, h3, h4⟩ := k.ex
      exact ⟨ps, a, _, PySem.W.mg_of X G0 h1, h4, kb.len, kb.lt, fun s ws hw => .of_eq (kb.b kV doc pm an (.ref c) ct ws hw), ⟨st, F, N, oc, od, kV, doc, pm, an, .ref c, ct, osl, rfl, h2, h3, i.S, i.fn, i.p, i.l, i.le, i.ch, fun _ => ⟨c, P, rfl, q1, q2, q3⟩⟩⟩
end
end Ev
set_option linter.all false
set_option maxRecDepth 100000
set_option maxHeartbeats 4000000
namespace K16
open PySem PySem.Spec L2 Ev
def top (i : Nat) : Stmt := PySem.Challenge.pw_waypins_k16_beats_by_hand_and_by_names.main.body.getD i (.Pass ⟨0, 0, 0, 0⟩)
def f_law : FnD := ⟨1, 5, [2], false,
  [(.loop (.nm 1) (.rng [(.blt .max [(.int 1), (.blt .min [(.slen 0), (.int 3)])])]) [(.asg (.nm 2) (.call ("_law_pen" : Str) [(.call ("_law_cell_at" : Str) [(.slot 0), (.slot 1)])])), (.par [3, 4] [(.call ("_law_draw" : Str) [(.slot 2), (.int 6)]), (.call ("_law_draw" : Str) [(.slot 2), (.bin .Pow (.int 10) (.int 11))])]), (.ite (.lor (.no (.call ("_law_left_right" : Str) [(.slot 3), (.slot 4)])) (.no (.call ("_law_mixed_right" : Str) [(.slot 3), (.slot 4)]))) [(.ret (some (.bl false)))] [])]), (.ret (some (.bl true)))]⟩
def f__law_pen : FnD := ⟨1, 1, [], false,
  [(.ret (some (.lst [(.blt .max [(.int 0), (.bin .Sub (.slot 0) (.bin .Pow (.int 10) (.int 18)))]), (.bin .Add (.bin .Mod (.slot 0) (.int 2147483629)) (.int 1)), (.int 0)])))]⟩
def f__law_cell_at : FnD := ⟨2, 2, [], false,
  [(.ite (.cmp .Lt (.slot 1) (.slen 0)) [(.ret (some (.sidx 0 (.slot 1))))] []), (.ret (some (.int 0)))]⟩
def f__law_draw : FnD := ⟨2, 4, [0], false,
  [(.ite (.cmp .Gt (.idx (.slot 0) (.int 0)) (.int 0)) [(.asg (.nm 3) (.bin .Mod (.idx (.slot 0) (.int 0)) (.slot 1))), (.seti 0 (.int 0) (.bin .FloorDiv (.idx (.slot 0) (.int 0)) (.slot 1))), (.ret (some (.slot 3)))] []), (.seti 0 (.int 2) (.bin .Add (.idx (.slot 0) (.int 2)) (.int 1))), (.seti 0 (.int 1) (.bin .Mod (.bin .Add (.bin .Add (.bin .Mult (.idx (.slot 0) (.int 1)) (.int 48271)) (.bin .Mult (.int 1009) (.idx (.slot 0) (.int 2)))) (.int 7)) (.int 2147483647))), (.asg (.nm 2) (.bin .Mod (.bin .Add (.bin .Add (.bin .Mult (.idx (.slot 0) (.int 1)) (.idx (.slot 0) (.int 1))) (.bin .Mult (.int 69621) (.idx (.slot 0) (.int 1)))) (.int 11)) (.int 2147483629))), (.asg (.nm 2) (.bin .Mod (.bin .Add (.bin .Mult (.slot 2) (.slot 2)) (.bin .Mult (.int 40014) (.slot 2))) (.int 2147483587))), (.ret (some (.bin .Mod (.bin .FloorDiv (.slot 2) (.int 16)) (.slot 1))))]⟩
def f__law_left_right : FnD := ⟨2, 12, [], false,
  [(.par [6, 2] [(.call ("_law_pins" : Str) [(.bin .Mult (.lst [(.str ("left" : Str))]) (.int 3))]), (.lst [(.tup [(.int 0), (.int 1), (.str ("ahead" : Str))]), (.tup [(.int 2), (.int 0), (.str ("behind" : Str))]), (.tup [(.int 1), (.int 2), (.str ("ahead" : Str))]), (.tup [(.int 0), (.int 1), (.str ("behind" : Str))])])]), (.asg (.nm 2) (.bin .Add (.slot 2) (.lst [(.tup [(.int 2), (.int 0), (.str ("ahead" : Str))]), (.tup [(.int 1), (.int 2), (.str ("behind" : Str))])]))), (.asg (.nm 3) (.lst [(.tup [(.slot 2), (.int 1)]), (.tup [(.lst [(.tup [(.int 0), (.int 2), (.str ("ahead" : Str))]), (.tup [(.int 1), (.int 0), (.str ("ahead" : Str))]), (.tup [(.int 2), (.int 1), (.str ("ahead" : Str))])]), (.int 0)])])), (.loop (.tp [(.nm 7), (.nm 8)]) (.of (.bin .Add (.slot 3) (.lst [(.tup [(.lst [(.tup [(.int 0), (.int 2), (.str ("behind" : Str))]), (.tup [(.int 1), (.int 0), (.str ("behind" : Str))]), (.tup [(.int 2), (.int 1), (.str ("behind" : Str))])]), (.int 2)])]))) [(.loop (.tp [(.nm 9), (.nm 10)]) (.enm (.slot 7)) [(.asg (.nm 11) (.idx (.slot 7) (.bin .Mod (.bin .Add (.slot 9) (.int 1)) (.blt .len [(.slot 7)])))), (.ite (.cmp .IsNot (.callk ("is_stand" : Str) [("thing" : Str), ("board" : Str)] [(.slot 10), (.slot 6)] [1, 0]) (.bl true)) [(.ret (some (.bl false)))] []), (.ite (.cmp .NotEq (.callk ("number_of" : Str) [("stand" : Str), ("board" : Str)] [(.slot 10), (.slot 6)] [1, 0]) (.slot 8)) [(.ret (some (.bl false)))] []), (.ite (.lor (.cmp .NotEq (.callk ("beat" : Str) [("stand" : Str), ("board" : Str)] [(.slot 10), (.slot 6)] [1, 0]) (.slot 11)) (.cmp .NotEq (.callk ("ahead" : Str) [("stand" : Str), ("board" : Str)] [(.slot 11), (.slot 6)] [1, 0]) (.slot 10))) [(.ret (some (.bl false)))] [])])]), (.ite (.cmp .NotEq (.callk ("after" : Str) [("many" : Str), ("stand" : Str), ("board" : Str)] [(.bin .Add (.bin .Mult (.int 6) (.slot 1)) (.slot 0)), (.idx (.slot 2) (.int 0)), (.slot 6)] [2, 1, 0]) (.idx (.slot 2) (.slot 0))) [(.ret (some (.bl false)))] []), (.ite (.cmp .NotEq (.call ("after" : Str) [(.slot 6), (.idx (.slot 2) (.int 0)), (.bin .Pow (.int 10) (.int 12))]) (.idx (.slot 2) (.int 4))) [(.ret (some (.bl false)))] []), (.asg (.nm 4) (.tup [(.tup [(.int 1), (.str ("ahead" : Str))]), (.tup [(.int 2), (.str ("ahead" : Str))]), (.tup [(.int 1), (.str ("behind" : Str))]), (.tup [(.int 2), (.str ("behind" : Str))])])), (.asg (.nm 5) (.tup [(.tup [(.int 0), (.str ("behind" : Str))]), (.tup [(.int 1), (.str ("behind" : Str))]), (.tup [(.int 0), (.str ("ahead" : Str))]), (.tup [(.int 1), (.str ("ahead" : Str))])])), (.ite (.lor (.cmp .NotEq (.callk ("meetings" : Str) [("pin" : Str), ("board" : Str)] [(.int 0), (.slot 6)] [1, 0]) (.slot 4)) (.cmp .NotEq (.call ("meetings" : Str) [(.slot 6), (.int 2)]) (.slot 5))) [(.ret (some (.bl false)))] []), (.ite (.cmp .NotEq (.callk ("first" : Str) [("look" : Str), ("pin" : Str), ("board" : Str)] [(.tup [(.int 1000), (.int 1)]), (.int 0), (.slot 6)] [2, 1, 0]) (.tup [(.int 1), (.int 0), (.str ("behind" : Str))])) [(.ret (some (.bl false)))] []), (.ret (some (.cmp .Eq (.call ("first" : Str) [(.slot 6), (.int 1), (.tup [(.int 0), (.int 1)])]) (.tup [(.int 2), (.int 1), (.str ("behind" : Str))]))))]⟩
def f__law_mixed_right : FnD := ⟨2, 6, [], false,
  [(.par [2, 3] [(.call ("_law_pins" : Str) [(.lst [(.str ("left" : Str)), (.str ("right" : Str)), (.str ("left" : Str))])]), (.lst [(.tup [(.int 0), (.int 1), (.str ("ahead" : Str))]), (.tup [(.int 2), (.int 0), (.str ("behind" : Str))]), (.tup [(.int 1), (.int 2), (.str ("ahead" : Str))])])]), (.loop (.tp [(.nm 4), (.nm 5)]) (.enm (.slot 3)) [(.ite (.lor (.cmp .NotEq (.call ("beat" : Str) [(.slot 2), (.slot 5)]) (.idx (.slot 3) (.bin .Mod (.bin .Add (.slot 4) (.int 1)) (.int 3)))) (.cmp .NotEq (.call ("number_of" : Str) [(.slot 2), (.slot 5)]) (.int 2))) [(.ret (some (.bl false)))] [])]), (.ite (.cmp .NotEq (.call ("first" : Str) [(.slot 2), (.int 1), (.tup [(.int 1000), (.int 1)])]) (.tup [(.int 2), (.int 1), (.str ("ahead" : Str))])) [(.ret (some (.bl false)))] []), (.ite (.cmp .NotEq (.callk ("first" : Str) [("look" : Str), ("pin" : Str), ("board" : Str)] [(.tup [(.int 0), (.int 1)]), (.int 1), (.slot 2)] [2, 1, 0]) (.tup [(.int 0), (.int 1), (.str ("ahead" : Str))])) [(.ret (some (.bl false)))] []), (.ret (some (.cmp .Eq (.call ("after" : Str) [(.slot 2), (.idx (.slot 3) (.int 0)), (.bin .Add (.bin .Mult (.int 3) (.slot 1)) (.bin .Mod (.slot 0) (.int 3)))]) (.idx (.slot 3) (.bin .Mod (.slot 0) (.int 3))))))]⟩
def f__law_pins : FnD := ⟨1, 1, [], false,
  [(.ret (some (.tup [(.tup [(.int 0), (.int 0), (.idx (.slot 0) (.int 0))]), (.tup [(.int 40), (.int 3), (.idx (.slot 0) (.int 1))]), (.tup [(.int 11), (.int 29), (.idx (.slot 0) (.int 2))])])))]⟩
def f_is_stand : FnD := ⟨2, 2, [], false,
  [(.exp (.call ("need_board" : Str) [(.slot 0)])), (.ret (some (.call ("stand_holds" : Str) [(.slot 0), (.slot 1)])))]⟩
def f_number_of : FnD := ⟨2, 9, [3], false,
  [(.exp (.call ("need_board" : Str) [(.slot 0)])), (.exp (.call ("need_stand" : Str) [(.slot 0), (.slot 1)])), (.asg (.tp [(.nm 4), (.nm 5), (.nm 6)]) (.slot 1)), (.asg (.nm 2) (.call ("look_of" : Str) [(.slot 0), (.slot 1)])), (.asg (.nm 3) (.lc [(("pin" : Str), 7), (("place" : Str), 8)] (.tp [(.nm 7), (.nm 8)]) (.enm (.slot 0)) [(.cmp .Gt (.call ("cross" : Str) [(.slot 2), (.call ("gap" : Str) [(.idx (.slot 0) (.slot 4)), (.slot 8)])]) (.int 0))] (.slot 7))), (.ite (.cmp .Eq (.cmp .Eq (.slot 6) (.str ("ahead" : Str))) (.cmp .Eq (.idx (.idx (.slot 0) (.slot 4)) (.int 2)) (.str ("right" : Str)))) [(.app 3 (.slot 5))] []), (.ret (some (.call ("line_number" : Str) [(.slot 0), (.slot 4), (.slot 3)])))]⟩
def f_beat : FnD := ⟨2, 2, [], false,
  [(.exp (.call ("need_board" : Str) [(.slot 0)])), (.exp (.call ("need_stand" : Str) [(.slot 0), (.slot 1)])), (.ret (some (.call ("next_stand" : Str) [(.slot 0), (.slot 1)])))]⟩
def f_ahead : FnD := ⟨2, 6, [], false,
  [(.exp (.call ("need_board" : Str) [(.slot 0)])), (.exp (.call ("need_stand" : Str) [(.slot 0), (.slot 1)])), (.asg (.nm 2) (.idx (.slot 1) (.int 1))), (.asg (.nm 3) (.look ("OTHER_WAY" : Str) (.idx (.idx (.slot 0) (.slot 2)) (.int 2)))), (.asg (.tp [(.nm 4), (.nm 5)]) (.idx (.call ("half_turn" : Str) [(.slot 0), (.slot 2), (.call ("look_of" : Str) [(.slot 0), (.slot 1)]), (.slot 3)]) (.int 0))), (.ret (some (.tup [(.slot 2), (.slot 4), (.slot 5)])))]⟩
def f_after : FnD := ⟨3, 4, [], false,
  [(.exp (.call ("need_board" : Str) [(.slot 0)])), (.exp (.call ("need_stand" : Str) [(.slot 0), (.slot 1)])), (.exp (.call ("need_beats" : Str) [(.slot 2)])), (.asg (.nm 3) (.call ("stands_from" : Str) [(.slot 0), (.slot 1)])), (.ret (some (.idx (.slot 3) (.bin .Mod (.slot 2) (.blt .len [(.slot 3)])))))]⟩
def f_meetings : FnD := ⟨2, 5, [], false,
  [(.exp (.call ("need_board" : Str) [(.slot 0)])), (.exp (.call ("need_pin" : Str) [(.slot 0), (.slot 1)])), (.asg (.nm 2) (.call ("half_turn" : Str) [(.slot 0), (.slot 1), (.con ("MEETINGS_LOOK" : Str)), (.str ("left" : Str))])), (.ret (some (.blt .tup [(.bin .Add (.slot 2) (.lc [(("other" : Str), 3), (("word" : Str), 4)] (.tp [(.nm 3), (.nm 4)]) (.of (.slot 2)) [] (.tup [(.slot 3), (.look ("OTHER_WORD" : Str) (.slot 4))])))])))]⟩
def f_first : FnD := ⟨3, 3, [], false,
  [(.exp (.call ("need_board" : Str) [(.slot 0)])), (.exp (.call ("need_pin" : Str) [(.slot 0), (.slot 1)])), (.exp (.call ("need_look" : Str) [(.slot 0), (.slot 2)])), (.ret (some (.call ("stand_met" : Str) [(.slot 0), (.slot 1), (.slot 2)])))]⟩
def f_need_board : FnD := ⟨1, 1, [], false,
  [(.ite (.no (.call ("is_board" : Str) [(.slot 0)])) [.nev] [])]⟩
def f_stand_holds : FnD := ⟨2, 5, [], false,
  [(.ite (.no (.call ("is_tuple_of" : Str) [(.slot 1), (.int 3)])) [(.ret (some (.bl false)))] []), (.asg (.tp [(.nm 2), (.nm 3), (.nm 4)]) (.slot 1)), (.ite (.lor (.no (.call ("is_pin_number" : Str) [(.slot 0), (.slot 2)])) (.no (.call ("is_pin_number" : Str) [(.slot 0), (.slot 3)]))) [(.ret (some (.bl false)))] []), (.ret (some (.land (.cmp .NotEq (.slot 2) (.slot 3)) (.cmp .In (.slot 4) (.con ("WORDS" : Str))))))]⟩
def f_need_stand : FnD := ⟨2, 2, [], false,
  [(.ite (.no (.call ("stand_holds" : Str) [(.slot 0), (.slot 1)])) [.nev] [])]⟩
def f_look_of : FnD := ⟨2, 5, [], false,
  [(.asg (.tp [(.nm 2), (.nm 3), (.nm 4)]) (.slot 1)), (.ite (.cmp .Eq (.slot 4) (.str ("ahead" : Str))) [(.ret (some (.call ("gap" : Str) [(.idx (.slot 0) (.slot 2)), (.idx (.slot 0) (.slot 3))])))] []), (.ret (some (.call ("gap" : Str) [(.idx (.slot 0) (.slot 3)), (.idx (.slot 0) (.slot 2))])))]⟩
def f_cross : FnD := ⟨2, 2, [], false,
  [(.ret (some (.bin .Sub (.bin .Mult (.idx (.slot 0) (.int 0)) (.idx (.slot 1) (.int 1))) (.bin .Mult (.idx (.slot 0) (.int 1)) (.idx (.slot 1) (.int 0))))))]⟩
def f_gap : FnD := ⟨2, 2, [], false,
  [(.ret (some (.tup [(.bin .Sub (.idx (.slot 1) (.int 0)) (.idx (.slot 0) (.int 0))), (.bin .Sub (.idx (.slot 1) (.int 1)) (.idx (.slot 0) (.int 1)))])))]⟩
def f_line_number : FnD := ⟨3, 4, [], false,
  [(.ret (some (.blt .len [(.lc [(("pin" : Str), 3)] (.nm 3) (.rng [(.blt .len [(.slot 0)])]) [(.land (.cmp .NotEq (.slot 3) (.slot 1)) (.cmp .Eq (.cmp .Eq (.idx (.idx (.slot 0) (.slot 3)) (.int 2)) (.str ("left" : Str))) (.cmp .In (.slot 3) (.slot 2))))] (.slot 3))])))]⟩
def f_next_stand : FnD := ⟨2, 2, [], false,
  [(.ret (some (.call ("stand_met" : Str) [(.slot 0), (.idx (.slot 1) (.int 0)), (.call ("look_of" : Str) [(.slot 0), (.slot 1)])])))]⟩
def f_half_turn : FnD := ⟨4, 12, [4], true,
  [(.asg (.nm 4) (.lst [])), (.loop (.tp [(.nm 6), (.nm 7)]) (.enm (.slot 0)) [(.asg (.nm 8) (.call ("gap" : Str) [(.idx (.slot 0) (.slot 1)), (.slot 7)])), (.ite (.call ("comes_to" : Str) [(.slot 2), (.slot 8), (.slot 3)]) [(.app 4 (.tup [(.slot 8), (.slot 6), (.str ("ahead" : Str))]))] []), (.asg (.nm 9) (.call ("gap" : Str) [(.slot 7), (.idx (.slot 0) (.slot 1))])), (.ite (.call ("comes_to" : Str) [(.slot 2), (.slot 9), (.slot 3)]) [(.app 4 (.tup [(.slot 9), (.slot 6), (.str ("behind" : Str))]))] [])]), (.asg (.nm 5) (.sortl (.slot 4) 10 (.blt .len [(.lc [(("one" : Str), 11)] (.nm 11) (.of (.slot 4)) [(.call ("comes_to" : Str) [(.idx (.slot 11) (.int 0)), (.idx (.slot 10) (.int 0)), (.slot 3)])] (.slot 11))]) false)), (.ret (some (.lc [(("row" : Str), 10)] (.nm 10) (.of (.slot 5)) [] (.tup [(.idx (.slot 10) (.int 1)), (.idx (.slot 10) (.int 2))]))))]⟩
def f_need_beats : FnD := ⟨1, 1, [], false,
  [(.exp (.call ("need_number" : Str) [(.slot 0)])), (.ite (.cmp .Gt (.slot 0) (.con ("MOST_BEATS" : Str))) [.nev] [])]⟩
def f_stands_from : FnD := ⟨2, 4, [2], false,
  [(.asg (.nm 2) (.lst [(.slot 1)])), (.asg (.nm 3) (.call ("next_stand" : Str) [(.slot 0), (.slot 1)])), (.whl (.cmp .NotEq (.slot 3) (.slot 1)) [(.app 2 (.slot 3)), (.asg (.nm 3) (.call ("next_stand" : Str) [(.slot 0), (.slot 3)]))]), (.ret (some (.slot 2)))]⟩
def f_need_pin : FnD := ⟨2, 2, [], false,
  [(.ite (.no (.call ("is_pin_number" : Str) [(.slot 0), (.slot 1)])) [.nev] [])]⟩
def f_need_look : FnD := ⟨2, 2, [], false,
  [(.ite (.no (.call ("is_look" : Str) [(.slot 0), (.slot 1)])) [.nev] [])]⟩
def f_stand_met : FnD := ⟨3, 5, [], false,
  [(.asg (.tp [(.nm 3), (.nm 4)]) (.idx (.call ("half_turn" : Str) [(.slot 0), (.slot 1), (.slot 2), (.idx (.idx (.slot 0) (.slot 1)) (.int 2))]) (.int 0))), (.ret (some (.tup [(.slot 3), (.slot 1), (.look ("OTHER_WORD" : Str) (.slot 4))])))]⟩
def f_is_board : FnD := ⟨1, 6, [], false,
  [(.ite (.lor (.no (.isi (.slot 0) "tuple")) (.no (.cmp2 .LtE .LtE (.con ("FEWEST_PINS" : Str)) (.blt .len [(.slot 0)]) (.con ("MOST_PINS" : Str))))) [(.ret (some (.bl false)))] []), (.ite (.no (.blt .all [(.lc [(("part" : Str), 3)] (.nm 3) (.of (.slot 0)) [] (.call ("is_pin" : Str) [(.slot 3)]))])) [(.ret (some (.bl false)))] []), (.asg (.nm 1) (.call ("gaps" : Str) [(.slot 0)])), (.ret (some (.blt .all [(.lc2 [(("at" : Str), 4), (("one" : Str), 5), (("other" : Str), 2)] [2] (.tp [(.nm 4), (.nm 5)]) (.enm (.slot 1)) [] (.nm 2) (.of (.cut (.slot 1) none (some (.slot 4)))) [] (.cmp .NotEq (.call ("cross" : Str) [(.slot 5), (.slot 2)]) (.int 0)))])))]⟩
def f_is_tuple_of : FnD := ⟨2, 2, [], false,
  [(.ret (some (.land (.isi (.slot 0) "tuple") (.cmp .Eq (.blt .len [(.slot 0)]) (.slot 1)))))]⟩
def f_is_pin_number : FnD := ⟨2, 2, [], false,
  [(.ret (some (.land (.call ("is_whole" : Str) [(.slot 1)]) (.cmp2 .LtE .Lt (.int 0) (.slot 1) (.blt .len [(.slot 0)])))))]⟩
def f_comes_to : FnD := ⟨3, 4, [], false,
  [(.asg (.nm 3) (.call ("cross" : Str) [(.slot 0), (.slot 1)])), (.ret (some (.ite (.cmp .Eq (.slot 2) (.str ("left" : Str))) (.cmp .Gt (.slot 3) (.int 0)) (.cmp .Lt (.slot 3) (.int 0)))))]⟩
def f_need_number : FnD := ⟨1, 1, [], false,
  [(.ite (.lor (.no (.call ("is_whole" : Str) [(.slot 0)])) (.cmp .Lt (.slot 0) (.int 0))) [.nev] [])]⟩
def f_is_look : FnD := ⟨2, 4, [], false,
  [(.ite (.lor (.no (.call ("is_tuple_of" : Str) [(.slot 1), (.int 2)])) (.no (.blt .all [(.lc [(("part" : Str), 3)] (.nm 3) (.of (.slot 1)) [] (.call ("is_whole" : Str) [(.slot 3)]))]))) [(.ret (some (.bl false)))] []), (.ret (some (.blt .all [(.lc [(("one" : Str), 2)] (.nm 2) (.of (.call ("gaps" : Str) [(.slot 0)])) [] (.cmp .NotEq (.call ("cross" : Str) [(.slot 2), (.slot 1)]) (.int 0)))])))]⟩
def f_is_pin : FnD := ⟨1, 4, [], false,
  [(.ite (.no (.call ("is_tuple_of" : Str) [(.slot 0), (.int 3)])) [(.ret (some (.bl false)))] []), (.asg (.tp [(.nm 1), (.nm 2), (.nm 3)]) (.slot 0)), (.ret (some (.land (.call ("is_place" : Str) [(.slot 1)]) (.land (.call ("is_place" : Str) [(.slot 2)]) (.cmp .In (.slot 3) (.con ("WAYS" : Str)))))))]⟩
def f_gaps : FnD := ⟨1, 4, [], false,
  [(.ret (some (.lc2 [(("at" : Str), 2), (("one" : Str), 3), (("other" : Str), 1)] [1] (.tp [(.nm 2), (.nm 3)]) (.enm (.slot 0)) [] (.nm 1) (.of (.cut (.slot 0) none (some (.slot 2)))) [] (.call ("gap" : Str) [(.slot 3), (.slot 1)]))))]⟩
def f_is_whole : FnD := ⟨1, 1, [], false,
  [(.ret (some (.land (.isi (.slot 0) "int") (.no (.isi (.slot 0) "bool")))))]⟩
def f_is_place : FnD := ⟨1, 1, [], false,
  [(.ret (some (.land (.call ("is_whole" : Str) [(.slot 0)]) (.cmp2 .LtE .LtE (.int 0) (.slot 0) (.con ("LAST_PLACE" : Str))))))]⟩
def fns : List (Str × FnD) := [(("law" : Str), f_law), (("_law_pen" : Str), f__law_pen), (("_law_cell_at" : Str), f__law_cell_at), (("_law_draw" : Str), f__law_draw), (("_law_left_right" : Str), f__law_left_right), (("_law_mixed_right" : Str), f__law_mixed_right), (("_law_pins" : Str), f__law_pins), (("is_stand" : Str), f_is_stand), (("number_of" : Str), f_number_of), (("beat" : Str), f_beat), (("ahead" : Str), f_ahead), (("after" : Str), f_after), (("meetings" : Str), f_meetings), (("first" : Str), f_first), (("need_board" : Str), f_need_board), (("stand_holds" : Str), f_stand_holds), (("need_stand" : Str), f_need_stand), (("look_of" : Str), f_look_of), (("cross" : Str), f_cross), (("gap" : Str), f_gap), (("line_number" : Str), f_line_number), (("next_stand" : Str), f_next_stand), (("half_turn" : Str), f_half_turn), (("need_beats" : Str), f_need_beats), (("stands_from" : Str), f_stands_from), (("need_pin" : Str), f_need_pin), (("need_look" : Str), f_need_look), (("stand_met" : Str), f_stand_met), (("is_board" : Str), f_is_board), (("is_tuple_of" : Str), f_is_tuple_of), (("is_pin_number" : Str), f_is_pin_number), (("comes_to" : Str), f_comes_to), (("need_number" : Str), f_need_number), (("is_look" : Str), f_is_look), (("is_pin" : Str), f_is_pin), (("gaps" : Str), f_gaps), (("is_whole" : Str), f_is_whole), (("is_place" : Str), f_is_place)]
def cons : List (Str × D) := [(("FEWEST_PINS" : Str), (.int (3))), (("LAST_PLACE" : Str), (.int (99))), (("MEETINGS_LOOK" : Str), (.tuple [(.int (1000)), (.int (1))])), (("MOST_BEATS" : Str), (.int (1000000000000))), (("MOST_PINS" : Str), (.int (8))), (("WAYS" : Str), (.tuple [(.str ("left" : Str)), (.str ("right" : Str))])), (("WORDS" : Str), (.tuple [(.str ("ahead" : Str)), (.str ("behind" : Str))]))]
def dics : List (Str × List (Str × D)) := [(("OTHER_WAY" : Str), [(("left" : Str), (.str ("right" : Str))), (("right" : Str), (.str ("left" : Str)))]), (("OTHER_WORD" : Str), [(("ahead" : Str), (.str ("behind" : Str))), (("behind" : Str), (.str ("ahead" : Str)))])]
def kcs : List (Str × List Str × List Nat) := [(("is_stand" : Str), [("thing" : Str), ("board" : Str)], [1, 0]), (("number_of" : Str), [("stand" : Str), ("board" : Str)], [1, 0]), (("beat" : Str), [("stand" : Str), ("board" : Str)], [1, 0]), (("ahead" : Str), [("stand" : Str), ("board" : Str)], [1, 0]), (("after" : Str), [("many" : Str), ("stand" : Str), ("board" : Str)], [2, 1, 0]), (("meetings" : Str), [("pin" : Str), ("board" : Str)], [1, 0]), (("first" : Str), [("look" : Str), ("pin" : Str), ("board" : Str)], [2, 1, 0])]
def G : Pk := ⟨fun f => fns.lookup f, fun x => cons.lookup x, fun g => dics.lookup g, kcs, 1000⟩
def fs : List (Str × List Str) := [(("law" : Str), [("_law_script" : Str)]), (("_law_pen" : Str), [("_law_cell" : Str)]), (("_law_cell_at" : Str), [("_law_script" : Str), ("_law_k" : Str)]), (("_law_draw" : Str), [("_law_pen_here" : Str), ("_law_amount" : Str)]), (("_law_left_right" : Str), [("_law_at" : Str), ("_law_more" : Str)]), (("_law_mixed_right" : Str), [("_law_at" : Str), ("_law_more" : Str)]), (("_law_pins" : Str), [("_law_ways" : Str)]), (("is_stand" : Str), [("board" : Str), ("thing" : Str)]), (("number_of" : Str), [("board" : Str), ("stand" : Str)]), (("beat" : Str), [("board" : Str), ("stand" : Str)]), (("ahead" : Str), [("board" : Str), ("stand" : Str)]), (("after" : Str), [("board" : Str), ("stand" : Str), ("many" : Str)]), (("meetings" : Str), [("board" : Str), ("pin" : Str)]), (("first" : Str), [("board" : Str), ("pin" : Str), ("look" : Str)]), (("need_board" : Str), [("board" : Str)]), (("stand_holds" : Str), [("board" : Str), ("thing" : Str)]), (("need_stand" : Str), [("board" : Str), ("stand" : Str)]), (("look_of" : Str), [("board" : Str), ("stand" : Str)]), (("cross" : Str), [("one" : Str), ("other" : Str)]), (("gap" : Str), [("one" : Str), ("other" : Str)]), (("line_number" : Str), [("board" : Str), ("own" : Str), ("lefts" : Str)]), (("next_stand" : Str), [("board" : Str), ("stand" : Str)]), (("half_turn" : Str), [("board" : Str), ("pin" : Str), ("look" : Str), ("way" : Str)]), (("need_beats" : Str), [("many" : Str)]), (("stands_from" : Str), [("board" : Str), ("stand" : Str)]), (("need_pin" : Str), [("board" : Str), ("pin" : Str)]), (("need_look" : Str), [("board" : Str), ("look" : Str)]), (("stand_met" : Str), [("board" : Str), ("pin" : Str), ("look" : Str)]), (("is_board" : Str), [("thing" : Str)]), (("is_tuple_of" : Str), [("thing" : Str), ("many" : Str)]), (("is_pin_number" : Str), [("board" : Str), ("thing" : Str)]), (("comes_to" : Str), [("one" : Str), ("other" : Str), ("way" : Str)]), (("need_number" : Str), [("number" : Str)]), (("is_look" : Str), [("board" : Str), ("thing" : Str)]), (("is_pin" : Str), [("thing" : Str)]), (("gaps" : Str), [("board" : Str)]), (("is_whole" : Str), [("thing" : Str)]), (("is_place" : Str), [("thing" : Str)])]
def bl : List Str := [("all" : Str), ("bool" : Str), ("enumerate" : Str), ("int" : Str), ("isinstance" : Str), ("len" : Str), ("max" : Str), ("min" : Str), ("range" : Str), ("sorted" : Str), ("tuple" : Str)]
abbrev s_law : Stmt := top 57
def n_law : List Str := [("_law_script" : Str), ("_law_k" : Str), ("_law_pen_here" : Str), ("_law_at" : Str), ("_law_more" : Str)]
abbrev s__law_pen : Stmt := top 52
def n__law_pen : List Str := [("_law_cell" : Str)]
abbrev s__law_cell_at : Stmt := top 51
def n__law_cell_at : List Str := [("_law_script" : Str), ("_law_k" : Str)]
abbrev s__law_draw : Stmt := top 53
def n__law_draw : List Str := [("_law_pen_here" : Str), ("_law_amount" : Str), ("_law_mixed" : Str), ("_law_found" : Str)]
abbrev s__law_left_right : Stmt := top 55
def n__law_left_right : List Str := [("_law_at" : Str), ("_law_more" : Str), ("_law_long" : Str), ("_law_rows" : Str), ("_law_due" : Str), ("_law_its" : Str), ("_law_net" : Str), ("_law_row" : Str), ("_law_number" : Str), ("_law_here" : Str), ("_law_place" : Str), ("_law_later" : Str)]
abbrev s__law_mixed_right : Stmt := top 56
def n__law_mixed_right : List Str := [("_law_at" : Str), ("_law_more" : Str), ("_law_net" : Str), ("_law_row" : Str), ("_law_here" : Str), ("_law_place" : Str)]
abbrev s__law_pins : Stmt := top 54
def n__law_pins : List Str := [("_law_ways" : Str)]
abbrev s_is_stand : Stmt := top 43
def n_is_stand : List Str := [("board" : Str), ("thing" : Str)]
abbrev s_number_of : Stmt := top 44
def n_number_of : List Str := [("board" : Str), ("stand" : Str), ("look" : Str), ("lefts" : Str), ("own" : Str), ("last" : Str), ("word" : Str), ("pin" : Str), ("place" : Str)]
abbrev s_beat : Stmt := top 45
def n_beat : List Str := [("board" : Str), ("stand" : Str)]
abbrev s_ahead : Stmt := top 46
def n_ahead : List Str := [("board" : Str), ("stand" : Str), ("last" : Str), ("back" : Str), ("other" : Str), ("word" : Str)]
abbrev s_after : Stmt := top 48
def n_after : List Str := [("board" : Str), ("stand" : Str), ("many" : Str), ("found" : Str)]
abbrev s_meetings : Stmt := top 49
def n_meetings : List Str := [("board" : Str), ("pin" : Str), ("half" : Str), ("other" : Str), ("word" : Str)]
abbrev s_first : Stmt := top 47
def n_first : List Str := [("board" : Str), ("pin" : Str), ("look" : Str)]
abbrev s_need_board : Stmt := top 23
def n_need_board : List Str := [("board" : Str)]
abbrev s_stand_holds : Stmt := top 34
def n_stand_holds : List Str := [("board" : Str), ("thing" : Str), ("own" : Str), ("last" : Str), ("word" : Str)]
abbrev s_need_stand : Stmt := top 35
def n_need_stand : List Str := [("board" : Str), ("stand" : Str)]
abbrev s_look_of : Stmt := top 37
def n_look_of : List Str := [("board" : Str), ("stand" : Str), ("own" : Str), ("last" : Str), ("word" : Str)]
abbrev s_cross : Stmt := top 19
def n_cross : List Str := [("one" : Str), ("other" : Str)]
abbrev s_gap : Stmt := top 17
def n_gap : List Str := [("one" : Str), ("other" : Str)]
abbrev s_line_number : Stmt := top 28
def n_line_number : List Str := [("board" : Str), ("own" : Str), ("lefts" : Str), ("pin" : Str)]
abbrev s_next_stand : Stmt := top 41
def n_next_stand : List Str := [("board" : Str), ("stand" : Str)]
abbrev s_half_turn : Stmt := top 39
def n_half_turn : List Str := [("board" : Str), ("pin" : Str), ("look" : Str), ("way" : Str), ("met" : Str), ("rows" : Str), ("other" : Str), ("place" : Str), ("ahead_look" : Str), ("behind_look" : Str), ("row" : Str), ("one" : Str)]
abbrev s_need_beats : Stmt := top 36
def n_need_beats : List Str := [("many" : Str)]
abbrev s_stands_from : Stmt := top 42
def n_stands_from : List Str := [("board" : Str), ("stand" : Str), ("found" : Str), ("here" : Str)]
abbrev s_need_pin : Stmt := top 24
def n_need_pin : List Str := [("board" : Str), ("pin" : Str)]
abbrev s_need_look : Stmt := top 25
def n_need_look : List Str := [("board" : Str), ("look" : Str)]
abbrev s_stand_met : Stmt := top 40
def n_stand_met : List Str := [("board" : Str), ("pin" : Str), ("look" : Str), ("other" : Str), ("word" : Str)]
abbrev s_is_board : Stmt := top 20
def n_is_board : List Str := [("thing" : Str), ("found" : Str), ("other" : Str), ("part" : Str), ("at" : Str), ("one" : Str)]
abbrev s_is_tuple_of : Stmt := top 14
def n_is_tuple_of : List Str := [("thing" : Str), ("many" : Str)]
abbrev s_is_pin_number : Stmt := top 21
def n_is_pin_number : List Str := [("board" : Str), ("thing" : Str)]
abbrev s_comes_to : Stmt := top 38
def n_comes_to : List Str := [("one" : Str), ("other" : Str), ("way" : Str), ("turn" : Str)]
abbrev s_need_number : Stmt := top 27
def n_need_number : List Str := [("number" : Str)]
abbrev s_is_look : Stmt := top 22
def n_is_look : List Str := [("board" : Str), ("thing" : Str), ("one" : Str), ("part" : Str)]
abbrev s_is_pin : Stmt := top 16
def n_is_pin : List Str := [("thing" : Str), ("x" : Str), ("y" : Str), ("way" : Str)]
abbrev s_gaps : Stmt := top 18
def n_gaps : List Str := [("board" : Str), ("other" : Str), ("at" : Str), ("one" : Str)]
abbrev s_is_whole : Stmt := top 13
def n_is_whole : List Str := [("thing" : Str)]
abbrev s_is_place : Stmt := top 15
def n_is_place : List Str := [("thing" : Str)]

def sx (n : Str) (N : List Str) (st : Stmt) (l : Bool) : Sx := ⟨N, defScope st, ownB (defScope st), if l = true then some (lamQ n) else none⟩
end K16
set_option maxRecDepth 1000000
set_option maxHeartbeats 4000000
set_option linter.all false
namespace K16
open PySem PySem.Spec L2 Ev
theorem evF_s {G : Pk} {n : Nat} {f : Str} {args : List SV} {st : Sto} {F : FnD} (hF : G.fn f = some F) (hl : args.length = F.ps) :
    evF G (n + 1) f args st = finF st.length (evSs G (evF G n) F.mu F.body (args.map some ++ List.replicate (F.len - F.ps) none) st) := by
  simp only [evF, hF, if_pos hl]
theorem evSs_nx {G : Pk} {cl : Str → List SV → Sto → Option (ER × Sto)} {mu : List Nat} {s : IS} {ss : List IS} {env e1 : Ev.Env} {st s1 : Sto} (h : evS G cl mu s env st = some (.nx e1 s1)) : evSs G cl mu (s :: ss) env st = evSs G cl mu ss e1 s1 := by
  simp only [evSs, h]
theorem evSs_rt {G : Pk} {cl : Str → List SV → Sto → Option (ER × Sto)} {mu : List Nat} {s : IS} {ss : List IS} {env : Ev.Env} {st s1 : Sto} {r : ER} (h : evS G cl mu s env st = some (.rt r s1)) : evSs G cl mu (s :: ss) env st = some (.rt r s1) := by
  simp only [evSs, h]
theorem fn_cell : G.fn "_law_cell_at" = some f__law_cell_at := by kernel_rfl
theorem fn_pen : G.fn "_law_pen" = some f__law_pen := by kernel_rfl
theorem fn_draw : G.fn "_law_draw" = some f__law_draw := by kernel_rfl
theorem fn_after : G.fn "after" = some f_after := by kernel_rfl
theorem fn_beats : G.fn "need_beats" = some f_need_beats := by kernel_rfl
theorem fn_number : G.fn "need_number" = some f_need_number := by kernel_rfl
theorem fn_whole : G.fn "is_whole" = some f_is_whole := by kernel_rfl
theorem cell_ok (n : Nat) (ns : List Int) (k : Nat) (st : Sto) : ∃ c : Int, evF G (n + 1) "_law_cell_at" [.scr ns, .dat (.int k)] st = some (.dat (.int c) false, st) := by
  rw [evF_s fn_cell rfl]
  by_cases h : k < ns.length
  · refine ⟨ns[k], ?_⟩
    have h2 : (k : Int) < (ns.length : Int) := by omega
    simp [f__law_cell_at, evSs, evS, evE, tstE, rdE, cmpD, truD, finF, finR, erS, h, h2, atI_nat]
  · refine ⟨0, ?_⟩
    have h2 : ¬ (k : Int) < (ns.length : Int) := by omega
    simp [f__law_cell_at, evSs, evS, evE, tstE, rdE, cmpD, truD, finF, finR, erS, h, h2]
theorem pen_ok (n : Nat) (c : Int) (st : Sto) : ∃ a b : Int, 0 ≤ a ∧ 0 ≤ b ∧ b < 2147483630 ∧ evF G (n + 1) "_law_pen" [.dat (.int c)] st = some (.dat (.list [.int a, .int b, .int 0]) true, st) := by
  refine ⟨if c - 10 ^ 18 > 0 then c - 10 ^ 18 else 0, c % 2147483629 + 1, by split <;> omega, by omega, by omega, ?_⟩
  rw [evF_s fn_pen rfl]
  simp [f__law_pen, evSs, evS, evE, evDs, evEs, rdEs, tstE, rdE, bltD, binD, truD, finF, finR, erS, sizeLine]
def drawB (b c am : Int) : Int :=
  let b1 := (b * 48271 + 1009 * c + 7) % 2147483647
  let m := (b1 * b1 + 69621 * b1 + 11) % 2147483629
  let m2 := (m * m + 40014 * m) % 2147483587
  m2 / 16 % am
theorem draw_ok (n : Nat) (st : Sto) (i : Nat) (a b c am : Int) (hi : st[i]? = some [.int a, .int b, .int c]) (ha : 0 ≤ a) (hb : 0 ≤ b) (hb2 : b < 2147483650) (hc : 0 ≤ c) (hc2 : c < 1000) (hm : 0 < am) (hm2 : am ≤ 10 ^ 11) :
    ∃ r a' b' c' : Int, 0 ≤ r ∧ r < am ∧ 0 ≤ a' ∧ 0 ≤ b' ∧ b' < 2147483650 ∧ 0 ≤ c' ∧ c' ≤ c + 1 ∧ evF G (n + 1) "_law_draw" [.loc i, .dat (.int am)] st = some (.dat (.int r) false, st.set i [.int a', .int b', .int c']) := by
  obtain ⟨hlt, hat⟩ := List.getElem?_eq_some_iff.mp hi
  rw [evF_s fn_draw rfl]
  by_cases h : 0 < a
  · refine ⟨a % am, a / am, b, c, Int.emod_nonneg _ (by omega), Int.emod_lt_of_pos _ hm, Int.ediv_nonneg ha (by omega), hb, hb2, hc, by omega, ?_⟩
    have hd : am < 1267650600228229401496703205376 := by omega
    simp [f__law_draw, evSs, evS, evE, tstE, rdE, cmpD, truD, finF, finR, erS, svE, binD, idxD, atI, ixN, stoE, hlt, hat, h, hm, hd]
    exact List.take_of_length_le (by simp)
  · have h0 : a = 0 := by omega
    subst h0
    clear hi
    refine ⟨drawB b (c + 1) am, 0, (b * 48271 + 1009 * (c + 1) + 7) % 2147483647, c + 1, Int.emod_nonneg _ (by omega), Int.emod_lt_of_pos _ hm, by omega, Int.emod_nonneg _ (by omega), by omega, by omega, by omega, ?_⟩
    have q1 : ∀ x : Int, -18446744073709551616 < x % 2147483647 := fun x => by omega
    have q2 : ∀ x : Int, x % 2147483647 < 18446744073709551616 := fun x => by omega
    have q3 : ∀ x : Int, -18446744073709551616 < x % 2147483629 := fun x => by omega
    have q4 : ∀ x : Int, x % 2147483629 < 18446744073709551616 := fun x => by omega
    have hl2 : ∀ (s : Sto) (j : Nat) (x : List D), List.take s.length (s.set j x) = s.set j x := fun s j x => List.take_of_length_le (by simp)
    simp [f__law_draw, evSs, evS, evE, tstE, rdE, cmpD, truD, finF, finR, erS, svE, binD, idxD, atI, ixN, stoE, hat, hm, drawB, hlt, q1, q2, q3, q4]
    exact List.take_of_length_le (by simp)
theorem kb1 : kitB "int" "int" = some true := by decide +kernel
theorem kb2 : kitB "int" "bool" = some false := by decide +kernel
theorem beats_ok (n : Nat) (m : Int) (h0 : 0 ≤ m) (h1 : m ≤ 1000000000000) (st : Sto) : evF G (n + 3) "need_beats" [.dat (.int m)] st = some (.dat .none false, st) := by
  have hw : evF G (n + 1) "is_whole" [.dat (.int m)] st = some (.dat (.bool true) false, st) := by
    rw [evF_s fn_whole rfl]
    simp [f_is_whole, evSs, evS, evE, tstE, rdE, truD, finF, finR, erS, isD, kb1, kb2]
  have hn : evF G (n + 2) "need_number" [.dat (.int m)] st = some (.dat .none false, st) := by
    rw [evF_s fn_number rfl]
    have h : ¬ m < 0 := by omega
    simp [f_need_number, evSs, evS, evE, evEs, tstE, rdE, truD, finF, finR, erS, svE, hw, cmpD, h]
  have hc : G.con "MOST_BEATS" = some (.int 1000000000000) := by kernel_rfl
  rw [evF_s fn_beats rfl]
  have h : ¬ 1000000000000 < m := by omega
  simp [f_need_beats, evSs, evS, evE, evEs, tstE, rdE, truD, finF, finR, erS, svE, hn, hc, cmpD, h]
theorem after_ok (n : Nat) (b s : D) (found : List D) (m : Int) (h0 : 0 ≤ m) (h1 : m ≤ 1000000000000) (st : Sto) (d : D) (hl : 0 < found.length) (hd : found[(m % found.length).toNat]? = some d)
    (c1 : evF G (n + 3) "need_board" [.dat b] st = some (.dat .none false, st)) (c2 : evF G (n + 3) "need_stand" [.dat b, .dat s] st = some (.dat .none false, st)) (c3 : evF G (n + 3) "stands_from" [.dat b, .dat s] st = some (.dat (.list found) true, st)) :
    evF G (n + 4) "after" [.dat b, .dat s, .dat (.int m)] st = some (.dat d false, st) := by
  rw [evF_s fn_after rfl]
  have hb := beats_ok n m h0 h1 st
  have p : (0 : Int) < (found.length : Int) := by omega
  have q : 0 ≤ m % (found.length : Int) := Int.emod_nonneg _ (by omega)
  have q2 : m % (found.length : Int) < (found.length : Int) := Int.emod_lt_of_pos _ p
  simp [f_after, evSs, evS, evE, evEs, rdEs, tstE, rdE, truD, finF, finR, erS, svE, hb, c1, c2, c3, stoE, bltD, binD, hl, p, idxD, atI, ixN, q, q2, hd]
  exact (List.getElem?_eq_some_iff.mp hd).2
end K16
set_option maxRecDepth 1000000
set_option maxHeartbeats 4000000
set_option linter.all false
namespace K16
open PySem PySem.Spec L2 Ev
def tr (a b : Int) (w : Str) : D := .tuple [.int a, .int b, .str w]
def bL : D := .tuple [tr 0 0 "left", tr 40 3 "left", tr 11 29 "left"]
def bM : D := .tuple [tr 0 0 "left", tr 40 3 "right", tr 11 29 "left"]
def lgL : List D := [tr 0 1 "ahead", tr 2 0 "behind", tr 1 2 "ahead", tr 0 1 "behind", tr 2 0 "ahead", tr 1 2 "behind"]
def lgM : List D := [tr 0 1 "ahead", tr 2 0 "behind", tr 1 2 "ahead"]
def rwA : List D := [tr 0 2 "ahead", tr 1 0 "ahead", tr 2 1 "ahead"]
def rwB : List D := [tr 0 2 "behind", tr 1 0 "behind", tr 2 1 "behind"]
def envL (a m : Int) : Ev.Env := [some (.dat (.int a)), some (.dat (.int m)), some (.dat (.list lgL)), some (.dat (.list [.tuple [.list lgL, .int 1], .tuple [.list rwA, .int 0]])), none, none, some (.dat bL),
  some (.dat (.list rwB)), some (.dat (.int 2)), some (.dat (.int 2)), some (.dat (tr 2 1 "behind")), some (.dat (tr 0 2 "behind"))]
def envM (a m : Int) : Ev.Env := [some (.dat (.int a)), some (.dat (.int m)), some (.dat bM), some (.dat (.list lgM)), some (.dat (.int 2)), some (.dat (tr 1 2 "ahead"))]
def s0 : D := tr 0 1 "ahead"
/-- what the kernel works out, over the store st -/
structure Kf (st : Sto) : Prop where
  nb1 : evF G 7 "need_board" [.dat bL] st = some (.dat .none false, st)
  ns1 : evF G 7 "need_stand" [.dat bL, .dat s0] st = some (.dat .none false, st)
  sf1 : evF G 7 "stands_from" [.dat bL, .dat s0] st = some (.dat (.list lgL) true, st)
  nb2 : evF G 7 "need_board" [.dat bM] st = some (.dat .none false, st)
  ns2 : evF G 7 "need_stand" [.dat bM, .dat s0] st = some (.dat .none false, st)
  sf2 : evF G 7 "stands_from" [.dat bM, .dat s0] st = some (.dat (.list lgM) true, st)
  preL : ∀ a m : Int, evSs G (evF G 8) [] (f__law_left_right.body.take 4) [some (.dat (.int a)), some (.dat (.int m)), none, none, none, none, none, none, none, none, none, none] st = some (.nx (envL a m) st)
  postL : ∀ a m : Int, evSs G (evF G 8) [] (f__law_left_right.body.drop 5) (envL a m) st = some (.rt (.dat (.bool true) false) st)
  preM : ∀ a m : Int, evSs G (evF G 8) [] (f__law_mixed_right.body.take 4) [some (.dat (.int a)), some (.dat (.int m)), none, none, none, none] st = some (.nx (envM a m) st)
theorem kf1 (x : List D) : Kf [x] := by constructor <;> intros <;> kernel_rfl
theorem kf2 (x y : List D) : Kf [x, y] := by constructor <;> intros <;> kernel_rfl
theorem kf3 (x y z : List D) : Kf [x, y, z] := by constructor <;> intros <;> kernel_rfl
end K16
set_option maxRecDepth 1000000
set_option maxHeartbeats 4000000
set_option linter.all false
namespace K16
open PySem PySem.Spec L2 Ev
theorem evSs_app {G : Pk} {cl : Str → List SV → Sto → Option (ER × Sto)} {mu : List Nat} : ∀ {xs ys : List IS} {env e1 : Ev.Env} {st s1 : Sto}, evSs G cl mu xs env st = some (.nx e1 s1) → evSs G cl mu (xs ++ ys) env st = evSs G cl mu ys e1 s1
  | [], ys, env, e1, st, s1, h => by
    simp only [evSs] at h
    cases h
    rfl
  | x :: xs, ys, env, e1, st, s1, h => by
    simp only [evSs] at h
    split at h
    · rename_i e2 s2 h2
      rw [List.cons_append, evSs_nx h2]
      exact evSs_app h
    · rename_i r hr
      exact absurd h (hr e1 s1)
theorem fn_left : G.fn "_law_left_right" = some f__law_left_right := by kernel_rfl
theorem fn_mixed : G.fn "_law_mixed_right" = some f__law_mixed_right := by kernel_rfl
def sL : IS := .ite (.cmp .NotEq (.callk ("after" : Str) [("many" : Str), ("stand" : Str), ("board" : Str)] [(.bin .Add (.bin .Mult (.int 6) (.slot 1)) (.slot 0)), (.idx (.slot 2) (.int 0)), (.slot 6)] [2, 1, 0]) (.idx (.slot 2) (.slot 0))) [(.ret (some (.bl false)))] []
def sM : IS := .ret (some (.cmp .Eq (.call ("after" : Str) [(.slot 2), (.idx (.slot 3) (.int 0)), (.bin .Add (.bin .Mult (.int 3) (.slot 1)) (.bin .Mod (.slot 0) (.int 3)))]) (.idx (.slot 3) (.bin .Mod (.slot 0) (.int 3)))))
theorem bodyL : f__law_left_right.body = f__law_left_right.body.take 4 ++ (sL :: f__law_left_right.body.drop 5) := by kernel_rfl
theorem bodyM : f__law_mixed_right.body = f__law_mixed_right.body.take 4 ++ [sM] := by kernel_rfl
theorem stepL {st : Sto} (K : Kf st) (a m : Int) (ha : 0 ≤ a) (ha2 : a < 6) (hm : 0 ≤ m) (hm2 : m < 10 ^ 11) : evS G (evF G 8) [] sL (envL a m) st = some (.nx (envL a m) st) := by
  have key : ∀ d, lgL[a.toNat]? = some d → okSh d = true → PyData.eqv d d = true → evS G (evF G 8) [] sL (envL a m) st = some (.nx (envL a m) st) := by
    intro d hd h1 h2
    have e : (6 * m + a) % ((lgL.length : Nat) : Int) = a := by show (6 * m + a) % 6 = a; omega
    have af := after_ok 4 bL s0 lgL (6 * m + a) (by omega) (by omega) st d (by decide) (by rw [e]; exact hd) K.nb1 K.ns1 K.sf1
    have e1 : idxD (.list lgL) (.int a) = some d := by
      simp only [idxD, atI, ixN]
      rw [if_pos ha, if_pos (by show a < 6; omega)]
      exact hd
    have e2 : idxD (.list lgL) (.int 0) = some s0 := by kernel_rfl
    have e3 : binD .Mult (.int 6) (.int m) = some (.int (6 * m), false) := by simp [binD]
    have e4 : binD .Add (.int (6 * m)) (.int a) = some (.int (6 * m + a), false) := by simp [binD]
    simp [sL, evS, evE, evEs, evSs, tstE, rdE, erS, svE, envL, pick, e1, e2, e3, e4, af, cmpD, h1, h2, truD]
  have : a = 0 ∨ a = 1 ∨ a = 2 ∨ a = 3 ∨ a = 4 ∨ a = 5 := by omega
  rcases this with rfl | rfl | rfl | rfl | rfl | rfl <;> exact key _ rfl (by decide +kernel) (by decide +kernel)
theorem stepM {st : Sto} (K : Kf st) (a m : Int) (ha : 0 ≤ a) (ha2 : a < 6) (hm : 0 ≤ m) (hm2 : m < 10 ^ 11) : evS G (evF G 8) [] sM (envM a m) st = some (.rt (.dat (.bool true) false) st) := by
  have key : ∀ d, lgM[(a % 3).toNat]? = some d → okSh d = true → PyData.eqv d d = true → evS G (evF G 8) [] sM (envM a m) st = some (.rt (.dat (.bool true) false) st) := by
    intro d hd h1 h2
    have e : (3 * m + a % 3) % ((lgM.length : Nat) : Int) = a % 3 := by show (3 * m + a % 3) % 3 = a % 3; omega
    have af := after_ok 4 bM s0 lgM (3 * m + a % 3) (by omega) (by omega) st d (by decide) (by rw [e]; exact hd) K.nb2 K.ns2 K.sf2
    have e1 : idxD (.list lgM) (.int (a % 3)) = some d := by
      simp only [idxD, atI, ixN]
      rw [if_pos (by omega), if_pos (by show a % 3 < 3; omega)]
      exact hd
    have e2 : idxD (.list lgM) (.int 0) = some s0 := by kernel_rfl
    have e3 : binD .Mult (.int 3) (.int m) = some (.int (3 * m), false) := by simp [binD]
    have e5 : binD .Mod (.int a) (.int 3) = some (.int (a % 3), false) := by simp [binD]
    have e4 : binD .Add (.int (3 * m)) (.int (a % 3)) = some (.int (3 * m + a % 3), false) := by simp [binD]
    simp [sM, evS, evE, evEs, evSs, tstE, rdE, erS, svE, envM, e1, e2, e3, e4, e5, af, cmpD, h1, h2, truD]
  have : a % 3 = 0 ∨ a % 3 = 1 ∨ a % 3 = 2 := by omega
  rcases this with h | h | h <;> (rw [h] at key; exact key _ rfl (by decide +kernel) (by decide +kernel))
theorem left_ok {st : Sto} (K : Kf st) (a m : Int) (ha : 0 ≤ a) (ha2 : a < 6) (hm : 0 ≤ m) (hm2 : m < 10 ^ 11) : evF G 9 "_law_left_right" [.dat (.int a), .dat (.int m)] st = some (.dat (.bool true) false, st) := by
  rw [evF_s fn_left rfl, bodyL]
  have h : evSs G (evF G 8) [] (f__law_left_right.body.take 4 ++ (sL :: f__law_left_right.body.drop 5)) [some (.dat (.int a)), some (.dat (.int m)), none, none, none, none, none, none, none, none, none, none] st = some (.rt (.dat (.bool true) false) st) := by
    rw [evSs_app (K.preL a m), evSs_nx (stepL K a m ha ha2 hm hm2)]
    exact K.postL a m
  have e : finF st.length (some (.rt (.dat (.bool true) false) st)) = some (.dat (.bool true) false, st) := by simp [finF, finR]
  exact (congrArg (finF st.length) h).trans e
theorem mixed_ok {st : Sto} (K : Kf st) (a m : Int) (ha : 0 ≤ a) (ha2 : a < 6) (hm : 0 ≤ m) (hm2 : m < 10 ^ 11) : evF G 9 "_law_mixed_right" [.dat (.int a), .dat (.int m)] st = some (.dat (.bool true) false, st) := by
  rw [evF_s fn_mixed rfl, bodyM]
  have h : evSs G (evF G 8) [] (f__law_mixed_right.body.take 4 ++ [sM]) [some (.dat (.int a)), some (.dat (.int m)), none, none, none, none] st = some (.rt (.dat (.bool true) false) st) := by
    rw [evSs_app (K.preM a m), evSs_rt (stepM K a m ha ha2 hm hm2)]
  have e : finF st.length (some (.rt (.dat (.bool true) false) st)) = some (.dat (.bool true) false, st) := by simp [finF, finR]
  exact (congrArg (finF st.length) h).trans e
end K16
set_option maxRecDepth 1000000
set_option maxHeartbeats 4000000
set_option linter.all false
namespace K16
open PySem PySem.Spec L2 Ev
theorem fn_law : G.fn "law" = some f_law := by kernel_rfl
def lapB : List IS := [(.asg (.nm 2) (.call ("_law_pen" : Str) [(.call ("_law_cell_at" : Str) [(.slot 0), (.slot 1)])])), (.par [3, 4] [(.call ("_law_draw" : Str) [(.slot 2), (.int 6)]), (.call ("_law_draw" : Str) [(.slot 2), (.bin .Pow (.int 10) (.int 11))])]), (.ite (.lor (.no (.call ("_law_left_right" : Str) [(.slot 3), (.slot 4)])) (.no (.call ("_law_mixed_right" : Str) [(.slot 3), (.slot 4)]))) [(.ret (some (.bl false)))] [])]
def rngB : II := .rng [(.blt .max [(.int 1), (.blt .min [(.slen 0), (.int 3)])])]
theorem bodyW : f_law.body = [.loop (.nm 1) rngB lapB, .ret (some (.bl true))] := rfl
theorem set_last {α : Type} (st : List α) (p q : α) : (st ++ [p]).set st.length q = st ++ [q] := by
  rw [List.set_append_right _ _ (Nat.le_refl _), Nat.sub_self]
  rfl
theorem get_last {α : Type} (st : List α) (p : α) : (st ++ [p])[st.length]? = some p := by
  rw [List.getElem?_append_right (Nat.le_refl _), Nat.sub_self]
  rfl
theorem lap_ok (ns : List Int) (k : Nat) (w2 w3 w4 : Option SV) (st : Sto) (K : ∀ x, Kf (st ++ [x])) :
    ∃ u2 u3 u4 p, evSs G (evF G 9) [2] lapB [some (.scr ns), some (.dat (.int k)), w2, w3, w4] st = some (.nx [some (.scr ns), some (.dat (.int k)), u2, u3, u4] (st ++ [p])) := by
  obtain ⟨c, h1⟩ := cell_ok 8 ns k st
  obtain ⟨a, b, ha, hb, hb2, h2⟩ := pen_ok 8 c st
  obtain ⟨r, a1, b1, c1, r1, r2, p1, p2, p3, p4, p5, h3⟩ := draw_ok 8 (st ++ [[.int a, .int b, .int 0]]) st.length a b 0 6 (get_last _ _) ha hb (by omega) (by omega) (by omega) (by omega) (by omega)
  rw [set_last] at h3
  obtain ⟨r', a2, b2, c2, r3, r4, q1, q2, q3, q4, q5, h4⟩ := draw_ok 8 (st ++ [[.int a1, .int b1, .int c1]]) st.length a1 b1 c1 100000000000 (get_last _ _) p1 p2 p3 p4 (by omega) (by omega) (by omega)
  rw [set_last] at h4
  have hL := left_ok (K [.int a2, .int b2, .int c2]) r r' r1 (by omega) r3 (by omega)
  have hM := mixed_ok (K [.int a2, .int b2, .int c2]) r r' r1 (by omega) r3 (by omega)
  refine ⟨some (.loc st.length), some (.dat (.int r)), some (.dat (.int r')), [.int a2, .int b2, .int c2], ?_⟩
  have e10 : binD .Pow (.int 10) (.int 11) = some (.int 100000000000, false) := by kernel_rfl
  simp [lapB, evSs, evS, evE, evEs, evP, setAll, stoE, tstE, rdE, erS, svE, truD, h1, h2, h3, h4, hL, hM, e10]
theorem law_ok (ns : List Int) : ∃ fr st', evF G 10 "law" [.scr ns] [] = some (.dat (.bool true) fr, st') := by
  rw [evF_s fn_law rfl, bodyW]
  have hr : ∃ xs, evI G (evF G 9) rngB [some (.scr ns), none, none, none, none] [] = some (xs, [], []) ∧ (xs = rngD 0 1 ∨ xs = rngD 0 2 ∨ xs = rngD 0 3) := by
    have : ∃ n : Int, evDs G (evF G 9) [(.blt .max [(.int 1), (.blt .min [(.slen 0), (.int 3)])])] [some (.scr ns), none, none, none, none] [] = some ([.int n], []) ∧ (n = 1 ∨ n = 2 ∨ n = 3) := by
      refine ⟨if (if (3 : Int) < ns.length then 3 else (ns.length : Int)) > 1 then (if (3 : Int) < ns.length then 3 else (ns.length : Int)) else 1, ?_, ?_⟩
      · simp [evDs, evE, evEs, rdEs, rdE, bltD]
      · split <;> split <;> omega
    obtain ⟨n, h1, h2⟩ := this
    refine ⟨rngD 0 n, ?_, ?_⟩
    · have : -(2 ^ 62) ≤ n ∧ n < 2 ^ 62 := by omega
      simp only [rngB, evI, h1, if_pos this]
    · rcases h2 with rfl | rfl | rfl
      · exact .inl rfl
      · exact .inr (.inl rfl)
      · exact .inr (.inr rfl)
  obtain ⟨xs, h1, h2⟩ := hr
  obtain ⟨u2, u3, u4, p, g1⟩ := lap_ok ns 0 none none none [] (fun x => kf1 x)
  obtain ⟨v2, v3, v4, p2, g2⟩ := lap_ok ns 1 u2 u3 u4 [p] (fun x => kf2 p x)
  obtain ⟨x2, x3, x4, p3, g3⟩ := lap_ok ns 2 v2 v3 v4 [p, p2] (fun x => kf3 p p2 x)
  have loop : ∃ e s, evS G (evF G 9) [2] (.loop (.nm 1) rngB lapB) [some (.scr ns), none, none, none, none] [] = some (.nx e s) := by
    simp only [evS, h1]
    have g1' : evSs G (evF G 9) [2] lapB [some (.scr ns), some (.dat (.int 0)), none, none, none] [] = some (.nx [some (.scr ns), some (.dat (.int 0)), u2, u3, u4] [p]) := g1
    have g2' : evSs G (evF G 9) [2] lapB [some (.scr ns), some (.dat (.int 1)), u2, u3, u4] [p] = some (.nx [some (.scr ns), some (.dat (.int 1)), v2, v3, v4] [p, p2]) := g2
    have g3' : evSs G (evF G 9) [2] lapB [some (.scr ns), some (.dat (.int 2)), v2, v3, v4] [p, p2] = some (.nx [some (.scr ns), some (.dat (.int 2)), x2, x3, x4] [p, p2, p3]) := g3
    have d1 : rngD 0 1 = [.int 0] := rfl
    have d2 : rngD 0 2 = [.int 0, .int 1] := rfl
    have d3 : rngD 0 3 = [.int 0, .int 1, .int 2] := rfl
    rcases h2 with rfl | rfl | rfl
    · rw [d1]; simp [forL, bindT, g1', keepFl, keptL]
    · rw [d2]; simp [forL, bindT, g1', g2', keepFl, keptL]
    · rw [d3]; simp [forL, bindT, g1', g2', g3', keepFl, keptL]
  obtain ⟨e, s, he⟩ := loop
  have fin : evSs G (evF G 9) [2] [.loop (.nm 1) rngB lapB, .ret (some (.bl true))] [some (.scr ns), none, none, none, none] [] = some (.rt (.dat (.bool true) false) s) := by
    rw [evSs_nx he]
    simp [evSs, evS, evE]
  refine ⟨false, s.take 0, ?_⟩
  exact congrArg (finF 0) fin
end K16
set_option linter.all false
set_option maxRecDepth 1000000
set_option maxHeartbeats 4000000
namespace K16
open PySem PySem.Spec L2 Ev
theorem i_law : SI G fs bl ("law" : Str) [("_law_script" : Str)] s_law f_law n_law := ⟨⟨by decide +kernel, by decide +kernel, by decide +kernel, by decide +kernel, by decide +kernel, by decide +kernel, by decide +kernel⟩, by kernel_rfl, rfl, rfl, by decide, by decide +kernel, fun _ _ _ _ _ _ us hl => match us, hl with | [_], _ => rfl⟩
theorem i__law_pen : SI G fs bl ("_law_pen" : Str) [("_law_cell" : Str)] s__law_pen f__law_pen n__law_pen := ⟨⟨by decide +kernel, by decide +kernel, by decide +kernel, by decide +kernel, by decide +kernel, by decide +kernel, by decide +kernel⟩, by kernel_rfl, rfl, rfl, by decide, by decide +kernel, fun _ _ _ _ _ _ us hl => match us, hl with | [_], _ => rfl⟩
theorem i__law_cell_at : SI G fs bl ("_law_cell_at" : Str) [("_law_script" : Str), ("_law_k" : Str)] s__law_cell_at f__law_cell_at n__law_cell_at := ⟨⟨by decide +kernel, by decide +kernel, by decide +kernel, by decide +kernel, by decide +kernel, by decide +kernel, by decide +kernel⟩, by kernel_rfl, rfl, rfl, by decide, by decide +kernel, fun _ _ _ _ _ _ us hl => match us, hl with | [_, _], _ => rfl⟩
theorem i__law_draw : SI G fs bl ("_law_draw" : Str) [("_law_pen_here" : Str), ("_law_amount" : Str)] s__law_draw f__law_draw n__law_draw := ⟨⟨by decide +kernel, by decide +kernel, by decide +kernel, by decide +kernel, by decide +kernel, by decide +kernel, by decide +kernel⟩, by kernel_rfl, rfl, rfl, by decide, by decide +kernel, fun _ _ _ _ _ _ us hl => match us, hl with | [_, _], _ => rfl⟩
theorem i__law_left_right : SI G fs bl ("_law_left_right" : Str) [("_law_at" : Str), ("_law_more" : Str)] s__law_left_right f__law_left_right n__law_left_right := ⟨⟨by decide +kernel, by decide +kernel, by decide +kernel, by decide +kernel, by decide +kernel, by decide +kernel, by decide +kernel⟩, by kernel_rfl, rfl, rfl, by decide, by decide +kernel, fun _ _ _ _ _ _ us hl => match us, hl with | [_, _], _ => rfl⟩
theorem i__law_mixed_right : SI G fs bl ("_law_mixed_right" : Str) [("_law_at" : Str), ("_law_more" : Str)] s__law_mixed_right f__law_mixed_right n__law_mixed_right := ⟨⟨by decide +kernel, by decide +kernel, by decide +kernel, by decide +kernel, by decide +kernel, by decide +kernel, by decide +kernel⟩, by kernel_rfl, rfl, rfl, by decide, by decide +kernel, fun _ _ _ _ _ _ us hl => match us, hl with | [_, _], _ => rfl⟩
theorem i__law_pins : SI G fs bl ("_law_pins" : Str) [("_law_ways" : Str)] s__law_pins f__law_pins n__law_pins := ⟨⟨by decide +kernel, by decide +kernel, by decide +kernel, by decide +kernel, by decide +kernel, by decide +kernel, by decide +kernel⟩, by kernel_rfl, rfl, rfl, by decide, by decide +kernel, fun _ _ _ _ _ _ us hl => match us, hl with | [_], _ => rfl⟩
theorem i_is_stand : SI G fs bl ("is_stand" : Str) [("board" : Str), ("thing" : Str)] s_is_stand f_is_stand n_is_stand := ⟨⟨by decide +kernel, by decide +kernel, by decide +kernel, by decide +kernel, by decide +kernel, by decide +kernel, by decide +kernel⟩, by kernel_rfl, rfl, rfl, by decide, by decide +kernel, fun _ _ _ _ _ _ us hl => match us, hl with | [_, _], _ => rfl⟩
theorem i_number_of : SI G fs bl ("number_of" : Str) [("board" : Str), ("stand" : Str)] s_number_of f_number_of n_number_of := ⟨⟨by decide +kernel, by decide +kernel, by decide +kernel, by decide +kernel, by decide +kernel, by decide +kernel, by decide +kernel⟩, by kernel_rfl, rfl, rfl, by decide, by decide +kernel, fun _ _ _ _ _ _ us hl => match us, hl with | [_, _], _ => rfl⟩
theorem i_beat : SI G fs bl ("beat" : Str) [("board" : Str), ("stand" : Str)] s_beat f_beat n_beat := ⟨⟨by decide +kernel, by decide +kernel, by decide +kernel, by decide +kernel, by decide +kernel, by decide +kernel, by decide +kernel⟩, by kernel_rfl, rfl, rfl, by decide, by decide +kernel, fun _ _ _ _ _ _ us hl => match us, hl with | [_, _], _ => rfl⟩
theorem i_ahead : SI G fs bl ("ahead" : Str) [("board" : Str), ("stand" : Str)] s_ahead f_ahead n_ahead := ⟨⟨by decide +kernel, by decide +kernel, by decide +kernel, by decide +kernel, by decide +kernel, by decide +kernel, by decide +kernel⟩, by kernel_rfl, rfl, rfl, by decide, by decide +kernel, fun _ _ _ _ _ _ us hl => match us, hl with | [_, _], _ => rfl⟩
theorem i_after : SI G fs bl ("after" : Str) [("board" : Str), ("stand" : Str), ("many" : Str)] s_after f_after n_after := ⟨⟨by decide +kernel, by decide +kernel, by decide +kernel, by decide +kernel, by decide +kernel, by decide +kernel, by decide +kernel⟩, by kernel_rfl, rfl, rfl, by decide, by decide +kernel, fun _ _ _ _ _ _ us hl => match us, hl with | [_, _, _], _ => rfl⟩
theorem i_meetings : SI G fs bl ("meetings" : Str) [("board" : Str), ("pin" : Str)] s_meetings f_meetings n_meetings := ⟨⟨by decide +kernel, by decide +kernel, by decide +kernel, by decide +kernel, by decide +kernel, by decide +kernel, by decide +kernel⟩, by kernel_rfl, rfl, rfl, by decide, by decide +kernel, fun _ _ _ _ _ _ us hl => match us, hl with | [_, _], _ => rfl⟩
theorem i_first : SI G fs bl ("first" : Str) [("board" : Str), ("pin" : Str), ("look" : Str)] s_first f_first n_first := ⟨⟨by decide +kernel, by decide +kernel, by decide +kernel, by decide +kernel, by decide +kernel, by decide +kernel, by decide +kernel⟩, by kernel_rfl, rfl, rfl, by decide, by decide +kernel, fun _ _ _ _ _ _ us hl => match us, hl with | [_, _, _], _ => rfl⟩
theorem i_need_board : SI G fs bl ("need_board" : Str) [("board" : Str)] s_need_board f_need_board n_need_board := ⟨⟨by decide +kernel, by decide +kernel, by decide +kernel, by decide +kernel, by decide +kernel, by decide +kernel, by decide +kernel⟩, by kernel_rfl, rfl, rfl, by decide, by decide +kernel, fun _ _ _ _ _ _ us hl => match us, hl with | [_], _ => rfl⟩
theorem i_stand_holds : SI G fs bl ("stand_holds" : Str) [("board" : Str), ("thing" : Str)] s_stand_holds f_stand_holds n_stand_holds := ⟨⟨by decide +kernel, by decide +kernel, by decide +kernel, by decide +kernel, by decide +kernel, by decide +kernel, by decide +kernel⟩, by kernel_rfl, rfl, rfl, by decide, by decide +kernel, fun _ _ _ _ _ _ us hl => match us, hl with | [_, _], _ => rfl⟩
theorem i_need_stand : SI G fs bl ("need_stand" : Str) [("board" : Str), ("stand" : Str)] s_need_stand f_need_stand n_need_stand := ⟨⟨by decide +kernel, by decide +kernel, by decide +kernel, by decide +kernel, by decide +kernel, by decide +kernel, by decide +kernel⟩, by kernel_rfl, rfl, rfl, by decide, by decide +kernel, fun _ _ _ _ _ _ us hl => match us, hl with | [_, _], _ => rfl⟩
theorem i_look_of : SI G fs bl ("look_of" : Str) [("board" : Str), ("stand" : Str)] s_look_of f_look_of n_look_of := ⟨⟨by decide +kernel, by decide +kernel, by decide +kernel, by decide +kernel, by decide +kernel, by decide +kernel, by decide +kernel⟩, by kernel_rfl, rfl, rfl, by decide, by decide +kernel, fun _ _ _ _ _ _ us hl => match us, hl with | [_, _], _ => rfl⟩
theorem i_cross : SI G fs bl ("cross" : Str) [("one" : Str), ("other" : Str)] s_cross f_cross n_cross := ⟨⟨by decide +kernel, by decide +kernel, by decide +kernel, by decide +kernel, by decide +kernel, by decide +kernel, by decide +kernel⟩, by kernel_rfl, rfl, rfl, by decide, by decide +kernel, fun _ _ _ _ _ _ us hl => match us, hl with | [_, _], _ => rfl⟩
theorem i_gap : SI G fs bl ("gap" : Str) [("one" : Str), ("other" : Str)] s_gap f_gap n_gap := ⟨⟨by decide +kernel, by decide +kernel, by decide +kernel, by decide +kernel, by decide +kernel, by decide +kernel, by decide +kernel⟩, by kernel_rfl, rfl, rfl, by decide, by decide +kernel, fun _ _ _ _ _ _ us hl => match us, hl with | [_, _], _ => rfl⟩
theorem i_line_number : SI G fs bl ("line_number" : Str) [("board" : Str), ("own" : Str), ("lefts" : Str)] s_line_number f_line_number n_line_number := ⟨⟨by decide +kernel, by decide +kernel, by decide +kernel, by decide +kernel, by decide +kernel, by decide +kernel, by decide +kernel⟩, by kernel_rfl, rfl, rfl, by decide, by decide +kernel, fun _ _ _ _ _ _ us hl => match us, hl with | [_, _, _], _ => rfl⟩
theorem i_next_stand : SI G fs bl ("next_stand" : Str) [("board" : Str), ("stand" : Str)] s_next_stand f_next_stand n_next_stand := ⟨⟨by decide +kernel, by decide +kernel, by decide +kernel, by decide +kernel, by decide +kernel, by decide +kernel, by decide +kernel⟩, by kernel_rfl, rfl, rfl, by decide, by decide +kernel, fun _ _ _ _ _ _ us hl => match us, hl with | [_, _], _ => rfl⟩
theorem i_half_turn : SI G fs bl ("half_turn" : Str) [("board" : Str), ("pin" : Str), ("look" : Str), ("way" : Str)] s_half_turn f_half_turn n_half_turn := ⟨⟨by decide +kernel, by decide +kernel, by decide +kernel, by decide +kernel, by decide +kernel, by decide +kernel, by decide +kernel⟩, by kernel_rfl, rfl, rfl, by decide, by decide +kernel, fun _ _ _ _ _ _ us hl => match us, hl with | [_, _, _, _], _ => rfl⟩
theorem i_need_beats : SI G fs bl ("need_beats" : Str) [("many" : Str)] s_need_beats f_need_beats n_need_beats := ⟨⟨by decide +kernel, by decide +kernel, by decide +kernel, by decide +kernel, by decide +kernel, by decide +kernel, by decide +kernel⟩, by kernel_rfl, rfl, rfl, by decide, by decide +kernel, fun _ _ _ _ _ _ us hl => match us, hl with | [_], _ => rfl⟩
theorem i_stands_from : SI G fs bl ("stands_from" : Str) [("board" : Str), ("stand" : Str)] s_stands_from f_stands_from n_stands_from := ⟨⟨by decide +kernel, by decide +kernel, by decide +kernel, by decide +kernel, by decide +kernel, by decide +kernel, by decide +kernel⟩, by kernel_rfl, rfl, rfl, by decide, by decide +kernel, fun _ _ _ _ _ _ us hl => match us, hl with | [_, _], _ => rfl⟩
theorem i_need_pin : SI G fs bl ("need_pin" : Str) [("board" : Str), ("pin" : Str)] s_need_pin f_need_pin n_need_pin := ⟨⟨by decide +kernel, by decide +kernel, by decide +kernel, by decide +kernel, by decide +kernel, by decide +kernel, by decide +kernel⟩, by kernel_rfl, rfl, rfl, by decide, by decide +kernel, fun _ _ _ _ _ _ us hl => match us, hl with | [_, _], _ => rfl⟩
theorem i_need_look : SI G fs bl ("need_look" : Str) [("board" : Str), ("look" : Str)] s_need_look f_need_look n_need_look := ⟨⟨by decide +kernel, by decide +kernel, by decide +kernel, by decide +kernel, by decide +kernel, by decide +kernel, by decide +kernel⟩, by kernel_rfl, rfl, rfl, by decide, by decide +kernel, fun _ _ _ _ _ _ us hl => match us, hl with | [_, _], _ => rfl⟩
theorem i_stand_met : SI G fs bl ("stand_met" : Str) [("board" : Str), ("pin" : Str), ("look" : Str)] s_stand_met f_stand_met n_stand_met := ⟨⟨by decide +kernel, by decide +kernel, by decide +kernel, by decide +kernel, by decide +kernel, by decide +kernel, by decide +kernel⟩, by kernel_rfl, rfl, rfl, by decide, by decide +kernel, fun _ _ _ _ _ _ us hl => match us, hl with | [_, _, _], _ => rfl⟩
theorem i_is_board : SI G fs bl ("is_board" : Str) [("thing" : Str)] s_is_board f_is_board n_is_board := ⟨⟨by decide +kernel, by decide +kernel, by decide +kernel, by decide +kernel, by decide +kernel, by decide +kernel, by decide +kernel⟩, by kernel_rfl, rfl, rfl, by decide, by decide +kernel, fun _ _ _ _ _ _ us hl => match us, hl with | [_], _ => rfl⟩
theorem i_is_tuple_of : SI G fs bl ("is_tuple_of" : Str) [("thing" : Str), ("many" : Str)] s_is_tuple_of f_is_tuple_of n_is_tuple_of := ⟨⟨by decide +kernel, by decide +kernel, by decide +kernel, by decide +kernel, by decide +kernel, by decide +kernel, by decide +kernel⟩, by kernel_rfl, rfl, rfl, by decide, by decide +kernel, fun _ _ _ _ _ _ us hl => match us, hl with | [_, _], _ => rfl⟩
theorem i_is_pin_number : SI G fs bl ("is_pin_number" : Str) [("board" : Str), ("thing" : Str)] s_is_pin_number f_is_pin_number n_is_pin_number := ⟨⟨by decide +kernel, by decide +kernel, by decide +kernel, by decide +kernel, by decide +kernel, by decide +kernel, by decide +kernel⟩, by kernel_rfl, rfl, rfl, by decide, by decide +kernel, fun _ _ _ _ _ _ us hl => match us, hl with | [_, _], _ => rfl⟩
theorem i_comes_to : SI G fs bl ("comes_to" : Str) [("one" : Str), ("other" : Str), ("way" : Str)] s_comes_to f_comes_to n_comes_to := ⟨⟨by decide +kernel, by decide +kernel, by decide +kernel, by decide +kernel, by decide +kernel, by decide +kernel, by decide +kernel⟩, by kernel_rfl, rfl, rfl, by decide, by decide +kernel, fun _ _ _ _ _ _ us hl => match us, hl with | [_, _, _], _ => rfl⟩
theorem i_need_number : SI G fs bl ("need_number" : Str) [("number" : Str)] s_need_number f_need_number n_need_number := ⟨⟨by decide +kernel, by decide +kernel, by decide +kernel, by decide +kernel, by decide +kernel, by decide +kernel, by decide +kernel⟩, by kernel_rfl, rfl, rfl, by decide, by decide +kernel, fun _ _ _ _ _ _ us hl => match us, hl with | [_], _ => rfl⟩
theorem i_is_look : SI G fs bl ("is_look" : Str) [("board" : Str), ("thing" : Str)] s_is_look f_is_look n_is_look := ⟨⟨by decide +kernel, by decide +kernel, by decide +kernel, by decide +kernel, by decide +kernel, by decide +kernel, by decide +kernel⟩, by kernel_rfl, rfl, rfl, by decide, by decide +kernel, fun _ _ _ _ _ _ us hl => match us, hl with | [_, _], _ => rfl⟩
theorem i_is_pin : SI G fs bl ("is_pin" : Str) [("thing" : Str)] s_is_pin f_is_pin n_is_pin := ⟨⟨by decide +kernel, by decide +kernel, by decide +kernel, by decide +kernel, by decide +kernel, by decide +kernel, by decide +kernel⟩, by kernel_rfl, rfl, rfl, by decide, by decide +kernel, fun _ _ _ _ _ _ us hl => match us, hl with | [_], _ => rfl⟩
theorem i_gaps : SI G fs bl ("gaps" : Str) [("board" : Str)] s_gaps f_gaps n_gaps := ⟨⟨by decide +kernel, by decide +kernel, by decide +kernel, by decide +kernel, by decide +kernel, by decide +kernel, by decide +kernel⟩, by kernel_rfl, rfl, rfl, by decide, by decide +kernel, fun _ _ _ _ _ _ us hl => match us, hl with | [_], _ => rfl⟩
theorem i_is_whole : SI G fs bl ("is_whole" : Str) [("thing" : Str)] s_is_whole f_is_whole n_is_whole := ⟨⟨by decide +kernel, by decide +kernel, by decide +kernel, by decide +kernel, by decide +kernel, by decide +kernel, by decide +kernel⟩, by kernel_rfl, rfl, rfl, by decide, by decide +kernel, fun _ _ _ _ _ _ us hl => match us, hl with | [_], _ => rfl⟩
theorem i_is_place : SI G fs bl ("is_place" : Str) [("thing" : Str)] s_is_place f_is_place n_is_place := ⟨⟨by decide +kernel, by decide +kernel, by decide +kernel, by decide +kernel, by decide +kernel, by decide +kernel, by decide +kernel⟩, by kernel_rfl, rfl, rfl, by decide, by decide +kernel, fun _ _ _ _ _ _ us hl => match us, hl with | [_], _ => rfl⟩
theorem k_0 : KB ("is_stand" : Str) [("board" : Str), ("thing" : Str)] s_is_stand [("thing" : Str), ("board" : Str)] [1, 0] := ⟨rfl, by decide, fun _ _ _ _ _ _ us hl => match us, hl with | [_, _], _ => rfl⟩
theorem k_1 : KB ("number_of" : Str) [("board" : Str), ("stand" : Str)] s_number_of [("stand" : Str), ("board" : Str)] [1, 0] := ⟨rfl, by decide, fun _ _ _ _ _ _ us hl => match us, hl with | [_, _], _ => rfl⟩
theorem k_2 : KB ("beat" : Str) [("board" : Str), ("stand" : Str)] s_beat [("stand" : Str), ("board" : Str)] [1, 0] := ⟨rfl, by decide, fun _ _ _ _ _ _ us hl => match us, hl with | [_, _], _ => rfl⟩
theorem k_3 : KB ("ahead" : Str) [("board" : Str), ("stand" : Str)] s_ahead [("stand" : Str), ("board" : Str)] [1, 0] := ⟨rfl, by decide, fun _ _ _ _ _ _ us hl => match us, hl with | [_, _], _ => rfl⟩
theorem k_4 : KB ("after" : Str) [("board" : Str), ("stand" : Str), ("many" : Str)] s_after [("many" : Str), ("stand" : Str), ("board" : Str)] [2, 1, 0] := ⟨rfl, by decide, fun _ _ _ _ _ _ us hl => match us, hl with | [_, _, _], _ => rfl⟩
theorem k_5 : KB ("meetings" : Str) [("board" : Str), ("pin" : Str)] s_meetings [("pin" : Str), ("board" : Str)] [1, 0] := ⟨rfl, by decide, fun _ _ _ _ _ _ us hl => match us, hl with | [_, _], _ => rfl⟩
theorem k_6 : KB ("first" : Str) [("board" : Str), ("pin" : Str), ("look" : Str)] s_first [("look" : Str), ("pin" : Str), ("board" : Str)] [2, 1, 0] := ⟨rfl, by decide, fun _ _ _ _ _ _ us hl => match us, hl with | [_, _, _], _ => rfl⟩
end K16
set_option linter.all false
set_option maxRecDepth 1000000
set_option maxHeartbeats 4000000
namespace K16
open PySem PySem.Spec L2 Ev
theorem all_mk {w : World} {K : PySem.W.Frag} {mg : Str → Option Value} {h : Heap} {pr : Program} (X : K.In h) (G0 : h.Ns mainGlobals mg)
    (own : ∀ (f : Str) (a : Addr), ((PyProof.Rows.recsOf pr).any fun e => e.name == f) = true → mg f = some (.ref a) → LamX.OwnTab K a h) (r_half_turn : ((PyProof.Rows.recsOf pr).any fun e => e.name == ("half_turn" : Str)) = true)
    {c_half_turn P_half_turn : Addr} (l_half_turn : FL K ("half_turn" : Str) s_half_turn c_half_turn P_half_turn) (f_law' : FF K ("law" : Str) s_law) (f__law_pen' : FF K ("_law_pen" : Str) s__law_pen) (f__law_cell_at' : FF K ("_law_cell_at" : Str) s__law_cell_at) (f__law_draw' : FF K ("_law_draw" : Str) s__law_draw) (f__law_left_right' : FF K ("_law_left_right" : Str) s__law_left_right) (f__law_mixed_right' : FF K ("_law_mixed_right" : Str) s__law_mixed_right) (f__law_pins' : FF K ("_law_pins" : Str) s__law_pins) (f_is_stand' : FF K ("is_stand" : Str) s_is_stand) (f_number_of' : FF K ("number_of" : Str) s_number_of) (f_beat' : FF K ("beat" : Str) s_beat) (f_ahead' : FF K ("ahead" : Str) s_ahead) (f_after' : FF K ("after" : Str) s_after) (f_meetings' : FF K ("meetings" : Str) s_meetings) (f_first' : FF K ("first" : Str) s_first) (f_need_board' : FF K ("need_board" : Str) s_need_board) (f_stand_holds' : FF K ("stand_holds" : Str) s_stand_holds) (f_need_stand' : FF K ("need_stand" : Str) s_need_stand) (f_look_of' : FF K ("look_of" : Str) s_look_of) (f_cross' : FF K ("cross" : Str) s_cross) (f_gap' : FF K ("gap" : Str) s_gap) (f_line_number' : FF K ("line_number" : Str) s_line_number) (f_next_stand' : FF K ("next_stand" : Str) s_next_stand) (f_need_beats' : FF K ("need_beats" : Str) s_need_beats) (f_stands_from' : FF K ("stands_from" : Str) s_stands_from) (f_need_pin' : FF K ("need_pin" : Str) s_need_pin) (f_need_look' : FF K ("need_look" : Str) s_need_look) (f_stand_met' : FF K ("stand_met" : Str) s_stand_met) (f_is_board' : FF K ("is_board" : Str) s_is_board) (f_is_tuple_of' : FF K ("is_tuple_of" : Str) s_is_tuple_of) (f_is_pin_number' : FF K ("is_pin_number" : Str) s_is_pin_number) (f_comes_to' : FF K ("comes_to" : Str) s_comes_to) (f_need_number' : FF K ("need_number" : Str) s_need_number) (f_is_look' : FF K ("is_look" : Str) s_is_look) (f_is_pin' : FF K ("is_pin" : Str) s_is_pin) (f_gaps' : FF K ("gaps" : Str) s_gaps) (f_is_whole' : FF K ("is_whole" : Str) s_is_whole) (f_is_place' : FF K ("is_place" : Str) s_is_place) (b_all : PySem.W.nsIn K mainGlobals ("all" : Str) = some none) (b_bool : PySem.W.nsIn K mainGlobals ("bool" : Str) = some none) (b_enumerate : PySem.W.nsIn K mainGlobals ("enumerate" : Str) = some none) (b_int : PySem.W.nsIn K mainGlobals ("int" : Str) = some none) (b_isinstance : PySem.W.nsIn K mainGlobals ("isinstance" : Str) = some none) (b_len : PySem.W.nsIn K mainGlobals ("len" : Str) = some none) (b_max : PySem.W.nsIn K mainGlobals ("max" : Str) = some none) (b_min : PySem.W.nsIn K mainGlobals ("min" : Str) = some none) (b_range : PySem.W.nsIn K mainGlobals ("range" : Str) = some none) (b_sorted : PySem.W.nsIn K mainGlobals ("sorted" : Str) = some none) (b_tuple : PySem.W.nsIn K mainGlobals ("tuple" : Str) = some none) (c_FEWEST_PINS : CF K ("FEWEST_PINS" : Str) (.int (3))) (c_LAST_PLACE : CF K ("LAST_PLACE" : Str) (.int (99))) (c_MEETINGS_LOOK : CF K ("MEETINGS_LOOK" : Str) (.tuple [(.int (1000)), (.int (1))])) (c_MOST_BEATS : CF K ("MOST_BEATS" : Str) (.int (1000000000000))) (c_MOST_PINS : CF K ("MOST_PINS" : Str) (.int (8))) (c_WAYS : CF K ("WAYS" : Str) (.tuple [(.str ("left" : Str)), (.str ("right" : Str))])) (c_WORDS : CF K ("WORDS" : Str) (.tuple [(.str ("ahead" : Str)), (.str ("behind" : Str))])) (d_OTHER_WAY : DF K w ("OTHER_WAY" : Str) [(("left" : Str), (.str ("right" : Str))), (("right" : Str), (.str ("left" : Str)))]) (d_OTHER_WORD : DF K w ("OTHER_WORD" : Str) [(("ahead" : Str), (.str ("behind" : Str))), (("behind" : Str), (.str ("ahead" : Str)))]) : LawE w K mg h 9 63 "law" ("_law_script" : Str) := by
  refine ⟨G, fs, bl, [(c_half_turn, P_half_turn)], [(P_half_turn, lamQ ("half_turn" : Str))], fun p hp => ?_, fun p hp => ?_, fun p hp => ?_, rfl, mdk_of (cons := cons) (dics := dics) X G0 (fun _ => rfl) (fun _ => rfl) ?af ?ak ?ab ?ac ?ad, by kernel_rfl, fun ns _ _ => law_ok ns⟩
  · obtain rfl := List.mem_singleton.mp hp
    obtain ⟨a, oc, od, kV, doc, pm, an, ct, osl, h1, h2, h3, h4⟩ := l_half_turn.ex
    obtain ⟨e, dd, vs, sl, h5, h6⟩ := l_half_turn.lc
    exact own _ a r_half_turn (PySem.W.mg_of X G0 h1) c_half_turn P_half_turn _ _ e dd vs sl h2 rfl rfl h5 h6
  · obtain rfl := List.mem_singleton.mp hp
    exact l_half_turn.np
  · obtain rfl := List.mem_singleton.mp hp
    exact PySem.W.codeHd_of_K X l_half_turn.hd
  case af => exact ⟨⟨_, .plain i_law f_law' rfl⟩, ⟨_, .plain i__law_pen f__law_pen' rfl⟩, ⟨_, .plain i__law_cell_at f__law_cell_at' rfl⟩, ⟨_, .plain i__law_draw f__law_draw' rfl⟩, ⟨_, .plain i__law_left_right f__law_left_right' rfl⟩, ⟨_, .plain i__law_mixed_right f__law_mixed_right' rfl⟩, ⟨_, .plain i__law_pins f__law_pins' rfl⟩, ⟨_, .plain i_is_stand f_is_stand' rfl⟩, ⟨_, .plain i_number_of f_number_of' rfl⟩, ⟨_, .plain i_beat f_beat' rfl⟩, ⟨_, .plain i_ahead f_ahead' rfl⟩, ⟨_, .plain i_after f_after' rfl⟩, ⟨_, .plain i_meetings f_meetings' rfl⟩, ⟨_, .plain i_first f_first' rfl⟩, ⟨_, .plain i_need_board f_need_board' rfl⟩, ⟨_, .plain i_stand_holds f_stand_holds' rfl⟩, ⟨_, .plain i_need_stand f_need_stand' rfl⟩, ⟨_, .plain i_look_of f_look_of' rfl⟩, ⟨_, .plain i_cross f_cross' rfl⟩, ⟨_, .plain i_gap f_gap' rfl⟩, ⟨_, .plain i_line_number f_line_number' rfl⟩, ⟨_, .plain i_next_stand f_next_stand' rfl⟩, ⟨_, .lam i_half_turn l_half_turn (by simp) (by simp) (by simp)⟩, ⟨_, .plain i_need_beats f_need_beats' rfl⟩, ⟨_, .plain i_stands_from f_stands_from' rfl⟩, ⟨_, .plain i_need_pin f_need_pin' rfl⟩, ⟨_, .plain i_need_look f_need_look' rfl⟩, ⟨_, .plain i_stand_met f_stand_met' rfl⟩, ⟨_, .plain i_is_board f_is_board' rfl⟩, ⟨_, .plain i_is_tuple_of f_is_tuple_of' rfl⟩, ⟨_, .plain i_is_pin_number f_is_pin_number' rfl⟩, ⟨_, .plain i_comes_to f_comes_to' rfl⟩, ⟨_, .plain i_need_number f_need_number' rfl⟩, ⟨_, .plain i_is_look f_is_look' rfl⟩, ⟨_, .plain i_is_pin f_is_pin' rfl⟩, ⟨_, .plain i_gaps f_gaps' rfl⟩, ⟨_, .plain i_is_whole f_is_whole' rfl⟩, ⟨_, .plain i_is_place f_is_place' rfl⟩, True.intro⟩
  case ak => exact ⟨⟨_, _, .plain i_is_stand f_is_stand' rfl, k_0⟩, ⟨_, _, .plain i_number_of f_number_of' rfl, k_1⟩, ⟨_, _, .plain i_beat f_beat' rfl, k_2⟩, ⟨_, _, .plain i_ahead f_ahead' rfl, k_3⟩, ⟨_, _, .plain i_after f_after' rfl, k_4⟩, ⟨_, _, .plain i_meetings f_meetings' rfl, k_5⟩, ⟨_, _, .plain i_first f_first' rfl, k_6⟩, True.intro⟩
  case ab => exact ⟨b_all, b_bool, b_enumerate, b_int, b_isinstance, b_len, b_max, b_min, b_range, b_sorted, b_tuple, True.intro⟩
  case ac => exact ⟨c_FEWEST_PINS, c_LAST_PLACE, c_MEETINGS_LOOK, c_MOST_BEATS, c_MOST_PINS, c_WAYS, c_WORDS, True.intro⟩
  case ad => exact ⟨d_OTHER_WAY, d_OTHER_WORD, True.intro⟩
end K16
open PySem PySem.W PyProof.Rows in
set_option maxRecDepth 1000000 in
set_option maxHeartbeats 0 in
theorem PySem.Challenge.cw_waypins_k16_beats_by_hand_and_by_names_holds : PySem.Challenge.rw_waypins_k16_beats_by_hand_and_by_names.Holds := by
  w_on; o_law; k_head; (case hw => w_witness2)
  k_fill
  refine Ev.walk_law (l := PySem.Challenge.rw_waypins_k16_beats_by_hand_and_by_names) (n := 63) (k := 9) (x := ("_law_script" : Str)) rfl (by decide) rfl ⟨rfl, by decide, by decide⟩ (fun w h Y => by first | exact PySem.W.kIn_of Y | exact PySem.W.km_in_of Y) ?F
  case F =>
    intro w mg h Y KX G0 own
    refine' K16.all_mk KX G0 own ?r_half_turn ?l_half_turn ?f_law' ?f__law_pen' ?f__law_cell_at' ?f__law_draw' ?f__law_left_right' ?f__law_mixed_right' ?f__law_pins' ?f_is_stand' ?f_number_of' ?f_beat' ?f_ahead' ?f_after' ?f_meetings' ?f_first' ?f_need_board' ?f_stand_holds' ?f_need_stand' ?f_look_of' ?f_cross' ?f_gap' ?f_line_number' ?f_next_stand' ?f_need_beats' ?f_stands_from' ?f_need_pin' ?f_need_look' ?f_stand_met' ?f_is_board' ?f_is_tuple_of' ?f_is_pin_number' ?f_comes_to' ?f_need_number' ?f_is_look' ?f_is_pin' ?f_gaps' ?f_is_whole' ?f_is_place' ?b_all ?b_bool ?b_enumerate ?b_int ?b_isinstance ?b_len ?b_max ?b_min ?b_range ?b_sorted ?b_tuple ?c_FEWEST_PINS ?c_LAST_PLACE ?c_MEETINGS_LOOK ?c_MOST_BEATS ?c_MOST_PINS ?c_WAYS ?c_WORDS ?d_OTHER_WAY ?d_OTHER_WORD
    (case r_half_turn => decide +kernel)
    (case l_half_turn => refine' Ev.fl_mk ?a ?l ?c ?k ?d ?v ?e ?n; (case a => k_is); (case l => k_is); (case c => k_is); (case k => k_is); (case d => k_is); (case v => first | rfl | k_is); (case e => first | k_is | kernel_rfl); (case n => first | k_is | rfl | kernel_rfl))
    (case f_law' => refine' Ev.ff_mk ?a ?l ?c ?k; (case a => k_is); (case l => k_is); (case c => k_is); (case k => k_is))
    (case f__law_pen' => refine' Ev.ff_mk ?a ?l ?c ?k; (case a => k_is); (case l => k_is); (case c => k_is); (case k => k_is))
    (case f__law_cell_at' => refine' Ev.ff_mk ?a ?l ?c ?k; (case a => k_is); (case l => k_is); (case c => k_is); (case k => k_is))
    (case f__law_draw' => refine' Ev.ff_mk ?a ?l ?c ?k; (case a => k_is); (case l => k_is); (case c => k_is); (case k => k_is))
    (case f__law_left_right' => refine' Ev.ff_mk ?a ?l ?c ?k; (case a => k_is); (case l => k_is); (case c => k_is); (case k => k_is))
    (case f__law_mixed_right' => refine' Ev.ff_mk ?a ?l ?c ?k; (case a => k_is); (case l => k_is); (case c => k_is); (case k => k_is))
    (case f__law_pins' => refine' Ev.ff_mk ?a ?l ?c ?k; (case a => k_is); (case l => k_is); (case c => k_is); (case k => k_is))
    (case f_is_stand' => refine' Ev.ff_mk ?a ?l ?c ?k; (case a => k_is); (case l => k_is); (case c => k_is); (case k => k_is))
    (case f_number_of' => refine' Ev.ff_mk ?a ?l ?c ?k; (case a => k_is); (case l => k_is); (case c => k_is); (case k => k_is))
    (case f_beat' => refine' Ev.ff_mk ?a ?l ?c ?k; (case a => k_is); (case l => k_is); (case c => k_is); (case k => k_is))
    (case f_ahead' => refine' Ev.ff_mk ?a ?l ?c ?k; (case a => k_is); (case l => k_is); (case c => k_is); (case k => k_is))
    (case f_after' => refine' Ev.ff_mk ?a ?l ?c ?k; (case a => k_is); (case l => k_is); (case c => k_is); (case k => k_is))
    (case f_meetings' => refine' Ev.ff_mk ?a ?l ?c ?k; (case a => k_is); (case l => k_is); (case c => k_is); (case k => k_is))
    (case f_first' => refine' Ev.ff_mk ?a ?l ?c ?k; (case a => k_is); (case l => k_is); (case c => k_is); (case k => k_is))
    (case f_need_board' => refine' Ev.ff_mk ?a ?l ?c ?k; (case a => k_is); (case l => k_is); (case c => k_is); (case k => k_is))
    (case f_stand_holds' => refine' Ev.ff_mk ?a ?l ?c ?k; (case a => k_is); (case l => k_is); (case c => k_is); (case k => k_is))
    (case f_need_stand' => refine' Ev.ff_mk ?a ?l ?c ?k; (case a => k_is); (case l => k_is); (case c => k_is); (case k => k_is))
    (case f_look_of' => refine' Ev.ff_mk ?a ?l ?c ?k; (case a => k_is); (case l => k_is); (case c => k_is); (case k => k_is))
    (case f_cross' => refine' Ev.ff_mk ?a ?l ?c ?k; (case a => k_is); (case l => k_is); (case c => k_is); (case k => k_is))
    (case f_gap' => refine' Ev.ff_mk ?a ?l ?c ?k; (case a => k_is); (case l => k_is); (case c => k_is); (case k => k_is))
    (case f_line_number' => refine' Ev.ff_mk ?a ?l ?c ?k; (case a => k_is); (case l => k_is); (case c => k_is); (case k => k_is))
    (case f_next_stand' => refine' Ev.ff_mk ?a ?l ?c ?k; (case a => k_is); (case l => k_is); (case c => k_is); (case k => k_is))
    (case f_need_beats' => refine' Ev.ff_mk ?a ?l ?c ?k; (case a => k_is); (case l => k_is); (case c => k_is); (case k => k_is))
    (case f_stands_from' => refine' Ev.ff_mk ?a ?l ?c ?k; (case a => k_is); (case l => k_is); (case c => k_is); (case k => k_is))
    (case f_need_pin' => refine' Ev.ff_mk ?a ?l ?c ?k; (case a => k_is); (case l => k_is); (case c => k_is); (case k => k_is))
    (case f_need_look' => refine' Ev.ff_mk ?a ?l ?c ?k; (case a => k_is); (case l => k_is); (case c => k_is); (case k => k_is))
    (case f_stand_met' => refine' Ev.ff_mk ?a ?l ?c ?k; (case a => k_is); (case l => k_is); (case c => k_is); (case k => k_is))
    (case f_is_board' => refine' Ev.ff_mk ?a ?l ?c ?k; (case a => k_is); (case l => k_is); (case c => k_is); (case k => k_is))
    (case f_is_tuple_of' => refine' Ev.ff_mk ?a ?l ?c ?k; (case a => k_is); (case l => k_is); (case c => k_is); (case k => k_is))
    (case f_is_pin_number' => refine' Ev.ff_mk ?a ?l ?c ?k; (case a => k_is); (case l => k_is); (case c => k_is); (case k => k_is))
    (case f_comes_to' => refine' Ev.ff_mk ?a ?l ?c ?k; (case a => k_is); (case l => k_is); (case c => k_is); (case k => k_is))
    (case f_need_number' => refine' Ev.ff_mk ?a ?l ?c ?k; (case a => k_is); (case l => k_is); (case c => k_is); (case k => k_is))
    (case f_is_look' => refine' Ev.ff_mk ?a ?l ?c ?k; (case a => k_is); (case l => k_is); (case c => k_is); (case k => k_is))
    (case f_is_pin' => refine' Ev.ff_mk ?a ?l ?c ?k; (case a => k_is); (case l => k_is); (case c => k_is); (case k => k_is))
    (case f_gaps' => refine' Ev.ff_mk ?a ?l ?c ?k; (case a => k_is); (case l => k_is); (case c => k_is); (case k => k_is))
    (case f_is_whole' => refine' Ev.ff_mk ?a ?l ?c ?k; (case a => k_is); (case l => k_is); (case c => k_is); (case k => k_is))
    (case f_is_place' => refine' Ev.ff_mk ?a ?l ?c ?k; (case a => k_is); (case l => k_is); (case c => k_is); (case k => k_is))
    (case b_all => k_is)
    (case b_bool => k_is)
    (case b_enumerate => k_is)
    (case b_int => k_is)
    (case b_isinstance => k_is)
    (case b_len => k_is)
    (case b_max => k_is)
    (case b_min => k_is)
    (case b_range => k_is)
    (case b_sorted => k_is)
    (case b_tuple => k_is)
    (case c_FEWEST_PINS => refine' Ev.cf_int ?a; (case a => k_is))
    (case c_LAST_PLACE => refine' Ev.cf_int ?a; (case a => k_is))
    (case c_MEETINGS_LOOK => refine' Ev.cf_ints2 ?a ?l; (case a => k_is); (case l => k_is))
    (case c_MOST_BEATS => refine' Ev.cf_int ?a; (case a => k_is))
    (case c_MOST_PINS => refine' Ev.cf_int ?a; (case a => k_is))
    (case c_WAYS => refine' Ev.cf_strs2 ?a ?l; (case a => k_is); (case l => k_is))
    (case c_WORDS => refine' Ev.cf_strs2 ?a ?l; (case a => k_is); (case l => k_is))
    (case d_OTHER_WAY => refine' Ev.df_2 ?a ?l ?k ?u ?v; (case a => k_is); (case l => k_is); (case k => k_keys); (case u => k_is); (case v => k_is))
    (case d_OTHER_WORD => refine' Ev.df_2 ?a ?l ?k ?u ?v; (case a => k_is); (case l => k_is); (case k => k_keys); (case u => k_is); (case v => k_is))
