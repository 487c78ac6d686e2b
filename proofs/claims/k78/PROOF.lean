import PyProof.Rows.All
import Wide.All
import OpenK.AllK
import Wide.FinOn
import HandS.ForMost
import HandS.ForExc
import HandS.ExcInit
import HandS.TryMany
import HandS.Defaults
import HandS.Wide
import HandS.TupAny
import HandS.Gcd
import HandS.IsInst
import HandS.SortInts
import HandS.Iter
import HandS.Zip
import HandS.More
import HandS.SetFor
import HandS.CallSlots
import HandS.ClsMeth
import HandS.Property
import KE.KExcIs
import HandS.ExcField
import HandS.Flow
import HandS.ExcValue
import KE.KOpsOwn
import HandS.OwnEq
import PyProof.Rows.Range3
import HandS.FStr
import HandS.WideBits
import HandS.Head0
import HandS.Head1
import HandS.Head2
import HandS.HeadEnd
import HandS.HeadHook1
import HandS.HeadHook2
import HandS.HeadNt
import HandS.Head3
import HandS.Codes
import PySem.Challenge.RW_steprows_k78_exact_fractions
set_option Elab.async false
set_option linter.all false
set_option maxRecDepth 100000
-- DenA
section
/-! Den, the values: what an evaluator of one's own reckons with; heaps of cells; outcomes. -/
namespace Den
open PySem

/-- a value: trees, and references to cells -/
inductive D where
  | non | bl (b : Bool) | int (i : Int) | str (s : Str)
  | cls (c : Nat) | ty (t : Nat)
  | tup (xs : List D)
  | lst (xs : List D)
  | scr (xs : List D)
  | dct (ks vs : List D)
  | ins (c : Nat) (fs : List Nat) (xs : List D)
  | exc (c : Nat) (fs : List Nat) (xs : List D)
  | ref (n : Nat)
  deriving Inhabited

/-- what may still change -/
inductive Cell where
  | lst (xs : List D)
  | dct (ks vs : List D)
  | ins (c : Nat) (fs : List Nat) (xs : List D)
  deriving Inhabited

structure S where
  env : List (Option D)
  hp : List Cell
  base : Nat
  deriving Inhabited

/-- an outcome: a value; an exception of a class of the program with its fields; no word -/
inductive Out (α : Type) where
  | ok (a : α) (s : S)
  | exn (c : Nat) (fs : List Nat) (xs : List D) (s : S)
  | bad

def Out.bind {α β : Type} (x : Out α) (f : α → S → Out β) : Out β := match x with
  | .ok a s => f a s
  | .exn c fs xs s => .exn c fs xs s
  | .bad => .bad
@[simp] theorem Out.bind_ok {α β : Type} {a : α} {s : S} {f : α → S → Out β} : (Out.ok a s).bind f = f a s := rfl
@[simp] theorem Out.bind_exn {α β : Type} {c : Nat} {fs : List Nat} {xs : List D} {s : S} {f : α → S → Out β} : (Out.exn c fs xs s : Out α).bind f = .exn c fs xs s := rfl
@[simp] theorem Out.bind_bad {α β : Type} {f : α → S → Out β} : (Out.bad : Out α).bind f = .bad := rfl

/-- where a statement ends -/
inductive Fl where
  | next | ret (d : D) | brk | cont

abbrev SemE := S → Out D
abbrev SemT := S → Out Bool
abbrev SemA := S → Out (List D)
abbrev SemS := S → Out Fl

mutual
def D.noRef : D → Bool
  | .tup xs => D.noRefs xs
  | .lst xs => D.noRefs xs
  | .scr xs => D.noRefs xs
  | .dct ks vs => D.noRefs ks && D.noRefs vs
  | .ins _ _ xs => D.noRefs xs
  | .exc _ _ xs => D.noRefs xs
  | .ref _ => false
  | _ => true
def D.noRefs : List D → Bool
  | [] => true
  | x :: r => x.noRef && D.noRefs r
end

/-- what a lot of items comes to, some of them perhaps none -/
def allSome {α : Type} : List (Option α) → Option (List α)
  | [] => some []
  | none :: _ => none
  | some x :: r => match allSome r with
    | some ys => some (x :: ys)
    | none => none

/-! ### a value that leaves its call: the cells that the call made become trees -/
mutual
def fz (get : Nat → Option D) : D → Option D
  | .tup xs => match fzs get xs with
    | some ys => some (.tup ys)
    | none => none
  | .lst xs => match fzs get xs with
    | some ys => some (.lst ys)
    | none => none
  | .scr xs => match fzs get xs with
    | some ys => some (.scr ys)
    | none => none
  | .dct ks vs => match fzs get vs with
    | some vs' => some (.dct ks vs')
    | none => none
  | .ins c fs xs => match fzs get xs with
    | some ys => some (.ins c fs ys)
    | none => none
  | .exc c fs xs => match fzs get xs with
    | some ys => some (.exc c fs ys)
    | none => none
  | .ref n => get n
  | .non => some .non
  | .bl b => some (.bl b)
  | .int i => some (.int i)
  | .str s => some (.str s)
  | .cls c => some (.cls c)
  | .ty c => some (.ty c)
def fzs (get : Nat → Option D) : List D → Option (List D)
  | [] => some []
  | x :: r => match fz get x, fzs get r with
    | some y, some ys => some (y :: ys)
    | _, _ => none
end
/-- the tree of the cell n: cells below base stay references -/
def fzCell (hp : List Cell) (base : Nat) : Nat → Nat → Option D
  | 0, n => if n < base then some (.ref n) else none
  | k + 1, n => if n < base then some (.ref n) else match hp[n]? with
    | some (.lst xs) => match fzs (fzCell hp base k) xs with
      | some ys => some (.lst ys)
      | none => none
    | some (.dct ks vs) => match fzs (fzCell hp base k) vs with
      | some vs' => some (.dct ks vs')
      | none => none
    | some (.ins c fs xs) => match fzs (fzCell hp base k) xs with
      | some ys => some (.ins c fs ys)
      | none => none
    | none => none
/-- how deep cells may lie in cells -/
def fzDepth : Nat := 8
def freeze (hp : List Cell) (base : Nat) (d : D) : Option D := fz (fzCell hp base fzDepth) d
def freezes (hp : List Cell) (base : Nat) (xs : List D) : Option (List D) := fzs (fzCell hp base fzDepth) xs

/-! ### calls -/
/-- a call's outcome: a value or an exception, and the heap -/
inductive OutC where
  | ok (d : D) (hp : List Cell)
  | exn (c : Nat) (fs : List Nat) (xs : List D) (hp : List Cell)
  | bad
/-- what each def (by its number) does with its arguments and the heap; some c: it is the __init__ of a new instance of the class c -/
abbrev Calls := Nat → Option Nat → List D → List Cell → OutC

/-- a body's end, as its caller meets it: what the call made is let go, but for the value -/
def leave (base : Nat) : Out Fl → OutC
  | .ok (.ret d) s => match freeze s.hp base d with
    | some d' => .ok d' (s.hp.take base)
    | none => .bad
  | .ok .next s => .ok .non (s.hp.take base)
  | .exn c fs xs s => match freezes s.hp base xs with
    | some xs' => .exn c fs xs' (s.hp.take base)
    | none => .bad
  | _ => .bad
/-- the same, the call's cells left standing -/
def leaveKeep : Out Fl → OutC
  | .ok (.ret d) s => .ok d s.hp
  | .ok .next s => .ok .non s.hp
  | .exn c fs xs s => .exn c fs xs s.hp
  | _ => .bad
/-- the end of an __init__: the instance in the cell base is the value -/
def leaveMk (base : Nat) : Out Fl → OutC
  | .ok (.ret .non) s => match freeze s.hp base (.ref base) with
    | some d' => .ok d' (s.hp.take base)
    | none => .bad
  | .ok .next s => match freeze s.hp base (.ref base) with
    | some d' => .ok d' (s.hp.take base)
    | none => .bad
  | .exn c fs xs s => match freezes s.hp base xs with
    | some xs' => .exn c fs xs' (s.hp.take base)
    | none => .bad
  | _ => .bad

/-- a def -/
structure Fn where
  slots : Nat
  params : Nat
  keep : Bool
  body : Calls → SemS
def startEnv (f : Fn) (args : List D) : List (Option D) := args.map some ++ List.replicate (f.slots - args.length) none
def Fn.run (f : Fn) (C : Calls) (args : List D) (hp : List Cell) : OutC :=
  if args.length = f.params then
    if f.keep then leaveKeep (f.body C ⟨startEnv f args, hp, hp.length⟩) else leave hp.length (f.body C ⟨startEnv f args, hp, hp.length⟩)
  else .bad
def Fn.make (f : Fn) (C : Calls) (c : Nat) (args : List D) (hp : List Cell) : OutC :=
  if args.length + 1 = f.params then leaveMk hp.length (f.body C ⟨startEnv f (.ref hp.length :: args), hp ++ [.ins c [] []], hp.length⟩) else .bad
/-- the defs of a program, calls k deep -/
def callK (fns : List Fn) : Nat → Calls
  | 0 => fun _ _ _ _ => .bad
  | k + 1 => fun i m args hp => match fns[i]? with
    | some f => match m with
      | none => f.run (callK fns k) args hp
      | some c => f.make (callK fns k) c args hp
    | none => .bad
end Den
end

-- DenB
section
set_option maxHeartbeats 1000000
/-! Den, the relation: which values and heaps of the layer a value and a heap of Den stand for. -/
namespace Den
open PySem PySem.Spec L2

/-- the built-in types that have a number -/
def tyName : Nat → String
  | 0 => "NoneType"
  | 1 => "bool"
  | 2 => "int"
  | 3 => "str"
  | 4 => "list"
  | 5 => "tuple"
  | 6 => "dict"
  | _ => "ValueError"
/-- where the cells lie; the part of the heap that does not change any more -/
structure Rp where
  ρ : List Addr
  G : Hp
structure Rp.le (r r' : Rp) : Prop where
  pre : ∃ t, r'.ρ = r.ρ ++ t
  sub : ∀ a o, r.G a = some o → r'.G a = some o
theorem Rp.le.refl (r : Rp) : r.le r := ⟨⟨[], by simp⟩, fun _ _ h => h⟩
theorem Rp.le.trans {r s t : Rp} (a : r.le s) (b : s.le t) : r.le t := by
  obtain ⟨x, hx⟩ := a.pre
  obtain ⟨y, hy⟩ := b.pre
  exact ⟨⟨x ++ y, by rw [hy, hx, List.append_assoc]⟩, fun c o h => b.sub c o (a.sub c o h)⟩
theorem Rp.le.at {r r' : Rp} (h : r.le r') {n : Nat} {a : Addr} (e : r.ρ[n]? = some a) : r'.ρ[n]? = some a := by
  obtain ⟨t, ht⟩ := h.pre
  obtain ⟨h1, h2⟩ := List.getElem?_eq_some_iff.mp e
  rw [ht, List.getElem?_append_left h1]
  exact e

/-- what a program's numbers stand for: classes, field names; which class is under which; F: what is asked of the frozen part besides -/
structure Px where
  K : PySem.W.Frag
  CA : Nat → Addr
  FN : Nat → Str
  sub : Nat → Nat → Bool
  ncls : Nat
  F : Rp → St → Prop
  Fm : ∀ r r' σ, r.le r' → F r σ → F r' σ
/-- no slot is asked anything of -/
class Px.Free (p : Px) : Prop where
  set : ∀ r σ i u, p.F r σ → p.F r (σ.set i u)

def keyK : D → Option Key
  | .int i => some (.inl i)
  | .str s => some (.inr s)
  | _ => none
def keyT : D → Option (List Key)
  | .tup xs => allSome (xs.map keyK)
  | _ => none
/-- the dict object o has these keys, and these values -/
def DctOf : HO → List D → List V → Prop
  | .dK kvs, ks, ws => kvs.map (·.2) = ws ∧ ks.map keyK = kvs.map fun p => some p.1
  | .dT kvs, ks, ws => kvs.map (·.2) = ws ∧ ks.map keyT = kvs.map fun p => some p.1
  | _, _, _ => False

mutual
def RV (p : Px) (r : Rp) : D → V → Prop
  | .non, v => v = .non
  | .bl b, v => v = .bl b
  | .int i, v => v = .int i
  | .str s, v => v = .str s
  | .cls c, v => v = .ref (p.CA c)
  | .ty t, v => v = .ty (tyName t)
  | .tup xs, v => ∃ a vs, v = .ref a ∧ r.G a = some (.tup vs) ∧ RVs p r xs vs
  | .lst xs, v => ∃ a vs, v = .ref a ∧ r.G a = some (.lst vs) ∧ RVs p r xs vs
  | .scr xs, v => ∃ a vs, v = .ref a ∧ SqL p.K r.G a vs ∧ RVs p r xs vs
  | .dct ks xs, v => ∃ a o vs, v = .ref a ∧ r.G a = some o ∧ DctOf o ks vs ∧ RVs p r xs vs
  | .ins c fs xs, v => ∃ a dx vfs, v = .ref a ∧ r.G a = some (.ins (p.CA c) dx vfs) ∧ vfs.map (·.1) = fs.map p.FN ∧ RVs p r xs (vfs.map (·.2))
  | .exc c fs xs, v => ∃ a, v = .ref a ∧ ((fs = [] ∧ xs = [] ∧ r.G a = some (exo a (p.CA c) none)) ∨ ∃ dd vfs, r.G a = some (exo a (p.CA c) (some dd)) ∧ r.G dd = some (exd dd vfs) ∧ vfs.map (·.1) = fs.map p.FN ∧ RVs p r xs (vfs.map (·.2)))
  | .ref n, v => ∃ a, r.ρ[n]? = some a ∧ v = .ref a
def RVs (p : Px) (r : Rp) : List D → List V → Prop
  | [], vs => vs = []
  | x :: xs, vs => ∃ v us, vs = v :: us ∧ RV p r x v ∧ RVs p r xs us
end

section
variable {p : Px} {r r' : Rp}
theorem RVs.length : ∀ {xs : List D} {vs : List V}, RVs p r xs vs → xs.length = vs.length
  | [], vs, h => by
    have e : vs = [] := by simpa [RVs] using h
    rw [e]
    rfl
  | x :: xs, vs, h => by
    obtain ⟨v, us, e, _, h2⟩ := (show ∃ v us, vs = v :: us ∧ RV p r x v ∧ RVs p r xs us by simpa [RVs] using h)
    rw [e, List.length_cons, List.length_cons, RVs.length h2]
theorem RVs.nil : RVs p r [] [] := by simp [RVs]
theorem RVs.cons {x : D} {xs : List D} {v : V} {vs : List V} (h : RV p r x v) (t : RVs p r xs vs) : RVs p r (x :: xs) (v :: vs) := by
  simp only [RVs]
  exact ⟨v, vs, rfl, h, t⟩
theorem RVs.cons_inv {x : D} {xs : List D} {vs : List V} (h : RVs p r (x :: xs) vs) : ∃ v us, vs = v :: us ∧ RV p r x v ∧ RVs p r xs us := by
  simpa [RVs] using h
theorem RVs.nil_inv {vs : List V} (h : RVs p r [] vs) : vs = [] := by simpa [RVs] using h
theorem RVs.get : ∀ {xs : List D} {vs : List V} {i : Nat} {x : D}, RVs p r xs vs → xs[i]? = some x → ∃ v, vs[i]? = some v ∧ RV p r x v
  | [], _, _, _, _, e => by simp at e
  | y :: xs, vs, 0, x, h, e => by
    obtain ⟨v, us, ev, h1, _⟩ := h.cons_inv
    have : y = x := by simpa using e
    subst this
    exact ⟨v, by rw [ev] <;> rfl, h1⟩
  | y :: xs, vs, i + 1, x, h, e => by
    obtain ⟨v, us, ev, _, h2⟩ := h.cons_inv
    obtain ⟨w, hw, rw'⟩ := RVs.get (i := i) (x := x) h2 (by simpa using e)
    exact ⟨w, by rw [ev]; simpa using hw, rw'⟩
theorem RVs.append : ∀ {xs ys : List D} {vs us : List V}, RVs p r xs vs → RVs p r ys us → RVs p r (xs ++ ys) (vs ++ us)
  | [], ys, vs, us, h, t => by rw [h.nil_inv]; exact t
  | x :: xs, ys, vs, us, h, t => by
    obtain ⟨v, ws, e, h1, h2⟩ := h.cons_inv
    rw [e]
    exact RVs.cons h1 (RVs.append h2 t)
theorem RVs.append_inv : ∀ {xs ys : List D} {ws : List V}, RVs p r (xs ++ ys) ws → ∃ vs us, ws = vs ++ us ∧ RVs p r xs vs ∧ RVs p r ys us
  | [], ys, ws, h => ⟨[], ws, rfl, .nil, h⟩
  | x :: xs, ys, ws, h => by
    obtain ⟨v, us, e, h1, h2⟩ := RVs.cons_inv (show RVs p r (x :: (xs ++ ys)) ws from h)
    obtain ⟨a, b, e2, h3, h4⟩ := RVs.append_inv h2
    exact ⟨v :: a, b, by rw [e, e2] <;> rfl, .cons h1 h3, h4⟩
theorem RVs.take : ∀ {xs : List D} {vs : List V} (n : Nat), RVs p r xs vs → RVs p r (xs.take n) (vs.take n)
  | _, _, 0, _ => by rw [List.take_zero, List.take_zero]; exact .nil
  | [], vs, n + 1, h => by rw [h.nil_inv]; exact .nil
  | x :: xs, vs, n + 1, h => by
    obtain ⟨v, us, e, h1, h2⟩ := h.cons_inv
    rw [e, List.take_succ_cons, List.take_succ_cons]
    exact .cons h1 (RVs.take n h2)
theorem RVs.drop : ∀ {xs : List D} {vs : List V} (n : Nat), RVs p r xs vs → RVs p r (xs.drop n) (vs.drop n)
  | _, _, 0, h => by rw [List.drop_zero, List.drop_zero]; exact h
  | [], vs, n + 1, h => by rw [h.nil_inv]; exact .nil
  | x :: xs, vs, n + 1, h => by
    obtain ⟨v, us, e, h1, h2⟩ := h.cons_inv
    rw [e, List.drop_succ_cons, List.drop_succ_cons]
    exact RVs.drop n h2
theorem RVs.set : ∀ {xs : List D} {vs : List V} {x : D} {v : V} (n : Nat), RVs p r xs vs → RV p r x v → RVs p r (xs.set n x) (vs.set n v)
  | [], vs, x, v, n, h, t => by rw [h.nil_inv]; exact .nil
  | y :: xs, vs, x, v, 0, h, t => by
    obtain ⟨u, us, e, h1, h2⟩ := h.cons_inv
    rw [e]
    exact .cons t h2
  | y :: xs, vs, x, v, n + 1, h, t => by
    obtain ⟨u, us, e, h1, h2⟩ := h.cons_inv
    rw [e]
    exact .cons h1 (RVs.set n h2 t)
theorem RVs.eraseIdx : ∀ {xs : List D} {vs : List V} (n : Nat), RVs p r xs vs → RVs p r (xs.eraseIdx n) (vs.eraseIdx n)
  | [], vs, n, h => by rw [h.nil_inv]; exact .nil
  | y :: xs, vs, 0, h => by
    obtain ⟨u, us, e, h1, h2⟩ := h.cons_inv
    rw [e]
    exact h2
  | y :: xs, vs, n + 1, h => by
    obtain ⟨u, us, e, h1, h2⟩ := h.cons_inv
    rw [e]
    exact .cons h1 (RVs.eraseIdx n h2)
theorem RVs.reverse : ∀ {xs : List D} {vs : List V}, RVs p r xs vs → RVs p r xs.reverse vs.reverse
  | [], vs, h => by rw [h.nil_inv]; exact .nil
  | x :: xs, vs, h => by
    obtain ⟨v, us, e, h1, h2⟩ := h.cons_inv
    rw [e, List.reverse_cons, List.reverse_cons]
    exact RVs.append (RVs.reverse h2) (.cons h1 .nil)
theorem RVs.dropLast {xs : List D} {vs : List V} (h : RVs p r xs vs) : RVs p r xs.dropLast vs.dropLast := by
  rw [List.dropLast_eq_take, List.dropLast_eq_take, h.length]
  exact h.take _
theorem rvs_ints : ∀ ns : List Int, RVs p r (ns.map D.int) (ns.map V.int)
  | [] => .nil
  | n :: ns => .cons (by simp [RV]) (rvs_ints ns)

/-! ### more heap, more cells -/
theorem sqT_le {K : PySem.W.Frag} {G G' : Hp} (h : ∀ a o, G a = some o → G' a = some o) {a : Addr} {xs : List V} (q : SqT K G a xs) : SqT K G' a xs := by
  rcases q with q | q
  · rcases q with q | ⟨o, q⟩
    · exact .inl (.inl (h _ _ q))
    · exact .inl (.inr ⟨o, h _ _ q⟩)
  · exact .inr q
theorem sqL_le {K : PySem.W.Frag} {G G' : Hp} (h : ∀ a o, G a = some o → G' a = some o) {a : Addr} {xs : List V} (q : SqL K G a xs) : SqL K G' a xs := by
  rcases q with q | q
  · rcases q with q | ⟨o, q⟩
    · exact .inl (.inl (h _ _ q))
    · exact .inl (.inr ⟨o, h _ _ q⟩)
  · exact .inr q
mutual
theorem RV.mono (h : r.le r') : ∀ {d : D} {v : V}, RV p r d v → RV p r' d v
  | .non, v, q => by simpa [RV] using q
  | .bl b, v, q => by simpa [RV] using q
  | .int i, v, q => by simpa [RV] using q
  | .str s, v, q => by simpa [RV] using q
  | .cls c, v, q => by simpa [RV] using q
  | .ty c, v, q => by simpa [RV] using q
  | .tup xs, v, q => by
    simp only [RV] at q ⊢
    obtain ⟨a, vs, e, s, t⟩ := q
    exact ⟨a, vs, e, h.sub _ _ s, RVs.mono h t⟩
  | .lst xs, v, q => by
    simp only [RV] at q ⊢
    obtain ⟨a, vs, e, s, t⟩ := q
    exact ⟨a, vs, e, h.sub _ _ s, RVs.mono h t⟩
  | .scr xs, v, q => by
    simp only [RV] at q ⊢
    obtain ⟨a, vs, e, s, t⟩ := q
    exact ⟨a, vs, e, sqL_le h.sub s, RVs.mono h t⟩
  | .dct ks xs, v, q => by
    simp only [RV] at q ⊢
    obtain ⟨a, o, vs, e, s, k, t⟩ := q
    exact ⟨a, o, vs, e, h.sub _ _ s, k, RVs.mono h t⟩
  | .ins c fs xs, v, q => by
    simp only [RV] at q ⊢
    obtain ⟨a, dx, vfs, e, s, k, t⟩ := q
    exact ⟨a, dx, vfs, e, h.sub _ _ s, k, RVs.mono h t⟩
  | .exc c fs xs, v, q => by
    simp only [RV] at q ⊢
    obtain ⟨a, e, q⟩ := q
    refine ⟨a, e, ?_⟩
    rcases q with ⟨z1, z2, z3⟩ | ⟨dd, vfs, z1, z2, z3, t⟩
    · exact .inl ⟨z1, z2, h.sub _ _ z3⟩
    · exact .inr ⟨dd, vfs, h.sub _ _ z1, h.sub _ _ z2, z3, RVs.mono h t⟩
  | .ref n, v, q => by
    simp only [RV] at q ⊢
    obtain ⟨a, e, e2⟩ := q
    exact ⟨a, h.at e, e2⟩
theorem RVs.mono (h : r.le r') : ∀ {xs : List D} {vs : List V}, RVs p r xs vs → RVs p r' xs vs
  | [], vs, q => by rw [q.nil_inv]; exact .nil
  | x :: xs, vs, q => by
    obtain ⟨v, us, e, h1, h2⟩ := q.cons_inv
    rw [e]
    exact .cons (RV.mono h h1) (RVs.mono h h2)
end
/-- a tree without references asks nothing of the cells -/
theorem RV.pure {G G' : Hp} {ρ ρ' : List Addr} (hG : ∀ a o, G a = some o → G' a = some o) : (∀ {d : D} {v : V}, d.noRef = true → RV p ⟨ρ, G⟩ d v → RV p ⟨ρ', G'⟩ d v) ∧
    (∀ {xs : List D} {vs : List V}, D.noRefs xs = true → RVs p ⟨ρ, G⟩ xs vs → RVs p ⟨ρ', G'⟩ xs vs) := by
  have hle : ∀ a o, (⟨ρ, G⟩ : Rp).G a = some o → (⟨ρ', G'⟩ : Rp).G a = some o := hG
  refine ⟨fun {d v} => ?_, fun {xs vs} => ?_⟩
  · exact D.rec (motive_1 := fun d => ∀ v, d.noRef = true → RV p ⟨ρ, G⟩ d v → RV p ⟨ρ', G'⟩ d v) (motive_2 := fun xs => ∀ vs, D.noRefs xs = true → RVs p ⟨ρ, G⟩ xs vs → RVs p ⟨ρ', G'⟩ xs vs)
      (fun v _ q => by simpa [RV] using q) (fun b v _ q => by simpa [RV] using q) (fun b v _ q => by simpa [RV] using q) (fun b v _ q => by simpa [RV] using q) (fun b v _ q => by simpa [RV] using q) (fun b v _ q => by simpa [RV] using q)
      (fun xs ih v n q => by
        simp only [RV] at q ⊢
        obtain ⟨a, vs, e, s, t⟩ := q
        exact ⟨a, vs, e, hG _ _ s, ih vs (by simpa [D.noRef] using n) t⟩)
      (fun xs ih v n q => by
        simp only [RV] at q ⊢
        obtain ⟨a, vs, e, s, t⟩ := q
        exact ⟨a, vs, e, hG _ _ s, ih vs (by simpa [D.noRef] using n) t⟩)
      (fun xs ih v n q => by
        simp only [RV] at q ⊢
        obtain ⟨a, vs, e, s, t⟩ := q
        exact ⟨a, vs, e, sqL_le hG s, ih vs (by simpa [D.noRef] using n) t⟩)
      (fun ks xs ihk ih v n q => by
        simp only [RV] at q ⊢
        obtain ⟨a, o, vs, e, s, k, t⟩ := q
        have n2 : D.noRefs ks = true ∧ D.noRefs xs = true := by simpa [D.noRef] using n
        exact ⟨a, o, vs, e, hG _ _ s, k, ih vs n2.2 t⟩)
      (fun c fs xs ih v n q => by
        simp only [RV] at q ⊢
        obtain ⟨a, dx, vfs, e, s, k, t⟩ := q
        exact ⟨a, dx, vfs, e, hG _ _ s, k, ih _ (by simpa [D.noRef] using n) t⟩)
      (fun c fs xs ih v n q => by
        simp only [RV] at q ⊢
        obtain ⟨a, e, q⟩ := q
        refine ⟨a, e, ?_⟩
        rcases q with ⟨z1, z2, z3⟩ | ⟨dd, vfs, z1, z2, z3, t⟩
        · exact .inl ⟨z1, z2, hG _ _ z3⟩
        · exact .inr ⟨dd, vfs, hG _ _ z1, hG _ _ z2, z3, ih _ (by simpa [D.noRef] using n) t⟩)
      (fun n v hn _ => by simp [D.noRef] at hn)
      (fun vs _ q => by rw [q.nil_inv]; exact .nil)
      (fun x xs ih1 ih2 vs n q => by
        obtain ⟨v, us, e, h1, h2⟩ := q.cons_inv
        have n2 : x.noRef = true ∧ D.noRefs xs = true := by simpa [D.noRefs] using n
        rw [e]
        exact .cons (ih1 v n2.1 h1) (ih2 us n2.2 h2))
      d v
  · exact D.rec_1 (motive_1 := fun d => ∀ v, d.noRef = true → RV p ⟨ρ, G⟩ d v → RV p ⟨ρ', G'⟩ d v) (motive_2 := fun xs => ∀ vs, D.noRefs xs = true → RVs p ⟨ρ, G⟩ xs vs → RVs p ⟨ρ', G'⟩ xs vs)
      (fun v _ q => by simpa [RV] using q) (fun b v _ q => by simpa [RV] using q) (fun b v _ q => by simpa [RV] using q) (fun b v _ q => by simpa [RV] using q) (fun b v _ q => by simpa [RV] using q) (fun b v _ q => by simpa [RV] using q)
      (fun xs ih v n q => by
        simp only [RV] at q ⊢
        obtain ⟨a, vs, e, s, t⟩ := q
        exact ⟨a, vs, e, hG _ _ s, ih vs (by simpa [D.noRef] using n) t⟩)
      (fun xs ih v n q => by
        simp only [RV] at q ⊢
        obtain ⟨a, vs, e, s, t⟩ := q
        exact ⟨a, vs, e, hG _ _ s, ih vs (by simpa [D.noRef] using n) t⟩)
      (fun xs ih v n q => by
        simp only [RV] at q ⊢
        obtain ⟨a, vs, e, s, t⟩ := q
        exact ⟨a, vs, e, sqL_le hG s, ih vs (by simpa [D.noRef] using n) t⟩)
      (fun ks xs ihk ih v n q => by
        simp only [RV] at q ⊢
        obtain ⟨a, o, vs, e, s, k, t⟩ := q
        have n2 : D.noRefs ks = true ∧ D.noRefs xs = true := by simpa [D.noRef] using n
        exact ⟨a, o, vs, e, hG _ _ s, k, ih vs n2.2 t⟩)
      (fun c fs xs ih v n q => by
        simp only [RV] at q ⊢
        obtain ⟨a, dx, vfs, e, s, k, t⟩ := q
        exact ⟨a, dx, vfs, e, hG _ _ s, k, ih _ (by simpa [D.noRef] using n) t⟩)
      (fun c fs xs ih v n q => by
        simp only [RV] at q ⊢
        obtain ⟨a, e, q⟩ := q
        refine ⟨a, e, ?_⟩
        rcases q with ⟨z1, z2, z3⟩ | ⟨dd, vfs, z1, z2, z3, t⟩
        · exact .inl ⟨z1, z2, hG _ _ z3⟩
        · exact .inr ⟨dd, vfs, hG _ _ z1, hG _ _ z2, z3, ih _ (by simpa [D.noRef] using n) t⟩)
      (fun n v hn _ => by simp [D.noRef] at hn)
      (fun vs _ q => by rw [q.nil_inv]; exact .nil)
      (fun x xs ih1 ih2 vs n q => by
        obtain ⟨v, us, e, h1, h2⟩ := q.cons_inv
        have n2 : x.noRef = true ∧ D.noRefs xs = true := by simpa [D.noRefs] using n
        rw [e]
        exact .cons (ih1 v n2.1 h1) (ih2 us n2.2 h2))
      xs vs
end

theorem nodup_ix {α : Type} : ∀ {l : List α} {i j : Nat} {a : α}, l.Nodup → l[i]? = some a → l[j]? = some a → i = j
  | [], _, _, _, _, e, _ => by simp at e
  | x :: l, 0, 0, _, _, _, _ => rfl
  | x :: l, 0, j + 1, a, h, e1, e2 => by
    have h1 : x = a := by simpa using e1
    have h2 : a ∈ l := List.mem_of_getElem? (by simpa using e2)
    exact absurd (h1 ▸ h2) (List.nodup_cons.mp h).1
  | x :: l, i + 1, 0, a, h, e1, e2 => by
    have h1 : x = a := by simpa using e2
    have h2 : a ∈ l := List.mem_of_getElem? (by simpa using e1)
    exact absurd (h1 ▸ h2) (List.nodup_cons.mp h).1
  | x :: l, i + 1, j + 1, a, h, e1, e2 => by
    have := nodup_ix (l := l) (i := i) (j := j) (a := a) (List.nodup_cons.mp h).2 (by simpa using e1) (by simpa using e2)
    omega

/-! ### heaps -/
/-- the cell c stands at a -/
def RC (p : Px) (r : Rp) (H : Hp) (a : Addr) : Cell → Prop
  | .lst xs => ∃ vs, H a = some (.lst vs) ∧ RVs p r xs vs
  | .dct ks xs => ∃ o vs, H a = some o ∧ DctOf o ks vs ∧ RVs p r xs vs
  | .ins c fs xs => ∃ dx vfs, H a = some (.ins (p.CA c) dx vfs) ∧ vfs.map (·.1) = fs.map p.FN ∧ RVs p r xs (vfs.map (·.2))
theorem RC.mono {p : Px} {r r' : Rp} {H : Hp} {a : Addr} (h : r.le r') : ∀ {c : Cell}, RC p r H a c → RC p r' H a c
  | .lst xs, ⟨vs, e, t⟩ => ⟨vs, e, t.mono h⟩
  | .dct ks xs, ⟨o, vs, e, k, t⟩ => ⟨o, vs, e, k, t.mono h⟩
  | .ins c fs xs, ⟨dx, vfs, e, k, t⟩ => ⟨dx, vfs, e, k, t.mono h⟩
theorem RC.heap {p : Px} {r : Rp} {H H' : Hp} {a : Addr} (h : H' a = H a) : ∀ {c : Cell}, RC p r H a c → RC p r H' a c
  | .lst xs, ⟨vs, e, t⟩ => ⟨vs, by rw [h]; exact e, t⟩
  | .dct ks xs, ⟨o, vs, e, k, t⟩ => ⟨o, vs, by rw [h]; exact e, k, t⟩
  | .ins c fs xs, ⟨dx, vfs, e, k, t⟩ => ⟨dx, vfs, by rw [h]; exact e, k, t⟩

/-- the heap hp lies in H; for each bound b of bs the cells below b lean on cells below b alone -/
structure RH (p : Px) (bs : List Nat) (r : Rp) (hp : List Cell) (H : Hp) : Prop where
  sub : ∀ a o, r.G a = some o → H a = some o
  off : ∀ a ∈ r.ρ, r.G a = none
  nd : r.ρ.Nodup
  len : r.ρ.length = hp.length
  cell : ∀ (n : Nat) (a : Addr) (c : Cell), r.ρ[n]? = some a → hp[n]? = some c → RC p r H a c
  clo : ∀ b ∈ bs, ∀ (n : Nat) (a : Addr) (c : Cell), n < b → r.ρ[n]? = some a → hp[n]? = some c → RC p ⟨r.ρ.take b, r.G⟩ H a c
  bsl : ∀ b ∈ bs, b ≤ hp.length
/-- the slots -/
def RE (p : Px) (r : Rp) (env : List (Option D)) (σ : St) : Prop := env.length = σ.length ∧ (∀ (i : Nat) (d : D), env[i]? = some (some d) → ∃ v, σ[i]? = some (some v) ∧ RV p r d v) ∧ p.F r σ
theorem RE.mono {p : Px} {r r' : Rp} {env : List (Option D)} {σ : St} (h : r.le r') (e : RE p r env σ) : RE p r' env σ := ⟨e.1, fun i d q => by
  obtain ⟨v, e1, e2⟩ := e.2.1 i d q
  exact ⟨v, e1, e2.mono h⟩, p.Fm r r' σ h e.2.2⟩
theorem RE.setF {p : Px} {r : Rp} {env : List (Option D)} {σ : St} {i : Nat} {d : D} {v : V} (e : RE p r env σ) (h : RV p r d v) (hF : p.F r (σ.set i (some v))) : RE p r (env.set i (some d)) (σ.set i (some v)) := by
  refine ⟨by rw [List.length_set, List.length_set, e.1], fun j x q => ?_, hF⟩
  by_cases hj : i = j
  · subst hj
    have hl : i < env.length := by
      have := (List.getElem?_eq_some_iff.mp q).1
      simpa using this
    rw [List.getElem?_set_self hl] at q
    have : d = x := by simpa using q
    subst this
    exact ⟨v, by rw [List.getElem?_set_self (by rw [← e.1]; exact hl)], h⟩
  · rw [List.getElem?_set_ne hj] at q
    obtain ⟨w, e1, e2⟩ := e.2.1 j x q
    exact ⟨w, by rw [List.getElem?_set_ne hj]; exact e1, e2⟩
theorem RE.set {p : Px} [fr : p.Free] {r : Rp} {env : List (Option D)} {σ : St} {i : Nat} {d : D} {v : V} (e : RE p r env σ) (h : RV p r d v) : RE p r (env.set i (some d)) (σ.set i (some v)) := e.setF h (fr.set r σ i _ e.2.2)
/-- a slot that the evaluator forgets -/
theorem RE.offF {p : Px} {r : Rp} {env : List (Option D)} {σ : St} {i : Nat} {u : Option V} (e : RE p r env σ) (hF : p.F r (σ.set i u)) : RE p r (env.set i none) (σ.set i u) := by
  refine ⟨by rw [List.length_set, List.length_set, e.1], fun j x q => ?_, hF⟩
  by_cases hj : i = j
  · subst hj
    by_cases hl : i < env.length
    · rw [List.getElem?_set_self hl] at q; cases q
    · rw [List.getElem?_eq_none (by rw [List.length_set]; omega)] at q; cases q
  · rw [List.getElem?_set_ne hj] at q ⊢
    exact e.2.1 j x q
theorem RE.off {p : Px} [fr : p.Free] {r : Rp} {env : List (Option D)} {σ : St} {i : Nat} {u : Option V} (e : RE p r env σ) : RE p r (env.set i none) (σ.set i u) := e.offF (fr.set r σ i _ e.2.2)
structure Rel (p : Px) (bs : List Nat) (r : Rp) (s : S) (σ : St) (H : Hp) : Prop where
  hp : RH p bs r s.hp H
  env : RE p r s.env σ
  bl : ∀ b ∈ bs, b ≤ s.base
  bk : s.base ∈ bs

section
variable {p : Px} {bs : List Nat} {r : Rp} {hp : List Cell} {H : Hp}
/-- the frozen part and a new address -/
theorem RH.fresh (h : RH p bs r hp H) {q : Addr} (n : H q = none) : r.G q = none ∧ q ∉ r.ρ := by
  refine ⟨?_, fun hm => ?_⟩
  · cases e : r.G q with
    | none => rfl
    | some o => rw [h.sub _ _ e] at n; cases n
  · obtain ⟨i, hi, e⟩ := List.mem_iff_getElem.mp hm
    have e1 : r.ρ[i]? = some q := by rw [List.getElem?_eq_getElem hi, e]
    have hl : i < hp.length := by rw [← h.len]; exact hi
    have hc := h.cell i q hp[i] e1 (List.getElem?_eq_getElem hl)
    cases hx : hp[i] with
    | lst xs => rw [hx] at hc; obtain ⟨vs, e, _⟩ := hc; rw [n] at e; cases e
    | dct ks xs => rw [hx] at hc; obtain ⟨o, vs, e, _⟩ := hc; rw [n] at e; cases e
    | ins c fs xs => rw [hx] at hc; obtain ⟨dx, vfs, e, _⟩ := hc; rw [n] at e; cases e
/-- the heap grows by a thing that nothing here leans on -/
theorem RH.grow (h : RH p bs r hp H) {q : Addr} {o : HO} (n : H q = none) : RH p bs r hp (upd H q o) := by
  have fr := h.fresh n
  refine ⟨fun a o' e => ?_, h.off, h.nd, h.len, fun i a c e1 e2 => ?_, fun b hb i a c hi e1 e2 => ?_, h.bsl⟩
  · have : a ≠ q := fun z => by rw [z, fr.1] at e; cases e
    rw [upd_ne this]
    exact h.sub _ _ e
  · have : a ≠ q := fun z => fr.2 (z ▸ List.mem_of_getElem? e1)
    exact (h.cell i a c e1 e2).heap (upd_ne this)
  · have : a ≠ q := fun z => fr.2 (z ▸ List.mem_of_getElem? e1)
    exact (h.clo b hb i a c hi e1 e2).heap (upd_ne this)
/-- .. and that is taken into the frozen part -/
theorem RH.ice (h : RH p bs r hp H) {q : Addr} {o : HO} (n : H q = none) : RH p bs ⟨r.ρ, upd r.G q o⟩ hp (upd H q o) ∧ r.le ⟨r.ρ, upd r.G q o⟩ := by
  have fr := h.fresh n
  have g := h.grow (o := o) n
  have le : ∀ ρ, Rp.le ⟨ρ, r.G⟩ ⟨ρ, upd r.G q o⟩ := fun ρ => ⟨⟨[], by simp⟩, fun a o' e => by
    have : a ≠ q := fun z => by rw [z] at e; have e2 : r.G q = some o' := e; rw [fr.1] at e2; cases e2
    show upd r.G q o a = some o'
    rw [upd_ne this]
    exact e⟩
  refine ⟨⟨fun a o' e => ?_, fun a ha => ?_, h.nd, h.len, fun i a c e1 e2 => (g.cell i a c e1 e2).mono (le r.ρ), fun b hb i a c hi e1 e2 => (g.clo b hb i a c hi e1 e2).mono (le _), h.bsl⟩, le r.ρ⟩
  · have e' : upd r.G q o a = some o' := e
    by_cases z : a = q
    · rw [z, upd_same] at e' ⊢
      exact e'
    · rw [upd_ne z] at e' ⊢
      exact h.sub _ _ e'
  · show upd r.G q o a = none
    have : a ≠ q := fun z => fr.2 (z ▸ ha)
    rw [upd_ne this]
    exact h.off a ha
/-- a new cell -/
theorem RH.new (h : RH p bs r hp H) {q : Addr} {o : HO} {c : Cell} (n : H q = none) (hc : ∀ H', H' q = some o → RC p r H' q c) : RH p bs ⟨r.ρ ++ [q], r.G⟩ (hp ++ [c]) (upd H q o) ∧ r.le ⟨r.ρ ++ [q], r.G⟩ := by
  have fr := h.fresh n
  have g := h.grow (o := o) n
  have le : r.le ⟨r.ρ ++ [q], r.G⟩ := ⟨⟨[q], rfl⟩, fun _ _ e => e⟩
  refine ⟨⟨g.sub, fun a ha => ?_, ?_, ?_, fun i a c' e1 e2 => ?_, fun b hb i a c' hi e1 e2 => ?_, fun b hb => ?_⟩, le⟩
  · rcases List.mem_append.mp ha with ha | ha
    · exact h.off a ha
    · have : a = q := by simpa using ha
      rw [this]
      exact fr.1
  · rw [List.nodup_append]
    refine ⟨h.nd, by simp, fun a ha b hb => ?_⟩
    have : b = q := by simpa using hb
    rw [this]
    exact fun z => fr.2 (z ▸ ha)
  · rw [List.length_append, List.length_append, h.len] <;> rfl
  · by_cases hi : i < hp.length
    · rw [List.getElem?_append_left hi] at e2
      have e1' : (r.ρ ++ [q])[i]? = some a := e1
      rw [List.getElem?_append_left (by rw [h.len]; exact hi)] at e1'
      exact (g.cell i a c' e1' e2).mono le
    · have hz : i = hp.length := by
        have := (List.getElem?_eq_some_iff.mp e2).1
        rw [List.length_append, List.length_singleton] at this
        omega
      subst hz
      have e1' : (r.ρ ++ [q])[hp.length]? = some a := e1
      rw [← h.len, List.getElem?_concat_length] at e1'
      rw [List.getElem?_concat_length] at e2
      cases e1'; cases e2
      exact (hc _ upd_same).mono le
  · have hb' := h.bsl b hb
    have hi' : i < hp.length := by omega
    rw [List.getElem?_append_left hi'] at e2
    have e1' : (r.ρ ++ [q])[i]? = some a := e1
    rw [List.getElem?_append_left (by rw [h.len]; exact hi')] at e1'
    show RC p ⟨(r.ρ ++ [q]).take b, r.G⟩ (upd H q o) a c'
    rw [List.take_append_of_le_length (by rw [h.len]; exact hb')]
    exact g.clo b hb i a c' hi e1' e2
  · rw [List.length_append]
    have := h.bsl b hb
    omega
/-- a cell changes: what it holds now leans on no cell that it may not lean on -/
theorem RH.put (h : RH p bs r hp H) {i : Nat} {a : Addr} {o : HO} {c : Cell} (ea : r.ρ[i]? = some a) (hi : i < hp.length) (hc : ∀ H', H' a = some o → RC p r H' a c)
    (hcl : ∀ b ∈ bs, i < b → ∀ H', H' a = some o → RC p ⟨r.ρ.take b, r.G⟩ H' a c) : RH p bs r (hp.set i c) (upd H a o) := by
  have ga : r.G a = none := h.off a (List.mem_of_getElem? ea)
  have ne : ∀ {j : Nat} {b : Addr}, r.ρ[j]? = some b → j ≠ i → b ≠ a := fun {j b} e z y => by
    rw [y] at e
    exact z (nodup_ix h.nd e ea)
  refine ⟨fun b o' e => ?_, h.off, h.nd, by rw [List.length_set]; exact h.len, fun j b c' e1 e2 => ?_, fun b' hb j b c' hj e1 e2 => ?_, fun b hb => by rw [List.length_set]; exact h.bsl b hb⟩
  · have : b ≠ a := fun z => by rw [z, ga] at e; cases e
    rw [upd_ne this]
    exact h.sub _ _ e
  · by_cases z : j = i
    · subst z
      rw [List.getElem?_set_self hi] at e2
      cases e2
      rw [ea] at e1
      cases e1
      exact hc _ upd_same
    · rw [List.getElem?_set_ne (Ne.symm z)] at e2
      exact (h.cell j b c' e1 e2).heap (upd_ne (ne e1 z))
  · by_cases z : j = i
    · subst z
      rw [List.getElem?_set_self hi] at e2
      cases e2
      rw [ea] at e1
      cases e1
      exact hcl b' hb hj _ upd_same
    · rw [List.getElem?_set_ne (Ne.symm z)] at e2
      exact (h.clo b' hb j b c' hj e1 e2).heap (upd_ne (ne e1 z))
end
end Den
end

-- DenC
section
set_option maxHeartbeats 1000000
/-! Den, the readings: what a piece of syntax does, by its outcome in Den. Expressions. -/
namespace Den
open PySem PySem.Spec L2

/-- the exception's fields lie at its own dict -/
def RX (p : Px) (r : Rp) (H : Hp) (fs : List Nat) (xs : List D) (cd : Option Addr) : Prop :=
  (fs = [] ∧ xs = [] ∧ cd = none) ∨ ∃ dd vfs, cd = some dd ∧ H dd = some (.xd vfs) ∧ vfs.map (·.1) = fs.map p.FN ∧ RVs p r xs (vfs.map (·.2))

/-- what is wanted behind an outcome -/
def Po {α β : Type} (p : Px) (bs : List Nat) (r : Rp) (σ : L2.St) (W : WX) (rel : Rp → α → β → Prop) (Q : β → Hp → Prop) : Out α → Prop
  | .ok a s => ∀ r' H' v, r.le r' → Rel p bs r' s σ H' → rel r' a v → Q v H'
  | .exn c fs xs s => ∀ r' H' cd, r.le r' → Rel p bs r' s σ H' → RX p r' H' fs xs cd → W (.ref (p.CA c)) cd σ H'
  | .bad => False
def tG {α β : Type} (p : Px) (W : WX) (rel : Rp → α → β → Prop) (f : S → Out α) : L2.St → Hp → (β → Hp → Prop) → Prop := fun σ H Q =>
  ∃ bs r s, Rel p bs r s σ H ∧ Po p bs r σ W rel Q (f s)
abbrev relT : Rp → Bool → Bool → Prop := fun _ b c => c = b
abbrev tE (p : Px) (W : WX) (f : SemE) : TE := tG p W (RV p) f
abbrev tT (p : Px) (W : WX) (f : SemT) : TT := tG p W relT f
abbrev tA (p : Px) (W : WX) (f : SemA) : TA := tG p W (RVs p) f

section
variable {α β γ δ : Type} {p : Px} {bs : List Nat} {r r' : Rp} {σ : L2.St} {W : WX} {rel : Rp → α → β → Prop} {rel2 : Rp → γ → δ → Prop} {Q Q' : β → Hp → Prop} {s : S} {H : Hp}
theorem Po.mono {o : Out α} (h : Po p bs r σ W rel Q o) (l : r.le r') (hQ : ∀ v H, Q v H → Q' v H) : Po p bs r' σ W rel Q' o := by
  cases o with
  | ok a s => exact fun r2 H' v l2 R e => hQ _ _ (h r2 H' v (l.trans l2) R e)
  | exn c fs xs s => exact fun r2 H' cd l2 R e => h r2 H' cd (l.trans l2) R e
  | bad => exact h
theorem tG.mono {f : S → Out α} (h : tG p W rel f σ H Q) (hQ : ∀ v H, Q v H → Q' v H) : tG p W rel f σ H Q' := by
  obtain ⟨bs, r, s, R, po⟩ := h
  exact ⟨bs, r, s, R, po.mono (Rp.le.refl r) hQ⟩
theorem Po.bind {f : S → Out α} {g : α → S → Out γ} {Q : δ → Hp → Prop} (R : Rel p bs r s σ H) (h : Po p bs r σ W rel2 Q ((f s).bind g)) :
    tG p W rel f σ H (fun v H' => ∃ r' a s', r.le r' ∧ Rel p bs r' s' σ H' ∧ rel r' a v ∧ Po p bs r' σ W rel2 Q (g a s')) := by
  refine ⟨bs, r, s, R, ?_⟩
  cases e : f s with
  | ok a s' =>
    rw [e] at h
    exact fun r' H' v l R' q => ⟨r', a, s', l, R', q, h.mono l fun _ _ z => z⟩
  | exn c fs xs s' =>
    rw [e] at h
    exact h
  | bad =>
    rw [e] at h
    exact False.elim h
end
section
variable {X : Cx} {p : Px} {W : WX}
theorem PE.by {e : Expr} {t t' : TE} (h : PE X e t) (ht : ∀ σ H Q, t' σ H Q → t σ H Q) : PE X e t' := ⟨fun pins s σ H Q I q => h.run pins s σ H Q I (ht σ H Q q)⟩
theorem PT.by {e : Expr} {t t' : TT} (h : PT X e t) (ht : ∀ σ H Q, t' σ H Q → t σ H Q) : PT X e t' := ⟨fun pins s σ H Q I q => h.run pins s σ H Q I (ht σ H Q q)⟩
theorem PW.by {e : Expr} {t t' : TT} (h : PW X e t) (ht : ∀ σ H Q, t' σ H Q → t σ H Q) : PW X e t' := ⟨fun w pins s σ H Q I q => h.run w pins s σ H Q I (ht σ H Q q)⟩
theorem PA.by {es : List Expr} {t t' : TA} (h : PA X es t) (ht : ∀ σ H Q, t' σ H Q → t σ H Q) : PA X es t' := ⟨fun pos pins s σ H Q I q => h.run pos pins s σ H Q I (ht σ H Q q)⟩

/-! ### names, constants -/
def varE (i : Nat) : SemE := fun s => match s.env[i]? with
  | some (some d) => .ok d s
  | _ => .bad
def conE (d : D) : SemE := fun s => .ok d s
theorem pe_varE {i : Nat} {x : Str} {pos : Pos} (hN : X.N[i]? = some x) (hv : Vis X.env.scope x) (hd : (x == ("__debug__" : Str)) = false) (hcd : (x == ("__classdict__" : Str)) = false) : PE X (.Name x pos) (tE p W (varE i)) := by
  refine PE.by (pe_var hN hv hd hcd) fun σ H Q ⟨bs, r, s, R, po⟩ => ?_
  unfold varE at po
  split at po
  · rename_i d e
    obtain ⟨v, e1, e2⟩ := R.env.2.1 i d e
    exact ⟨v, e1, po r H v (Rp.le.refl r) R e2⟩
  · exact False.elim po
theorem con_of {t : TE} {e : Expr} {d : D} {v : V} (h : PE X e (tC v)) (hv : ∀ r, RV p r d v) : PE X e (tE p W (conE d)) :=
  PE.by h fun σ H Q ⟨bs, r, s, R, po⟩ => po r H v (Rp.le.refl r) R (hv r)

/-! ### operations on values -/
/-- what an operation gives: a value, or a new cell -/
inductive VO where
  | val (d : D) | new (c : Cell) | bad
def VO.on (s : S) : VO → Out D
  | .val d => .ok d s
  | .new c => .ok (.ref s.hp.length) { s with hp := s.hp ++ [c] }
  | .bad => .bad
def VoP (p : Px) (bs : List Nat) (r : Rp) (hp : List Cell) (Q : VK) : VO → Prop
  | .val d => ∀ r' H' v, r.le r' → RH p bs r' hp H' → RV p r' d v → Q v H'
  | .new c => ∀ r' H' v, r.le r' → RH p bs r' (hp ++ [c]) H' → RV p r' (.ref hp.length) v → Q v H'
  | .bad => False
theorem Po.vo {bs : List Nat} {r : Rp} {s : S} {σ : L2.St} {H : Hp} {Q : VK} {o : VO} (R : Rel p bs r s σ H) (h : Po p bs r σ W (RV p) Q (o.on s)) : VoP p bs r s.hp Q o := by
  cases o with
  | val d => exact fun r' H' v l RR q => h r' H' v l ⟨RR, R.env.mono l, R.bl, R.bk⟩ q
  | new c => exact fun r' H' v l RR q => h r' H' v l ⟨RR, R.env.mono l, R.bl, R.bk⟩ q
  | bad => exact h
abbrev V1 := D → List Cell → VO
abbrev V2 := D → D → List Cell → VO
abbrev VA := List D → List Cell → VO
def r1 (p : Px) (f : V1) : V → Hp → VK → Prop := fun x H Q => ∃ bs r hp d, RH p bs r hp H ∧ RV p r d x ∧ VoP p bs r hp Q (f d hp)
def r2 (p : Px) (f : V2) : R2 := fun x y H Q => ∃ bs r hp d e, RH p bs r hp H ∧ RV p r d x ∧ RV p r e y ∧ VoP p bs r hp Q (f d e hp)
def rA (p : Px) (f : VA) : List V → Hp → VK → Prop := fun vs H Q => ∃ bs r hp xs, RH p bs r hp H ∧ RVs p r xs vs ∧ VoP p bs r hp Q (f xs hp)
def un (f : V1) (a : SemE) : SemE := fun s => (a s).bind fun d s => (f d s.hp).on s
def bin (f : V2) (a b : SemE) : SemE := fun s => (a s).bind fun d s => (b s).bind fun e s => (f d e s.hp).on s
section
variable {a b : Expr} {fa fb : SemE} {pos : Pos}
theorem bin_of {f : V2} {σ : L2.St} {H : Hp} {Q : VK} (h : tE p W (bin f fa fb) σ H Q) : tOp (r2 p f) (tE p W fa) (tE p W fb) σ H Q := by
  obtain ⟨bs, r, s, R, po⟩ := h
  refine tG.mono (Po.bind (rel := RV p) R po) fun x H1 ⟨r1, d, s1, l1, R1, q1, po1⟩ => ?_
  refine tG.mono (Po.bind (rel := RV p) R1 po1) fun y H2 ⟨r2', e, s2, l2, R2', q2, po2⟩ => ?_
  exact ⟨bs, r2', s2.hp, d, e, R2'.hp, q1.mono l2, q2, po2.vo R2'⟩
theorem pe_bin {op : Operator} {f : V2} (ho : OpR X (binaryOp op) (r2 p f)) (ha : PE X a (tE p W fa)) (hb : PE X b (tE p W fb)) : PE X (.BinOp a op b pos) (tE p W (bin f fa fb)) :=
  PE.by (pe_op ho ha hb) fun _ _ _ h => bin_of h
theorem pe_una {op : UnaryOp} {f : V1} (ho : UnR X (unaryOp op) (r1 p f)) (ha : PE X a (tE p W fa)) : PE X (.UnaryOp op a pos) (tE p W (un f fa)) :=
  PE.by (pe_un ho ha) fun σ H Q ⟨bs, r, s, R, po⟩ => tG.mono (Po.bind (rel := RV p) R po) fun x H1 ⟨r1', d, s1, l1, R1, q1, po1⟩ => ⟨bs, r1', s1.hp, d, R1.hp, q1, po1.vo R1⟩
theorem pe_cmpE {op : CmpOp} {f : V2} (ho : OpR X (compareOp op) (r2 p f)) (ha : PE X a (tE p W fa)) (hb : PE X b (tE p W fb)) (hm : behindInMarks op b = false) : PE X (.Compare a [op] [b] pos) (tE p W (bin f fa fb)) :=
  PE.by (pe_cmpR ho ha hb hm) fun _ _ _ h => bin_of h
theorem pe_ixE {f : V2} (ho : IxR X (r2 p f)) (ha : PE X a (tE p W fa)) (hb : PE X b (tE p W fb)) (hs : PlainIx b) : PE X (.Subscript a b pos) (tE p W (bin f fa fb)) :=
  PE.by (pe_ix ho ha hb hs) fun _ _ _ h => bin_of h
end

/-! ### arguments, displays -/
def nilA : SemA := fun s => .ok [] s
def consA (a : SemE) (t : SemA) : SemA := fun s => (a s).bind fun d s => (t s).bind fun ds s => .ok (d :: ds) s
def tupE (t : SemA) : SemE := fun s => (t s).bind fun xs s => if xs.length ≤ sizeLine then .ok (.tup xs) s else .bad
def lstE (t : SemA) : SemE := fun s => (t s).bind fun xs s => if xs.length ≤ sizeLine then .ok (.ref s.hp.length) { s with hp := s.hp ++ [.lst xs] } else .bad
section
variable {e : Expr} {es : List Expr} {fe : SemE} {ft : SemA} {pos : Pos}
theorem pa_nilA : PA X [] (tA p W nilA) := PA.by pa_nil fun σ H Q ⟨bs, r, s, R, po⟩ => po r H [] (Rp.le.refl r) R .nil
theorem pa_consA (he : PE X e (tE p W fe)) (ht : PA X es (tA p W ft)) (hs : starEach (e :: es) X.env = (false, eval e X.env) :: starEach es X.env) : PA X (e :: es) (tA p W (consA fe ft)) :=
  PA.by (pa_cons he ht hs) fun σ H Q ⟨bs, r, s, R, po⟩ => by
    refine tG.mono (Po.bind (rel := RV p) R po) fun x H1 ⟨r1, d, s1, l1, R1, q1, po1⟩ => ?_
    refine tG.mono (Po.bind (rel := RVs p) R1 po1) fun xs H2 ⟨r2, ds, s2, l2, R2, q2, po2⟩ => ?_
    exact po2 r2 H2 (x :: xs) (Rp.le.refl r2) R2 (.cons (q1.mono l2) q2)
theorem rv_tup {r : Rp} {xs : List D} {vs : List V} {a : Addr} (h : r.G a = some (.tup vs)) (t : RVs p r xs vs) : RV p r (.tup xs) (.ref a) := by
  simp only [RV]
  exact ⟨a, vs, rfl, h, t⟩
theorem rv_ref {r : Rp} {n : Nat} {a : Addr} (h : r.ρ[n]? = some a) : RV p r (.ref n) (.ref a) := by
  simp only [RV]
  exact ⟨a, h, rfl⟩
/-- a new tuple -/
theorem RH.tup {bs : List Nat} {r : Rp} {hp : List Cell} {H : Hp} {xs : List D} {vs : List V} {q : Addr} (h : RH p bs r hp H) (t : RVs p r xs vs) (n : H q = none) :
    ∃ r', r.le r' ∧ RH p bs r' hp (upd H q (.tup vs)) ∧ RV p r' (.tup xs) (.ref q) := by
  obtain ⟨h', l⟩ := h.ice (o := .tup vs) n
  exact ⟨_, l, h', rv_tup upd_same (t.mono l)⟩
/-- a new list -/
theorem RH.lst {bs : List Nat} {r : Rp} {hp : List Cell} {H : Hp} {xs : List D} {vs : List V} {q : Addr} (h : RH p bs r hp H) (t : RVs p r xs vs) (n : H q = none) :
    ∃ r', r.le r' ∧ RH p bs r' (hp ++ [.lst xs]) (upd H q (.lst vs)) ∧ RV p r' (.ref hp.length) (.ref q) := by
  obtain ⟨h', l⟩ := h.new (o := .lst vs) (c := .lst xs) n fun H' e => ⟨vs, e, t⟩
  refine ⟨_, l, h', rv_ref ?_⟩
  show (r.ρ ++ [q])[hp.length]? = some q
  rw [← h.len, List.getElem?_concat_length]
theorem pe_tupE {k : Nat} (ht : PA X es (tA p W ft)) : PE X (.Tuple es k pos) (tE p W (tupE ft)) :=
  PE.by (pe_tup ht) fun σ H Q ⟨bs, r, s, R, po⟩ => by
    refine tG.mono (Po.bind (rel := RVs p) R po) fun vs H1 ⟨r1, xs, s1, l1, R1, q1, po1⟩ => ?_
    split at po1
    · rename_i hz
      refine ⟨by rw [← q1.length]; exact hz, fun a na => ?_⟩
      obtain ⟨r2, l2, h2, v2⟩ := R1.hp.tup q1 na
      exact po1 r2 _ _ l2 ⟨h2, R1.env.mono l2, R1.bl, R1.bk⟩ v2
    · exact False.elim po1
theorem pe_lstE (ht : PA X es (tA p W ft)) : PE X (.List es pos) (tE p W (lstE ft)) :=
  PE.by (pe_lst ht) fun σ H Q ⟨bs, r, s, R, po⟩ => by
    refine tG.mono (Po.bind (rel := RVs p) R po) fun vs H1 ⟨r1, xs, s1, l1, R1, q1, po1⟩ => ?_
    split at po1
    · rename_i hz
      refine ⟨by rw [← q1.length]; exact hz, fun a na => ?_⟩
      obtain ⟨r2, l2, h2, v2⟩ := R1.hp.lst q1 na
      exact po1 r2 _ _ l2 ⟨h2, R1.env.mono l2, R1.bl, R1.bk⟩ v2
    · exact False.elim po1
end

/-! ### tests -/
def boolE (t : SemT) : SemE := fun s => (t s).bind fun b s => .ok (.bl b) s
def truE (f : D → List Cell → Option Bool) (a : SemE) : SemT := fun s => (a s).bind fun d s => match f d s.hp with
  | some b => .ok b s
  | none => .bad
def andT (a b : SemT) : SemT := fun s => (a s).bind fun c s => if c = true then b s else .ok false s
def orT (a b : SemT) : SemT := fun s => (a s).bind fun c s => if c = true then .ok true s else b s
def notT (a : SemT) : SemT := fun s => (a s).bind fun c s => .ok (!c) s
def ifE (c : SemT) (a b : SemE) : SemE := fun s => (c s).bind fun z s => if z = true then a s else b s
section
variable {a b : Expr} {rest : List Expr} {ga gb : SemT} {fa fb : SemE} {pos : Pos}
theorem pw_and1T (ha : PT X a (tT p W ga)) : PW X (.BoolOp .And [a] pos) (tT p W ga) := pw_and1 ha
theorem pw_or1T (ha : PT X a (tT p W ga)) : PW X (.BoolOp .Or [a] pos) (tT p W ga) := pw_or1 ha
theorem pw_andT (ha : PT X a (tT p W ga)) (hb : PW X (.BoolOp .And (b :: rest) pos) (tT p W gb)) : PW X (.BoolOp .And (a :: b :: rest) pos) (tT p W (andT ga gb)) :=
  PW.by (pw_and ha hb) fun σ H Q ⟨bs, r, s, R, po⟩ => by
    refine tG.mono (Po.bind (rel := relT) R po) fun c H1 ⟨r1, d, s1, l1, R1, q1, po1⟩ => ?_
    have e : c = d := q1
    subst e
    split at po1
    · rename_i hc
      rw [if_pos hc]
      exact ⟨bs, r1, s1, R1, po1⟩
    · rename_i hc
      rw [if_neg hc]
      exact po1 r1 H1 false (Rp.le.refl r1) R1 rfl
theorem pw_orT (ha : PT X a (tT p W ga)) (hb : PW X (.BoolOp .Or (b :: rest) pos) (tT p W gb)) : PW X (.BoolOp .Or (a :: b :: rest) pos) (tT p W (orT ga gb)) :=
  PW.by (pw_or ha hb) fun σ H Q ⟨bs, r, s, R, po⟩ => by
    refine tG.mono (Po.bind (rel := relT) R po) fun c H1 ⟨r1, d, s1, l1, R1, q1, po1⟩ => ?_
    have e : c = d := q1
    subst e
    split at po1
    · rename_i hc
      rw [if_pos hc]
      exact po1 r1 H1 true (Rp.le.refl r1) R1 rfl
    · rename_i hc
      rw [if_neg hc]
      exact ⟨bs, r1, s1, R1, po1⟩
theorem pt_notT (ha : PT X a (tT p W ga)) : PT X (.UnaryOp .Not a pos) (tT p W (notT ga)) :=
  PT.by (pt_not ha) fun σ H Q ⟨bs, r, s, R, po⟩ => by
    refine tG.mono (Po.bind (rel := relT) R po) fun c H1 ⟨r1, d, s1, l1, R1, q1, po1⟩ => ?_
    have e : c = d := q1
    subst e
    exact po1 r1 H1 (!c) (Rp.le.refl r1) R1 rfl
theorem pe_ifE {c : Expr} {gc : SemT} (hc : PT X c (tT p W gc)) (ha : PE X a (tE p W fa)) (hb : PE X b (tE p W fb)) : PE X (.IfExp c a b pos) (tE p W (ifE gc fa fb)) :=
  PE.by (pe_ifExp hc ha hb) fun σ H Q ⟨bs, r, s, R, po⟩ => by
    refine tG.mono (Po.bind (rel := relT) R po) fun z H1 ⟨r1, d, s1, l1, R1, q1, po1⟩ => ?_
    have e : z = d := q1
    subst e
    split at po1
    · rename_i hc
      rw [if_pos hc]
      exact ⟨bs, r1, s1, R1, po1⟩
    · rename_i hc
      rw [if_neg hc]
      exact ⟨bs, r1, s1, R1, po1⟩
end
end
end Den
end

-- DenD
section
set_option maxHeartbeats 1000000
/-! Den, the readings: further tests; statements, loops. -/
namespace Den
open PySem PySem.Spec L2
section
variable {X : Cx} {p : Px} {W : WX}

/-! ### truth -/
def truth (d : D) (hp : List Cell) : Option Bool := match d with
  | .non => some false
  | .bl b => some b
  | .int i => some (i != 0)
  | .str y => if y.length ≤ sizeLine then some ((y.length : Int) != 0) else none
  | .tup xs => some (!xs.isEmpty)
  | .lst xs => some (!xs.isEmpty)
  | .scr xs => some (!xs.isEmpty)
  | .ref n => match hp[n]? with
    | some (.lst xs) => some (!xs.isEmpty)
    | _ => none
  | _ => none
theorem RVs.isEmpty {r : Rp} {xs : List D} {vs : List V} (h : RVs p r xs vs) : xs.isEmpty = vs.isEmpty := by
  cases xs with
  | nil => rw [h.nil_inv] <;> rfl
  | cons x xs =>
    obtain ⟨v, us, e, _, _⟩ := h.cons_inv
    rw [e] <;> rfl
theorem RH.cellAt {bs : List Nat} {r : Rp} {hp : List Cell} {H : Hp} (h : RH p bs r hp H) {n : Nat} {c : Cell} {v : V} (e : hp[n]? = some c) (q : RV p r (.ref n) v) : ∃ a, v = .ref a ∧ r.ρ[n]? = some a ∧ RC p r H a c := by
  have q' : ∃ a, r.ρ[n]? = some a ∧ v = .ref a := by simpa [RV] using q
  obtain ⟨a, ea, ev⟩ := q'
  exact ⟨a, ev, ea, h.cell n a c ea e⟩
theorem truth_ok {bs : List Nat} {r : Rp} {hp : List Cell} {H : Hp} (h : RH p bs r hp H) {d : D} {v : V} {b : Bool} (q : RV p r d v) (e : truth d hp = some b) : TruV p.K v H b := by
  cases d with
  | non => have ev : v = .non := by simpa [RV] using q
           subst ev; have : b = false := by simpa [truth] using e.symm
           exact this
  | bl c => have ev : v = .bl c := by simpa [RV] using q
            subst ev; have : b = c := by simpa [truth] using e.symm
            exact this
  | int i => have ev : v = .int i := by simpa [RV] using q
             subst ev; have : b = (i != 0) := by simpa [truth] using e.symm
             exact this
  | str y =>
    have ev : v = .str y := by simpa [RV] using q
    subst ev
    unfold truth at e
    simp only at e
    split at e
    · rename_i hz
      exact ⟨hz, (Option.some.inj e).symm⟩
    · cases e
  | tup xs =>
    simp only [RV] at q
    obtain ⟨a, vs, rfl, s, t⟩ := q
    have : b = !xs.isEmpty := by simpa [truth] using e.symm
    exact .inr (.inl ⟨vs, .of (h.sub _ _ s), by rw [this, t.isEmpty]⟩)
  | lst xs =>
    simp only [RV] at q
    obtain ⟨a, vs, rfl, s, t⟩ := q
    have : b = !xs.isEmpty := by simpa [truth] using e.symm
    exact .inl ⟨vs, .of (h.sub _ _ s), by rw [this, t.isEmpty]⟩
  | scr xs =>
    simp only [RV] at q
    obtain ⟨a, vs, rfl, s, t⟩ := q
    have : b = !xs.isEmpty := by simpa [truth] using e.symm
    exact .inl ⟨vs, sqL_le h.sub s, by rw [this, t.isEmpty]⟩
  | ref n =>
    unfold truth at e
    simp only at e
    split at e
    · rename_i xs ec
      obtain ⟨a, rfl, ea, vs, eh, t⟩ := h.cellAt ec q
      exact .inl ⟨vs, .inl (.inl eh), by rw [← Option.some.inj e, t.isEmpty]⟩
    · cases e
  | _ => cases e

/-- a head whose test is its value's truth -/
def plainTest : Expr → Bool
  | .UnaryOp .Not _ _ => false
  | .BoolOp _ _ _ => false
  | .IfExp _ _ _ _ => false
  | .Compare _ _ _ _ => false
  | _ => true
theorem plainTest_ok {e : Expr} (h : plainTest e = true) (env : Env) (whole : Sem Value) : isTrue e env whole = (do let v ← whole; standAt e.pos; holding [v] (truthy v)) := by
  cases e with
  | UnaryOp op a pos => cases op <;> first | rfl | cases h
  | BoolOp => cases h
  | IfExp => cases h
  | Compare => cases h
  | _ => rfl
section
variable {a b c : Expr} {rest : List Expr} {fa fb fc : SemE} {ga : SemT} {pos : Pos}
theorem pt_truE (hK : X.K = p.K) (ha : PE X a (tE p W fa)) (he : plainTest a = true) : PT X a (tT p W (truE truth fa)) :=
  PT.by (pt_truth ha fun whole => plainTest_ok he X.env whole) fun σ H Q ⟨bs, r, s, R, po⟩ => by
    refine tG.mono (Po.bind (rel := RV p) R po) fun x H1 ⟨r1, d, s1, l1, R1, q1, po1⟩ => ?_
    split at po1
    · rename_i b e
      exact ⟨b, by rw [hK]; exact truth_ok R1.hp q1 e, po1 r1 H1 b (Rp.le.refl r1) R1 rfl⟩
    · exact False.elim po1
/-- a value that is a bool, as a test -/
def blT (f : SemE) : SemT := fun s => (f s).bind fun d s => match d with
  | .bl b => .ok b s
  | _ => .bad
theorem blT_of {t : TE} {f : SemE} (ht : ∀ σ H Q, tE p W f σ H Q → t σ H Q) {σ : L2.St} {H : Hp} {Q : Bool → Hp → Prop} (h : tT p W (blT f) σ H Q) : tTest t σ H Q := by
  obtain ⟨bs, r, s, R, po⟩ := h
  refine ht σ H _ (tG.mono (Po.bind (rel := RV p) R po) fun x H1 ⟨r1, d, s1, l1, R1, q1, po1⟩ => ?_)
  cases d with
  | bl b =>
    have ev : x = .bl b := by simpa [RV] using q1
    exact ⟨b, ev, po1 r1 H1 b (Rp.le.refl r1) R1 rfl⟩
  | _ => exact False.elim po1
theorem pt_cmpE {op : CmpOp} {f : V2} (ho : OpR X (compareOp op) (r2 p f)) (ha : PE X a (tE p W fa)) (hb : PE X b (tE p W fb)) (hm : behindInMarks op b = false) : PT X (.Compare a [op] [b] pos) (tT p W (blT (bin f fa fb))) :=
  PT.by (pt_cmpR ho ha hb hm) fun σ H Q h => blT_of (fun _ _ _ q => bin_of q) h
/-- a op1 b op2 c -/
def chainE (f g : V2) (a b c : SemE) : SemE := fun s => (a s).bind fun x s => (b s).bind fun y s => ((f x y s.hp).on s).bind fun z s => match z with
  | .bl true => (c s).bind fun w s => (g y w s.hp).on s
  | .bl false => .ok (.bl false) s
  | _ => .bad
theorem VoP.mono {bs : List Nat} {r : Rp} {hp : List Cell} {Q Q' : VK} {o : VO} (h : VoP p bs r hp Q o) (hQ : ∀ v H, Q v H → Q' v H) : VoP p bs r hp Q' o := by
  cases o with
  | val d => exact fun r' H' v l R q => hQ _ _ (h r' H' v l R q)
  | new c => exact fun r' H' v l R q => hQ _ _ (h r' H' v l R q)
  | bad => exact h
theorem chain_of {f g : V2} {σ : L2.St} {H : Hp} {Q : VK} (h : tE p W (chainE f g fa fb fc) σ H Q) : tChain (r2 p f) (r2 p g) (tE p W fa) (tE p W fb) (tE p W fc) σ H Q := by
  obtain ⟨bs, r, s, R, po⟩ := h
  refine tG.mono (Po.bind (rel := RV p) R po) fun x H1 ⟨r1, d, s1, l1, R1, q1, po1⟩ => ?_
  refine tG.mono (Po.bind (rel := RV p) R1 po1) fun y H2 ⟨r2', e, s2, l2, R2', q2, po2⟩ => ?_
  refine ⟨bs, r2', s2.hp, d, e, R2'.hp, q1.mono l2, q2, ?_⟩
  have go : ∀ {z : D} {s3 : S} {r3 : Rp} {v : V} {H3 : Hp}, r2'.le r3 → Rel p bs r3 s3 σ H3 → RV p r3 z v →
      Po p bs r2' σ W (RV p) Q (match z with
        | .bl true => (fc s3).bind fun w s => (g e w s.hp).on s
        | .bl false => .ok (.bl false) s3
        | _ => .bad) →
      ∃ k, v = .bl k ∧ (if k = true then tE p W fc σ H3 fun w' H4 => r2 p g y w' H4 Q else Q (.bl false) H3) := by
    intro z s3 r3 v H3 l3 R3 q3 po3
    cases z with
    | bl k =>
      have ev : v = .bl k := by simpa [RV] using q3
      refine ⟨k, ev, ?_⟩
      cases k with
      | true =>
        rw [if_pos rfl]
        refine tG.mono (Po.bind (rel := RV p) R3 (po3.mono l3 fun _ _ z => z)) fun w H4 ⟨r4, w4, s4, l4, R4, q4, po4⟩ => ?_
        exact ⟨bs, r4, s4.hp, e, w4, R4.hp, q2.mono (l3.trans l4), q4, po4.vo R4⟩
      | false =>
        rw [if_neg Bool.false_ne_true]
        exact po3 r3 H3 (.bl false) l3 R3 (by simp [RV])
    | _ => exact False.elim po3
  cases ho : f d e s2.hp with
  | val z =>
    rw [ho] at po2
    exact fun r3 H3 v l3 R3 q3 => go l3 ⟨R3, R2'.env.mono l3, R2'.bl, R2'.bk⟩ q3 po2
  | new c =>
    rw [ho] at po2
    exact fun r3 H3 v l3 R3 q3 => by
      have := go (z := .ref s2.hp.length) (s3 := { s2 with hp := s2.hp ++ [c] }) l3 ⟨R3, R2'.env.mono l3, R2'.bl, R2'.bk⟩ q3 po2
      exact this
  | bad =>
    rw [ho] at po2
    exact po2
theorem pe_chainE {op op' : CmpOp} {f g : V2} (ho : OpR X (compareOp op) (r2 p f)) (ho' : OpR X (compareOp op') (r2 p g)) (ha : PE X a (tE p W fa)) (hb : PE X b (tE p W fb)) (hc : PE X c (tE p W fc))
    (hm : lastMarks [op, op'] [b, c] = false) : PE X (.Compare a [op, op'] [b, c] pos) (tE p W (chainE f g fa fb fc)) := PE.by (pe_chain ho ho' ha hb hc hm) fun _ _ _ h => chain_of h
theorem pt_chainE {op op' : CmpOp} {f g : V2} (ho : OpR X (compareOp op) (r2 p f)) (ho' : OpR X (compareOp op') (r2 p g)) (ha : PE X a (tE p W fa)) (hb : PE X b (tE p W fb)) (hc : PE X c (tE p W fc))
    (hm : lastMarks [op, op'] [b, c] = false) : PT X (.Compare a [op, op'] [b, c] pos) (tT p W (blT (chainE f g fa fb fc))) := PT.by (pt_chain ho ho' ha hb hc hm) fun σ H Q h => blT_of (fun _ _ _ q => chain_of q) h
/-- and, or, not as values: of bools -/
def andE (a b : SemE) : SemE := fun s => (a s).bind fun d s => match d with
  | .bl true => b s
  | .bl false => .ok (.bl false) s
  | _ => .bad
def orE (a b : SemE) : SemE := fun s => (a s).bind fun d s => match d with
  | .bl true => .ok (.bl true) s
  | .bl false => b s
  | _ => .bad
def notE (a : SemE) : SemE := fun s => (a s).bind fun d s => match d with
  | .bl b => .ok (.bl (!b)) s
  | _ => .bad
theorem pe_andE (ha : PE X a (tE p W fa)) (hb : PE X (.BoolOp .And (b :: rest) pos) (tE p W fb)) : PE X (.BoolOp .And (a :: b :: rest) pos) (tE p W (andE fa fb)) :=
  PE.by (pe_and ha hb) fun σ H Q ⟨bs, r, s, R, po⟩ => by
    refine tG.mono (Po.bind (rel := RV p) R po) fun x H1 ⟨r1, d, s1, l1, R1, q1, po1⟩ => ?_
    cases d with
    | bl k =>
      have ev : x = .bl k := by simpa [RV] using q1
      refine ⟨k, ev, ?_⟩
      cases k with
      | true => rw [if_pos rfl]; exact ⟨bs, r1, s1, R1, po1⟩
      | false => rw [if_neg Bool.false_ne_true]; exact po1 r1 H1 (.bl false) (Rp.le.refl r1) R1 (by simp [RV])
    | _ => exact False.elim po1
theorem pe_orE (ha : PE X a (tE p W fa)) (hb : PE X (.BoolOp .Or (b :: rest) pos) (tE p W fb)) : PE X (.BoolOp .Or (a :: b :: rest) pos) (tE p W (orE fa fb)) :=
  PE.by (pe_or ha hb) fun σ H Q ⟨bs, r, s, R, po⟩ => by
    refine tG.mono (Po.bind (rel := RV p) R po) fun x H1 ⟨r1, d, s1, l1, R1, q1, po1⟩ => ?_
    cases d with
    | bl k =>
      have ev : x = .bl k := by simpa [RV] using q1
      refine ⟨k, ev, ?_⟩
      cases k with
      | true => rw [if_pos rfl]; exact po1 r1 H1 (.bl true) (Rp.le.refl r1) R1 (by simp [RV])
      | false => rw [if_neg Bool.false_ne_true]; exact ⟨bs, r1, s1, R1, po1⟩
    | _ => exact False.elim po1
theorem pe_notE (ha : PE X a (tE p W fa)) : PE X (.UnaryOp .Not a pos) (tE p W (notE fa)) :=
  PE.by (pe_not ha) fun σ H Q ⟨bs, r, s, R, po⟩ => by
    refine tG.mono (Po.bind (rel := RV p) R po) fun x H1 ⟨r1, d, s1, l1, R1, q1, po1⟩ => ?_
    cases d with
    | bl k =>
      have ev : x = .bl k := by simpa [RV] using q1
      exact ⟨k, ev, po1 r1 H1 (.bl (!k)) (Rp.le.refl r1) R1 (by simp [RV])⟩
    | _ => exact False.elim po1
end

/-! ### statements -/
def PoS (p : Px) (bs : List Nat) (r : Rp) (W : WX) (E : Ends) : Out Fl → Prop
  | .ok .next s => ∀ r' σ' H', r.le r' → Rel p bs r' s σ' H' → E.nx σ' H'
  | .ok .brk s => ∀ r' σ' H', r.le r' → Rel p bs r' s σ' H' → E.bk σ' H'
  | .ok .cont s => ∀ r' σ' H', r.le r' → Rel p bs r' s σ' H' → E.ct σ' H'
  | .ok (.ret d) s => ∀ r' σ' H' v, r.le r' → Rel p bs r' s σ' H' → RV p r' d v → E.rt v H'
  | .exn c fs xs s => ∀ r' σ' H' cd, r.le r' → Rel p bs r' s σ' H' → RX p r' H' fs xs cd → W (.ref (p.CA c)) cd σ' H'
  | .bad => False
def tS (p : Px) (W : WX) (f : SemS) : TS := fun E σ H => ∃ bs r s, Rel p bs r s σ H ∧ PoS p bs r W E (f s)
structure EndsLe (E E' : Ends) : Prop where
  nx : ∀ σ H, E.nx σ H → E'.nx σ H
  rt : ∀ v H, E.rt v H → E'.rt v H
  bk : ∀ σ H, E.bk σ H → E'.bk σ H
  ct : ∀ σ H, E.ct σ H → E'.ct σ H
theorem EndsLe.refl (E : Ends) : EndsLe E E := ⟨fun _ _ h => h, fun _ _ h => h, fun _ _ h => h, fun _ _ h => h⟩
theorem PoS.mono {bs : List Nat} {r r' : Rp} {E E' : Ends} {o : Out Fl} (h : PoS p bs r W E o) (l : r.le r') (hE : EndsLe E E') : PoS p bs r' W E' o := by
  cases o with
  | ok a s =>
    cases a with
    | next => exact fun r2 σ2 H2 l2 R => hE.nx _ _ (h r2 σ2 H2 (l.trans l2) R)
    | brk => exact fun r2 σ2 H2 l2 R => hE.bk _ _ (h r2 σ2 H2 (l.trans l2) R)
    | cont => exact fun r2 σ2 H2 l2 R => hE.ct _ _ (h r2 σ2 H2 (l.trans l2) R)
    | ret d => exact fun r2 σ2 H2 v l2 R q => hE.rt _ _ (h r2 σ2 H2 v (l.trans l2) R q)
  | exn c fs xs s => exact fun r2 σ2 H2 cd l2 R q => h r2 σ2 H2 cd (l.trans l2) R q
  | bad => exact h
theorem PSs.by {st : List Stmt} {t t' : TS} (h : PSs X st t) (ht : ∀ E σ H, t' E σ H → t E σ H) : PSs X st t' := ⟨fun pins s σ H D I q => h.run pins s σ H D I (ht D σ H q)⟩
theorem PS.by {st : Stmt} {t t' : TS} (h : PS X st t) (ht : ∀ E σ H, t' E σ H → t E σ H) : PS X st t' := ⟨fun pins s σ H D I q => h.run pins s σ H D I (ht D σ H q)⟩

def nextS : SemS := fun s => .ok .next s
def seqS (f g : SemS) : SemS := fun s => match f s with
  | .ok .next s' => g s'
  | o => o
def retS (a : SemE) : SemS := fun s => (a s).bind fun d s => .ok (.ret d) s
def retN : SemS := fun s => .ok (.ret .non) s
def dropS (a : SemE) : SemS := fun s => (a s).bind fun _ s => .ok .next s
def ifS (c : SemT) (f g : SemS) : SemS := fun s => (c s).bind fun b s => if b = true then f s else g s
def brkS : SemS := fun s => .ok .brk s
def contS : SemS := fun s => .ok .cont s
/-- an expression ahead of an end -/
theorem PoS.bind {α β : Type} {rel : Rp → α → β → Prop} {bs : List Nat} {r : Rp} {s : S} {σ : L2.St} {H : Hp} {E : Ends} {f : S → Out α} {g : α → S → Out Fl} (R : Rel p bs r s σ H) (h : PoS p bs r W E ((f s).bind g)) :
    tG p W rel f σ H (fun v H' => ∃ r' a s', r.le r' ∧ Rel p bs r' s' σ H' ∧ rel r' a v ∧ PoS p bs r' W E (g a s')) := by
  refine ⟨bs, r, s, R, ?_⟩
  cases e : f s with
  | ok a s' =>
    rw [e] at h
    exact fun r' H' v l R' q => ⟨r', a, s', l, R', q, PoS.mono h l (EndsLe.refl E)⟩
  | exn c fs xs s' =>
    rw [e] at h
    exact fun r' H' cd l R' q => h r' σ H' cd l R' q
  | bad =>
    rw [e] at h
    exact False.elim h
section
variable {st : Stmt} {rest a b : List Stmt} {f g : SemS} {e c : Expr} {fe : SemE} {gc : SemT} {pos : Pos}
theorem pss_nilS : PSs X [] (tS p W nextS) := PSs.by pss_nil fun E σ H ⟨bs, r, s, R, po⟩ => po r σ H (Rp.le.refl r) R
theorem pss_consS (h1 : PS X st (tS p W f)) (h2 : PSs X rest (tS p W g)) : PSs X (st :: rest) (tS p W (seqS f g)) :=
  PSs.by (pss_cons h1 h2) fun E σ H ⟨bs, r, s, R, po⟩ => by
    refine ⟨bs, r, s, R, ?_⟩
    unfold seqS at po
    cases e : f s with
    | ok a s' =>
      rw [e] at po
      cases a with
      | next => exact fun r' σ' H' l R' => ⟨bs, r', s', R', PoS.mono po l (EndsLe.refl E)⟩
      | brk => exact po
      | cont => exact po
      | ret d => exact po
    | exn c fs xs s' =>
      rw [e] at po
      exact po
    | bad =>
      rw [e] at po
      exact po
theorem ps_passS : PS X (.Pass pos) (tS p W nextS) := PS.by ps_pass fun E σ H ⟨bs, r, s, R, po⟩ => po r σ H (Rp.le.refl r) R
theorem ps_docS {x : Str} {j : Nat} {pos pos' : Pos} : PS X (.Expr (.Constant (.str x) j pos) pos') (tS p W nextS) := PS.by ps_doc fun E σ H ⟨bs, r, s, R, po⟩ => po r σ H (Rp.le.refl r) R
theorem ps_breakS : PS X (.Break pos) (tS p W brkS) := PS.by ps_break fun E σ H ⟨bs, r, s, R, po⟩ => po r σ H (Rp.le.refl r) R
theorem ps_contS : PS X (.Continue pos) (tS p W contS) := PS.by ps_continue fun E σ H ⟨bs, r, s, R, po⟩ => po r σ H (Rp.le.refl r) R
theorem ps_exprS (he : PE X e (tE p W fe)) (hs : swapsWith e none pos.line X.env = pure false) : PS X (.Expr e pos) (tS p W (dropS fe)) :=
  PS.by (ps_expr he hs) fun E σ H ⟨bs, r, s, R, po⟩ => tG.mono (PoS.bind (rel := RV p) R po) fun v H1 ⟨r1, d, s1, l1, R1, q1, po1⟩ => po1 r1 σ H1 (Rp.le.refl r1) R1
theorem ps_retS (he : PE X e (tE p W fe)) : PS X (.Return (some e) pos) (tS p W (retS fe)) :=
  PS.by (ps_ret he) fun E σ H ⟨bs, r, s, R, po⟩ => tG.mono (PoS.bind (rel := RV p) R po) fun v H1 ⟨r1, d, s1, l1, R1, q1, po1⟩ => po1 r1 σ H1 v (Rp.le.refl r1) R1 q1
theorem ps_retNS : PS X (.Return none pos) (tS p W retN) := PS.by ps_retN fun E σ H ⟨bs, r, s, R, po⟩ => po r σ H .non (Rp.le.refl r) R (by simp [RV])
theorem ps_ifS (hc : PT X c (tT p W gc)) (ha : PSs X a (tS p W f)) (hb : PSs X b (tS p W g)) : PS X (.If c a b pos) (tS p W (ifS gc f g)) :=
  PS.by (ps_if hc ha hb) fun E σ H ⟨bs, r, s, R, po⟩ => by
    refine tG.mono (PoS.bind (rel := relT) R po) fun z H1 ⟨r1, d, s1, l1, R1, q1, po1⟩ => ?_
    have e : z = d := q1
    subst e
    split at po1
    · rename_i hc
      rw [if_pos hc]
      exact ⟨bs, r1, s1, R1, po1⟩
    · rename_i hc
      rw [if_neg hc]
      exact ⟨bs, r1, s1, R1, po1⟩
end

/-! ### targets -/
abbrev SemG := D → S → Out Unit
def PoG (p : Px) (bs : List Nat) (r : Rp) (W : WX) (Q : L2.St → Hp → Prop) : Out Unit → Prop
  | .ok _ s => ∀ r' σ' H', r.le r' → Rel p bs r' s σ' H' → Q σ' H'
  | .exn c fs xs s => ∀ r' σ' H' cd, r.le r' → Rel p bs r' s σ' H' → RX p r' H' fs xs cd → W (.ref (p.CA c)) cd σ' H'
  | .bad => False
def tT1 (p : Px) (W : WX) (f : SemG) : TG := fun v σ H Q => ∃ bs r s d, Rel p bs r s σ H ∧ RV p r d v ∧ PoG p bs r W Q (f d s)
abbrev SemGs := List D → S → Out Unit
def tTs (p : Px) (W : WX) (f : SemGs) : TGs := fun vs σ H Q => ∃ bs r s ds, Rel p bs r s σ H ∧ RVs p r ds vs ∧ PoG p bs r W Q (f ds s)
theorem PoG.mono {bs : List Nat} {r r' : Rp} {Q Q' : L2.St → Hp → Prop} {o : Out Unit} (h : PoG p bs r W Q o) (l : r.le r') (hQ : ∀ σ H, Q σ H → Q' σ H) : PoG p bs r' W Q' o := by
  cases o with
  | ok a s => exact fun r2 σ2 H2 l2 R => hQ _ _ (h r2 σ2 H2 (l.trans l2) R)
  | exn c fs xs s => exact fun r2 σ2 H2 cd l2 R q => h r2 σ2 H2 cd (l.trans l2) R q
  | bad => exact h
theorem PG.by {e : Expr} {t t' : TG} (h : PG X e t) (ht : ∀ v σ H Q, t' v σ H Q → t v σ H Q) : PG X e t' := ⟨fun pins s σ H v u Q I rv q => h.run pins s σ H v u Q I rv (ht v σ H Q q)⟩
theorem PGs.by {es : List Expr} {t t' : TGs} (h : PGs X es t) (ht : ∀ v σ H Q, t' v σ H Q → t v σ H Q) : PGs X es t' := ⟨fun pins s σ H v u Q I rv q => h.run pins s σ H v u Q I rv (ht v σ H Q q)⟩
def nameG (i : Nat) : SemG := fun d s => .ok () { s with env := s.env.set i (some d) }
def nilG : SemGs := fun ds s => match ds with
  | [] => .ok () s
  | _ => .bad
def consG (f : SemG) (g : SemGs) : SemGs := fun ds s => match ds with
  | d :: ds => (f d s).bind fun _ s => g ds s
  | [] => .bad
def tupG (n : Nat) (g : SemGs) : SemG := fun d s => match d with
  | .tup xs => if xs.length = n then g xs s else .bad
  | _ => .bad
theorem Rel.setEnv [p.Free] {bs : List Nat} {r : Rp} {s : S} {σ : L2.St} {H : Hp} {i : Nat} {d : D} {v : V} (R : Rel p bs r s σ H) (q : RV p r d v) : Rel p bs r { s with env := s.env.set i (some d) } (σ.set i (some v)) H :=
  ⟨R.hp, R.env.set q, R.bl, R.bk⟩
section
variable {e : Expr} {es : List Expr} {f : SemG} {g : SemGs} {pos : Pos}
theorem pg_nameG [p.Free] {i : Nat} {x : Str} (hN : X.N.Nodup) (hi : X.N[i]? = some x) (hx : Loc X.env.scope x) (hf : X.fn x = true ∨ X.env.scope.names.lookup x = some .local) : PG X (.Name x pos) (tT1 p W (nameG i)) :=
  PG.by (pg_name hN hi hx hf) fun v σ H Q ⟨bs, r, s, d, R, q, po⟩ => po r _ H (Rp.le.refl r) (R.setEnv q)
theorem pgs_nilG : PGs X [] (tTs p W nilG) := PGs.by pgs_nil fun vs σ H Q ⟨bs, r, s, ds, R, q, po⟩ => by
  cases ds with
  | nil => exact ⟨q.nil_inv, po r σ H (Rp.le.refl r) R⟩
  | cons d ds => exact False.elim po
theorem PoG.bind {bs : List Nat} {r : Rp} {s : S} {σ : L2.St} {H : Hp} {d : D} {v : V} {k : Unit → S → Out Unit} {Q : L2.St → Hp → Prop} (R : Rel p bs r s σ H) (q : RV p r d v) (h : PoG p bs r W Q ((f d s).bind k)) :
    tT1 p W f v σ H (fun σ' H' => ∃ r' s', r.le r' ∧ Rel p bs r' s' σ' H' ∧ PoG p bs r' W Q (k () s')) := by
  refine ⟨bs, r, s, d, R, q, ?_⟩
  cases e : f d s with
  | ok a s' =>
    rw [e] at h
    exact fun r' σ' H' l R' => ⟨r', s', l, R', PoG.mono h l fun _ _ z => z⟩
  | exn c fs xs s' =>
    rw [e] at h
    exact fun r' σ' H' cd l R' q => h r' σ' H' cd l R' q
  | bad =>
    rw [e] at h
    exact False.elim h
theorem tT1.mono {v : V} {σ : L2.St} {H : Hp} {Q Q' : L2.St → Hp → Prop} (h : tT1 p W f v σ H Q) (hQ : ∀ σ H, Q σ H → Q' σ H) : tT1 p W f v σ H Q' := by
  obtain ⟨bs, r, s, d, R, q, po⟩ := h
  exact ⟨bs, r, s, d, R, q, po.mono (Rp.le.refl r) hQ⟩
theorem pgs_consG (h1 : PG X e (tT1 p W f)) (h2 : PGs X es (tTs p W g)) (hs : (assignEach (e :: es) X.env).map (·.2) = assign e X.env :: (assignEach es X.env).map (·.2)) : PGs X (e :: es) (tTs p W (consG f g)) :=
  PGs.by (pgs_cons h1 h2 hs) fun vs σ H Q ⟨bs, r, s, ds, R, q, po⟩ => by
    cases ds with
    | nil => exact False.elim po
    | cons d ds =>
      obtain ⟨v, us, e, q1, q2⟩ := q.cons_inv
      refine ⟨v, us, e, tT1.mono (PoG.bind R q1 po) fun σ' H' ⟨r', s', l, R', po'⟩ => ?_⟩
      exact ⟨bs, r', s', ds, R', q2.mono l, po'⟩
theorem pg_tupG {k n : Nat} (hc : X.calm = true) (hK : X.K = p.K) (h : PGs X es (tTs p W g)) (hn : (assignEach es X.env).length = n) (hst : (assignEach es X.env).findIdx? (·.1) = none) : PG X (.Tuple es k pos) (tT1 p W (tupG n g)) :=
  PG.by (pg_tup hc h hn hst) fun v σ H Q ⟨bs, r, s, d, R, q, po⟩ => by
    cases d with
    | tup xs =>
      simp only [RV] at q
      obtain ⟨a, vs, rfl, sq, t⟩ := q
      have po2 : PoG p bs r W Q (if xs.length = n then g xs s else .bad) := po
      split at po2
      · rename_i hl
        exact ⟨a, vs, rfl, .of (R.hp.sub _ _ sq), by rw [← t.length, hl], bs, r, s, xs, R, t, po2⟩
      · exact False.elim po2
    | _ => exact False.elim po
end
/-- target = value -/
def asgS (a : SemE) (g : SemG) : SemS := fun s => (a s).bind fun d s => (g d s).bind fun _ s => .ok .next s
theorem asg_of {fe : SemE} {g : SemG} {E : Ends} {σ : L2.St} {H : Hp} (h : tS p W (asgS fe g) E σ H) : tAsg (tE p W fe) (tT1 p W g) E σ H := by
  obtain ⟨bs, r, s, R, po⟩ := h
  refine tG.mono (PoS.bind (rel := RV p) R po) fun v H1 ⟨r1, d, s1, l1, R1, q1, po1⟩ => ?_
  refine ⟨bs, r1, s1, d, R1, q1, ?_⟩
  cases e : g d s1 with
  | ok a s' =>
    rw [e] at po1
    exact fun r' σ' H' l R' => po1 r' σ' H' l R'
  | exn c fs xs s' =>
    rw [e] at po1
    exact po1
  | bad =>
    rw [e] at po1
    exact po1
theorem asg_name [p.Free] {t : TE} {fe : SemE} {i : Nat} {E : Ends} {σ : L2.St} {H : Hp} (ht : ∀ σ H Q, tE p W fe σ H Q → t σ H Q) (h : tS p W (asgS fe (nameG i)) E σ H) : tAsg t (gName i) E σ H := by
  obtain ⟨bs, r, s, R, po⟩ := h
  refine ht σ H _ (tG.mono (PoS.bind (rel := RV p) R po) fun v H1 ⟨r1, d, s1, l1, R1, q1, po1⟩ => ?_)
  exact po1 r1 _ H1 (Rp.le.refl r1) (R1.setEnv q1)
section
variable {e tg : Expr} {fe : SemE} {g : SemG} {pos pos' : Pos}
theorem ps_setS [p.Free] {i : Nat} {x : Str} (hN : X.N.Nodup) (hi : X.N[i]? = some x) (hx : Loc X.env.scope x) (he : PE X e (tE p W fe)) (hs : swapsWith e (some (.Name x pos')) pos.line X.env = pure false) (hf : X.fn x = true ∨ X.env.scope.names.lookup x = some .local) :
    PS X (.Assign [.Name x pos'] e pos) (tS p W (asgS fe (nameG i))) := PS.by (ps_set hN hi hx he hs hf) fun E σ H h => asg_name (fun _ _ _ q => q) h
theorem ps_asgS (he : PE X e (tE p W fe)) (hg : PG X tg (tT1 p W g)) (hs : swapsWithSole [tg] e pos.line X.env = pure false) (hw : swappedStores [tg] e X.env = pure none) (h1 : (assignEach [tg] X.env).map (·.2) = [assign tg X.env]) :
    PS X (.Assign [tg] e pos) (tS p W (asgS fe g)) := PS.by (ps_asg he hg hs hw h1) fun E σ H h => asg_of h
end

/-! ### while -/
def whileS (c : SemT) (f : SemS) : Nat → SemS
  | 0 => fun _ => .bad
  | n + 1 => fun s => (c s).bind fun b s => if b = true then (match f s with
    | .ok .next s' => whileS c f n s'
    | .ok .cont s' => whileS c f n s'
    | .ok .brk s' => .ok .next s'
    | .ok (.ret d) s' => .ok (.ret d) s'
    | .exn k fs xs s' => .exn k fs xs s'
    | .bad => .bad) else .ok .next s
theorem ps_whileS {c : Expr} {body : List Stmt} {gc : SemT} {f : SemS} {n : Nat} {pos : Pos} (hp : PassesOwn (model X.prog X.w) X.A X.env X.xe) (hc : PT X c (tT p W gc)) (hb : PSs X body (tS p W f)) :
    PS X (.While c body [] pos) (tS p W (whileS gc f n)) :=
  PS.by (ps_while hp hc hb) fun E σ H ⟨bs, r, s, R, po⟩ => by
    refine ⟨fun m σ' H' => ∃ r' s', Rel p bs r' s' σ' H' ∧ PoS p bs r' W E (whileS gc f m s'), ⟨n, r, s, R, po⟩, fun m σ1 H1 ⟨r1, s1, R1, po1⟩ => ?_⟩
    cases m with
    | zero => exact False.elim po1
    | succ m =>
      refine tG.mono (PoS.bind (rel := relT) R1 po1) fun b H2 ⟨r2, d, s2, l2, R2, q2, po2⟩ => ?_
      have e : b = d := q2
      subst e
      split at po2
      · rename_i hb
        rw [if_pos hb]
        refine ⟨fun σ' H' => ∃ r' s', Rel p bs r' s' σ' H' ∧ PoS p bs r' W E (whileS gc f m s'), fun σ' H' ⟨r', s', R', q⟩ => ⟨m, Nat.lt_succ_self m, r', s', R', q⟩, bs, r2, s2, R2, ?_⟩
        cases e : f s2 with
        | ok a s3 =>
          rw [e] at po2
          cases a with
          | next => exact fun r' σ' H' l R' => ⟨r', s3, R', PoS.mono po2 l (EndsLe.refl E)⟩
          | cont => exact fun r' σ' H' l R' => ⟨r', s3, R', PoS.mono po2 l (EndsLe.refl E)⟩
          | brk => exact fun r' σ' H' l R' => po2 r' σ' H' l R'
          | ret d => exact po2
        | exn k fs xs s3 =>
          rw [e] at po2
          exact po2
        | bad =>
          rw [e] at po2
          exact po2
      · rename_i hb
        rw [if_neg hb]
        exact po2 r2 σ1 H2 (Rp.le.refl r2) R2

/-! ### what is walked, for -/
/-- items that stand fast, or the list in a cell as it stands at each turn -/
inductive ItD where
  | vals (xs : List D)
  | cell (n : Nat)
def ItD.at (it : ItD) (i : Nat) (s : S) : Option (Option D) := match it with
  | .vals xs => some xs[i]?
  | .cell n => match s.hp[n]? with
    | some (.lst xs) => some xs[i]?
    | _ => none
def ItD.len (it : ItD) (s : S) : Nat := match it with
  | .vals xs => xs.length
  | .cell n => match s.hp[n]? with
    | some (.lst xs) => xs.length
    | _ => 0
/-- the layer's walk J goes as it says -/
def ItOk (p : Px) (bs : List Nat) (r : Rp) (it : ItD) (J : It) : Prop :=
  ∀ (i : Nat) (r1 : Rp) (s : S) (σ : L2.St) (H : Hp), r.le r1 → Rel p bs r1 s σ H → match it.at i s with
    | some (some d) => J.go i H ∧ ∀ x H', J.yld i H x H' → ∃ r2, r1.le r2 ∧ Rel p bs r2 s σ H' ∧ RV p r2 d x
    | some none => J.stop i H
    | none => True
abbrev SemI := S → Out ItD
def PoI (p : Px) (bs : List Nat) (r : Rp) (σ : L2.St) (W : WX) (R : It → Hp → Prop) : Out ItD → Prop
  | .ok it s => ∀ r' H' J, r.le r' → Rel p bs r' s σ H' → ItOk p bs r' it J → R J H'
  | .exn c fs xs s => ∀ r' H' cd, r.le r' → Rel p bs r' s σ H' → RX p r' H' fs xs cd → W (.ref (p.CA c)) cd σ H'
  | .bad => False
def tI (p : Px) (W : WX) (f : SemI) : TI := fun σ H R => ∃ bs r s, Rel p bs r s σ H ∧ PoI p bs r σ W R (f s)
theorem PI.by {tg e : Expr} {t t' : TI} (h : PI X tg e t) (ht : ∀ σ H R, t' σ H R → t σ H R) : PI X tg e t' := ⟨fun pins s σ H R I q => h.run pins s σ H R I (ht σ H R q)⟩
/-- the turns: k more at most, from the i-th on -/
def forL (it : ItD) (g : SemG) (f : SemS) : Nat → Nat → SemS
  | k, i => fun s => match it.at i s with
    | some none => .ok .next s
    | none => .bad
    | some (some d) => match k with
      | 0 => .bad
      | k + 1 => (g d s).bind fun _ s => match f s with
        | .ok .next s' => forL it g f k (i + 1) s'
        | .ok .cont s' => forL it g f k (i + 1) s'
        | .ok .brk s' => .ok .next s'
        | .ok (.ret d) s' => .ok (.ret d) s'
        | .exn k fs xs s' => .exn k fs xs s'
        | .bad => .bad
def forS (w : SemI) (g : SemG) (f : SemS) : SemS := fun s => (w s).bind fun it s => forL it g f (it.len s) 0 s
theorem ps_forS {tg iter : Expr} {body : List Stmt} {w : SemI} {g : SemG} {f : SemS} {pos : Pos} (hp : PassesOwn (model X.prog X.w) X.A X.env X.xe) (hc : X.calm = true) (hi : PI X tg iter (tI p W w)) (hg : PG X tg (tT1 p W g)) (hb : PSs X body (tS p W f))
    (hs : ∀ x, foldedSetIterable iter X.env x = pure x) : PS X (.For tg iter body [] pos) (tS p W (forS w g f)) :=
  PS.by (ps_for hp hc hi hg hb hs) fun E σ H ⟨bs, r, s, R, po⟩ => by
    refine ⟨bs, r, s, R, ?_⟩
    unfold forS at po
    cases ew : w s with
    | ok it s0 =>
      rw [ew] at po
      intro r0 H0 J l0 R0 hJ
      refine ⟨fun i m σ' H' => ∃ r' s', r0.le r' ∧ Rel p bs r' s' σ' H' ∧ PoS p bs r' W E (forL it g f m i s'), ⟨it.len s0, r0, s0, Rp.le.refl r0, R0, PoS.mono po l0 (EndsLe.refl E)⟩, fun i m σ1 H1 ⟨r1, s1, l1, R1, po1⟩ => ?_⟩
      have hj := hJ i r1 s1 σ1 H1 l1 R1
      unfold forL at po1
      cases ea : it.at i s1 with
      | none =>
        rw [ea] at po1
        exact False.elim po1
      | some o =>
        rw [ea] at po1 hj
        cases o with
        | none => exact .inl ⟨hj, po1 r1 σ1 H1 (Rp.le.refl r1) R1⟩
        | some d =>
          cases m with
          | zero => exact False.elim po1
          | succ m =>
            refine .inr ⟨hj.1, fun σ' H' => ∃ r' s', r0.le r' ∧ Rel p bs r' s' σ' H' ∧ PoS p bs r' W E (forL it g f m (i + 1) s'), fun σ' H' ⟨r', s', l', R', q⟩ => ⟨m, Nat.lt_succ_self m, r', s', l', R', q⟩, fun x H' hy => ?_⟩
            obtain ⟨r2, l2, R2, q2⟩ := hj.2 x H' hy
            refine ⟨bs, r2, s1, d, R2, q2, ?_⟩
            dsimp only at po1
            cases eg : g d s1 with
            | ok a s3 =>
              rw [eg] at po1
              intro r3 σ3 H3 l3 R3
              refine ⟨bs, r3, s3, R3, ?_⟩
              have po1' := PoS.mono (p := p) po1 (l2.trans l3) (EndsLe.refl E)
              simp only [Out.bind] at po1'
              cases ef : f s3 with
              | ok a s4 =>
                rw [ef] at po1'
                cases a with
                | next => exact fun r' σ' H' l R' => ⟨r', s4, ((l1.trans l2).trans l3).trans l, R', PoS.mono po1' l (EndsLe.refl E)⟩
                | cont => exact fun r' σ' H' l R' => ⟨r', s4, ((l1.trans l2).trans l3).trans l, R', PoS.mono po1' l (EndsLe.refl E)⟩
                | brk => exact fun r' σ' H' l R' => po1' r' σ' H' l R'
                | ret d => exact po1'
              | exn k fs xs s4 =>
                rw [ef] at po1'
                exact po1'
              | bad =>
                rw [ef] at po1'
                exact po1'
            | exn k fs xs s3 =>
              rw [eg] at po1
              exact fun r' σ' H' cd l R' q => po1 r' σ' H' cd (l2.trans l) R' q
            | bad =>
              rw [eg] at po1
              exact False.elim po1
    | exn k fs xs s0 =>
      rw [ew] at po
      exact fun r' H' cd l R' q => po r' σ H' cd l R' q
    | bad =>
      rw [ew] at po
      exact False.elim po
end
end Den
end

-- DenE
section
set_option maxHeartbeats 1000000
/-! Den: operations on values. -/
namespace Den
open PySem PySem.Spec L2
section
variable {X : Cx} {p : Px} {W : WX} {bs : List Nat} {r : Rp} {hp : List Cell} {H : Hp}

theorem rv_int {i : Int} {v : V} : RV p r (.int i) v ↔ v = .int i := by simp [RV]
theorem rv_bl {b : Bool} {v : V} : RV p r (.bl b) v ↔ v = .bl b := by simp [RV]
theorem rv_str {x : Str} {v : V} : RV p r (.str x) v ↔ v = .str x := by simp [RV]
theorem rv_non {v : V} : RV p r .non v ↔ v = .non := by simp [RV]
theorem rv_cls {c : Nat} {v : V} : RV p r (.cls c) v ↔ v = .ref (p.CA c) := by simp [RV]
theorem rv_tupI {xs : List D} {v : V} (h : RV p r (.tup xs) v) : ∃ a vs, v = .ref a ∧ r.G a = some (.tup vs) ∧ RVs p r xs vs := by simpa [RV] using h
theorem rv_lstI {xs : List D} {v : V} (h : RV p r (.lst xs) v) : ∃ a vs, v = .ref a ∧ r.G a = some (.lst vs) ∧ RVs p r xs vs := by simpa [RV] using h
theorem rv_scrI {xs : List D} {v : V} (h : RV p r (.scr xs) v) : ∃ a vs, v = .ref a ∧ SqL p.K r.G a vs ∧ RVs p r xs vs := by simpa [RV] using h

/-- the items of a list of the program's own -/
def lstOf (d : D) (hp : List Cell) : Option (List D) := match d with
  | .lst xs => some xs
  | .ref n => match hp[n]? with
    | some (.lst xs) => some xs
    | _ => none
  | _ => none
/-- .. of any list -/
def lstOf' (d : D) (hp : List Cell) : Option (List D) := match d with
  | .scr xs => some xs
  | d => lstOf d hp
theorem lstOf_ok (R : RH p bs r hp H) {d : D} {v : V} {xs : List D} (q : RV p r d v) (e : lstOf d hp = some xs) : ∃ a vs, v = .ref a ∧ H a = some (.lst vs) ∧ RVs p r xs vs := by
  cases d with
  | lst ys =>
    obtain ⟨a, vs, ev, g, t⟩ := rv_lstI q
    have : ys = xs := by simpa [lstOf] using e
    subst this
    exact ⟨a, vs, ev, R.sub _ _ g, t⟩
  | ref n =>
    unfold lstOf at e
    simp only at e
    split at e
    · rename_i ys ec
      have : ys = xs := by simpa using e
      subst this
      obtain ⟨a, ev, ea, vs, eh, t⟩ := R.cellAt ec q
      exact ⟨a, vs, ev, eh, t⟩
    · cases e
  | _ => cases e
theorem lstOf'_ok (hK : X.K = p.K) (R : RH p bs r hp H) {d : D} {v : V} {xs : List D} (q : RV p r d v) (e : lstOf' d hp = some xs) : ∃ a vs, v = .ref a ∧ SqL X.K H a vs ∧ RVs p r xs vs := by
  by_cases hs : ∃ ys, d = .scr ys
  · obtain ⟨ys, rfl⟩ := hs
    obtain ⟨a, vs, ev, g, t⟩ := rv_scrI q
    have : ys = xs := by simpa [lstOf'] using e
    subst this
    exact ⟨a, vs, ev, by rw [hK]; exact sqL_le R.sub g, t⟩
  · have e2 : lstOf d hp = some xs := by
      cases d with
      | scr ys => exact absurd ⟨ys, rfl⟩ hs
      | _ => exact e
    obtain ⟨a, vs, ev, g, t⟩ := lstOf_ok R q e2
    exact ⟨a, vs, ev, .of g, t⟩

/-! ### arithmetic -/
def mulOk (i j : Int) : Bool := decide (i.natAbs.log2 + j.natAbs.log2 < 1000000)
def divOk (j : Int) : Bool := decide (0 < j ∧ j.natAbs.log2 < 9000)
def negOk (j : Int) : Bool := decide (j < 0 ∧ j.natAbs.log2 < 9000)
def addV : V2 := fun d e hp => match d, e with
  | .int i, .int j => .val (.int (i + j))
  | .str x, .str y => if x.length + y.length ≤ sizeLine then .val (.str (x ++ y)) else .bad
  | .tup xs, .tup ys => if xs.length + ys.length ≤ sizeLine then .val (.tup (xs ++ ys)) else .bad
  | d, e => match lstOf d hp, lstOf e hp with
    | some xs, some ys => if xs.length + ys.length ≤ sizeLine then .new (.lst (xs ++ ys)) else .bad
    | _, _ => .bad
def subV : V2 := fun d e _ => match d, e with
  | .int i, .int j => .val (.int (i - j))
  | _, _ => .bad
/-- n copies, one behind another -/
def copies {α : Type} (n : Nat) (xs : List α) : List α := (List.replicate n xs).flatten
def mulV : V2 := fun d e hp => match d, e with
  | .int i, .int j => if mulOk i j then .val (.int (i * j)) else .bad
  | d, .int k => match lstOf d hp with
    | some xs => if -(2 ^ 63) ≤ k ∧ k < 2 ^ 63 ∧ xs.length * k.toNat ≤ sizeLine then .new (.lst (copies k.toNat xs)) else .bad
    | none => .bad
  | _, _ => .bad
def fdivV : V2 := fun d e _ => match d, e with
  | .int i, .int j => if divOk j then .val (.int (i / j)) else if negOk j then .val (.int (i.fdiv j)) else .bad
  | _, _ => .bad
def modV : V2 := fun d e _ => match d, e with
  | .int i, .int j => if 0 < j then .val (.int (i % j)) else .bad
  | _, _ => .bad
def powV : V2 := fun d e _ => match d, e with
  | .int i, .int j => if 0 ≤ j ∧ j ≤ 1000 ∧ i.natAbs < 2 ^ 64 then .val (.int (i ^ j.toNat)) else .bad
  | _, _ => .bad
def negV : V1 := fun d _ => match d with
  | .int i => .val (.int (-i))
  | _ => .bad

/-- a value is known, the heap as it stands -/
theorem VoP.of_val {Q : VK} {d : D} {v : V} (h : VoP p bs r hp Q (.val d)) (R : RH p bs r hp H) (q : RV p r d v) : Q v H := h r H v (Rp.le.refl r) R q
/-- the value is a new tuple -/
theorem VoP.of_tup {Q : VK} {xs : List D} {vs : List V} (h : VoP p bs r hp Q (.val (.tup xs))) (R : RH p bs r hp H) (t : RVs p r xs vs) {a : Addr} (n : H a = none) : Q (.ref a) (upd H a (.tup vs)) := by
  obtain ⟨r', l, R', q⟩ := R.tup t n
  exact h r' _ _ l R' q
theorem VoP.of_lst {Q : VK} {xs : List D} {vs : List V} (h : VoP p bs r hp Q (.new (.lst xs))) (R : RH p bs r hp H) (t : RVs p r xs vs) {a : Addr} (n : H a = none) : Q (.ref a) (upd H a (.lst vs)) := by
  obtain ⟨r', l, R', q⟩ := R.lst t n
  exact h r' _ _ l R' q
theorem RVs.copies {xs : List D} {vs : List V} (h : RVs p r xs vs) : ∀ n, RVs p r (copies n xs) (copies n vs)
  | 0 => .nil
  | n + 1 => by
    unfold Den.copies
    rw [List.replicate_succ, List.replicate_succ, List.flatten_cons, List.flatten_cons]
    exact RVs.append h (RVs.copies h n)

theorem op_addV (hK : X.K = p.K) : OpR X (binaryOp .Add) (r2 p addV) := by
  rintro pins s σ H x y v u Q I rx ry ⟨bs, r, hp, d, e, R, qx, qy, po⟩
  have lists : (match lstOf d hp, lstOf e hp with
    | some xs, some ys => VoP p bs r hp Q (if xs.length + ys.length ≤ sizeLine then .new (.lst (xs ++ ys)) else .bad)
    | _, _ => False) → wpAny (model X.prog X.w) X.A (binaryOp .Add v u) (EP X pins σ Q) X.xe s := by
    intro h
    split at h
    · rename_i xs ys e1 e2
      obtain ⟨a, vs, ev, ea, t1⟩ := lstOf_ok R qx e1
      obtain ⟨b, us, eu, eb, t2⟩ := lstOf_ok R qy e2
      split at h
      · rename_i hz
        exact op_cat pins s σ H x y v u Q I rx ry ⟨a, b, vs, us, ev, eu, ea, eb, by rw [← t1.length, ← t2.length]; exact hz, fun q n => VoP.of_lst h R (t1.append t2) n⟩
      · exact False.elim h
    · exact False.elim h
  have fin : ∀ {d e : D}, (addV d e hp = match lstOf d hp, lstOf e hp with
    | some xs, some ys => if xs.length + ys.length ≤ sizeLine then .new (.lst (xs ++ ys)) else .bad
    | _, _ => .bad) → VoP p bs r hp Q (addV d e hp) → (match lstOf d hp, lstOf e hp with
    | some xs, some ys => VoP p bs r hp Q (if xs.length + ys.length ≤ sizeLine then .new (.lst (xs ++ ys)) else .bad)
    | _, _ => False) := by
    intro d e h1 h2
    rw [h1] at h2
    split
    · rename_i xs ys e1 e2
      rw [e1, e2] at h2
      exact h2
    · rename_i hn
      split at h2
      · rename_i xs ys e1 e2
        exact (hn xs ys e1 e2).elim
      · exact h2
  cases d with
  | int i =>
    cases e with
    | int j =>
      have e1 := rv_int.mp qx; have e2 := rv_int.mp qy
      exact op_add pins s σ H x y v u Q I rx ry ⟨i, j, e1, e2, po.of_val R (rv_int.mpr rfl)⟩
    | _ => exact lists (fin rfl po)
  | str i =>
    cases e with
    | str j =>
      have e1 := rv_str.mp qx; have e2 := rv_str.mp qy
      have po2 : VoP p bs r hp Q (if i.length + j.length ≤ sizeLine then .val (.str (i ++ j)) else .bad) := po
      split at po2
      · rename_i hz
        exact op_add_str pins s σ H x y v u Q I rx ry ⟨i, j, e1, e2, hz, po2.of_val R (rv_str.mpr rfl)⟩
      · exact False.elim po2
    | _ => exact lists (fin rfl po)
  | tup xs =>
    cases e with
    | tup ys =>
      obtain ⟨a, vs, ev, ga, t1⟩ := rv_tupI qx
      obtain ⟨b, us, eu, gb, t2⟩ := rv_tupI qy
      have po2 : VoP p bs r hp Q (if xs.length + ys.length ≤ sizeLine then .val (.tup (xs ++ ys)) else .bad) := po
      split at po2
      · rename_i hz
        refine op_catA pins s σ H x y v u Q I rx ry ⟨a, b, vs, us, ev, eu, .of (R.sub _ _ ga), .of (R.sub _ _ gb), by rw [← t1.length, ← t2.length]; exact hz, fun z => ?_, fun _ z => ?_, fun _ _ q n => po2.of_tup R (t1.append t2) n⟩
        · have t3 := t1.append t2
          rw [z, List.nil_append] at t3
          exact po2.of_val R (rv_tup gb t3)
        · have t3 := t1.append t2
          rw [z, List.append_nil] at t3
          exact po2.of_val R (rv_tup ga t3)
      · exact False.elim po2
    | _ => exact lists (fin rfl po)
  | _ => exact lists (fin rfl po)
theorem op_subV : OpR X (binaryOp .Sub) (r2 p subV) := by
  rintro pins s σ H x y v u Q I rx ry ⟨bs, r, hp, d, e, R, qx, qy, po⟩
  cases d with
  | int i =>
    cases e with
    | int j => exact op_sub pins s σ H x y v u Q I rx ry ⟨i, j, rv_int.mp qx, rv_int.mp qy, po.of_val R (rv_int.mpr rfl)⟩
    | _ => exact False.elim po
  | _ => exact False.elim po
theorem op_mulV : OpR X (binaryOp .Mult) (r2 p mulV) := by
  rintro pins s σ H x y v u Q I rx ry ⟨bs, r, hp, d, e, R, qx, qy, po⟩
  have lists : ∀ k, e = .int k → VoP p bs r hp Q (match lstOf d hp with
      | some xs => if -(2 ^ 63) ≤ k ∧ k < 2 ^ 63 ∧ xs.length * k.toNat ≤ sizeLine then .new (.lst (copies k.toNat xs)) else .bad
      | none => .bad) → wpAny (model X.prog X.w) X.A (binaryOp .Mult v u) (EP X pins σ Q) X.xe s := by
    intro k ek h
    subst ek
    split at h
    · rename_i xs e1
      obtain ⟨a, vs, ev, ea, t1⟩ := lstOf_ok R qx e1
      split at h
      · rename_i hz
        exact op_rep pins s σ H x y v u Q I rx ry ⟨a, k, vs, ev, rv_int.mp qy, ea, hz.1, hz.2.1, by rw [← t1.length]; exact hz.2.2, fun q n => VoP.of_lst h R (t1.copies k.toNat) n⟩
      · exact False.elim h
    · exact False.elim h
  cases d with
  | int i =>
    cases e with
    | int j =>
      have po2 : VoP p bs r hp Q (if mulOk i j then .val (.int (i * j)) else .bad) := po
      split at po2
      · rename_i hz
        exact op_mulW pins s σ H x y v u Q I rx ry ⟨i, j, rv_int.mp qx, rv_int.mp qy, (of_decide_eq_true hz : i.natAbs.log2 + j.natAbs.log2 < 1000000), po2.of_val R (rv_int.mpr rfl)⟩
      · exact False.elim po2
    | _ => exact False.elim po
  | _ =>
    cases e with
    | int k => exact lists k rfl po
    | _ => exact False.elim po
theorem op_fdivV : OpR X (binaryOp .FloorDiv) (r2 p fdivV) := by
  rintro pins s σ H x y v u Q I rx ry ⟨bs, r, hp, d, e, R, qx, qy, po⟩
  cases d with
  | int i =>
    cases e with
    | int j =>
      have po2 : VoP p bs r hp Q (if divOk j then .val (.int (i / j)) else if negOk j then .val (.int (i.fdiv j)) else .bad) := po
      split at po2
      · rename_i hz
        exact op_fdivW pins s σ H x y v u Q I rx ry ⟨i, j, rv_int.mp qx, rv_int.mp qy, (of_decide_eq_true hz : 0 < j ∧ j.natAbs.log2 < 9000), po2.of_val R (rv_int.mpr rfl)⟩
      · split at po2
        · rename_i hz
          have hz' : j < 0 ∧ j.natAbs.log2 < 9000 := of_decide_eq_true hz
          obtain rfl := rv_int.mp qx
          obtain rfl := rv_int.mp qy
          obtain ⟨t1, rfl⟩ : ∃ t, v = Value.int i t := rx
          obtain ⟨t2, rfl⟩ : ∃ t, u = Value.int j t := ry
          exact PyProof.Rows.floordiv_int (by omega) ⟨.int (i.fdiv j), H, I.tok _, ⟨_, rfl⟩, po2.of_val R (rv_int.mpr rfl)⟩ (.inl (PyProof.noPylong_of_log2 hz'.2))
        · exact False.elim po2
    | _ => exact False.elim po
  | _ => exact False.elim po
theorem op_modV : OpR X (binaryOp .Mod) (r2 p modV) := by
  rintro pins s σ H x y v u Q I rx ry ⟨bs, r, hp, d, e, R, qx, qy, po⟩
  cases d with
  | int i =>
    cases e with
    | int j =>
      have po2 : VoP p bs r hp Q (if 0 < j then .val (.int (i % j)) else .bad) := po
      split at po2
      · rename_i hz
        exact op_mod pins s σ H x y v u Q I rx ry ⟨i, j, rv_int.mp qx, rv_int.mp qy, hz, po2.of_val R (rv_int.mpr rfl)⟩
      · exact False.elim po2
    | _ => exact False.elim po
  | _ => exact False.elim po
theorem op_powV : OpR X (binaryOp .Pow) (r2 p powV) := by
  rintro pins s σ H x y v u Q I rx ry ⟨bs, r, hp, d, e, R, qx, qy, po⟩
  cases d with
  | int i =>
    cases e with
    | int j =>
      have po2 : VoP p bs r hp Q (if 0 ≤ j ∧ j ≤ 1000 ∧ i.natAbs < 2 ^ 64 then .val (.int (i ^ j.toNat)) else .bad) := po
      split at po2
      · rename_i hz
        exact op_pow pins s σ H x y v u Q I rx ry ⟨i, j, rv_int.mp qx, rv_int.mp qy, ⟨hz.1, by omega, hz.2.2⟩, po2.of_val R (rv_int.mpr rfl)⟩
      · exact False.elim po2
    | _ => exact False.elim po
  | _ => exact False.elim po
theorem un_negV : UnR X (unaryOp .USub) (r1 p negV) := by
  rintro pins s σ H x v Q I rx ⟨bs, r, hp, d, R, qx, po⟩
  cases d with
  | int i => exact un_neg pins s σ H x v Q I rx ⟨i, rv_int.mp qx, po.of_val R (rv_int.mpr rfl)⟩
  | _ => exact False.elim po

/-! ### order of ints -/
def ordV (f : Int → Int → Bool) : V2 := fun d e _ => match d, e with
  | .int i, .int j => .val (.bl (f i j))
  | _, _ => .bad
theorem op_ordV {op : CmpOp} {f : Int → Int → Bool} (ho : OpR X (compareOp op) (rI0 fun i j => .bl (f i j))) : OpR X (compareOp op) (r2 p (ordV f)) := by
  rintro pins s σ H x y v u Q I rx ry ⟨bs, r, hp, d, e, R, qx, qy, po⟩
  cases d with
  | int i =>
    cases e with
    | int j => exact ho pins s σ H x y v u Q I rx ry ⟨i, j, rv_int.mp qx, rv_int.mp qy, po.of_val R (rv_bl.mpr rfl)⟩
    | _ => exact False.elim po
  | _ => exact False.elim po
abbrev ltV : V2 := ordV fun i j => decide (i < j)
abbrev leV : V2 := ordV fun i j => decide (i ≤ j)
abbrev gtV : V2 := ordV fun i j => decide (j < i)
abbrev geV : V2 := ordV fun i j => decide (j ≤ i)

/-! ### data: == at any depth, in -/
mutual
def py (get : Nat → Option PyData) : D → Option PyData
  | .non => some .none
  | .bl b => some (.bool b)
  | .int i => some (.int i)
  | .str s => some (.str s)
  | .tup xs => match pys get xs with
    | some ys => some (.tuple ys)
    | none => none
  | .lst xs => match pys get xs with
    | some ys => some (.list ys)
    | none => none
  | .scr xs => match pys get xs with
    | some ys => some (.list ys)
    | none => none
  | .ref n => get n
  | .cls _ => none
  | .ty _ => none
  | .dct _ _ => none
  | .ins _ _ _ => none
  | .exc _ _ _ => none
def pys (get : Nat → Option PyData) : List D → Option (List PyData)
  | [] => some []
  | x :: r => match py get x, pys get r with
    | some y, some ys => some (y :: ys)
    | _, _ => none
end
def pyCell (hp : List Cell) : Nat → Nat → Option PyData
  | 0, _ => none
  | k + 1, n => match hp[n]? with
    | some (.lst xs) => match pys (pyCell hp k) xs with
      | some ys => some (.list ys)
      | none => none
    | _ => none
def pyOf (d : D) (hp : List Cell) : Option PyData := py (pyCell hp 8) d
mutual
theorem py_ok {get : Nat → Option PyData} (hK : X.K = p.K) (R : RH p bs r hp H) (hg : ∀ n v x, get n = some x → RV p r (.ref n) v → Dp X.K H v x) : ∀ {d : D} {v : V} {x : PyData}, RV p r d v → py get d = some x → Dp X.K H v x
  | .non, v, x, q, e => by
    have e2 : x = .none := by simpa [py] using e.symm
    rw [rv_non.mp q, e2]; exact .non
  | .bl b, v, x, q, e => by
    have e2 : x = .bool b := by simpa [py] using e.symm
    rw [rv_bl.mp q, e2]; exact .bl b
  | .int b, v, x, q, e => by
    have e2 : x = .int b := by simpa [py] using e.symm
    rw [rv_int.mp q, e2]; exact .int b
  | .str b, v, x, q, e => by
    have e2 : x = .str b := by simpa [py] using e.symm
    rw [rv_str.mp q, e2]; exact .str b
  | .tup xs, v, x, q, e => by
    obtain ⟨a, vs, ev, g, t⟩ := rv_tupI q
    unfold py at e
    split at e
    · rename_i ys ey
      have e2 : x = .tuple ys := by simpa using e.symm
      rw [ev, e2]; exact .tup (.of (R.sub _ _ g)) (pys_ok hK R hg t ey)
    · cases e
  | .lst xs, v, x, q, e => by
    obtain ⟨a, vs, ev, g, t⟩ := rv_lstI q
    unfold py at e
    split at e
    · rename_i ys ey
      have e2 : x = .list ys := by simpa using e.symm
      rw [ev, e2]; exact .lst (.of (R.sub _ _ g)) (pys_ok hK R hg t ey)
    · cases e
  | .scr xs, v, x, q, e => by
    obtain ⟨a, vs, ev, g, t⟩ := rv_scrI q
    unfold py at e
    split at e
    · rename_i ys ey
      have e2 : x = .list ys := by simpa using e.symm
      rw [ev, e2]; exact .lst (by rw [hK]; exact sqL_le R.sub g) (pys_ok hK R hg t ey)
    · cases e
  | .ref n, v, x, q, e => hg n v x (by simpa [py] using e) q
  | .cls _, v, x, q, e => by simp [py] at e
  | .ty _, v, x, q, e => by simp [py] at e
  | .dct _ _, v, x, q, e => by simp [py] at e
  | .ins _ _ _, v, x, q, e => by simp [py] at e
  | .exc _ _ _, v, x, q, e => by simp [py] at e
theorem pys_ok {get : Nat → Option PyData} (hK : X.K = p.K) (R : RH p bs r hp H) (hg : ∀ n v x, get n = some x → RV p r (.ref n) v → Dp X.K H v x) : ∀ {xs : List D} {vs : List V} {ys : List PyData}, RVs p r xs vs → pys get xs = some ys → DpAll X.K H vs ys
  | [], vs, ys, q, e => by
    have e2 : ys = [] := by simpa [pys] using e.symm
    rw [q.nil_inv, e2]; exact .nil
  | x :: xs, vs, ys, q, e => by
    obtain ⟨v, us, ev, q1, q2⟩ := q.cons_inv
    unfold pys at e
    split at e
    · rename_i y zs ey ez
      have e2 : ys = y :: zs := by simpa using e.symm
      rw [ev, e2]
      exact .cons (py_ok hK R hg q1 ey) (pys_ok hK R hg q2 ez)
    · cases e
end
theorem pyCell_ok (hK : X.K = p.K) (R : RH p bs r hp H) : ∀ (k n : Nat) (v : V) (x : PyData), pyCell hp k n = some x → RV p r (.ref n) v → Dp X.K H v x
  | 0, _, _, _, e, _ => by cases e
  | k + 1, n, v, x, e, q => by
    unfold pyCell at e
    split at e
    · rename_i xs ec
      split at e
      · rename_i ys ey
        obtain ⟨a, ev, ea, vs, eh, t⟩ := R.cellAt ec q
        have e2 : x = .list ys := by simpa using e.symm
        rw [ev, e2]
        exact .lst (.of eh) (pys_ok hK R (pyCell_ok hK R k) t ey)
      · cases e
    · cases e
theorem pyOf_ok (hK : X.K = p.K) (R : RH p bs r hp H) {d : D} {v : V} {x : PyData} (q : RV p r d v) (e : pyOf d hp = some x) : Dp X.K H v x := py_ok hK R (pyCell_ok hK R 8) q e
def eqV (neg : Bool) : V2 := fun d e hp => match pyOf d hp, pyOf e hp with
  | some a, some b => if (SeqAt.shaped a && SeqAt.shaped b) = true then .val (.bl (if neg then !PyData.eqv a b else PyData.eqv a b)) else .bad
  | _, _ => .bad
theorem op_eqV (hK : X.K = p.K) (hu : X.A.units + 64 < cLine) : OpR X (compareOp .Eq) (r2 p (eqV false)) := by
  rintro pins s σ H x y v u Q I rx ry ⟨bs, r, hp, d, e, R, qx, qy, po⟩
  unfold eqV at po
  split at po
  · rename_i a b ea eb
    split at po
    · rename_i hs
      rw [Bool.and_eq_true] at hs
      exact op_eqD hu pins s σ H x y v u Q I rx ry ⟨a, b, pyOf_ok hK R qx ea, pyOf_ok hK R qy eb, hs.1, hs.2, po.of_val R (rv_bl.mpr rfl)⟩
    · exact False.elim po
  · exact False.elim po
theorem op_neV (hK : X.K = p.K) (hu : X.A.units + 64 < cLine) : OpR X (compareOp .NotEq) (r2 p (eqV true)) := by
  rintro pins s σ H x y v u Q I rx ry ⟨bs, r, hp, d, e, R, qx, qy, po⟩
  unfold eqV at po
  split at po
  · rename_i a b ea eb
    split at po
    · rename_i hs
      rw [Bool.and_eq_true] at hs
      exact op_neD hu pins s σ H x y v u Q I rx ry ⟨a, b, pyOf_ok hK R qx ea, pyOf_ok hK R qy eb, hs.1, hs.2, po.of_val R (rv_bl.mpr rfl)⟩
    · exact False.elim po
  · exact False.elim po
def isNV (neg : Bool) : V2 := fun d e _ => match e with
  | .non => match d with
    | .non => .val (.bl (!neg))
    | .cls _ => .bad
    | _ => .val (.bl neg)
  | _ => .bad
theorem rv_isN {d : D} {v : V} (q : RV p r d v) : v = .non ↔ d = .non := by
  cases d with
  | non => simp [rv_non.mp q]
  | bl b => simp [rv_bl.mp q]
  | int b => simp [rv_int.mp q]
  | str b => simp [rv_str.mp q]
  | cls b => simp [rv_cls.mp q]
  | ty b => simp only [RV] at q; simp [q]
  | tup xs => obtain ⟨a, vs, e, _⟩ := rv_tupI q; simp [e]
  | lst xs => obtain ⟨a, vs, e, _⟩ := rv_lstI q; simp [e]
  | scr xs => obtain ⟨a, vs, e, _⟩ := rv_scrI q; simp [e]
  | dct ks xs => simp only [RV] at q; obtain ⟨a, o, vs, e, _⟩ := q; simp [e]
  | ins c fs xs => simp only [RV] at q; obtain ⟨a, dx, vs, e, _⟩ := q; simp [e]
  | exc c fs xs => simp only [RV] at q; obtain ⟨a, e, _⟩ := q; simp [e]
  | ref n => simp only [RV] at q; obtain ⟨a, _, e⟩ := q; simp [e]
theorem isNV_ok {neg : Bool} {d e : D} {x y : V} {Q : VK} (R : RH p bs r hp H) (qx : RV p r d x) (qy : RV p r e y) (po : VoP p bs r hp Q (isNV neg d e hp)) : y = .non ∧ Q (.bl (if neg then !decide (x = .non) else decide (x = .non))) H := by
  unfold isNV at po
  split at po
  · refine ⟨rv_non.mp qy, ?_⟩
    split at po
    · rw [rv_non.mp qx]
      have := po.of_val R (v := .bl (!neg)) (rv_bl.mpr rfl)
      cases neg <;> simpa using this
    · exact False.elim po
    · rename_i h1 h2
      have hn : ¬ x = .non := fun z => h1 ((rv_isN qx).mp z)
      have := po.of_val R (v := .bl neg) (rv_bl.mpr rfl)
      rw [decide_eq_false hn]
      cases neg <;> simpa using this
  · exact False.elim po
theorem op_isV : OpR X (compareOp .Is) (r2 p (isNV false)) := by
  rintro pins s σ H x y v u Q I rx ry ⟨bs, r, hp, d, e, R, qx, qy, po⟩
  exact op_isN pins s σ H x y v u Q I rx ry (by simpa using isNV_ok R qx qy po)
theorem op_isnV : OpR X (compareOp .IsNot) (r2 p (isNV true)) := by
  rintro pins s σ H x y v u Q I rx ry ⟨bs, r, hp, d, e, R, qx, qy, po⟩
  exact op_notN pins s σ H x y v u Q I rx ry (by simpa using isNV_ok R qx qy po)

/-! ### items -/
def ixV : V2 := fun d e hp => match e with
  | .int i => match d with
    | .tup xs => match atI xs i with
      | some x => .val x
      | none => .bad
    | d => match lstOf' d hp with
      | some xs => match atI xs i with
        | some x => .val x
        | none => .bad
      | none => .bad
  | _ => .bad
theorem RVs.atI {xs : List D} {vs : List V} {i : Int} {x : D} (h : RVs p r xs vs) (e : L2.atI xs i = some x) : ∃ v, L2.atI vs i = some v ∧ RV p r x v := by
  unfold L2.atI at e ⊢
  rw [← h.length]
  cases ej : ixN xs.length i with
  | none => rw [ej] at e; cases e
  | some j =>
    rw [ej] at e
    exact h.get (i := j) e
theorem ix_V (hK : X.K = p.K) : IxR X (r2 p ixV) := by
  rintro value slice pins s σ H x y v u Q I rx ry ⟨bs, r, hp, d, e, R, qx, qy, po⟩ hs
  cases e with
  | int i =>
    have ey := rv_int.mp qy
    by_cases hd : ∃ xs, d = .tup xs
    · obtain ⟨xs, rfl⟩ := hd
      obtain ⟨a, vs, ev, g, t⟩ := rv_tupI qx
      have po2 : VoP p bs r hp Q (match atI xs i with
        | some x => .val x
        | none => .bad) := po
      split at po2
      · rename_i z ez
        obtain ⟨w, ew, qw⟩ := t.atI ez
        exact ix_tup value slice pins s σ H x y v u Q I rx ry ⟨a, vs, i, w, ev, ey, .of (R.sub _ _ g), ew, po2.of_val R qw⟩ hs
      · exact False.elim po2
    · have po2 : VoP p bs r hp Q (match lstOf' d hp with
        | some xs => match atI xs i with
          | some x => .val x
          | none => .bad
        | none => .bad) := by
        cases d with
        | tup xs => exact absurd ⟨xs, rfl⟩ hd
        | _ => exact po
      split at po2
      · rename_i xs e1
        obtain ⟨a, vs, ev, ea, t⟩ := lstOf'_ok hK R qx e1
        split at po2
        · rename_i z ez
          obtain ⟨w, ew, qw⟩ := t.atI ez
          exact ix_list value slice pins s σ H x y v u Q I rx ry ⟨a, vs, i, w, ev, ey, ea, ew, po2.of_val R qw⟩ hs
        · exact False.elim po2
      · exact False.elim po2
  | _ => exact False.elim po
end
end Den
end

-- DenF
section
set_option maxHeartbeats 1000000
/-! Den: built-in functions. -/
namespace Den
open PySem PySem.Spec L2
section
variable {X : Cx} {p : Px} {W : WX} {bs : List Nat} {r : Rp} {hp : List Cell} {H : Hp}
def callV (f : VA) (t : SemA) : SemE := fun s => (t s).bind fun xs s => (f xs s.hp).on s
section
variable {x : Str} {e : Expr} {es : List Expr} {ft : SemA} {f : VA} {q pos : Pos} {id T : String}
theorem call_of {σ : L2.St} {H : Hp} {Q : VK} (h : tE p W (callV f ft) σ H Q) : tCB (rA p f) (tA p W ft) σ H Q := by
  obtain ⟨bs, r, s, R, po⟩ := h
  exact tG.mono (Po.bind (rel := RVs p) R po) fun vs H1 ⟨r1, xs, s1, l1, R1, q1, po1⟩ => ⟨bs, r1, s1.hp, xs, R1.hp, q1, po1.vo R1⟩
theorem pe_bltV (hc : CallR X (.builtin id) (rA p f)) (hg : Gl X x) (hm : X.mg x = none) (hv : bootBuiltins x = some (.builtin id)) (ha : PA X (e :: es) (tA p W ft)) (hn : x ≠ "__name__") (hdb : (x == ("__debug__" : Str)) = false)
    (he : starEach (e :: es) X.env = (false, eval e X.env) :: starEach es X.env) (hpl : (backTo pos (starEach es X.env)).any (·.1) = false) : PE X (.Call (.Name x q) (e :: es) [] pos) (tE p W (callV f ft)) :=
  PE.by (pe_callB hc hg hm hv ha hn hdb he hpl) fun _ _ _ h => call_of h
theorem pe_tyV (hc : CallR X (.type T) (rA p f)) (hg : Gl X x) (hm : X.mg x = none) (hv : bootBuiltins x = some (.type T)) (ha : PA X (e :: es) (tA p W ft)) (hn : x ≠ "__name__") (hdb : (x == ("__debug__" : Str)) = false)
    (he : starEach (e :: es) X.env = (false, eval e X.env) :: starEach es X.env) (hpl : (backTo pos (starEach es X.env)).any (·.1) = false) : PE X (.Call (.Name x q) (e :: es) [] pos) (tE p W (callV f ft)) :=
  PE.by (pe_callTy hc hg hm hv ha hn hdb he hpl) fun _ _ _ h => call_of h
theorem pe_funV (hc : CallR X (.builtin id) (rA p f)) (hg : Gl X x) (hm : X.mg x = some (.builtin id)) (ha : PA X (e :: es) (tA p W ft)) (hdb : (x == ("__debug__" : Str)) = false)
    (he : starEach (e :: es) X.env = (false, eval e X.env) :: starEach es X.env) (hpl : (backTo pos (starEach es X.env)).any (·.1) = false) : PE X (.Call (.Name x q) (e :: es) [] pos) (tE p W (callV f ft)) :=
  PE.by (pe_callBfun hc hg hm ha hdb he hpl) fun _ _ _ h => call_of h
end

/-! ### lists of ints, of bools -/
def intsOf : List D → Option (List Int)
  | [] => some []
  | .int i :: r => match intsOf r with
    | some is => some (i :: is)
    | none => none
  | _ :: _ => none
def blsOf : List D → Option (List Bool)
  | [] => some []
  | .bl i :: r => match blsOf r with
    | some is => some (i :: is)
    | none => none
  | _ :: _ => none
theorem intsOf_ok : ∀ {xs : List D} {ns : List Int} {vs : List V}, intsOf xs = some ns → RVs p r xs vs → vs = ns.map V.int
  | [], ns, vs, e, q => by
    have : ns = [] := by simpa [intsOf] using e.symm
    rw [q.nil_inv, this] <;> rfl
  | x :: xs, ns, vs, e, q => by
    obtain ⟨v, us, ev, q1, q2⟩ := q.cons_inv
    cases x with
    | int i =>
      unfold intsOf at e
      split at e
      · rename_i is e1
        have : ns = i :: is := by simpa using e.symm
        rw [ev, this, intsOf_ok e1 q2, rv_int.mp q1] <;> rfl
      · cases e
    | _ => cases e
theorem blsOf_ok : ∀ {xs : List D} {ns : List Bool} {vs : List V}, blsOf xs = some ns → RVs p r xs vs → vs = ns.map V.bl
  | [], ns, vs, e, q => by
    have : ns = [] := by simpa [blsOf] using e.symm
    rw [q.nil_inv, this] <;> rfl
  | x :: xs, ns, vs, e, q => by
    obtain ⟨v, us, ev, q1, q2⟩ := q.cons_inv
    cases x with
    | bl i =>
      unfold blsOf at e
      split at e
      · rename_i is e1
        have : ns = i :: is := by simpa using e.symm
        rw [ev, this, blsOf_ok e1 q2, rv_bl.mp q1] <;> rfl
      · cases e
    | _ => cases e
theorem intsOf_map : ∀ ns : List Int, intsOf (ns.map D.int) = some ns
  | [] => rfl
  | n :: ns => by simp [intsOf, intsOf_map ns]
theorem blsOf_map : ∀ ns : List Bool, blsOf (ns.map D.bl) = some ns
  | [] => rfl
  | n :: ns => by simp [blsOf, blsOf_map ns]

/-! ### the functions -/
def lenV : VA := fun xs hp => match xs with
  | [.tup ys] => .val (.int ys.length)
  | [.str y] => if y.length ≤ sizeLine then .val (.int y.length) else .bad
  | [d] => match lstOf' d hp with
    | some ys => .val (.int ys.length)
    | none => .bad
  | _ => .bad
theorem RVs.one {x : D} {vs : List V} (h : RVs p r [x] vs) : ∃ v, vs = [v] ∧ RV p r x v := by
  obtain ⟨v, us, e, q1, q2⟩ := h.cons_inv
  rw [q2.nil_inv] at e
  exact ⟨v, e, q1⟩
theorem RVs.two {x y : D} {vs : List V} (h : RVs p r [x, y] vs) : ∃ v u, vs = [v, u] ∧ RV p r x v ∧ RV p r y u := by
  obtain ⟨v, us, e, q1, q2⟩ := h.cons_inv
  obtain ⟨u, eu, q3⟩ := q2.one
  rw [eu] at e
  exact ⟨v, u, e, q1, q3⟩
theorem call_lenV (hK : X.K = p.K) : CallR X (.builtin "len") (rA p lenV) := by
  rintro pins s σ H vs us Q I rx ⟨bs, r, hp, xs, R, q, po⟩
  unfold lenV at po
  split at po
  · rename_i ys
    obtain ⟨v, rfl, q1⟩ := q.one
    obtain ⟨a, ws, ev, g, t⟩ := rv_tupI q1
    rw [t.length] at po
    exact call_len_seq pins s σ H _ us Q I rx ⟨a, ws, by rw [ev], .inr (.of (R.sub _ _ g)), po.of_val R (rv_int.mpr rfl)⟩
  · rename_i y
    obtain ⟨v, rfl, q1⟩ := q.one
    split at po
    · rename_i hz
      exact call_len_str pins s σ H _ us Q I rx ⟨y, by rw [rv_str.mp q1], hz, po.of_val R (rv_int.mpr rfl)⟩
    · exact False.elim po
  · rename_i d _ _
    obtain ⟨v, rfl, q1⟩ := q.one
    split at po
    · rename_i ys e1
      obtain ⟨a, ws, ev, ea, t⟩ := lstOf'_ok hK R q1 e1
      rw [t.length] at po
      exact call_len_seq pins s σ H _ us Q I rx ⟨a, ws, by rw [ev], .inl ea, po.of_val R (rv_int.mpr rfl)⟩
    · exact False.elim po
  · exact False.elim po
def absV : VA := fun xs _ => match xs with
  | [.int i] => .val (.int (if i < 0 then -i else i))
  | _ => .bad
theorem call_absV : CallR X (.builtin "abs") (rA p absV) := by
  rintro pins s σ H vs us Q I rx ⟨bs, r, hp, xs, R, q, po⟩
  unfold absV at po
  split at po
  · rename_i i
    obtain ⟨v, rfl, q1⟩ := q.one
    exact call_abs pins s σ H _ us Q I rx ⟨i, by rw [rv_int.mp q1], po.of_val R (rv_int.mpr rfl)⟩
  · exact False.elim po
/-- the greatest, the least of a list of ints that is not empty -/
def maxI : List Int → Int
  | [] => 0
  | [x] => x
  | x :: y :: r => let m := maxI (y :: r); if x < m then m else x
def minI : List Int → Int
  | [] => 0
  | [x] => x
  | x :: y :: r => let m := minI (y :: r); if m < x then m else x
theorem maxI_spec : ∀ {ns : List Int}, 0 < ns.length → maxI ns ∈ ns ∧ ∀ y ∈ ns, y ≤ maxI ns
  | [], h => by simp at h
  | [x], _ => by simp [maxI]
  | x :: y :: r, _ => by
    obtain ⟨h1, h2⟩ := maxI_spec (ns := y :: r) (by simp)
    simp only [maxI]
    split
    · rename_i hx
      refine ⟨List.mem_cons_of_mem _ h1, fun z hz => ?_⟩
      rcases List.mem_cons.mp hz with rfl | hz
      · omega
      · exact h2 z hz
    · rename_i hx
      refine ⟨List.mem_cons_self, fun z hz => ?_⟩
      rcases List.mem_cons.mp hz with rfl | hz
      · exact Int.le_refl _
      · have := h2 z hz; omega
theorem minI_spec : ∀ {ns : List Int}, 0 < ns.length → minI ns ∈ ns ∧ ∀ y ∈ ns, minI ns ≤ y
  | [], h => by simp at h
  | [x], _ => by simp [minI]
  | x :: y :: r, _ => by
    obtain ⟨h1, h2⟩ := minI_spec (ns := y :: r) (by simp)
    simp only [minI]
    split
    · rename_i hx
      refine ⟨List.mem_cons_of_mem _ h1, fun z hz => ?_⟩
      rcases List.mem_cons.mp hz with rfl | hz
      · omega
      · exact h2 z hz
    · rename_i hx
      refine ⟨List.mem_cons_self, fun z hz => ?_⟩
      rcases List.mem_cons.mp hz with rfl | hz
      · exact Int.le_refl _
      · have := h2 z hz; omega
def maxV : VA := fun xs hp => match xs with
  | [.int i, .int j] => .val (.int (if j > i then j else i))
  | [d] => match lstOf' d hp with
    | some ys => match intsOf ys with
      | some ns => if 0 < ns.length then .val (.int (maxI ns)) else .bad
      | none => .bad
    | none => .bad
  | _ => .bad
def minV : VA := fun xs hp => match xs with
  | [.int i, .int j] => .val (.int (if j < i then j else i))
  | [d] => match lstOf' d hp with
    | some ys => match intsOf ys with
      | some ns => if 0 < ns.length then .val (.int (minI ns)) else .bad
      | none => .bad
    | none => .bad
  | _ => .bad
theorem call_maxV (hK : X.K = p.K) (hc : X.calm = true) : CallR X (.builtin "max") (rA p maxV) := by
  rintro pins s σ H vs us Q I rx ⟨bs, r, hp, xs, R, q, po⟩
  unfold maxV at po
  split at po
  · rename_i i j
    obtain ⟨v, u, rfl, q1, q2⟩ := q.two
    exact call_max2 hc pins s σ H _ us Q I rx ⟨i, j, by rw [rv_int.mp q1, rv_int.mp q2], po.of_val R (rv_int.mpr rfl)⟩
  · obtain ⟨v, rfl, q1⟩ := q.one
    split at po
    · rename_i ys e1
      obtain ⟨a, ws, ev, ea, t⟩ := lstOf'_ok hK R q1 e1
      split at po
      · rename_i ns e2
        split at po
        · rename_i hz
          have hw := intsOf_ok e2 t
          rw [hw] at ea
          refine cr_max hc pins s σ H _ us Q I rx ⟨a, ns, by rw [ev], ea, hz, fun m hm hy => ?_⟩
          obtain ⟨h1, h2⟩ := maxI_spec hz
          have : m = maxI ns := Int.le_antisymm (h2 m hm) (hy _ h1)
          rw [this]
          exact po.of_val R (rv_int.mpr rfl)
        · exact False.elim po
      · exact False.elim po
    · exact False.elim po
  · exact False.elim po
theorem call_minV (hK : X.K = p.K) (hc : X.calm = true) : CallR X (.builtin "min") (rA p minV) := by
  rintro pins s σ H vs us Q I rx ⟨bs, r, hp, xs, R, q, po⟩
  unfold minV at po
  split at po
  · rename_i i j
    obtain ⟨v, u, rfl, q1, q2⟩ := q.two
    exact call_min2 hc pins s σ H _ us Q I rx ⟨i, j, by rw [rv_int.mp q1, rv_int.mp q2], po.of_val R (rv_int.mpr rfl)⟩
  · obtain ⟨v, rfl, q1⟩ := q.one
    split at po
    · rename_i ys e1
      obtain ⟨a, ws, ev, ea, t⟩ := lstOf'_ok hK R q1 e1
      split at po
      · rename_i ns e2
        split at po
        · rename_i hz
          have hw := intsOf_ok e2 t
          rw [hw] at ea
          refine cr_min hc pins s σ H _ us Q I rx ⟨a, ns, by rw [ev], ea, hz, fun m hm hy => ?_⟩
          obtain ⟨h1, h2⟩ := minI_spec hz
          have : m = minI ns := Int.le_antisymm (hy _ h1) (h2 m hm)
          rw [this]
          exact po.of_val R (rv_int.mpr rfl)
        · exact False.elim po
      · exact False.elim po
    · exact False.elim po
  · exact False.elim po
def sumV : VA := fun xs hp => match xs with
  | [d] => match lstOf' d hp with
    | some ys => match intsOf ys with
      | some ns => .val (.int ns.sum)
      | none => .bad
    | none => .bad
  | _ => .bad
theorem call_sumV (hK : X.K = p.K) (hc : X.calm = true) : CallR X (.builtin "sum") (rA p sumV) := by
  rintro pins s σ H vs us Q I rx ⟨bs, r, hp, xs, R, q, po⟩
  unfold sumV at po
  split at po
  · obtain ⟨v, rfl, q1⟩ := q.one
    split at po
    · rename_i ys e1
      obtain ⟨a, ws, ev, ea, t⟩ := lstOf'_ok hK R q1 e1
      split at po
      · rename_i ns e2
        rw [intsOf_ok e2 t] at ea
        exact cr_sum hc pins s σ H _ us Q I rx ⟨a, ns, by rw [ev], ea, po.of_val R (rv_int.mpr rfl)⟩
      · exact False.elim po
    · exact False.elim po
  · exact False.elim po
def anyV : VA := fun xs hp => match xs with
  | [d] => match lstOf' d hp with
    | some ys => match blsOf ys with
      | some ns => .val (.bl (ns.any id))
      | none => .bad
    | none => .bad
  | _ => .bad
def allV : VA := fun xs hp => match xs with
  | [d] => match lstOf' d hp with
    | some ys => match blsOf ys with
      | some ns => .val (.bl (ns.all id))
      | none => .bad
    | none => .bad
  | _ => .bad
theorem call_anyV (hK : X.K = p.K) (hc : X.calm = true) : CallR X (.builtin "any") (rA p anyV) := by
  rintro pins s σ H vs us Q I rx ⟨bs, r, hp, xs, R, q, po⟩
  unfold anyV at po
  split at po
  · obtain ⟨v, rfl, q1⟩ := q.one
    split at po
    · rename_i ys e1
      obtain ⟨a, ws, ev, ea, t⟩ := lstOf'_ok hK R q1 e1
      split at po
      · rename_i ns e2
        rw [blsOf_ok e2 t] at ea
        exact cr_any hc pins s σ H _ us Q I rx ⟨a, ns, by rw [ev], ea, po.of_val R (rv_bl.mpr rfl)⟩
      · exact False.elim po
    · exact False.elim po
  · exact False.elim po
theorem call_allV (hK : X.K = p.K) (hc : X.calm = true) : CallR X (.builtin "all") (rA p allV) := by
  rintro pins s σ H vs us Q I rx ⟨bs, r, hp, xs, R, q, po⟩
  unfold allV at po
  split at po
  · obtain ⟨v, rfl, q1⟩ := q.one
    split at po
    · rename_i ys e1
      obtain ⟨a, ws, ev, ea, t⟩ := lstOf'_ok hK R q1 e1
      split at po
      · rename_i ns e2
        rw [blsOf_ok e2 t] at ea
        exact cr_all hc pins s σ H _ us Q I rx ⟨a, ns, by rw [ev], ea, po.of_val R (rv_bl.mpr rfl)⟩
      · exact False.elim po
    · exact False.elim po
  · exact False.elim po
def intV : VA := fun xs _ => match xs with
  | [.int i] => .val (.int i)
  | [.bl b] => .val (.int (if b then 1 else 0))
  | _ => .bad
theorem call_intV : CallR X (.type "int") (rA p intV) := by
  rintro pins s σ H vs us Q I rx ⟨bs, r, hp, xs, R, q, po⟩
  unfold intV at po
  split at po
  · rename_i i
    obtain ⟨v, rfl, q1⟩ := q.one
    exact call_int1 pins s σ H _ us Q I rx (.inl ⟨i, by rw [rv_int.mp q1], po.of_val R (rv_int.mpr rfl)⟩)
  · rename_i i
    obtain ⟨v, rfl, q1⟩ := q.one
    exact call_int1 pins s σ H _ us Q I rx (.inr ⟨i, by rw [rv_bl.mp q1], po.of_val R (rv_int.mpr rfl)⟩)
  · exact False.elim po
def boolV : VA := fun xs _ => match xs with
  | [.int i] => .val (.bl (i != 0))
  | [.bl b] => .val (.bl b)
  | _ => .bad
theorem call_boolV : CallR X (.type "bool") (rA p boolV) := by
  rintro pins s σ H vs us Q I rx ⟨bs, r, hp, xs, R, q, po⟩
  unfold boolV at po
  split at po
  · rename_i i
    obtain ⟨v, rfl, q1⟩ := q.one
    exact call_bool1 pins s σ H _ us Q I rx (.inl ⟨i, by rw [rv_int.mp q1], po.of_val R (rv_bl.mpr rfl)⟩)
  · rename_i i
    obtain ⟨v, rfl, q1⟩ := q.one
    exact call_bool1 pins s σ H _ us Q I rx (.inr ⟨i, by rw [rv_bl.mp q1], po.of_val R (rv_bl.mpr rfl)⟩)
  · exact False.elim po
def strV : VA := fun xs _ => match xs with
  | [.int i] => if i.natAbs.log2 < 1920 then .val (.str (toString i)) else .bad
  | _ => .bad
theorem call_strV : CallR X (.type "str") (rA p strV) := by
  rintro pins s σ H vs us Q I rx ⟨bs, r, hp, xs, R, q, po⟩
  unfold strV at po
  split at po
  · rename_i i
    obtain ⟨v, rfl, q1⟩ := q.one
    split at po
    · rename_i hz
      exact call_str_int pins s σ H _ us Q I rx ⟨i, by rw [rv_int.mp q1], hz, po.of_val R (rv_str.mpr rfl)⟩
    · exact False.elim po
  · exact False.elim po
/-- list(x), tuple(x) -/
def listV : VA := fun xs hp => match xs with
  | [.tup ys] => .new (.lst ys)
  | [d] => match lstOf' d hp with
    | some ys => .new (.lst ys)
    | none => .bad
  | _ => .bad
def tupleV : VA := fun xs hp => match xs with
  | [.tup ys] => .val (.tup ys)
  | [d] => match lstOf' d hp with
    | some ys => .val (.tup ys)
    | none => .bad
  | _ => .bad
theorem call_listV (hK : X.K = p.K) : CallR X (.type "list") (rA p listV) := by
  rintro pins s σ H vs us Q I rx ⟨bs, r, hp, xs, R, q, po⟩
  unfold listV at po
  split at po
  · rename_i ys
    obtain ⟨v, rfl, q1⟩ := q.one
    obtain ⟨a, ws, ev, g, t⟩ := rv_tupI q1
    exact call_list_of pins s σ H _ us Q I rx ⟨a, ws, by rw [ev], .inr (.of (R.sub _ _ g)), fun l n => po.of_lst R t n⟩
  · obtain ⟨v, rfl, q1⟩ := q.one
    split at po
    · rename_i ys e1
      obtain ⟨a, ws, ev, ea, t⟩ := lstOf'_ok hK R q1 e1
      exact call_list_of pins s σ H _ us Q I rx ⟨a, ws, by rw [ev], .inl ea, fun l n => po.of_lst R t n⟩
    · exact False.elim po
  · exact False.elim po
theorem call_tupleV (hK : X.K = p.K) : CallR X (.type "tuple") (rA p tupleV) := by
  rintro pins s σ H vs us Q I rx ⟨bs, r, hp, xs, R, q, po⟩
  unfold tupleV at po
  split at po
  · rename_i ys
    obtain ⟨v, rfl, q1⟩ := q.one
    obtain ⟨a, ws, ev, g, t⟩ := rv_tupI q1
    exact call_tuple_of pins s σ H _ us Q I rx ⟨a, ws, by rw [ev], .inr ⟨.of (R.sub _ _ g), po.of_val R (by rw [← ev]; exact q1)⟩⟩
  · obtain ⟨v, rfl, q1⟩ := q.one
    split at po
    · rename_i ys e1
      obtain ⟨a, ws, ev, ea, t⟩ := lstOf'_ok hK R q1 e1
      exact call_tuple_of pins s σ H _ us Q I rx ⟨a, ws, by rw [ev], .inl ⟨ea, fun l n => po.of_tup R t n⟩⟩
    · exact False.elim po
  · exact False.elim po
/-- sorted of ints -/
def insI (x : Int) : List Int → List Int
  | [] => [x]
  | y :: r => if x ≤ y then x :: y :: r else y :: insI x r
def sortI : List Int → List Int
  | [] => []
  | x :: r => insI x (sortI r)
theorem insI_perm (x : Int) : ∀ l : List Int, (insI x l).Perm (x :: l)
  | [] => .refl _
  | y :: r => by
    unfold insI
    split
    · exact .refl _
    · exact (List.Perm.cons y (insI_perm x r)).trans (List.Perm.swap x y r)
theorem sortI_perm : ∀ l : List Int, (sortI l).Perm l
  | [] => .refl _
  | x :: r => (insI_perm x (sortI r)).trans (List.Perm.cons x (sortI_perm r))
theorem insI_sorted (x : Int) : ∀ {l : List Int}, l.Pairwise (· ≤ ·) → (insI x l).Pairwise (· ≤ ·)
  | [], _ => by simp [insI]
  | y :: r, h => by
    obtain ⟨h1, h2⟩ := List.pairwise_cons.mp h
    unfold insI
    split
    · rename_i hx
      refine List.pairwise_cons.mpr ⟨fun z hz => ?_, h⟩
      rcases List.mem_cons.mp hz with rfl | hz
      · exact hx
      · have := h1 z hz; omega
    · rename_i hx
      refine List.pairwise_cons.mpr ⟨fun z hz => ?_, insI_sorted x h2⟩
      rcases List.mem_cons.mp ((insI_perm x r).mem_iff.mp hz) with rfl | hz
      · omega
      · exact h1 z hz
theorem sortI_sorted : ∀ l : List Int, (sortI l).Pairwise (· ≤ ·)
  | [] => .nil
  | x :: r => insI_sorted x (sortI_sorted r)
theorem sorted_one : ∀ {a b : List Int}, a.Perm b → a.Pairwise (· ≤ ·) → b.Pairwise (· ≤ ·) → a = b := fun h ha hb =>
  List.Perm.eq_of_pairwise (fun _ _ _ _ h1 h2 => Int.le_antisymm h1 h2) ha hb h
def sortedV : VA := fun xs hp => match xs with
  | [d] => match lstOf' d hp with
    | some ys => match intsOf ys with
      | some ns => .new (.lst ((sortI ns).map D.int))
      | none => .bad
    | none => .bad
  | _ => .bad
theorem call_sortedV (hK : X.K = p.K) : CallR X (.builtin "sorted") (rA p sortedV) := by
  rintro pins s σ H vs us Q I rx ⟨bs, r, hp, xs, R, q, po⟩
  unfold sortedV at po
  split at po
  · obtain ⟨v, rfl, q1⟩ := q.one
    split at po
    · rename_i ys e1
      obtain ⟨a, ws, ev, ea, t⟩ := lstOf'_ok hK R q1 e1
      split at po
      · rename_i ns e2
        rw [intsOf_ok e2 t] at ea
        refine cr_sortedI pins s σ H _ us Q I rx ⟨a, ns, by rw [ev], ea, fun ns' l h1 h2 n => ?_⟩
        have : ns' = sortI ns := sorted_one (h1.trans (sortI_perm ns).symm) h2 (sortI_sorted ns)
        rw [this]
        exact po.of_lst R (rvs_ints _) n
      · exact False.elim po
    · exact False.elim po
  · exact False.elim po
def gcdV : VA := fun xs _ => match xs with
  | [.int i, .int j] => .val (.int ((Nat.gcd i.natAbs j.natAbs : Nat) : Int))
  | _ => .bad
theorem call_gcdV : CallR X (.builtin "math.gcd") (rA p gcdV) := by
  rintro pins s σ H vs us Q I rx ⟨bs, r, hp, xs, R, q, po⟩
  unfold gcdV at po
  split at po
  · rename_i i j
    obtain ⟨v, u, rfl, q1, q2⟩ := q.two
    exact cr_gcd pins s σ H _ us Q I rx ⟨i, j, by rw [rv_int.mp q1, rv_int.mp q2], po.of_val R (rv_int.mpr rfl)⟩
  · exact False.elim po

/-! ### isinstance -/
/-- a value's type: a built-in one | a class of the program -/
inductive Tg where
  | ty (t : Nat) | cls (c : Nat)
  deriving DecidableEq
def Tg.val (p : Px) : Tg → Value
  | .ty t => .type (tyName t)
  | .cls c => .ref (p.CA c)
def tagOf (d : D) (hp : List Cell) : Option Tg := match d with
  | .non => some (.ty 0)
  | .bl _ => some (.ty 1)
  | .int _ => some (.ty 2)
  | .str _ => some (.ty 3)
  | .lst _ => some (.ty 4)
  | .tup _ => some (.ty 5)
  | .ins c _ _ => some (.cls c)
  | .ref n => match hp[n]? with
    | some (.lst _) => some (.ty 4)
    | some (.ins c _ _) => some (.cls c)
    | _ => none
  | _ => none
def isTg (p : Px) : Tg → Tg → Bool
  | .ty s, .ty t => s == t || (s == 1 && t == 2)
  | .cls c, .cls e => p.sub c e
  | _, _ => false
/-- what the head tells of the types -/
structure KitOk (p : Px) : Prop where
  one : ∀ s t : Tg, (match s with | .ty a => a < 7 | .cls c => c < p.ncls) → (match t with | .ty a => a < 7 | .cls c => c < p.ncls) → PySem.W.kitOne p.K (s.val p) (t.val p) = some (isTg p s t)
  ins : ∀ c, c < p.ncls → Cls p.K (p.CA c) ∧ PySem.W.findIn p.K (.ref (p.CA c)) "__class__" = some (some (.builtin "object.__class__")) ∧
    PySem.W.mroIn p.K (p.CA c) (.type "object") = some true
  getset : PySem.W.specialIn p.K (.builtin "object.__class__") "__get__" = some (some (.builtin "getset_descriptor.__get__")) ∧ PySem.W.takesIn p.K (.builtin "object.__class__") = some true
def Tg.ok (p : Px) : Tg → Bool
  | .ty a => decide (a < 7)
  | .cls c => decide (c < p.ncls)
theorem KitOk.one' (k : KitOk p) {s t : Tg} (hs : s.ok p = true) (ht : t.ok p = true) : PySem.W.kitOne p.K (s.val p) (t.val p) = some (isTg p s t) := by
  refine k.one s t ?_ ?_
  · cases s <;> exact of_decide_eq_true hs
  · cases t <;> exact of_decide_eq_true ht
theorem tag_ok (hK : X.K = p.K) (k : KitOk p) (R : RH p bs r hp H) {d : D} {v : V} {t : Tg} (q : RV p r d v) (e : tagOf d hp = some t) (ht : t.ok p = true) : TyX X.K H v (t.val p) := by
  have own : ∀ {a : Addr} {c : Nat} {dx : Addr} {vfs : List (Str × V)}, c < p.ncls → H a = some (.ins (p.CA c) dx vfs) → TyX X.K H (.ref a) (.ref (p.CA c)) := fun {a c dx vfs} hc ha => by
    obtain ⟨h1, h2, h3⟩ := k.ins c hc
    rw [hK]
    exact .base (.ins ha h1 h2 k.getset.1 k.getset.2 h3)
  cases d with
  | non => have : t = .ty 0 := by simpa [tagOf] using e.symm
           subst this; rw [rv_non.mp q]; exact .base .non
  | bl b => have : t = .ty 1 := by simpa [tagOf] using e.symm
            subst this; rw [rv_bl.mp q]; exact .base (.bl b)
  | int b => have : t = .ty 2 := by simpa [tagOf] using e.symm
             subst this; rw [rv_int.mp q]; exact .base (.int b)
  | str b => have : t = .ty 3 := by simpa [tagOf] using e.symm
             subst this; rw [rv_str.mp q]; exact .base (.str b)
  | lst xs => have : t = .ty 4 := by simpa [tagOf] using e.symm
              subst this
              obtain ⟨a, ws, ev, g, _⟩ := rv_lstI q
              rw [ev]; exact .base (.lst (R.sub _ _ g))
  | tup xs => have : t = .ty 5 := by simpa [tagOf] using e.symm
              subst this
              obtain ⟨a, ws, ev, g, _⟩ := rv_tupI q
              rw [ev]; exact .base (.tup (R.sub _ _ g))
  | ins c fs xs =>
    have : t = .cls c := by simpa [tagOf] using e.symm
    subst this
    simp only [RV] at q
    obtain ⟨a, dx, vfs, ev, g, _, _⟩ := q
    rw [ev]
    exact own (of_decide_eq_true ht) (R.sub _ _ g)
  | ref n =>
    unfold tagOf at e
    simp only at e
    split at e
    · rename_i xs ec
      have : t = .ty 4 := by simpa using e.symm
      subst this
      obtain ⟨a, ev, ea, vs, eh, _⟩ := R.cellAt ec q
      rw [ev]; exact .base (.lst eh)
    · rename_i c fs xs ec
      have : t = .cls c := by simpa using e.symm
      subst this
      obtain ⟨a, ev, ea, dx, vfs, eh, _, _⟩ := R.cellAt ec q
      rw [ev]
      exact own (of_decide_eq_true ht) eh
    · cases e
  | _ => cases e
def clsTg : D → Option Tg
  | .ty t => some (.ty t)
  | .cls c => some (.cls c)
  | _ => none
def isaV (p : Px) : VA := fun xs hp => match xs with
  | [d, .tup cs] => match tagOf d hp, allSome (cs.map clsTg) with
    | some t, some ts => if (t.ok p && ts.all (Tg.ok p)) = true then .val (.bl (ts.any fun c => isTg p t c)) else .bad
    | _, _ => .bad
  | [d, c] => match tagOf d hp, clsTg c with
    | some t, some u => if (t.ok p && u.ok p) = true then .val (.bl (isTg p t u)) else .bad
    | _, _ => .bad
  | _ => .bad
theorem clsTg_ok {c : D} {v : V} {t : Tg} (q : RV p r c v) (e : clsTg c = some t) : ClsV v (t.val p) := by
  cases c with
  | ty n => have : t = .ty n := by simpa [clsTg] using e.symm
            subst this
            simp only [RV] at q
            rw [q]; exact .ty _
  | cls n => have : t = .cls n := by simpa [clsTg] using e.symm
             subst this
             rw [rv_cls.mp q]; exact .own _
  | _ => cases e
theorem clsTgs_ok : ∀ {cs : List D} {vs : List V} {ts : List Tg}, RVs p r cs vs → allSome (cs.map clsTg) = some ts → Paired ClsV vs (ts.map (Tg.val p))
  | [], vs, ts, q, e => by
    have : ts = [] := by simpa [allSome] using e.symm
    rw [q.nil_inv, this]; exact .nil
  | c :: cs, vs, ts, q, e => by
    obtain ⟨v, us, ev, q1, q2⟩ := q.cons_inv
    rw [List.map_cons] at e
    cases ec : clsTg c with
    | none => rw [ec] at e; cases e
    | some t =>
      rw [ec] at e
      unfold allSome at e
      split at e
      · rename_i us' e1
        have : ts = t :: us' := by simpa using e.symm
        rw [ev, this]
        exact .cons (clsTg_ok q1 ec) (clsTgs_ok q2 e1)
      · cases e
theorem kitAny_of (k : KitOk p) {t : Tg} (ht : t.ok p = true) : ∀ {ts : List Tg}, ts.all (Tg.ok p) = true → PySem.W.kitAny p.K (t.val p) (ts.map (Tg.val p)) = some (ts.any fun c => isTg p t c)
  | [], _ => rfl
  | c :: ts, h => by
    rw [List.all_cons, Bool.and_eq_true] at h
    rw [List.map_cons]
    unfold PySem.W.kitAny
    rw [k.one' ht h.1, List.any_cons]
    cases isTg p t c with
    | true => rfl
    | false => exact kitAny_of k ht h.2
theorem call_isaV (hK : X.K = p.K) (k : KitOk p) : CallR X (.builtin "isinstance") (rA p (isaV p)) := by
  rintro pins s σ H vs us Q I rx ⟨bs, r, hp, xs, R, q, po⟩
  unfold isaV at po
  split at po
  · rename_i d cs
    obtain ⟨v, u, rfl, q1, q2⟩ := q.two
    obtain ⟨a, ws, ev, g, t⟩ := rv_tupI q2
    split at po
    · rename_i tg ts e1 e2
      split at po
      · rename_i hz
        rw [Bool.and_eq_true] at hz
        refine call_isiT pins s σ H _ us Q I rx ⟨v, a, ws, tg.val p, ts.map (Tg.val p), _, by rw [ev], R.sub _ _ g, clsTgs_ok t e2, tag_ok hK k R q1 e1 hz.1, ?_, po.of_val R (rv_bl.mpr rfl)⟩
        rw [hK]
        exact kitAny_of k hz.1 hz.2
      · exact False.elim po
    · exact False.elim po
  · rename_i d c _
    obtain ⟨v, u, rfl, q1, q2⟩ := q.two
    split at po
    · rename_i tg tu e1 e2
      split at po
      · rename_i hz
        rw [Bool.and_eq_true] at hz
        refine call_isi pins s σ H _ us Q I rx ⟨v, u, tg.val p, tu.val p, _, rfl, clsTg_ok q2 e2, tag_ok hK k R q1 e1 hz.1, ?_, po.of_val R (rv_bl.mpr rfl)⟩
        rw [hK]
        exact k.one' hz.1 hz.2
      · exact False.elim po
    · exact False.elim po
  · exact False.elim po
end
end Den
end

-- DenG
section
set_option maxHeartbeats 1000000
/-! Den: slices, methods of lists, what is walked, comprehensions. -/
namespace Den
open PySem PySem.Spec L2
section
variable {X : Cx} {p : Px} {W : WX} {bs : List Nat} {r : Rp} {hp : List Cell} {H : Hp}

/-! ### slices -/
abbrev SemO := S → Out (Option Int)
abbrev relO : Rp → Option Int → Option Int → Prop := fun _ a b => b = a
abbrev tO (p : Px) (W : WX) (f : SemO) : TO := tG p W relO f
def noO : SemO := fun s => .ok none s
def someO (f : SemE) : SemO := fun s => (f s).bind fun d s => match d with
  | .int i => .ok (some i) s
  | _ => .bad
theorem PO.by {e : Option Expr} {t t' : TO} (h : PO X e t) (ht : ∀ σ H Q, t' σ H Q → t σ H Q) : PO X e t' := ⟨fun pins s σ H Q I q => h.run pins s σ H Q I (ht σ H Q q)⟩
theorem po_noO : PO X none (tO p W noO) := PO.by po_none fun σ H Q ⟨bs, r, s, R, po⟩ => po r H none (Rp.le.refl r) R rfl
theorem po_someO {e : Expr} {fe : SemE} (he : PE X e (tE p W fe)) : PO X (some e) (tO p W (someO fe)) := PO.by (po_some he) fun σ H Q ⟨bs, r, s, R, po⟩ => by
  refine tG.mono (Po.bind (rel := RV p) R po) fun x H1 ⟨r1, d, s1, l1, R1, q1, po1⟩ => ?_
  cases d with
  | int i => exact ⟨i, rv_int.mp q1, po1 r1 H1 (some i) (Rp.le.refl r1) R1 rfl⟩
  | _ => exact False.elim po1
def cut {α : Type} (xs : List α) (lo hi : Option Int) : List α := (xs.drop (HT.sIx xs.length 0 lo)).take (HT.sIx xs.length xs.length hi - HT.sIx xs.length 0 lo)
theorem cut_v (vs : List V) (lo hi : Option Int) : cutV vs lo hi = cut vs lo hi := rfl
theorem RVs.cut {xs : List D} {vs : List V} (h : RVs p r xs vs) (lo hi : Option Int) : RVs p r (Den.cut xs lo hi) (Den.cut vs lo hi) := by
  unfold Den.cut
  rw [h.length]
  exact (h.drop _).take _
def sliV (d : D) (lo hi : Option Int) (hp : List Cell) : VO := match d with
  | .tup xs => .val (.tup (cut xs lo hi))
  | d => match lstOf d hp with
    | some xs => .new (.lst (cut xs lo hi))
    | none => .bad
def rSli (p : Px) : V → Option Int → Option Int → Hp → VK → Prop := fun x lo hi H Q => ∃ bs r hp d, RH p bs r hp H ∧ RV p r d x ∧ VoP p bs r hp Q (sliV d lo hi hp)
theorem cut_whole {α : Type} {xs : List α} {lo hi : Option Int} (h1 : HT.sIx xs.length 0 lo = 0) (h2 : HT.sIx xs.length xs.length hi = xs.length) : cut xs lo hi = xs := by
  unfold cut
  rw [h1, h2, List.drop_zero, Nat.sub_zero, List.take_length]
theorem sl_V : SlR X (rSli p) := by
  rintro pins s σ H x v vl vu lo hi sl Q I rx hs pl pu ⟨bs, r, hp, d, R, q, po⟩
  by_cases hd : ∃ xs, d = .tup xs
  · obtain ⟨xs, rfl⟩ := hd
    obtain ⟨a, vs, ev, g, t⟩ := rv_tupI q
    have po2 : VoP p bs r hp Q (.val (.tup (cut xs lo hi))) := po
    refine sl_tupA pins s σ H x v vl vu lo hi sl Q I rx hs pl pu ⟨a, vs, ev, .of (R.sub _ _ g), fun ⟨h1, h2⟩ => ?_, fun _ q n => po2.of_tup R (t.cut lo hi) n⟩
    have t2 := t.cut lo hi
    rw [cut_whole h1 h2] at t2
    exact po2.of_val R (rv_tup g t2)
  · have po2 : VoP p bs r hp Q (match lstOf d hp with
      | some xs => .new (.lst (cut xs lo hi))
      | none => .bad) := by
      cases d with
      | tup xs => exact absurd ⟨xs, rfl⟩ hd
      | _ => exact po
    split at po2
    · rename_i xs e1
      obtain ⟨a, vs, ev, ea, t⟩ := lstOf_ok R q e1
      exact sl_list pins s σ H x v vl vu lo hi sl Q I rx hs pl pu ⟨a, vs, ev, .of ea, fun q n => po2.of_lst R (t.cut lo hi) n⟩
    · exact False.elim po2
def sliE (a : SemE) (lo hi : SemO) : SemE := fun s => (a s).bind fun d s => (lo s).bind fun l s => (hi s).bind fun u s => (sliV d l u s.hp).on s
theorem pe_sliE {e : Expr} {lo hi : Option Expr} {fe : SemE} {fl fh : SemO} {pos p2 : Pos} (he : PE X e (tE p W fe)) (hl : PO X lo (tO p W fl)) (hh : PO X hi (tO p W fh)) : PE X (.Subscript e (.Slice lo hi none p2) pos) (tE p W (sliE fe fl fh)) :=
  PE.by (pe_slice (r := rSli p) sl_V he hl hh) fun σ H Q ⟨bs, r, s, R, po⟩ => by
    refine tG.mono (Po.bind (rel := RV p) R po) fun x H1 ⟨r1, d, s1, l1, R1, q1, po1⟩ => ?_
    refine tG.mono (Po.bind (rel := relO) R1 po1) fun l H2 ⟨r2, l', s2, l2, R2, q2, po2⟩ => ?_
    refine tG.mono (Po.bind (rel := relO) R2 po2) fun u H3 ⟨r3, u', s3, l3, R3, q3, po3⟩ => ?_
    have e2 : l = l' := q2
    have e3 : u = u' := q3
    subst e2 e3
    exact ⟨bs, r3, s3.hp, d, R3.hp, (q1.mono l2).mono l3, po3.vo R3⟩

/-! ### methods of lists that change them -/
/-- the receiver, the arguments, the heap, the call's bound: what is given, the heap then -/
abbrev VM := D → List D → List Cell → Nat → Option (D × List Cell)
def VmP (p : Px) (bs : List Nat) (r : Rp) (Q : VK) : Option (D × List Cell) → Prop
  | some (d, hp) => ∀ r' H' v, r.le r' → RH p bs r' hp H' → RV p r' d v → Q v H'
  | none => False
def rM (p : Px) (f : VM) : V → List V → Hp → VK → Prop := fun x vs H Q => ∃ bs r hp base d ds, RH p bs r hp H ∧ (∀ b ∈ bs, b ≤ base) ∧ RV p r d x ∧ RVs p r ds vs ∧ VmP p bs r Q (f d ds hp base)
def mth (f : VM) (a : SemE) (t : SemA) : SemE := fun s => (a s).bind fun d s => (t s).bind fun ds s => match f d ds s.hp s.base with
  | some (v, hp) => .ok v { s with hp := hp }
  | none => .bad
/-- the receiver is a list -/
def isLst (d : D) (hp : List Cell) : Bool := (lstOf' d hp).isSome
theorem tyV_lst (hK : X.K = p.K) (R : RH p bs r hp H) {d : D} {v : V} (q : RV p r d v) (e : isLst d hp = true) : tyV X.K "list" v H := by
  unfold isLst at e
  cases e1 : lstOf' d hp with
  | none => rw [e1] at e; cases e
  | some xs =>
    obtain ⟨a, vs, ev, ea, _⟩ := lstOf'_ok hK R q e1
    rw [ev]
    exact .inl ⟨rfl, vs, ea⟩
/-- a method's call, the receiver a list -/
def mthL (f : VM) (a : SemE) (t : SemA) : SemE := fun s => (a s).bind fun d s => if isLst d s.hp = true then (t s).bind fun ds s => match f d ds s.hp s.base with
  | some (v, hp) => .ok v { s with hp := hp }
  | none => .bad else .bad
theorem vm_of {f : VM} {s : S} {σ : L2.St} {Q : VK} {d : D} {ds : List D} {x : V} {vs : List V} (R : Rel p bs r s σ H) (q : RV p r d x) (qs : RVs p r ds vs)
    (po : Po p bs r σ W (RV p) Q (match f d ds s.hp s.base with
      | some (v, hp) => .ok v { s with hp := hp }
      | none => .bad)) : rM p f x vs H Q := by
  refine ⟨bs, r, s.hp, s.base, d, ds, R.hp, R.bl, q, qs, ?_⟩
  cases e : f d ds s.hp s.base with
  | none =>
    rw [e] at po
    exact po
  | some w =>
    obtain ⟨d', hp'⟩ := w
    rw [e] at po
    exact fun r' H' v l R' q' => po r' H' v l ⟨R', R.env.mono l, R.bl, R.bk⟩ q'
section
variable {o e : Expr} {es : List Expr} {fo : SemE} {ft : SemA} {name : Str} {apos cpos : Pos} {id : String} {f : VM}
theorem pe_mthL (hK : X.K = p.K) (pa : PlainAttrs "list") (slot : Slot "list" name id) (hty : typeOf (.builtin id) = pure (.type "method_descriptor")) (hm : MtR X id (rM p f)) (ho : PE X o (tE p W fo)) (ha : PA X (e :: es) (tA p W ft))
    (hbase : attributeBase o name X.env (eval o X.env) = eval o X.env)
    (hfew : ((backTo cpos (starEach (e :: es) X.env)).all (fun x => !x.1) && (backToKw cpos (keywordEach [] X.env)).all (fun x => x.1.isSome)
      && decide ((e :: es).length + ([] : List Keyword).length + (if ([] : List Keyword).isEmpty then 0 else 1) < 30)) = true)
    (hline : (apos.endLine == cpos.line) = true) (hs : starEach (e :: es) X.env = (false, eval e X.env) :: starEach es X.env) (hplain : (backTo cpos (starEach es X.env)).any (·.1) = false) :
    PE X (.Call (.Attribute o name apos) (e :: es) [] cpos) (tE p W (mthL f fo ft)) :=
  PE.by (pe_bm pa slot hty hm ho ha hbase hfew hline hs hplain) fun σ H Q ⟨bs, r, s, R, po⟩ => by
    refine tG.mono (Po.bind (rel := RV p) R po) fun x H1 ⟨r1, d, s1, l1, R1, q1, po1⟩ => ?_
    split at po1
    · rename_i hl
      refine ⟨tyV_lst hK R1.hp q1 hl, tG.mono (Po.bind (rel := RVs p) R1 po1) fun vs H2 ⟨r2, ds, s2, l2, R2, q2, po2⟩ => ?_⟩
      exact vm_of R2 (q1.mono l2) q2 po2
    · exact False.elim po1
theorem pe_mthL0 (hK : X.K = p.K) (pa : PlainAttrs "list") (slot : Slot "list" name id) (hty : typeOf (.builtin id) = pure (.type "method_descriptor")) (hm : MtR X id (rM p f)) (ho : PE X o (tE p W fo))
    (hbase : attributeBase o name X.env (eval o X.env) = eval o X.env) (hline : (apos.endLine == cpos.line) = true) : PE X (.Call (.Attribute o name apos) [] [] cpos) (tE p W (mthL f fo nilA)) :=
  PE.by (pe_bm0 pa slot hty hm ho hbase hline) fun σ H Q ⟨bs, r, s, R, po⟩ => by
    refine tG.mono (Po.bind (rel := RV p) R po) fun x H1 ⟨r1, d, s1, l1, R1, q1, po1⟩ => ?_
    split at po1
    · rename_i hl
      exact ⟨tyV_lst hK R1.hp q1 hl, vm_of (ds := []) R1 q1 .nil po1⟩
    · exact False.elim po1
end
/-- what may be stored in the cell n by a call whose own cells begin at base -/
def mayPut (n base : Nat) (xs : List D) : Bool := decide (base ≤ n) || D.noRefs xs
/-- the items that stood in a cell, or new ones that may -/
theorem RH.keepTo {xs : List D} {vs : List V} {n : Nat} {a : Addr} (R : RH p bs r hp H) (ea : r.ρ[n]? = some a) (ec : hp[n]? = some (.lst xs)) (eh : H a = some (.lst vs)) {b : Nat} (hb : b ∈ bs) (hn : n < b) : RVs p ⟨r.ρ.take b, r.G⟩ xs vs := by
  obtain ⟨us, e, t⟩ := R.clo b hb n a (.lst xs) hn ea ec
  rw [eh] at e
  cases e
  exact t
theorem noRefs_to {xs : List D} {vs : List V} (h : D.noRefs xs = true) (t : RVs p r xs vs) (ρ : List Addr) : RVs p ⟨ρ, r.G⟩ xs vs := (RV.pure (ρ := r.ρ) (ρ' := ρ) (fun _ _ e => e)).2 h t
/-- a list in a cell is rewritten -/
theorem RH.relist {xs ys : List D} {ws : List V} {n base : Nat} {a : Addr} (R : RH p bs r hp H) (hbl : ∀ b ∈ bs, b ≤ base) (ea : r.ρ[n]? = some a) (ec : hp[n]? = some (.lst xs)) (t : RVs p r ys ws)
    (h : n < base → ∀ b ∈ bs, n < b → RVs p ⟨r.ρ.take b, r.G⟩ ys ws) : RH p bs r (hp.set n (.lst ys)) (upd H a (.lst ws)) := by
  have hn : n < hp.length := (List.getElem?_eq_some_iff.mp ec).1
  exact R.put ea hn (fun H' e => ⟨ws, e, t⟩) fun b hb hnb H' e => ⟨ws, e, h (Nat.lt_of_lt_of_le hnb (hbl b hb)) b hb hnb⟩
/-- the cell of a list -/
def cellOfL (d : D) (hp : List Cell) : Option (Nat × List D) := match d with
  | .ref n => match hp[n]? with
    | some (.lst xs) => some (n, xs)
    | _ => none
  | _ => none
theorem cellOfL_ok (R : RH p bs r hp H) {d : D} {v : V} {n : Nat} {xs : List D} (q : RV p r d v) (e : cellOfL d hp = some (n, xs)) : ∃ a vs, v = .ref a ∧ hp[n]? = some (.lst xs) ∧ r.ρ[n]? = some a ∧ H a = some (.lst vs) ∧ RVs p r xs vs := by
  cases d with
  | ref m =>
    unfold cellOfL at e
    simp only at e
    split at e
    · rename_i ys ec
      have e2 : m = n ∧ ys = xs := by simpa using e
      obtain ⟨rfl, rfl⟩ := e2
      obtain ⟨a, ev, ea, vs, eh, t⟩ := R.cellAt ec q
      exact ⟨a, vs, ev, ec, ea, eh, t⟩
    · cases e
  | _ => cases e
def appendM : VM := fun d ds hp base => match cellOfL d hp with
  | some (n, xs) => match ds with
    | [y] => if (mayPut n base [y] && decide (xs.length < sizeLine)) = true then some (.non, hp.set n (.lst (xs ++ [y]))) else none
    | _ => none
  | none => none
theorem mt_appendM : MtR X "list.append" (rM p appendM) := by
  rintro pins s σ H x vs v us Q I rx rv ⟨bs, r, hp, base, d, ds, R, hbl, q, qs, po⟩
  unfold appendM at po
  split at po
  · rename_i n xs e1
    obtain ⟨a, ws, ev, ec, ea, eh, t⟩ := cellOfL_ok R q e1
    split at po
    · rename_i y
      obtain ⟨w, rfl, qy⟩ := qs.one
      split at po
      · rename_i hz
        rw [Bool.and_eq_true] at hz
        refine mt_append pins s σ H x _ v us Q I rx rv ⟨a, ws, w, ev, rfl, eh, by rw [← t.length]; exact of_decide_eq_true hz.2, ?_⟩
        refine po r _ .non (Rp.le.refl r) (R.relist hbl ea ec (t.append (.cons qy .nil)) fun hn b hb hnb => ?_) (rv_non.mpr rfl)
        have hp1 : D.noRefs [y] = true := by
          have := hz.1
          unfold mayPut at this
          rw [decide_eq_false (by omega), Bool.false_or] at this
          exact this
        exact (R.keepTo ea ec eh hb hnb).append (noRefs_to hp1 (.cons qy .nil) _)
      · exact False.elim po
    · exact False.elim po
  · exact False.elim po
def popM : VM := fun d ds hp _ => match cellOfL d hp with
  | some (n, xs) => match ds with
    | [] => match xs[xs.length - 1]? with
      | some y => some (y, hp.set n (.lst xs.dropLast))
      | none => none
    | [.int i] => match ixN xs.length i with
      | some j => match xs[j]? with
        | some y => if -(2 ^ 63) ≤ i ∧ i < 2 ^ 63 then some (y, hp.set n (.lst (xs.eraseIdx j))) else none
        | none => none
      | none => none
    | _ => none
  | none => none
theorem mt_popM : MtR X "list.pop" (rM p popM) := by
  rintro pins s σ H x vs v us Q I rx rv ⟨bs, r, hp, base, d, ds, R, hbl, q, qs, po⟩
  unfold popM at po
  split at po
  · rename_i n xs e1
    obtain ⟨a, ws, ev, ec, ea, eh, t⟩ := cellOfL_ok R q e1
    split at po
    · have ez := qs.nil_inv
      subst ez
      split at po
      · rename_i y ey
        obtain ⟨w, ew, qy⟩ := t.get ey
        refine mt_pop pins s σ H x _ v us Q I rx rv ⟨a, ws, w, ev, rfl, eh, by rw [← t.length]; exact ew, ?_⟩
        exact po r _ w (Rp.le.refl r) (R.relist hbl ea ec t.dropLast fun hn b hb hnb => (R.keepTo ea ec eh hb hnb).dropLast) qy
      · exact False.elim po
    · rename_i i
      obtain ⟨w1, rfl, qi⟩ := qs.one
      split at po
      · rename_i j ej
        split at po
        · rename_i y ey
          split at po
          · rename_i hz
            obtain ⟨w, ew, qy⟩ := t.get ey
            refine mt_popAt pins s σ H x _ v us Q I rx rv ⟨a, ws, i, j, w, ev, by rw [rv_int.mp qi], eh, hz.1, hz.2, by rw [← t.length]; exact (ixN_seq ej).1, ew, ?_⟩
            exact po r _ w (Rp.le.refl r) (R.relist hbl ea ec (t.eraseIdx j) fun hn b hb hnb => (R.keepTo ea ec eh hb hnb).eraseIdx j) qy
          · exact False.elim po
        · exact False.elim po
      · exact False.elim po
    · exact False.elim po
  · exact False.elim po
def reverseM : VM := fun d ds hp _ => match cellOfL d hp with
  | some (n, xs) => match ds with
    | [] => some (.non, hp.set n (.lst xs.reverse))
    | _ => none
  | none => none
theorem mt_reverseM : MtR X "list.reverse" (rM p reverseM) := by
  rintro pins s σ H x vs v us Q I rx rv ⟨bs, r, hp, base, d, ds, R, hbl, q, qs, po⟩
  unfold reverseM at po
  split at po
  · rename_i n xs e1
    obtain ⟨a, ws, ev, ec, ea, eh, t⟩ := cellOfL_ok R q e1
    split at po
    · have ez := qs.nil_inv
      subst ez
      refine mt_reverse pins s σ H x _ v us Q I rx rv ⟨a, ws, ev, rfl, eh, ?_⟩
      exact po r _ .non (Rp.le.refl r) (R.relist hbl ea ec t.reverse fun hn b hb hnb => (R.keepTo ea ec eh hb hnb).reverse) (rv_non.mpr rfl)
    · exact False.elim po
  · exact False.elim po
def insertM : VM := fun d ds hp base => match cellOfL d hp with
  | some (n, xs) => match ds with
    | [.int i, y] => if (mayPut n base [y] && decide (xs.length < sizeLine ∧ 0 ≤ i ∧ i < 2 ^ 63)) = true then some (.non, hp.set n (.lst (xs.take i.toNat ++ [y] ++ xs.drop i.toNat))) else none
    | _ => none
  | none => none
theorem mt_insertM : MtR X "list.insert" (rM p insertM) := by
  rintro pins s σ H x vs v us Q I rx rv ⟨bs, r, hp, base, d, ds, R, hbl, q, qs, po⟩
  unfold insertM at po
  split at po
  · rename_i n xs e1
    obtain ⟨a, ws, ev, ec, ea, eh, t⟩ := cellOfL_ok R q e1
    split at po
    · rename_i i y
      obtain ⟨w1, w, rfl, qi, qy⟩ := qs.two
      split at po
      · rename_i hz
        rw [Bool.and_eq_true] at hz
        have hz2 := of_decide_eq_true hz.2
        refine mt_insert pins s σ H x _ v us Q I rx rv ⟨a, ws, i, w, ev, by rw [rv_int.mp qi], eh, by rw [← t.length]; exact hz2.1, hz2.2.1, hz2.2.2, ?_⟩
        refine po r _ .non (Rp.le.refl r) (R.relist hbl ea ec (((t.take i.toNat).append (.cons qy .nil)).append (t.drop i.toNat)) fun hn b hb hnb => ?_) (rv_non.mpr rfl)
        have hp1 : D.noRefs [y] = true := by
          have := hz.1
          unfold mayPut at this
          rw [decide_eq_false (by omega), Bool.false_or] at this
          exact this
        have k := R.keepTo ea ec eh hb hnb
        exact ((k.take i.toNat).append (noRefs_to hp1 (.cons qy .nil) _)).append (k.drop i.toNat)
      · exact False.elim po
    · exact False.elim po
  · exact False.elim po

/-! ### xs[i] = v -/
/-- o[i] = .. -/
def subG (o i : SemE) : SemG := fun v s => (o s).bind fun d s => (i s).bind fun e s => match cellOfL d s.hp, e with
  | some (n, xs), .int k => match ixN xs.length k with
    | some j => if mayPut n s.base [v] = true then .ok () { s with hp := s.hp.set n (.lst (xs.set j v)) } else .bad
    | none => .bad
  | _, _ => .bad
theorem tG.toG {σ : L2.St} {s : S} {f : S → Out D} {g : D → S → Out Unit} {Q : L2.St → Hp → Prop} (R : Rel p bs r s σ H) (h : PoG p bs r W Q ((f s).bind g)) (hσ : True) :
    tG p W (RV p) f σ H (fun v H' => ∃ r' a s', r.le r' ∧ Rel p bs r' s' σ H' ∧ RV p r' a v ∧ PoG p bs r' W Q (g a s')) := by
  refine ⟨bs, r, s, R, ?_⟩
  cases e : f s with
  | ok a s' =>
    rw [e] at h
    exact fun r' H' v l R' q => ⟨r', a, s', l, R', q, PoG.mono h l fun _ _ z => z⟩
  | exn c fs xs s' =>
    rw [e] at h
    exact fun r' H' cd l R' q => h r' σ H' cd l R' q
  | bad =>
    rw [e] at h
    exact False.elim h
theorem pg_subG {o i : Expr} {fo fi : SemE} {pos : Pos} (ho : PE X o (tE p W fo)) (hi : PE X i (tE p W fi))
    (ha : ∀ v, assign (.Subscript o i pos) X.env v = (do
      let ov ← holding [v] (eval o X.env)
      let iv ← holding [v, ov] (eval i X.env)
      standAt pos
      holding [v, ov, iv] (setItem ov iv v)
      release [v, ov, iv] [])) : PG X (.Subscript o i pos) (tT1 p W (subG fo fi)) :=
  PG.by (pg_sub ho hi set_list ha) fun v σ H Q ⟨bs, r, s, d, R, q, po⟩ => by
    refine tG.mono (tG.toG R po True.intro) fun x H1 ⟨r1, e, s1, l1, R1, q1, po1⟩ => ?_
    refine tG.mono (tG.toG R1 po1 True.intro) fun y H2 ⟨r2, k, s2, l2, R2, q2, po2⟩ => ?_
    split at po2
    · rename_i n xs k' e1 
      obtain ⟨a, ws, ev, ec, ea, eh, t⟩ := cellOfL_ok R2.hp (q1.mono l2) e1
      split at po2
      · rename_i j ej
        split at po2
        · rename_i hz
          refine ⟨a, ws, k', j, ev, rv_int.mp q2, eh, by rw [← t.length]; exact ej, ?_⟩
          have qv := (q.mono l1).mono l2
          refine po2 r2 σ _ (Rp.le.refl r2) ⟨R2.hp.relist R2.bl ea ec (t.set j qv) fun hn b hb hnb => ?_, R2.env, R2.bl, R2.bk⟩
          have hp1 : D.noRefs [d] = true := by
            have := hz
            unfold mayPut at this
            rw [decide_eq_false (by omega), Bool.false_or] at this
            exact this
          obtain ⟨w, us, ew, q3, _⟩ := (noRefs_to hp1 (.cons qv .nil) (r2.ρ.take b)).cons_inv
          have : v = w := by
            have := congrArg List.head? ew
            simpa using this
          rw [this]
          exact (R2.hp.keepTo ea ec eh hb hnb).set j q3
        · exact False.elim po2
      · exact False.elim po2
    · exact False.elim po2

/-! ### what is walked -/
def seqI (a : SemE) : SemI := fun s => (a s).bind fun d s => match d with
  | .tup xs => .ok (.vals xs) s
  | .lst xs => .ok (.vals xs) s
  | .scr xs => .ok (.vals xs) s
  | .ref n => match s.hp[n]? with
    | some (.lst _) => .ok (.cell n) s
    | _ => .bad
  | _ => .bad
theorem PoI.mono {σ : L2.St} {Q : It → Hp → Prop} {r' : Rp} {o : Out ItD} (h : PoI p bs r σ W Q o) (l : r.le r') : PoI p bs r' σ W Q o := by
  cases o with
  | ok it s => exact fun r2 H' J l2 R q => h r2 H' J (l.trans l2) R q
  | exn c fs xs s => exact fun r2 H' cd l2 R q => h r2 H' cd (l.trans l2) R q
  | bad => exact h
theorem PoI.bind {α β : Type} {rel : Rp → α → β → Prop} {σ : L2.St} {s : S} {f : S → Out α} {g : α → S → Out ItD} {Q : It → Hp → Prop} (R : Rel p bs r s σ H) (h : PoI p bs r σ W Q ((f s).bind g)) :
    tG p W rel f σ H (fun v H' => ∃ r' a s', r.le r' ∧ Rel p bs r' s' σ H' ∧ rel r' a v ∧ PoI p bs r' σ W Q (g a s')) := by
  refine ⟨bs, r, s, R, ?_⟩
  cases e : f s with
  | ok a s' =>
    rw [e] at h
    exact fun r' H' v l R' q => ⟨r', a, s', l, R', q, PoI.mono h l⟩
  | exn c fs xs s' =>
    rw [e] at h
    exact h
  | bad =>
    rw [e] at h
    exact False.elim h
/-- a list's walk, a tuple's walk: items that stand fast -/
theorem it_list (hK : X.K = p.K) {xs : List D} {vs : List V} {a : Addr} (h : SqL X.K r.G a vs) (t : RVs p r xs vs) : ItOk p bs r (.vals xs) (Itl X.K a) := by
  intro i r1 s σ H l R
  have hS : SqL X.K H a vs := sqL_le R.hp.sub (sqL_le l.sub h)
  show match some xs[i]? with
    | some (some d) => _
    | some none => _
    | none => True
  cases ei : xs[i]? with
  | none => exact ⟨vs, hS, by rw [← t.length]; exact List.getElem?_eq_none_iff.mp ei⟩
  | some d =>
    obtain ⟨v, ev, q⟩ := t.get ei
    refine ⟨⟨vs, v, hS, ev⟩, fun x H' ⟨e, hx⟩ => ⟨r1, Rp.le.refl r1, by rw [e]; exact R, ?_⟩⟩
    have : v = x := Option.some.inj (ev.symm.trans (hx vs hS))
    rw [← this]
    exact q.mono l
theorem it_tup (hK : X.K = p.K) {xs : List D} {vs : List V} {a : Addr} (h : SqT X.K r.G a vs) (t : RVs p r xs vs) : ItOk p bs r (.vals xs) (Itt X.K a) := by
  intro i r1 s σ H l R
  have hS : SqT X.K H a vs := sqT_le R.hp.sub (sqT_le l.sub h)
  show match some xs[i]? with
    | some (some d) => _
    | some none => _
    | none => True
  cases ei : xs[i]? with
  | none => exact ⟨vs, hS, by rw [← t.length]; exact List.getElem?_eq_none_iff.mp ei⟩
  | some d =>
    obtain ⟨v, ev, q⟩ := t.get ei
    refine ⟨⟨vs, v, hS, ev⟩, fun x H' ⟨e, hx⟩ => ⟨r1, Rp.le.refl r1, by rw [e]; exact R, ?_⟩⟩
    have : v = x := Option.some.inj (ev.symm.trans (hx vs hS))
    rw [← this]
    exact q.mono l
theorem it_cell {n : Nat} {a : Addr} (h : r.ρ[n]? = some a) : ItOk p bs r (.cell n) (Itl X.K a) := by
  intro i r1 s σ H l R
  show match (match s.hp[n]? with
    | some (.lst xs) => some xs[i]?
    | _ => none) with
    | some (some d) => _
    | some none => _
    | none => True
  split
  · rename_i d e
    split at e
    · rename_i xs ec
      have ei : xs[i]? = some d := by simpa using e
      obtain ⟨vs, eh, t⟩ := R.hp.cell n a _ (l.at h) ec
      obtain ⟨v, ev, q⟩ := t.get ei
      refine ⟨⟨vs, v, .of eh, ev⟩, fun x H' ⟨e, hx⟩ => ⟨r1, Rp.le.refl r1, by rw [e]; exact R, ?_⟩⟩
      have : v = x := Option.some.inj (ev.symm.trans (hx vs (.of eh)))
      rw [← this]
      exact q
    · cases e
  · rename_i e
    split at e
    · rename_i xs ec
      have ei : xs[i]? = none := by simpa using e
      obtain ⟨vs, eh, t⟩ := R.hp.cell n a _ (l.at h) ec
      exact ⟨vs, .of eh, by rw [← t.length]; exact List.getElem?_eq_none_iff.mp ei⟩
    · cases e
  · trivial
theorem PI.or {tg e : Expr} {t t' : TI} (h : PI X tg e t) (h' : PI X tg e t') : PI X tg e (fun σ H R => t σ H R ∨ t' σ H R) := ⟨fun pins s σ H R I q => q.elim (fun q => h.run pins s σ H R I q) fun q => h'.run pins s σ H R I q⟩
/-- whether the value walked is a tuple is seen when it is there: the list's rule and the tuple's have one tree -/
theorem pi_seqI (hK : X.K = p.K) {tg e : Expr} {fe : SemE} (he : PE X e (tE p W fe)) : PI X tg e (tI p W (seqI fe)) := by
  refine ⟨fun pins s σ H Q I ⟨bs, r, st, R, po⟩ => ?_⟩
  by_cases ht : ∃ xs s', fe st = .ok (.tup xs) s'
  · obtain ⟨xs, s', e1⟩ := ht
    refine (pi_tup he).run pins s σ H Q I ?_
    refine ⟨bs, r, st, R, ?_⟩
    rw [e1]
    intro r' H' v l R' q
    obtain ⟨a, vs, ev, g, t⟩ := rv_tupI q
    have po2 : PoI p bs r σ W Q (.ok (.vals xs) s') := by
      have : seqI fe st = .ok (.vals xs) s' := by unfold seqI; rw [e1] <;> rfl
      rw [this] at po
      exact po
    exact ⟨a, ev, ⟨vs, .of (R'.hp.sub _ _ g)⟩, po2 r' H' _ l R' (it_tup hK (.of g) t)⟩
  · refine (pi_list he).run pins s σ H Q I ?_
    refine ⟨bs, r, st, R, ?_⟩
    unfold seqI at po
    cases e1 : fe st with
    | ok d s' =>
      rw [e1] at po
      intro r' H' v l R' q
      cases d with
      | tup xs => exact absurd ⟨xs, s', e1⟩ ht
      | lst xs =>
        obtain ⟨a, vs, ev, g, t⟩ := rv_lstI q
        exact ⟨a, ev, ⟨vs, .of (R'.hp.sub _ _ g)⟩, po r' H' _ l R' (it_list hK (.of g) t)⟩
      | scr xs =>
        obtain ⟨a, vs, ev, g, t⟩ := rv_scrI q
        rw [← hK] at g
        exact ⟨a, ev, ⟨vs, sqL_le R'.hp.sub g⟩, po r' H' _ l R' (it_list hK g t)⟩
      | ref n =>
        have po2 : PoI p bs r σ W Q (match s'.hp[n]? with
          | some (.lst _) => .ok (.cell n) s'
          | _ => .bad) := po
        split at po2
        · rename_i xs ec
          obtain ⟨a, ev, ea, vs, eh, t⟩ := R'.hp.cellAt ec q
          exact ⟨a, ev, ⟨vs, .of eh⟩, po2 r' H' _ l R' (it_cell ea)⟩
        · exact False.elim po2
      | _ => exact False.elim po
    | exn c fs xs s' =>
      rw [e1] at po
      exact po
    | bad =>
      rw [e1] at po
      exact False.elim po
/-- range(..): ints -/
def rangeL (lo : Int) (n : Nat) : List D := (List.range n).map fun i => .int (lo + (i : Nat))
def range1I (t : SemA) : SemI := fun s => (t s).bind fun xs s => match xs with
  | [.int j] => if -(2 ^ 62) ≤ j ∧ j < 2 ^ 62 then .ok (.vals (rangeL 0 j.toNat)) s else .bad
  | _ => .bad
def range2I (t : SemA) : SemI := fun s => (t s).bind fun xs s => match xs with
  | [.int i, .int j] => if (-(2 ^ 62) ≤ i ∧ i < 2 ^ 62) ∧ -(2 ^ 62) ≤ j ∧ j < 2 ^ 62 then .ok (.vals (rangeL i (j - i).toNat)) s else .bad
  | _ => .bad
theorem it_range {lo : Int} {n : Nat} : ItOk p bs r (.vals (rangeL lo n)) (Itr lo n) := by
  intro i r1 s σ H l R
  show match some (rangeL lo n)[i]? with
    | some (some d) => _
    | some none => _
    | none => True
  have hlen : (rangeL lo n).length = n := by simp [rangeL]
  by_cases hi : i < n
  · have e : (rangeL lo n)[i]? = some (.int (lo + (i : Nat))) := by simp [rangeL, hi]
    rw [e]
    refine ⟨hi, fun x H' ⟨e1, e2⟩ => ⟨r1, Rp.le.refl r1, by rw [e1]; exact R, rv_int.mpr e2⟩⟩
  · have e : (rangeL lo n)[i]? = none := List.getElem?_eq_none_iff.mpr (by omega)
    rw [e]
    show n ≤ i
    omega
theorem pi_range1I {tg a : Expr} {ft : SemA} {q pos : Pos} (hg : Gl X "range") (hm : X.mg "range" = none) (ha : PA X [a] (tA p W ft)) (hs : starEach [a] X.env = [(false, eval a X.env)]) : PI X tg (.Call (.Name "range" q) [a] [] pos) (tI p W (range1I ft)) :=
  PI.by (pi_range1 hg hm ha hs) fun σ H Q ⟨bs, r, s, R, po⟩ => by
    refine tG.mono (PoI.bind (rel := RVs p) R po) fun vs H1 ⟨r1, xs, s1, l1, R1, q1, po1⟩ => ?_
    split at po1
    · rename_i j
      obtain ⟨v, rfl, qj⟩ := q1.one
      split at po1
      · rename_i hz
        exact ⟨j, by rw [rv_int.mp qj], hz.1, hz.2, po1 r1 H1 _ (Rp.le.refl r1) R1 it_range⟩
      · exact False.elim po1
    · exact False.elim po1
theorem pi_range2I {tg a b : Expr} {ft : SemA} {q pos : Pos} (hg : Gl X "range") (hm : X.mg "range" = none) (ha : PA X [a, b] (tA p W ft)) (hs : starEach [a, b] X.env = [(false, eval a X.env), (false, eval b X.env)]) (hs2 : starEach [b] X.env = [(false, eval b X.env)]) :
    PI X tg (.Call (.Name "range" q) [a, b] [] pos) (tI p W (range2I ft)) :=
  PI.by (pi_range2 hg hm ha hs hs2) fun σ H Q ⟨bs, r, s, R, po⟩ => by
    refine tG.mono (PoI.bind (rel := RVs p) R po) fun vs H1 ⟨r1, xs, s1, l1, R1, q1, po1⟩ => ?_
    split at po1
    · rename_i i j
      obtain ⟨v, u, rfl, qi, qj⟩ := q1.two
      split at po1
      · rename_i hz
        exact ⟨i, j, by rw [rv_int.mp qi, rv_int.mp qj], ⟨hz.1.1, hz.1.2, hz.2.1, hz.2.2⟩, po1 r1 H1 _ (Rp.le.refl r1) R1 it_range⟩
      · exact False.elim po1
    · exact False.elim po1
end
end Den
end

-- DenH
section
set_option maxHeartbeats 1000000
/-! Den: list comprehensions. -/
namespace Den
open PySem PySem.Spec L2
section
variable {X : Cx} {p : Px} {W : WX} {bs : List Nat} {r : Rp} {hp : List Cell} {H : Hp}

/-! ### targets that are names -/
inductive Tgt where
  | one (i : Nat) | many (is : List Nat)
def Tgt.slots : Tgt → List Nat
  | .one i => [i]
  | .many is => is
/-- the slots behind the store -/
def putAll : List Nat → List D → List (Option D) → List (Option D)
  | i :: is, d :: ds, env => putAll is ds (env.set i (some d))
  | _, _, env => env
def Tgt.put (g : Tgt) (d : D) (env : List (Option D)) : Option (List (Option D)) := match g with
  | .one i => some (env.set i (some d))
  | .many is => match d with
    | .tup xs => if xs.length = is.length then some (putAll is xs env) else none
    | _ => none
def gNames : List Nat → TGs
  | [] => gNil
  | i :: is => gCons (gName i) (gNames is)
def Tgt.read (K : PySem.W.Frag) : Tgt → TG
  | .one i => gName i
  | .many is => gTup K is.length (gNames is)
theorem putV_ok [p.Free] {r : Rp} : ∀ {is : List Nat} {xs : List D} {vs : List V} {env : List (Option D)} {σ : L2.St}, xs.length = is.length → RVs p r xs vs → RE p r env σ → ∀ {Q : L2.St → Hp → Prop},
    (∀ σ', RE p r (putAll is xs env) σ' → σ'.length = σ.length → (∀ j, j ∉ is → σ'[j]? = σ[j]?) → Q σ' H) → gNames is vs σ H Q
  | [], [], vs, env, σ, _, t, e, Q, h => ⟨t.nil_inv, h σ e rfl fun _ _ => rfl⟩
  | i :: is, x :: xs, vs, env, σ, hl, t, e, Q, h => by
    obtain ⟨v, us, ev, q1, q2⟩ := t.cons_inv
    refine ⟨v, us, ev, ?_⟩
    refine putV_ok (by simpa using hl) q2 (e.set q1) fun σ' e' l' hk => h σ' e' (by rw [l', List.length_set]) fun j hj => ?_
    have hj2 : j ≠ i ∧ j ∉ is := by simpa using hj
    rw [hk j hj2.2, List.getElem?_set_ne (Ne.symm hj2.1)]
  | [], _ :: _, _, _, _, hl, _, _, _, _ => by simp at hl
  | _ :: _, [], _, _, _, hl, _, _, _, _ => by simp at hl
theorem Tgt.read_ok [p.Free] (hK : X.K = p.K) {g : Tgt} {d : D} {v : V} {env env' : List (Option D)} {σ : L2.St} (R : RH p bs r hp H) (q : RV p r d v) (e : RE p r env σ) (h : g.put d env = some env') {Q : L2.St → Hp → Prop}
    (k : ∀ σ', RE p r env' σ' → σ'.length = σ.length → (∀ j, j ∉ g.slots → σ'[j]? = σ[j]?) → Q σ' H) : g.read X.K v σ H Q := by
  cases g with
  | one i =>
    have h2 : env' = env.set i (some d) := by simpa [Tgt.put] using h.symm
    refine k _ (by rw [h2]; exact e.set q) (List.length_set ..) fun j hj => ?_
    have : j ≠ i := by simpa [Tgt.slots] using hj
    exact List.getElem?_set_ne (Ne.symm this)
  | many is =>
    cases d with
    | tup xs =>
      unfold Tgt.put at h
      simp only at h
      split at h
      · rename_i hl
        obtain ⟨a, vs, ev, g, t⟩ := rv_tupI q
        have h2 : putAll is xs env = env' := by simpa using h
        refine ⟨a, vs, ev, .of (R.sub _ _ g), by rw [← t.length, hl], putV_ok hl t e fun σ' e' l' hk => k σ' (by rw [← h2]; exact e') l' hk⟩
      · cases h
    | _ => cases h
/-- the slots of a block's own names forgotten -/
def wipeE (env : List (Option D)) : List Nat → List (Option D)
  | [] => env
  | v :: vs => (wipeE env vs).set v none
theorem wipeE_ok [p.Free] {r : Rp} {env : List (Option D)} {σ : L2.St} (e : RE p r env σ) : ∀ vs : List Nat, RE p r (wipeE env vs) (wipe σ vs)
  | [] => e
  | v :: vs => by
    have ih := wipeE_ok e vs
    unfold wipeE wipe
    refine ⟨by rw [List.length_set, List.length_set, ih.1], fun i d q => ?_, Px.Free.set _ _ _ _ ih.2.2⟩
    by_cases hi : v = i
    · subst hi
      by_cases hv : v < (wipeE env vs).length
      · rw [List.getElem?_set_self hv] at q; cases q
      · rw [List.getElem?_eq_none (by rw [List.length_set]; omega)] at q; cases q
    · rw [List.getElem?_set_ne hi] at q ⊢
      exact ih.2.1 i d q
theorem wipe_at (σ : L2.St) : ∀ (vs : List Nat) (j : Nat), (wipe σ vs)[j]? = if j ∈ vs ∧ j < σ.length then some none else σ[j]?
  | [], j => by simp [wipe]
  | v :: vs, j => by
    unfold wipe
    have ih := wipe_at σ vs j
    have hl := wipe_length σ vs
    by_cases hj : v = j
    · subst hj
      by_cases hv : v < σ.length
      · rw [List.getElem?_set_self (by rw [hl]; exact hv), if_pos ⟨List.mem_cons_self, hv⟩]
      · rw [List.getElem?_eq_none (by rw [List.length_set, hl]; omega), if_neg (fun h => hv h.2), List.getElem?_eq_none (by omega)]
    · rw [List.getElem?_set_ne hj, ih]
      have : (j ∈ v :: vs ∧ j < σ.length) ↔ (j ∈ vs ∧ j < σ.length) := by
        constructor
        · rintro ⟨h1, h2⟩
          rcases List.mem_cons.mp h1 with rfl | h1
          · exact absurd rfl hj
          · exact ⟨h1, h2⟩
        · rintro ⟨h1, h2⟩
          exact ⟨List.mem_cons_of_mem _ h1, h2⟩
      simp only [this]
theorem wipe_same {σ σ' : L2.St} {vs is : List Nat} (hs : ∀ i ∈ is, i ∈ vs) (hl : σ'.length = σ.length) (hk : ∀ j, j ∉ is → σ'[j]? = σ[j]?) : wipe σ' vs = wipe σ vs := by
  refine List.ext_getElem? fun j => ?_
  rw [wipe_at, wipe_at, hl]
  split
  · rfl
  · rename_i h
    by_cases hj : j ∈ is
    · have hn : ¬ j < σ.length := fun z => h ⟨hs j hj, z⟩
      rw [List.getElem?_eq_none (by omega), List.getElem?_eq_none (by omega)]
    · exact hk j hj
theorem wipe_wipe (σ : L2.St) (vs : List Nat) : wipe (wipe σ vs) vs = wipe σ vs := by
  refine List.ext_getElem? fun j => ?_
  rw [wipe_at, wipe_at, wipe_length]
  split
  · rfl
  · rfl

/-! ### one clause -/
/-- no exception leaves a comprehension's block -/
abbrev W0 : WX := fun _ _ _ _ => False
/-- a turn of a block: its slots as they stand behind the store -/
abbrev Turn0 := List (Option D) → List Cell → Option (List Cell)
/-- the turns of a block: i the turn's number; env the slots ahead of each store -/
def lcL (it : ItD) (g : Tgt) (turn : Turn0) (env : List (Option D)) (base : Nat) : Nat → Nat → List Cell → Option (List Cell)
  | k, i, hp => match it.at i ⟨env, hp, base⟩ with
    | some none => some hp
    | none => none
    | some (some d) => match k with
      | 0 => none
      | k + 1 => match g.put d env with
        | none => none
        | some env' => match turn env' hp with
          | none => none
          | some hp' => lcL it g turn env base k (i + 1) hp'
/-- the element is put behind the list in the cell n -/
def eltT (e : SemE) (n base : Nat) : Turn0 := fun env hp => match e ⟨env, hp, base⟩ with
  | .ok y s => match s.hp[n]? with
    | some (.lst acc) => if (decide (base ≤ n) && decide (acc.length < sizeLine)) = true then some (s.hp.set n (.lst (acc ++ [y]))) else none
    | _ => none
  | _ => none
/-- .. if the test holds -/
def testT (t : SemT) (k : Turn0) (base : Nat) : Turn0 := fun env hp => match t ⟨env, hp, base⟩ with
  | .ok b s => if b = true then k s.env s.hp else some s.hp
  | _ => none
def lcE (w : SemI) (g : Tgt) (t : SemT) (e : SemE) (own : List Nat) : SemE := fun s => (w s).bind fun it s =>
  match lcL it g (testT t (eltT e s.hp.length s.base) s.base) (wipeE s.env own) s.base (it.len s) 0 (s.hp ++ [.lst []]) with
  | some hp => .ok (.ref s.hp.length) { s with hp := hp }
  | none => .bad
def yesT : SemT := fun s => .ok true s
theorem PTs.by {ifs : List Expr} {t t' : TT} (h : PTs X ifs t) (ht : ∀ σ H Q, t' σ H Q → t σ H Q) : PTs X ifs t' := ⟨fun pins s σ H Q I q => h.run pins s σ H Q I (ht σ H Q q)⟩
theorem pts_nilT : PTs X [] (tT p W yesT) := PTs.by pts_nil fun σ H Q ⟨bs, r, s, R, po⟩ => po r H true (Rp.le.refl r) R rfl
theorem pts_oneT {c : Expr} {t : SemT} (h : PT X c (tT p W t)) : PTs X [c] (tT p W t) := pts_one h
/-- the store of a turn, its test, its element: the reading that the layer asks of them, out of a turn that goes -/
theorem elt_ok {e : SemE} {env : List (Option D)} {σ : L2.St} {hp' : List Cell} {n base : Nat} {Da : Addr} {Nx : Hp → Prop} (R : RH p bs r hp H) (re : RE p r env σ) (bl : ∀ b ∈ bs, b ≤ base) (bk : base ∈ bs) (eD : r.ρ[n]? = some Da)
    (h : eltT e n base env hp = some hp') (k : ∀ r' H', r.le r' → RH p bs r' hp' H' → Nx H') : tE p W0 e σ H (fun y H4 => ∃ acc, H4 Da = some (.lst acc) ∧ acc.length < sizeLine ∧ Nx (upd H4 Da (.lst (acc ++ [y])))) := by
  refine ⟨bs, r, ⟨env, hp, base⟩, ⟨R, re, bl, bk⟩, ?_⟩
  unfold eltT at h
  cases ee : e ⟨env, hp, base⟩ with
  | ok y s =>
    rw [ee] at h
    simp only at h
    split at h
    · rename_i acc ec
      split at h
      · rename_i hz
        rw [Bool.and_eq_true] at hz
        have h2 : hp' = s.hp.set n (.lst (acc ++ [y])) := by simpa using h.symm
        intro r' H' v l R' q
        obtain ⟨vs, eh, t⟩ := R'.hp.cell n Da _ (l.at eD) ec
        refine ⟨vs, eh, by rw [← t.length]; exact of_decide_eq_true hz.2, ?_⟩
        refine k r' _ l ?_
        rw [h2]
        have hbn := of_decide_eq_true hz.1
        exact R'.hp.relist (base := base) bl (l.at eD) ec (t.append (.cons q .nil)) fun hn => absurd hn (by omega)
      · cases h
    · cases h
  | exn c fs xs s => rw [ee] at h; cases h
  | bad => rw [ee] at h; cases h
theorem test_ok {t : SemT} {kT : Turn0} {env : List (Option D)} {σ : L2.St} {hp' : List Cell} {base : Nat} {Nx : Hp → Prop} {rd : L2.St → Hp → Prop} (R : RH p bs r hp H) (re : RE p r env σ) (bl : ∀ b ∈ bs, b ≤ base) (bk : base ∈ bs)
    (h : testT t kT base env hp = some hp') (k : ∀ r' H', r.le r' → RH p bs r' hp' H' → Nx H')
    (go : ∀ r' env1 hp1 H', r.le r' → RH p bs r' hp1 H' → RE p r' env1 σ → kT env1 hp1 = some hp' → rd σ H') :
    tT p W0 t σ H (fun b H3 => if b = true then rd σ H3 else Nx H3) := by
  refine ⟨bs, r, ⟨env, hp, base⟩, ⟨R, re, bl, bk⟩, ?_⟩
  unfold testT at h
  cases et : t ⟨env, hp, base⟩ with
  | ok b s =>
    rw [et] at h
    simp only at h
    intro r' H' v l R' q
    have ev : v = b := q
    subst ev
    split at h
    · rename_i hb
      subst hb
      rw [if_pos rfl]
      exact go r' s.env s.hp H' l R'.hp R'.env h
    · rename_i hb
      rw [if_neg hb]
      have h2 : s.hp = hp' := by simpa using h
      exact k r' H' l (by rw [← h2]; exact R'.hp)
  | exn c fs xs s => rw [et] at h; cases h
  | bad => rw [et] at h; cases h
theorem lc_of [p.Free] (hK : X.K = p.K) {w : SemI} {g : Tgt} {t : SemT} {e : SemE} {own : List Nat} {σ : L2.St} {Q : VK} (hg : ∀ i ∈ g.slots, i ∈ own) (h : tE p W (lcE w g t e own) σ H Q) :
    tLc (tI p W w) (g.read X.K) (tT p W0 t) (tE p W0 e) own σ H Q := by
  obtain ⟨bs, r, s, R, po⟩ := h
  refine ⟨bs, r, s, R, ?_⟩
  unfold lcE at po
  cases ew : w s with
  | exn c fs xs s1 => rw [ew] at po; exact po
  | bad => rw [ew] at po; exact False.elim po
  | ok it s1 =>
    rw [ew] at po
    intro r1 H1 J l1 R1 hJ D nD
    have po1 : Po p bs r σ W (RV p) Q (match lcL it g (testT t (eltT e s1.hp.length s1.base) s1.base) (wipeE s1.env own) s1.base (it.len s1) 0 (s1.hp ++ [.lst []]) with
      | some hp => .ok (.ref s1.hp.length) { s1 with hp := hp }
      | none => .bad) := po
    split at po1
    · rename_i hpF eF
      obtain ⟨r2, l2, R2, v2⟩ := R1.hp.lst .nil nD
      have eD : r2.ρ[s1.hp.length]? = some D := by
        have : ∃ a, r2.ρ[s1.hp.length]? = some a ∧ V.ref D = V.ref a := by simpa [RV] using v2
        obtain ⟨a, e1, e2⟩ := this
        cases e2
        exact e1
      refine ⟨fun i m H => ∃ r3 hp3, r2.le r3 ∧ RH p bs r3 hp3 H ∧ lcL it g (testT t (eltT e s1.hp.length s1.base) s1.base) (wipeE s1.env own) s1.base m i hp3 = some hpF, ⟨it.len s1, r2, _, Rp.le.refl r2, R2, eF⟩, fun i m H3 ⟨r3, hp3, l3, R3, e3⟩ => ?_⟩
      have re3 : RE p r3 (wipeE s1.env own) (wipe σ own) := (wipeE_ok R1.env own).mono (l2.trans l3)
      have hj := hJ i r3 ⟨wipeE s1.env own, hp3, s1.base⟩ (wipe σ own) H3 (l2.trans l3) ⟨R3, re3, R1.bl, R1.bk⟩
      unfold lcL at e3
      cases ea : it.at i ⟨wipeE s1.env own, hp3, s1.base⟩ with
      | none => rw [ea] at e3; cases e3
      | some o =>
        rw [ea] at e3 hj
        try dsimp only at e3 hj
        cases o with
        | none =>
          have e4 : hp3 = hpF := by simpa using e3
          subst e4
          refine .inl ⟨hj, po1 r3 H3 _ ((l1.trans l2).trans l3) ⟨R3, R1.env.mono (l2.trans l3), R1.bl, R1.bk⟩ (v2.mono l3)⟩
        | some d =>
          cases m with
          | zero => cases e3
          | succ m =>
            try dsimp only at e3
            cases ep : g.put d (wipeE s1.env own) with
            | none => rw [ep] at e3; cases e3
            | some env' =>
              rw [ep] at e3
              try dsimp only at e3
              cases et : testT t (eltT e s1.hp.length s1.base) s1.base env' hp3 with
              | none => rw [et] at e3; cases e3
              | some hp4 =>
                rw [et] at e3
                try dsimp only at e3
                refine .inr ⟨hj.1, fun H' => ∃ r4, r2.le r4 ∧ RH p bs r4 hp4 H', fun H' ⟨r4, l4, R4⟩ => ⟨m, Nat.lt_succ_self m, r4, hp4, l4, R4, e3⟩, fun x H' hy => ?_⟩
                obtain ⟨r5, l5, R5, q5⟩ := hj.2 x H' hy
                refine Tgt.read_ok hK R5.hp q5 R5.env ep fun σ' e' ll hk => ⟨?_, ?_⟩
                · rw [wipe_same hg ll hk, wipe_wipe]
                · refine test_ok (Nx := fun H' => ∃ r4, r2.le r4 ∧ RH p bs r4 hp4 H') (rd := fun σ H3 => tE p W0 e σ H3 fun y H4 => ∃ acc, H4 D = some (.lst acc) ∧ acc.length < sizeLine ∧ (fun H' => ∃ r4, r2.le r4 ∧ RH p bs r4 hp4 H') (upd H4 D (.lst (acc ++ [y])))) R5.hp e' R1.bl R1.bk et (fun r' H' l' R' => ⟨r', ((l3.trans l5).trans l'), R'⟩) fun r' env1 hp1 H6 l6 R6 e6 h6 => ?_
                  exact elt_ok (Nx := fun H' => ∃ r4, r2.le r4 ∧ RH p bs r4 hp4 H') R6 e6 R1.bl R1.bk (((l3.trans l5).trans l6).at eD) h6 fun r' H' l' R' => ⟨r', (((l3.trans l5).trans l6).trans l'), R'⟩
    · exact False.elim po1
/-! ### two clauses -/
def clauseT (w : SemI) (g : Tgt) (turn : Turn0) (own : List Nat) (base : Nat) : Turn0 := fun env hp => match w ⟨env, hp, base⟩ with
  | .ok it s => lcL it g turn (wipeE s.env own) base (it.len s) 0 s.hp
  | _ => none
def lc2E (w : SemI) (g : Tgt) (t : SemT) (w1 : SemI) (g1 : Tgt) (t1 : SemT) (e : SemE) (own own1 : List Nat) : SemE := fun s => (w s).bind fun it s =>
  match lcL it g (testT t (clauseT w1 g1 (testT t1 (eltT e s.hp.length s.base) s.base) own1 s.base) s.base) (wipeE s.env own) s.base (it.len s) 0 (s.hp ++ [.lst []]) with
  | some hp => .ok (.ref s.hp.length) { s with hp := hp }
  | none => .bad
theorem clause_ok [p.Free] (hK : X.K = p.K) {w1 : SemI} {g1 : Tgt} {t1 : SemT} {e : SemE} {own1 : List Nat} {env : List (Option D)} {σ : L2.St} {hp' : List Cell} {n base : Nat} {Da : Addr} {Nx : Hp → Prop} (hg : ∀ i ∈ g1.slots, i ∈ own1) (R : RH p bs r hp H) (re : RE p r env σ)
    (bl : ∀ b ∈ bs, b ≤ base) (bk : base ∈ bs) (eD : r.ρ[n]? = some Da) (h : clauseT w1 g1 (testT t1 (eltT e n base) base) own1 base env hp = some hp') (kx : ∀ r' H', r.le r' → RH p bs r' hp' H' → Nx H') :
    tI p W0 w1 σ H fun J1 H4 => ∃ W1 : Nat → Nat → Hp → Prop, (∃ m, W1 0 m H4) ∧ ∀ j k H, W1 j k H →
      (J1.stop j H ∧ Nx H) ∨ (J1.go j H ∧ ∃ Nx1 : Hp → Prop, (∀ H', Nx1 H' → ∃ k', k' < k ∧ W1 (j + 1) k' H') ∧ ∀ x H', J1.yld j H x H' → g1.read X.K x (wipe σ own1) H' fun σ3 H5 => wipe σ3 own1 = wipe σ own1 ∧ tT p W0 t1 σ3 H5 fun b H6 =>
        if b = true then tE p W0 e σ3 H6 fun y H7 => ∃ acc, H7 Da = some (.lst acc) ∧ acc.length < sizeLine ∧ Nx1 (upd H7 Da (.lst (acc ++ [y]))) else Nx1 H6) := by
  refine ⟨bs, r, ⟨env, hp, base⟩, ⟨R, re, bl, bk⟩, ?_⟩
  unfold clauseT at h
  cases ew : w1 ⟨env, hp, base⟩ with
  | exn c fs xs s1 => rw [ew] at h; cases h
  | bad => rw [ew] at h; cases h
  | ok it s1 =>
    rw [ew] at h
    intro r2 H2 J l2 R2 hJ
    have h1 : lcL it g1 (testT t1 (eltT e n base) base) (wipeE s1.env own1) base (it.len s1) 0 s1.hp = some hp' := h
    refine ⟨fun i m H => ∃ r3 hp3, r2.le r3 ∧ RH p bs r3 hp3 H ∧ lcL it g1 (testT t1 (eltT e n base) base) (wipeE s1.env own1) base m i hp3 = some hp', ⟨it.len s1, r2, _, Rp.le.refl r2, R2.hp, h1⟩, fun i m H3 ⟨r3, hp3, l3, R3, e3⟩ => ?_⟩
    have re3 : RE p r3 (wipeE s1.env own1) (wipe σ own1) := (wipeE_ok R2.env own1).mono l3
    have hj := hJ i r3 ⟨wipeE s1.env own1, hp3, base⟩ (wipe σ own1) H3 l3 ⟨R3, re3, bl, bk⟩
    unfold lcL at e3
    cases ea : it.at i ⟨wipeE s1.env own1, hp3, base⟩ with
    | none => rw [ea] at e3; cases e3
    | some o =>
      rw [ea] at e3 hj
      try dsimp only at e3 hj
      cases o with
      | none =>
        have e4 : hp3 = hp' := by simpa using e3
        subst e4
        exact .inl ⟨hj, kx r3 H3 (l2.trans l3) R3⟩
      | some d =>
        cases m with
        | zero => cases e3
        | succ m =>
          try dsimp only at e3
          cases ep : g1.put d (wipeE s1.env own1) with
          | none => rw [ep] at e3; cases e3
          | some env' =>
            rw [ep] at e3
            try dsimp only at e3
            cases et : testT t1 (eltT e n base) base env' hp3 with
            | none => rw [et] at e3; cases e3
            | some hp4 =>
              rw [et] at e3
              try dsimp only at e3
              refine .inr ⟨hj.1, fun H' => ∃ r4, r2.le r4 ∧ RH p bs r4 hp4 H', fun H' ⟨r4, l4, R4⟩ => ⟨m, Nat.lt_succ_self m, r4, hp4, l4, R4, e3⟩, fun x H' hy => ?_⟩
              obtain ⟨r5, l5, R5, q5⟩ := hj.2 x H' hy
              refine Tgt.read_ok hK R5.hp q5 R5.env ep fun σ' e' ll hk => ⟨?_, ?_⟩
              · rw [wipe_same hg ll hk, wipe_wipe]
              · refine test_ok (Nx := fun H' => ∃ r4, r2.le r4 ∧ RH p bs r4 hp4 H') (rd := fun σ H3 => tE p W0 e σ H3 fun y H4 => ∃ acc, H4 Da = some (.lst acc) ∧ acc.length < sizeLine ∧ (fun H' => ∃ r4, r2.le r4 ∧ RH p bs r4 hp4 H') (upd H4 Da (.lst (acc ++ [y])))) R5.hp e' bl bk et (fun r' H' l' R' => ⟨r', ((l3.trans l5).trans l'), R'⟩) fun r' env1 hp1 H6 l6 R6 e6 h6 => ?_
                exact elt_ok (Nx := fun H' => ∃ r4, r2.le r4 ∧ RH p bs r4 hp4 H') R6 e6 bl bk ((((l2.trans l3).trans l5).trans l6).at eD) h6 fun r' H' l' R' => ⟨r', (((l3.trans l5).trans l6).trans l'), R'⟩
theorem lc2_of [p.Free] (hK : X.K = p.K) {w w1 : SemI} {g g1 : Tgt} {t t1 : SemT} {e : SemE} {own own1 : List Nat} {σ : L2.St} {Q : VK} (hg : ∀ i ∈ g.slots, i ∈ own) (hg1 : ∀ i ∈ g1.slots, i ∈ own1) (h : tE p W (lc2E w g t w1 g1 t1 e own own1) σ H Q) :
    tLc2 (tI p W w) (g.read X.K) (tT p W0 t) (tI p W0 w1) (g1.read X.K) (tT p W0 t1) (tE p W0 e) own own1 σ H Q := by
  obtain ⟨bs, r, s, R, po⟩ := h
  refine ⟨bs, r, s, R, ?_⟩
  unfold lc2E at po
  cases ew : w s with
  | exn c fs xs s1 => rw [ew] at po; exact po
  | bad => rw [ew] at po; exact False.elim po
  | ok it s1 =>
    rw [ew] at po
    intro r1 H1 J l1 R1 hJ D nD
    have po1 : Po p bs r σ W (RV p) Q (match lcL it g (testT t (clauseT w1 g1 (testT t1 (eltT e s1.hp.length s1.base) s1.base) own1 s1.base) s1.base) (wipeE s1.env own) s1.base (it.len s1) 0 (s1.hp ++ [.lst []]) with
      | some hp => .ok (.ref s1.hp.length) { s1 with hp := hp }
      | none => .bad) := po
    split at po1
    · rename_i hpF eF
      obtain ⟨r2, l2, R2, v2⟩ := R1.hp.lst .nil nD
      have eD : r2.ρ[s1.hp.length]? = some D := by
        have : ∃ a, r2.ρ[s1.hp.length]? = some a ∧ V.ref D = V.ref a := by simpa [RV] using v2
        obtain ⟨a, e1, e2⟩ := this
        cases e2
        exact e1
      refine ⟨fun i m H => ∃ r3 hp3, r2.le r3 ∧ RH p bs r3 hp3 H ∧ lcL it g (testT t (clauseT w1 g1 (testT t1 (eltT e s1.hp.length s1.base) s1.base) own1 s1.base) s1.base) (wipeE s1.env own) s1.base m i hp3 = some hpF, ⟨it.len s1, r2, _, Rp.le.refl r2, R2, eF⟩, fun i m H3 ⟨r3, hp3, l3, R3, e3⟩ => ?_⟩
      have re3 : RE p r3 (wipeE s1.env own) (wipe σ own) := (wipeE_ok R1.env own).mono (l2.trans l3)
      have hj := hJ i r3 ⟨wipeE s1.env own, hp3, s1.base⟩ (wipe σ own) H3 (l2.trans l3) ⟨R3, re3, R1.bl, R1.bk⟩
      unfold lcL at e3
      cases ea : it.at i ⟨wipeE s1.env own, hp3, s1.base⟩ with
      | none => rw [ea] at e3; cases e3
      | some o =>
        rw [ea] at e3 hj
        try dsimp only at e3 hj
        cases o with
        | none =>
          have e4 : hp3 = hpF := by simpa using e3
          subst e4
          refine .inl ⟨hj, po1 r3 H3 _ ((l1.trans l2).trans l3) ⟨R3, R1.env.mono (l2.trans l3), R1.bl, R1.bk⟩ (v2.mono l3)⟩
        | some d =>
          cases m with
          | zero => cases e3
          | succ m =>
            try dsimp only at e3
            cases ep : g.put d (wipeE s1.env own) with
            | none => rw [ep] at e3; cases e3
            | some env' =>
              rw [ep] at e3
              try dsimp only at e3
              cases et : testT t (clauseT w1 g1 (testT t1 (eltT e s1.hp.length s1.base) s1.base) own1 s1.base) s1.base env' hp3 with
              | none => rw [et] at e3; cases e3
              | some hp4 =>
                rw [et] at e3
                try dsimp only at e3
                refine .inr ⟨hj.1, fun H' => ∃ r4, r2.le r4 ∧ RH p bs r4 hp4 H', fun H' ⟨r4, l4, R4⟩ => ⟨m, Nat.lt_succ_self m, r4, hp4, l4, R4, e3⟩, fun x H' hy => ?_⟩
                obtain ⟨r5, l5, R5, q5⟩ := hj.2 x H' hy
                refine Tgt.read_ok hK R5.hp q5 R5.env ep fun σ' e' ll hk => ⟨?_, ?_⟩
                · rw [wipe_same hg ll hk, wipe_wipe]
                · refine test_ok (Nx := fun H' => ∃ r4, r2.le r4 ∧ RH p bs r4 hp4 H') (rd := fun σ' H3 => tI p W0 w1 σ' H3 fun J1 H4 => ∃ W1 : Nat → Nat → Hp → Prop, (∃ m, W1 0 m H4) ∧ ∀ j k H, W1 j k H →
                    (J1.stop j H ∧ (fun H' => ∃ r4, r2.le r4 ∧ RH p bs r4 hp4 H') H) ∨ (J1.go j H ∧ ∃ Nx1 : Hp → Prop, (∀ H', Nx1 H' → ∃ k', k' < k ∧ W1 (j + 1) k' H') ∧ ∀ x H', J1.yld j H x H' → g1.read X.K x (wipe σ' own1) H' fun σ3 H5 => wipe σ3 own1 = wipe σ' own1 ∧ tT p W0 t1 σ3 H5 fun b H6 =>
                      if b = true then tE p W0 e σ3 H6 fun y H7 => ∃ acc, H7 D = some (.lst acc) ∧ acc.length < sizeLine ∧ Nx1 (upd H7 D (.lst (acc ++ [y]))) else Nx1 H6)) R5.hp e' R1.bl R1.bk et (fun r' H' l' R' => ⟨r', ((l3.trans l5).trans l'), R'⟩) fun r' env1 hp1 H6 l6 R6 e6 h6 => ?_
                  exact clause_ok (Nx := fun H' => ∃ r4, r2.le r4 ∧ RH p bs r4 hp4 H') hK hg1 R6 e6 R1.bl R1.bk (((l3.trans l5).trans l6).at eD) h6 fun r' H' l' R' => ⟨r', (((l3.trans l5).trans l6).trans l'), R'⟩
    · exact False.elim po1

/-! ### the rules -/
section
variable {elt tg iter tg1 iter1 : Expr} {ifs ifs1 : List Expr} {scope : Scope} {own : List (Str × Nat)} {own1 : List Nat} {pos spos py : Pos} {w w1 : SemI} {g g1 : Tgt} {t t1 : SemT} {e : SemE} {i : Nat} {y : Str}
theorem pe_lcE [p.Free] (hK : X.K = p.K) (hc : X.calm = true) (hN : X.N.Nodup) (hi : PI X tg iter (tI p W w)) (ok : BlkOk X.N X.env.scope scope own) (hgs : ∀ i ∈ g.slots, i ∈ own.map (·.2))
    (hg : ∀ (s : Shared) (H : Hp) (C : Addr) (cl : List (Str × Addr)) (fp : List Addr), PG (X.blk s H scope (compEnvC scope cl C X.env) fp) tg (g.read X.K)) (ht : ∀ (s : Shared) (H : Hp) (C : Addr) (cl : List (Str × Addr)) (fp : List Addr), PTs (X.blk s H scope (compEnvC scope cl C X.env) fp) ifs (tT p W0 t))
    (he : ∀ (s : Shared) (H : Hp) (C : Addr) (cl : List (Str × Addr)) (fp : List Addr), PE (X.blk s H scope (compEnvC scope cl C X.env) fp) elt (tE p W0 e)) (hs : ∀ x, foldedSetIterable iter X.env x = pure x) :
    PE X (.ListComp elt [⟨tg, iter, ifs, 0⟩] scope pos) (tE p W (lcE w g t e (own.map (·.2)))) := PE.by (pe_lc hc hN hi ok hg ht he hs) fun σ H Q h => lc_of hK hgs h
theorem ps_setLcE [p.Free] (hK : X.K = p.K) (hc : X.calm = true) (hN : X.N.Nodup) (hy : X.N[i]? = some y) (hyl : X.env.scope.names.lookup y = some .local)
    (hsw : swapsWith (.ListComp elt [⟨tg, iter, ifs, 0⟩] scope pos) (some (.Name y py)) spos.line X.env = pure true) (hi : PI X tg iter (tI p W w)) (ok : BlkOk X.N X.env.scope scope own) (hgs : ∀ i ∈ g.slots, i ∈ own.map (·.2))
    (hg : ∀ (s : Shared) (H : Hp) (C : Addr) (cl : List (Str × Addr)) (fp : List Addr), PG (X.blk s H scope (compEnvC scope cl C X.env) fp) tg (g.read X.K)) (ht : ∀ (s : Shared) (H : Hp) (C : Addr) (cl : List (Str × Addr)) (fp : List Addr), PTs (X.blk s H scope (compEnvC scope cl C X.env) fp) ifs (tT p W0 t))
    (he : ∀ (s : Shared) (H : Hp) (C : Addr) (cl : List (Str × Addr)) (fp : List Addr), PE (X.blk s H scope (compEnvC scope cl C X.env) fp) elt (tE p W0 e)) (hs : ∀ x, foldedSetIterable iter X.env x = pure x) :
    PS X (.Assign [.Name y py] (.ListComp elt [⟨tg, iter, ifs, 0⟩] scope pos) spos) (tS p W (asgS (lcE w g t e (own.map (·.2))) (nameG i))) :=
  PS.by (ps_setLc hc hN hy hyl hsw hi ok hg ht he hs) fun E σ H h => asg_name (fun _ _ _ q => lc_of hK hgs q) h
theorem pe_lc2E [p.Free] (hK : X.K = p.K) (hc : X.calm = true) (hN : X.N.Nodup) (hi : PI X tg iter (tI p W w)) (ok : BlkOk X.N X.env.scope scope own) (hv : ∀ i ∈ own1, i ∈ own.map (·.2)) (hgs : ∀ i ∈ g.slots, i ∈ own.map (·.2)) (hgs1 : ∀ i ∈ g1.slots, i ∈ own1)
    (hg : ∀ (s : Shared) (H : Hp) (C : Addr) (cl : List (Str × Addr)) (fp : List Addr), PG (X.blk s H scope (compEnvC scope cl C X.env) fp) tg (g.read X.K)) (ht : ∀ (s : Shared) (H : Hp) (C : Addr) (cl : List (Str × Addr)) (fp : List Addr), PTs (X.blk s H scope (compEnvC scope cl C X.env) fp) ifs (tT p W0 t))
    (hi1 : ∀ (s : Shared) (H : Hp) (C : Addr) (cl : List (Str × Addr)) (fp : List Addr), PI (X.blk s H scope (compEnvC scope cl C X.env) fp) tg1 iter1 (tI p W0 w1))
    (hg1 : ∀ (s : Shared) (H : Hp) (C : Addr) (cl : List (Str × Addr)) (fp : List Addr), PG (X.blk s H scope (compEnvC scope cl C X.env) fp) tg1 (g1.read X.K)) (ht1 : ∀ (s : Shared) (H : Hp) (C : Addr) (cl : List (Str × Addr)) (fp : List Addr), PTs (X.blk s H scope (compEnvC scope cl C X.env) fp) ifs1 (tT p W0 t1))
    (he : ∀ (s : Shared) (H : Hp) (C : Addr) (cl : List (Str × Addr)) (fp : List Addr), PE (X.blk s H scope (compEnvC scope cl C X.env) fp) elt (tE p W0 e)) (hs : ∀ x, foldedSetIterable iter X.env x = pure x) (hs1 : ∀ env x, foldedSetIterable iter1 env x = pure x) :
    PE X (.ListComp elt [⟨tg, iter, ifs, 0⟩, ⟨tg1, iter1, ifs1, 0⟩] scope pos) (tE p W (lc2E w g t w1 g1 t1 e (own.map (·.2)) own1)) := PE.by (pe_lc2 hc hN hi ok hv hg ht hi1 hg1 ht1 he hs hs1) fun σ H Q h => lc2_of hK hgs hgs1 h
theorem ps_setLc2E [p.Free] (hK : X.K = p.K) (hc : X.calm = true) (hN : X.N.Nodup) (hy : X.N[i]? = some y) (hyl : X.env.scope.names.lookup y = some .local)
    (hsw : swapsWith (.ListComp elt [⟨tg, iter, ifs, 0⟩, ⟨tg1, iter1, ifs1, 0⟩] scope pos) (some (.Name y py)) spos.line X.env = pure true) (hi : PI X tg iter (tI p W w)) (ok : BlkOk X.N X.env.scope scope own) (hv : ∀ i ∈ own1, i ∈ own.map (·.2)) (hgs : ∀ i ∈ g.slots, i ∈ own.map (·.2)) (hgs1 : ∀ i ∈ g1.slots, i ∈ own1)
    (hg : ∀ (s : Shared) (H : Hp) (C : Addr) (cl : List (Str × Addr)) (fp : List Addr), PG (X.blk s H scope (compEnvC scope cl C X.env) fp) tg (g.read X.K)) (ht : ∀ (s : Shared) (H : Hp) (C : Addr) (cl : List (Str × Addr)) (fp : List Addr), PTs (X.blk s H scope (compEnvC scope cl C X.env) fp) ifs (tT p W0 t))
    (hi1 : ∀ (s : Shared) (H : Hp) (C : Addr) (cl : List (Str × Addr)) (fp : List Addr), PI (X.blk s H scope (compEnvC scope cl C X.env) fp) tg1 iter1 (tI p W0 w1))
    (hg1 : ∀ (s : Shared) (H : Hp) (C : Addr) (cl : List (Str × Addr)) (fp : List Addr), PG (X.blk s H scope (compEnvC scope cl C X.env) fp) tg1 (g1.read X.K)) (ht1 : ∀ (s : Shared) (H : Hp) (C : Addr) (cl : List (Str × Addr)) (fp : List Addr), PTs (X.blk s H scope (compEnvC scope cl C X.env) fp) ifs1 (tT p W0 t1))
    (he : ∀ (s : Shared) (H : Hp) (C : Addr) (cl : List (Str × Addr)) (fp : List Addr), PE (X.blk s H scope (compEnvC scope cl C X.env) fp) elt (tE p W0 e)) (hs : ∀ x, foldedSetIterable iter X.env x = pure x) (hs1 : ∀ env x, foldedSetIterable iter1 env x = pure x) :
    PS X (.Assign [.Name y py] (.ListComp elt [⟨tg, iter, ifs, 0⟩, ⟨tg1, iter1, ifs1, 0⟩] scope pos) spos) (tS p W (asgS (lc2E w g t w1 g1 t1 e (own.map (·.2)) own1) (nameG i))) :=
  PS.by (ps_setLc2 hc hN hy hyl hsw hi ok hv hg ht hi1 hg1 ht1 he hs hs1) fun E σ H h => asg_name (fun _ _ _ q => lc2_of hK hgs hgs1 q) h
end
end
end Den
end

-- DenI
section
set_option maxHeartbeats 1000000
/-! Den: what a call leaves behind: the freeze. -/
namespace Den
open PySem PySem.Spec L2
section
variable {p : Px} {bs : List Nat} {r r' : Rp} {hp : List Cell} {H : Hp}
mutual
theorem fz_ok {get : Nat → Option D} (hG : ∀ a o, r.G a = some o → r'.G a = some o) (hg : ∀ n d v, get n = some d → RV p r (.ref n) v → RV p r' d v) : ∀ {d d' : D} {v : V}, fz get d = some d' → RV p r d v → RV p r' d' v
  | .non, d', v, e, q => by
    have : d' = .non := by simpa [fz] using e.symm
    rw [this]; exact rv_non.mpr (rv_non.mp q)
  | .bl b, d', v, e, q => by
    have : d' = .bl b := by simpa [fz] using e.symm
    rw [this]; exact rv_bl.mpr (rv_bl.mp q)
  | .int b, d', v, e, q => by
    have : d' = .int b := by simpa [fz] using e.symm
    rw [this]; exact rv_int.mpr (rv_int.mp q)
  | .str b, d', v, e, q => by
    have : d' = .str b := by simpa [fz] using e.symm
    rw [this]; exact rv_str.mpr (rv_str.mp q)
  | .cls b, d', v, e, q => by
    have : d' = .cls b := by simpa [fz] using e.symm
    rw [this]; exact rv_cls.mpr (rv_cls.mp q)
  | .ty b, d', v, e, q => by
    have : d' = .ty b := by simpa [fz] using e.symm
    rw [this]; simpa [RV] using q
  | .tup xs, d', v, e, q => by
    obtain ⟨a, vs, ev, g, t⟩ := rv_tupI q
    unfold fz at e
    split at e
    · rename_i ys ey
      have : d' = .tup ys := by simpa using e.symm
      rw [this, ev]
      exact rv_tup (hG _ _ g) (fzs_ok hG hg ey t)
    · cases e
  | .lst xs, d', v, e, q => by
    obtain ⟨a, vs, ev, g, t⟩ := rv_lstI q
    unfold fz at e
    split at e
    · rename_i ys ey
      have : d' = .lst ys := by simpa using e.symm
      rw [this]
      simp only [RV]
      exact ⟨a, vs, ev, hG _ _ g, fzs_ok hG hg ey t⟩
    · cases e
  | .scr xs, d', v, e, q => by
    obtain ⟨a, vs, ev, g, t⟩ := rv_scrI q
    unfold fz at e
    split at e
    · rename_i ys ey
      have : d' = .scr ys := by simpa using e.symm
      rw [this]
      simp only [RV]
      exact ⟨a, vs, ev, sqL_le hG g, fzs_ok hG hg ey t⟩
    · cases e
  | .dct ks xs, d', v, e, q => by
    simp only [RV] at q
    obtain ⟨a, o, vs, ev, g, k, t⟩ := q
    unfold fz at e
    split at e
    · rename_i ys ey
      have : d' = .dct ks ys := by simpa using e.symm
      rw [this]
      simp only [RV]
      exact ⟨a, o, vs, ev, hG _ _ g, k, fzs_ok hG hg ey t⟩
    · cases e
  | .ins c fs xs, d', v, e, q => by
    simp only [RV] at q
    obtain ⟨a, dx, vfs, ev, g, k, t⟩ := q
    unfold fz at e
    split at e
    · rename_i ys ey
      have : d' = .ins c fs ys := by simpa using e.symm
      rw [this]
      simp only [RV]
      exact ⟨a, dx, vfs, ev, hG _ _ g, k, fzs_ok hG hg ey t⟩
    · cases e
  | .exc c fs xs, d', v, e, q => by
    simp only [RV] at q
    obtain ⟨a, ev, q⟩ := q
    unfold fz at e
    split at e
    · rename_i ys ey
      have : d' = .exc c fs ys := by simpa using e.symm
      rw [this]
      simp only [RV]
      refine ⟨a, ev, ?_⟩
      rcases q with ⟨z1, z2, z3⟩ | ⟨dd, vfs, z1, z2, z3, t⟩
      · subst z2
        have : ys = [] := by simpa [fzs] using ey.symm
        exact .inl ⟨z1, this, hG _ _ z3⟩
      · exact .inr ⟨dd, vfs, hG _ _ z1, hG _ _ z2, z3, fzs_ok hG hg ey t⟩
    · cases e
  | .ref n, d', v, e, q => hg n d' v (by simpa [fz] using e) q
theorem fzs_ok {get : Nat → Option D} (hG : ∀ a o, r.G a = some o → r'.G a = some o) (hg : ∀ n d v, get n = some d → RV p r (.ref n) v → RV p r' d v) : ∀ {xs ys : List D} {vs : List V}, fzs get xs = some ys → RVs p r xs vs → RVs p r' ys vs
  | [], ys, vs, e, q => by
    have : ys = [] := by simpa [fzs] using e.symm
    rw [this, q.nil_inv]; exact .nil
  | x :: xs, ys, vs, e, q => by
    obtain ⟨v, us, ev, q1, q2⟩ := q.cons_inv
    unfold fzs at e
    split at e
    · rename_i y zs ey ez
      have : ys = y :: zs := by simpa using e.symm
      rw [this, ev]
      exact .cons (fz_ok hG hg ey q1) (fzs_ok hG hg ez q2)
    · cases e
end
/-- what is frozen: the cells from base on -/
def iceR (r : Rp) (base : Nat) (H : Hp) : Rp := ⟨r.ρ.take base, fun a => if a ∈ r.ρ.drop base then H a else r.G a⟩
theorem ice_sub (R : RH p bs r hp H) (base : Nat) : ∀ a o, r.G a = some o → (iceR r base H).G a = some o := fun a o e => by
  show (if a ∈ r.ρ.drop base then H a else r.G a) = some o
  rw [if_neg]
  · exact e
  · intro h
    rw [R.off a (List.mem_of_mem_drop h)] at e
    cases e
theorem RH.ices {base : Nat} (R : RH p bs r hp H) (hb : base ∈ bs) (hl : ∀ b ∈ bs, b ≤ base) : RH p bs (iceR r base H) (hp.take base) H := by
  have hbl := R.bsl base hb
  have sub := ice_sub R base
  have nodup : ∀ a, a ∈ r.ρ.take base → a ∉ r.ρ.drop base := fun a h1 h2 => by
    have h := R.nd
    rw [← List.take_append_drop base r.ρ, List.nodup_append] at h
    exact h.2.2 a h1 a h2 rfl
  refine ⟨fun a o e => ?_, fun a ha => ?_, ?_, ?_, fun n a c e1 e2 => ?_, fun b hb' n a c hn e1 e2 => ?_, fun b hb' => ?_⟩
  · have e' : (if a ∈ r.ρ.drop base then H a else r.G a) = some o := e
    split at e'
    · exact e'
    · exact R.sub _ _ e'
  · show (if a ∈ r.ρ.drop base then H a else r.G a) = none
    rw [if_neg (nodup a ha)]
    exact R.off a (List.mem_of_mem_take ha)
  · exact R.nd.sublist (List.take_sublist _ _)
  · show (r.ρ.take base).length = (hp.take base).length
    rw [List.length_take, List.length_take, R.len]
  · have e1' : (r.ρ.take base)[n]? = some a := e1
    rw [List.getElem?_take] at e1' e2
    split at e1'
    · rename_i hn
      rw [if_pos hn] at e2
      have k := R.clo base hb n a c hn e1' e2
      have le : Rp.le ⟨r.ρ.take base, r.G⟩ (iceR r base H) := ⟨⟨[], by simp [iceR]⟩, sub⟩
      exact k.mono le
    · cases e1'
  · have hbb := hl b hb'
    have e1' : (r.ρ.take base)[n]? = some a := e1
    rw [List.getElem?_take, if_pos (by omega)] at e1' e2
    have k := R.clo b hb' n a c hn e1' e2
    have le : Rp.le ⟨r.ρ.take b, r.G⟩ ⟨(iceR r base H).ρ.take b, (iceR r base H).G⟩ := ⟨⟨[], by
      show (r.ρ.take base).take b = r.ρ.take b ++ []
      rw [List.append_nil, List.take_take, Nat.min_eq_left hbb]⟩, sub⟩
    exact k.mono le
  · rw [List.length_take]
    have := hl b hb'
    omega
theorem fzCell_ok (R : RH p bs r hp H) {base : Nat} : ∀ (k n : Nat) (d : D) (v : V), fzCell hp base k n = some d → RV p r (.ref n) v → RV p (iceR r base H) d v := by
  have sub := ice_sub R base
  have below : ∀ (n : Nat) (d : D) (v : V), n < base → some (D.ref n) = some d → RV p r (.ref n) v → RV p (iceR r base H) d v := fun n d v hn e q => by
    cases e
    simp only [RV] at q ⊢
    obtain ⟨a, ea, ev⟩ := q
    refine ⟨a, ?_, ev⟩
    show (r.ρ.take base)[n]? = some a
    rw [List.getElem?_take, if_pos hn]
    exact ea
  intro k
  induction k with
  | zero =>
    intro n d v e q
    unfold fzCell at e
    split at e
    · rename_i hn
      exact below n d v hn e q
    · cases e
  | succ k ih =>
    intro n d v e q
    unfold fzCell at e
    split at e
    · rename_i hn
      exact below n d v hn e q
    · rename_i hn
      have iceAt : ∀ {a : Addr}, r.ρ[n]? = some a → (iceR r base H).G a = H a := fun {a} ea => by
        show (if a ∈ r.ρ.drop base then H a else r.G a) = H a
        rw [if_pos]
        refine List.mem_of_getElem? (i := n - base) ?_
        rw [List.getElem?_drop, show base + (n - base) = n by omega]
        exact ea
      split at e
      · rename_i xs ec
        obtain ⟨a, ev, ea, vs, eh, t⟩ := R.cellAt ec q
        split at e
        · rename_i ys ey
          have : d = .lst ys := by simpa using e.symm
          rw [this]
          simp only [RV]
          exact ⟨a, vs, ev, by rw [iceAt ea]; exact eh, fzs_ok sub (fun n d v => ih n d v) ey t⟩
        · cases e
      · rename_i ks xs ec
        obtain ⟨a, ev, ea, o, vs, eh, kk, t⟩ := R.cellAt ec q
        split at e
        · rename_i ys ey
          have : d = .dct ks ys := by simpa using e.symm
          rw [this]
          simp only [RV]
          exact ⟨a, o, vs, ev, by rw [iceAt ea]; exact eh, kk, fzs_ok sub (fun n d v => ih n d v) ey t⟩
        · cases e
      · rename_i c fs xs ec
        obtain ⟨a, ev, ea, dx, vfs, eh, kk, t⟩ := R.cellAt ec q
        split at e
        · rename_i ys ey
          have : d = .ins c fs ys := by simpa using e.symm
          rw [this]
          simp only [RV]
          exact ⟨a, dx, vfs, ev, by rw [iceAt ea]; exact eh, kk, fzs_ok sub (fun n d v => ih n d v) ey t⟩
        · cases e
      · cases e
theorem freeze_ok (R : RH p bs r hp H) {base : Nat} {d d' : D} {v : V} (e : freeze hp base d = some d') (q : RV p r d v) : RV p (iceR r base H) d' v := fz_ok (ice_sub R base) (fzCell_ok R fzDepth) e q
theorem freezes_ok (R : RH p bs r hp H) {base : Nat} {xs ys : List D} {vs : List V} (e : freezes hp base xs = some ys) (q : RVs p r xs vs) : RVs p (iceR r base H) ys vs := fzs_ok (ice_sub R base) (fzCell_ok R fzDepth) e q
/-- the caller's part is below what the call leaves frozen -/
theorem ice_le {r0 : Rp} (l : r0.le r) (R : RH p bs r hp H) {base : Nat} (hb : r0.ρ.length = base) : r0.le (iceR r base H) := by
  obtain ⟨t, ht⟩ := l.pre
  refine ⟨⟨[], ?_⟩, fun a o e => ice_sub R base a o (l.sub a o e)⟩
  show r.ρ.take base = r0.ρ ++ []
  rw [ht, List.append_nil, ← hb, List.take_left']
  rfl
end
end Den
end

-- DenJ
section
set_option maxHeartbeats 1000000
/-! Den: defs and their calls. -/
namespace Den
open PySem PySem.Spec L2

/-! ### promises -/
def PoC (p : Px) (bs : List Nat) (r : Rp) (Q : VK) (E : XK) : OutC → Prop
  | .ok d hp => ∀ r' H' v, r.le r' → RH p bs r' hp H' → RV p r' d v → Q v H'
  | .exn c fs xs hp => ∀ r' H' cd, r.le r' → RH p bs r' hp H' → RX p r' H' fs xs cd → E (.ref (p.CA c)) cd H'
  | .bad => False
/-- .. of an __init__, the instance at x -/
def PoI2 (p : Px) (bs : List Nat) (r : Rp) (x : Addr) (Q : VK) (E : XK) : OutC → Prop
  | .ok d hp => ∀ r' H', r.le r' → RH p bs r' hp H' → RV p r' d (.ref x) → Q .non H'
  | .exn c fs xs hp => ∀ r' H' cd, r.le r' → RH p bs r' hp H' → RX p r' H' fs xs cd → E (.ref (p.CA c)) cd H'
  | .bad => False
/-- the def number i does what C says -/
def spF (p : Px) (C : Calls) (i n : Nat) : Sp := fun vs H Q E => vs.length = n ∧
  ((∃ bs r hp args, RH p bs r hp H ∧ RVs p r args vs ∧ PoC p bs r Q E (C i none args hp)) ∨
    ∃ bs r hp c args x us dx H1, RH p bs r hp H1 ∧ H1 x = none ∧ H = upd H1 x (.ins (p.CA c) dx []) ∧ vs = .ref x :: us ∧ RVs p r args us ∧ PoI2 p bs r x Q E (C i (some c) args hp))

/-- where a piece of a def stands: the def's body, or a comprehension's block in it -/
structure Cxt (P : Program) (w : World) (p : Px) (mg : Str → Option Value) (base : Heap) (k : Nat) (N : List Str) (sc : Scope) (W : WX) (X : Cx) : Prop where
  prog : X.prog = P
  w : X.w = w
  K : X.K = p.K
  mg : X.mg = mg
  base : X.base = base
  names : X.N = N
  nd : X.N.Nodup
  sc : X.env.scope = sc
  calm : X.calm = true
  room : Room k X.A
  tk : Takes X W
  more : True
/-- .. a def's body -/
structure Cxb (P : Program) (w : World) (p : Px) (mg : Str → Option Value) (base : Heap) (k : Nat) (N : List Str) (sc : Scope) (W : WX) (X : Cx) : Prop extends Cxt P w p mg base k N sc W X where
  stk : X.stack = X.env :: X.outer
  fr : X.env.frame = some X.env.locals
  pass : PassesOwn (model X.prog X.w) X.A X.env X.xe
  kind : X.env.scope.kind = .function
  fnT : ∀ x, X.fn x = true

section
variable {P : Program} {w : World} {p : Px} {mg : Str → Option Value} {base : Heap} {k l : Nat} {N ps : List Str} {sc : Scope}
theorem RH.weak {bs bs' : List Nat} {r : Rp} {hp : List Cell} {H : Hp} (R : RH p bs r hp H) (h : ∀ b ∈ bs', b ∈ bs) : RH p bs' r hp H :=
  ⟨R.sub, R.off, R.nd, R.len, R.cell, fun b hb => R.clo b (h b hb), fun b hb => R.bsl b (h b hb)⟩
/-- the caller's bounds and the call's own -/
theorem RH.enter {bs : List Nat} {r : Rp} {hp : List Cell} {H : Hp} (R : RH p bs r hp H) : RH p (hp.length :: bs) r hp H := by
  refine ⟨R.sub, R.off, R.nd, R.len, R.cell, fun b hb n a c hn e1 e2 => ?_, fun b hb => ?_⟩
  · rcases List.mem_cons.mp hb with rfl | hb
    · rw [← R.len, List.take_length]
      exact R.cell n a c e1 e2
    · exact R.clo b hb n a c hn e1 e2
  · rcases List.mem_cons.mp hb with rfl | hb
    · exact Nat.le_refl _
    · exact R.bsl b hb
theorem start_env {r : Rp} {f : Fn} {args : List D} {vs : List V} {N : List Str} (t : RVs p r args vs) (hs : f.slots = N.length) (hF : p.F r (L2.start N vs)) : RE p r (startEnv f args) (L2.start N vs) := by
  have hl := t.length
  refine ⟨by simp [startEnv, L2.start, hs, hl], fun i d e => ?_, hF⟩
  unfold startEnv at e
  unfold L2.start
  by_cases hi : i < args.length
  · rw [List.getElem?_append_left (by simpa using hi)] at e
    rw [List.getElem?_append_left (by rw [List.length_map, ← hl]; exact hi)]
    rw [List.getElem?_map] at e ⊢
    cases ea : args[i]? with
    | none => rw [ea] at e; cases e
    | some d' =>
      rw [ea] at e
      have : d' = d := by simpa using e
      subst this
      obtain ⟨v, ev, q⟩ := t.get ea
      exact ⟨v, by rw [ev] <;> rfl, q⟩
  · rw [List.getElem?_append_right (by simpa using Nat.le_of_not_lt hi)] at e
    obtain ⟨h1, h2⟩ := List.getElem?_eq_some_iff.mp e
    simp at h2
theorem rx_leave {bs : List Nat} {r2 : Rp} {hp : List Cell} {n : Nat} {H : Hp} {fs : List Nat} {xs xs' : List D} {cd : Option Addr} (R : RH p bs r2 hp H) (e : freezes hp n xs = some xs') (q : RX p r2 H fs xs cd) : RX p (iceR r2 n H) H fs xs' cd := by
  rcases q with ⟨h1, h2, h3⟩ | ⟨dd, vfs, h1, h2, h3, h4⟩
  · subst h2
    have : xs' = [] := by simpa [freezes, fzs] using e.symm
    exact .inl ⟨h1, this, h3⟩
  · exact .inr ⟨dd, vfs, h1, h2, h3, freezes_ok R e h4⟩
/-- what a call's end leaves -/
theorem RH.left {bs : List Nat} {r2 : Rp} {hp : List Cell} {n : Nat} {H : Hp} (R : RH p (n :: bs) r2 hp H) (hl : ∀ b ∈ bs, b ≤ n) : RH p bs (iceR r2 n H) (hp.take n) H :=
  (R.ices List.mem_cons_self fun b hb => (List.mem_cons.mp hb).elim (fun e => Nat.le_of_eq e) (hl b)).weak fun b hb => List.mem_cons_of_mem _ hb
/-- a body's end is its call's end -/
theorem leave_ok {bs : List Nat} {r : Rp} {n : Nat} {Q : VK} {E : XK} {o : Out Fl} (hn : r.ρ.length = n) (hle : ∀ b ∈ bs, b ≤ n) (h : PoC p bs r Q E (leave n o)) :
    PoS p (n :: bs) r (fun cls d _ H => E cls d H) { nx := fun _ H' => Q .non H', rt := Q } o := by
  cases o with
  | ok a s =>
    cases a with
    | ret d =>
      unfold leave at h
      simp only at h
      split at h
      · rename_i d' ed
        intro r' σ' H' v l R q
        exact h _ H' v (ice_le l R.hp hn) (R.hp.left hle) (freeze_ok R.hp ed q)
      · exact False.elim h
    | next => exact fun r' σ' H' l R => h _ H' .non (ice_le l R.hp hn) (R.hp.left hle) (rv_non.mpr rfl)
    | brk => exact False.elim h
    | cont => exact False.elim h
  | exn c fs xs s =>
    unfold leave at h
    simp only at h
    split at h
    · rename_i xs' ex
      exact fun r' σ' H' cd l R q => h _ H' cd (ice_le l R.hp hn) (R.hp.left hle) (rx_leave R.hp ex q)
    · exact False.elim h
  | bad => exact False.elim h
theorem leaveKeep_ok {bs : List Nat} {r : Rp} {n : Nat} {Q : VK} {E : XK} {o : Out Fl} (h : PoC p bs r Q E (leaveKeep o)) :
    PoS p (n :: bs) r (fun cls d _ H => E cls d H) { nx := fun _ H' => Q .non H', rt := Q } o := by
  have wk : ∀ b ∈ bs, b ∈ n :: bs := fun b hb => List.mem_cons_of_mem _ hb
  cases o with
  | ok a s =>
    cases a with
    | ret d => exact fun r' σ' H' v l R q => h r' H' v l (R.hp.weak wk) q
    | next => exact fun r' σ' H' l R => h r' H' .non l (R.hp.weak wk) (rv_non.mpr rfl)
    | brk => exact False.elim h
    | cont => exact False.elim h
  | exn c fs xs s => exact fun r' σ' H' cd l R q => h r' H' cd l (R.hp.weak wk) q
  | bad => exact False.elim h
/-- the end of an __init__ (r: ahead of the instance, which lies at x) -/
theorem leaveMk_ok {bs : List Nat} {r : Rp} {n : Nat} {x : Addr} {Q : VK} {E : XK} {o : Out Fl} (hn : r.ρ.length = n) (hle : ∀ b ∈ bs, b ≤ n) (h : PoI2 p bs r x Q E (leaveMk n o)) :
    PoS p (n :: bs) ⟨r.ρ ++ [x], r.G⟩ (fun cls d _ H => E cls d H) { nx := fun _ H' => Q .non H', rt := Q } o := by
  have l0 : r.le ⟨r.ρ ++ [x], r.G⟩ := ⟨⟨[x], rfl⟩, fun _ _ e => e⟩
  have self : ∀ {r' : Rp}, Rp.le ⟨r.ρ ++ [x], r.G⟩ r' → RV p r' (.ref n) (.ref x) := fun {r'} l => rv_ref (l.at (n := n) (a := x) (by
    show (r.ρ ++ [x])[n]? = some x
    rw [← hn, List.getElem?_concat_length]))
  cases o with
  | ok a s =>
    cases a with
    | ret d =>
      cases d with
      | non =>
        unfold leaveMk at h
        simp only at h
        split at h
        · rename_i d' ed
          intro r' σ' H' v l R q
          rw [rv_non.mp q]
          exact h _ H' (ice_le (l0.trans l) R.hp hn) (R.hp.left hle) (freeze_ok R.hp ed (self l))
        · exact False.elim h
      | _ => exact False.elim h
    | next =>
      unfold leaveMk at h
      simp only at h
      split at h
      · rename_i d' ed
        intro r' σ' H' l R
        exact h _ H' (ice_le (l0.trans l) R.hp hn) (R.hp.left hle) (freeze_ok R.hp ed (self l))
      · exact False.elim h
    | brk => exact False.elim h
    | cont => exact False.elim h
  | exn c fs xs s =>
    unfold leaveMk at h
    simp only at h
    split at h
    · rename_i xs' ex
      exact fun r' σ' H' cd l R q => h _ H' cd (ice_le (l0.trans l) R.hp hn) (R.hp.left hle) (rx_leave R.hp ex q)
    · exact False.elim h
  | bad => exact False.elim h

/-- a def keeps its promise, one call deeper than what it calls -/
theorem fn_ok {fns : List Fn} {i : Nat} {fn : Fn} {K : PySem.W.Frag} {name qual : Str} {params : Arguments} {body : List Stmt} {dvs : List V} {kws : List (Str × V)} {f : Addr} {fd : FuncData} (hK : K = p.K) (hF : ∀ r σ, p.F r σ) (hf : fns[i]? = some fn) (F : FunD K name qual params body sc dvs kws f fd)
    (S : FnScope N ps sc) (hs : fn.slots = N.length) (hp : fn.params = ps.length)
    (hb : ∀ X W, Cxb P w p mg base l N sc W X → PSs X body (tS p W (fn.body (callK fns k)))) : FnOk P w K mg base (L2.CX P w) (l + 1) f fd ps (spF p (callK fns (k + 1)) i ps.length) := by
  refine F.ok S (fun vs H Q E h => h.1) fun cdv A outer s H vs Q E hr ⟨hl, h⟩ => ?_
  have cx : Cxb P w p mg base l N sc (fun cls d _ H => E cls d H) (cxOf (L2.CX P w) P w K mg base N qual sc f cdv A outer s H E) :=
    { prog := rfl, w := rfl, K := hK, mg := rfl, base := rfl, names := rfl, nd := S.nd, sc := rfl, calm := rfl, room := hr, tk := takes_of rfl rfl rfl rfl, more := trivial, fnT := fun _ => rfl, stk := rfl, fr := rfl, pass := passes_of rfl, kind := S.kind }
  refine ⟨_, hb _ _ cx, ?_⟩
  rcases h with ⟨bs, r, hp', args, R, t, po⟩ | ⟨bs, r, hp', c, args, x, us, dx, H1, R, nx, eH, ev, t, po⟩
  · have e : callK fns (k + 1) i none args hp' = fn.run (callK fns k) args hp' := by
      simp only [callK, hf]
    rw [e] at po
    unfold Fn.run at po
    split at po
    · refine ⟨hp'.length :: bs, r, ⟨startEnv fn args, hp', hp'.length⟩, ⟨R.enter, start_env t hs (hF _ _), fun b hb => ?_, List.mem_cons_self⟩, ?_⟩
      · exact (List.mem_cons.mp hb).elim (fun e => Nat.le_of_eq e) fun hb => R.bsl b hb
      · split at po
        · exact leaveKeep_ok po
        · exact leave_ok R.len R.bsl po
    · exact False.elim po
  · have e : callK fns (k + 1) i (some c) args hp' = fn.make (callK fns k) c args hp' := by
      simp only [callK, hf]
    rw [e] at po
    unfold Fn.make at po
    split at po
    · subst eH ev
      obtain ⟨R2, l2⟩ := R.enter.new (o := .ins (p.CA c) dx []) (c := .ins c [] []) nx fun H' e => ⟨dx, [], e, rfl, .nil⟩
      have t2 : RVs p ⟨r.ρ ++ [x], r.G⟩ (.ref hp'.length :: args) (.ref x :: us) := .cons (rv_ref (by
        show (r.ρ ++ [x])[hp'.length]? = some x
        rw [← R.len, List.getElem?_concat_length])) (t.mono l2)
      refine ⟨hp'.length :: bs, ⟨r.ρ ++ [x], r.G⟩, ⟨startEnv fn (.ref hp'.length :: args), hp' ++ [.ins c [] []], hp'.length⟩, ⟨R2, start_env t2 hs (hF _ _), fun b hb => ?_, List.mem_cons_self⟩, ?_⟩
      · exact (List.mem_cons.mp hb).elim (fun e => Nat.le_of_eq e) fun hb => R.bsl b hb
      · exact leaveMk_ok R.len R.bsl po
    · exact False.elim po
end
end Den
end

-- DenK
section
set_option maxHeartbeats 1000000
/-! Den: calls, instances. -/
namespace Den
open PySem PySem.Spec L2
def OutC.on (s : S) : OutC → Out D
  | .ok d hp => .ok d { s with hp := hp }
  | .exn c fs xs hp => .exn c fs xs { s with hp := hp }
  | .bad => .bad
def callE (C : Calls) (i : Nat) (dds : List D) (t : SemA) : SemE := fun s => (t s).bind fun xs s => (C i none (xs ++ dds) s.hp).on s
/-- C(..): a new instance of the class c, i its __init__ -/
def makeE (C : Calls) (i c : Nat) (dds : List D) (t : SemA) : SemE := fun s => (t s).bind fun xs s => (C i (some c) (xs ++ dds) s.hp).on s
section
variable {P : Program} {w : World} {p : Px} {mg : Str → Option Value} {base : Heap} {k : Nat} {N ps : List Str} {sc : Scope} {W : WX} {X : Cx} {C : Calls} {i : Nat} {f : Addr} {fd : FuncData} {ds : List Value} {dvs : List V} {dds : List D}
theorem poc_of {bs : List Nat} {r : Rp} {s : S} {σ : L2.St} {H : Hp} {Q : VK} {o : OutC} (R : Rel p bs r s σ H) (po : Po p bs r σ W (RV p) Q (o.on s)) : PoC p bs r Q (WE W σ) o := by
  cases o with
  | ok d hp => exact fun r' H' v l R' q => po r' H' v l ⟨R', R.env.mono l, R.bl, R.bk⟩ q
  | exn c fs xs hp => exact fun r' H' cd l R' q => po r' H' cd l ⟨R', R.env.mono l, R.bl, R.bk⟩ q
  | bad => exact po
theorem spF_call {bs : List Nat} {r : Rp} {s : S} {σ : L2.St} {H : Hp} {Q : VK} {xs : List D} {vs : List V} {n : Nat} (R : Rel p bs r s σ H) (q : RVs p r xs vs) (hl : vs.length = n) (po : Po p bs r σ W (RV p) Q ((C i none xs s.hp).on s)) : spF p C i n vs H Q (WE W σ) :=
  ⟨hl, .inl ⟨bs, r, s.hp, xs, R.hp, q, poc_of R po⟩⟩
/-- a call that goes has as many arguments as the def has parameters -/
def Arity (C : Calls) (i n : Nat) : Prop := (∀ xs hp, xs.length ≠ n → C i none xs hp = .bad) ∧ ∀ c xs hp, xs.length + 1 ≠ n → C i (some c) xs hp = .bad
theorem arity_callK {fns : List Fn} {fn : Fn} (h : fns[i]? = some fn) (k : Nat) : Arity (callK fns k) i fn.params := by
  cases k with
  | zero => exact ⟨fun _ _ _ => rfl, fun _ _ _ _ => rfl⟩
  | succ k =>
    refine ⟨fun xs hp hl => ?_, fun c xs hp hl => ?_⟩
    · simp only [callK, h, Fn.run, if_neg hl]
    · simp only [callK, h, Fn.make, if_neg hl]
theorem arity_len {n : Nat} {r : Rp} {bs : List Nat} {s : S} {σ : L2.St} {Q : VK} {xs : List D} {vs : List V} (a : Arity C i n) (q : RVs p r xs vs) (po : Po p bs r σ W (RV p) Q ((C i none xs s.hp).on s)) : vs.length = n := by
  rw [← q.length]
  by_cases h : xs.length = n
  · exact h
  · rw [a.1 xs s.hp h] at po
    exact False.elim po

section
variable {x : Str} {e : Expr} {es : List Expr} {ft : SemA} {q pos : Pos}
theorem run_callE {n : Nat} {pins : List (Addr × Obj)} {σ : L2.St} {H : Hp} {s : Shared} {Q : VK} {us : List Value} {vs : List V} {bs : List Nat} {r : Rp} {st : S} {xs : List D} (cx : Cxt P w p mg base k N sc W X) (F : FnOk P w p.K mg base (L2.CX P w) k f fd ps (spF p C i n)) (a : Arity C i n) (hb : Binds p.K fd ps ds) (hd : Vals dvs ds)
    (hD : ∀ r, RVs p r dds dvs) (I : L2.Inv X pins σ H s) (rv : Vals vs us) (R : Rel p bs r st σ H) (qs : RVs p r xs vs) (po : Po p bs r σ W (RV p) Q ((C i none (xs ++ dds) st.hp).on st)) :
    wpAny (model X.prog X.w) X.A (call (.ref f) us) (EP X pins σ Q) X.xe s := by
  obtain ⟨rfl, rfl, hK, rfl, rfl, _, _, _, _, hr, tk, _⟩ := cx
  rw [← hK] at F hb
  have q2 := qs.append (hD r)
  exact run_fnSD (E := WE W) F hr hb hd (passAt tk σ) I rv (spF_call R q2 (arity_len a q2 po) po)
theorem pe_callE {n : Nat} (cx : Cxt P w p mg base k N sc W X) (F : FnOk P w p.K mg base (L2.CX P w) k f fd ps (spF p C i n)) (a : Arity C i n) (hg : Gl X x) (hm : X.mg x = some (.ref f)) (hk : PySem.W.keepIn X.K (.ref f) = true) (hb : Binds p.K fd ps ds) (hd : Vals dvs ds)
    (hD : ∀ r, RVs p r dds dvs) (ha : PA X (e :: es) (tA p W ft)) (hdb : (x == ("__debug__" : Str)) = false) (he : starEach (e :: es) X.env = (false, eval e X.env) :: starEach es X.env) (hpl : (backTo pos (starEach es X.env)).any (·.1) = false) :
    PE X (.Call (.Name x q) (e :: es) [] pos) (tE p W (callE C i dds ft)) := by
  refine ⟨fun pins s σ H Q I ⟨bs, r, st, R, po⟩ => ?_⟩
  refine wpAny_Call_Name_kw (ld_glob I hg hm ?_ hdb)
  refine PySem.W.callWith_K (h₀ := X.base) I.ok.mod.kin hk (thn (ha.run pos pins s σ H _ I (Po.bind (rel := RVs p) R po)) fun us s1 ⟨vs, H1, I1, rv, r1, xs, st1, l1, R1, q1, po1⟩ => ⟨I1.kIn, ?_⟩) he hpl
  exact run_callE cx F a hb hd hD I1 rv R1 q1 (po1.mono (Rp.le.refl r1) fun _ _ z => z)
theorem pe_callE0 {n : Nat} (cx : Cxt P w p mg base k N sc W X) (F : FnOk P w p.K mg base (L2.CX P w) k f fd ps (spF p C i n)) (a : Arity C i n) (hg : Gl X x) (hm : X.mg x = some (.ref f)) (hk : PySem.W.keepIn X.K (.ref f) = true) (hb : Binds p.K fd ps ds) (hd : Vals dvs ds)
    (hD : ∀ r, RVs p r dds dvs) (hdb : (x == ("__debug__" : Str)) = false) : PE X (.Call (.Name x q) [] [] pos) (tE p W (callE C i dds nilA)) := by
  refine ⟨fun pins s σ H Q I ⟨bs, r, st, R, po⟩ => ?_⟩
  refine wpAny_Call_Name_kw (ld_glob I hg hm ?_ hdb)
  exact PySem.W.callWith_K0 I.kIn hk (run_callE (us := []) (vs := []) (xs := []) cx F a hb hd hD I .nil R .nil po)

/-! ### a new instance -/
theorem run_makeE {n c : Nat} {fI : Addr} {pins : List (Addr × Obj)} {σ : L2.St} {H : Hp} {s : Shared} {Q : VK} {us : List Value} {vs : List V} {bs : List Nat} {r : Rp} {st : S} {xs : List D} (cx : Cxt P w p mg base (k + 1) N sc W X) (M : Mk p.K (p.CA c) fI)
    (F : FnOk P w p.K mg base (L2.CX P w) k fI fd ps (spF p C i n)) (a : Arity C i n) (hn : ps.length = n) (hb : Binds p.K fd ps ds) (hd : Vals dvs ds) (hD : ∀ r, RVs p r dds dvs) (I : L2.Inv X pins σ H s) (rv : Vals vs us) (R : Rel p bs r st σ H) (qs : RVs p r xs vs)
    (po : Po p bs r σ W (RV p) Q ((C i (some c) (xs ++ dds) st.hp).on st)) : wpAny (model X.prog X.w) X.A (call (.ref (p.CA c)) us) (EP X pins σ Q) X.xe s := by
  obtain ⟨rfl, rfl, hK, rfl, rfl, _, _, _, _, hr, tk, _⟩ := cx
  rw [← hK] at F hb M
  have q2 := qs.append (hD r)
  have hlen : vs.length + dvs.length + 1 = n := by
    by_cases h : (xs ++ dds).length + 1 = n
    · rw [q2.length, List.length_append] at h
      exact h
    · rw [a.2 c _ st.hp h] at po
      exact False.elim po
  have hx1 : H (s.heap.objs.size + 1) = none := I.hok.fresh (Nat.le_succ _)
  have hx2 : H s.heap.objs.size = none := I.hok.fresh (Nat.le_refl _)
  have hq : spF p C i n (.ref (s.heap.objs.size + 1) :: (vs ++ dvs)) (upd (upd H s.heap.objs.size (.own (s.heap.objs.size + 1))) (s.heap.objs.size + 1) (.ins (p.CA c) s.heap.objs.size [])) (fun v H2 => v = .non ∧ Q (.ref (s.heap.objs.size + 1)) H2) (WE W σ) := by
    refine ⟨by rw [List.length_cons, List.length_append]; exact hlen, .inr ⟨bs, r, st.hp, c, xs ++ dds, s.heap.objs.size + 1, vs ++ dvs, s.heap.objs.size, upd H s.heap.objs.size (.own (s.heap.objs.size + 1)), R.hp.grow hx2, ?_, rfl, rfl, q2, ?_⟩⟩
    · rw [upd_ne (Nat.ne_of_gt (Nat.lt_succ_self _))]
      exact hx1
    · cases eo : C i (some c) (xs ++ dds) st.hp with
      | ok d hp => rw [eo] at po; exact fun r' H' l R' q' => ⟨rfl, po r' H' _ l ⟨R', R.env.mono l, R.bl, R.bk⟩ q'⟩
      | exn c' fs ys hp => rw [eo] at po; exact fun r' H' cd l R' q' => po r' H' cd l ⟨R', R.env.mono l, R.bl, R.bk⟩ q'
      | bad => rw [eo] at po; exact False.elim po
  have I2 := Inv.made (C := p.CA c) I
  have r2 : Vals (V.ref (s.heap.objs.size + 1) :: (vs ++ dvs)) (Value.ref (s.heap.objs.size + 1) :: (us ++ ds)) := .cons rfl (rv.append hd)
  have hl : (Value.ref (s.heap.objs.size + 1) :: us ++ ds).length = ps.length := by
    have e := r2.length
    rw [List.length_cons, List.length_append, hlen] at e
    rw [hn]
    exact e.symm
  have pa := passAt tk σ
  refine wpAny_call (make_map (f := fI) I.kIn M.makes M.init (beq_iff_eq.mp M.fn) (codeAny_mono (F.run _ X.stack _ _ ⟨Value.ref (s.heap.objs.size + 1) :: us, []⟩ (Value.ref (s.heap.objs.size + 1) :: (us ++ ds)) _ _ (WE W σ) (hr.make (p.CA c) us [])
    (I2.env0.make (p.CA c) us []) (hb _ (Value.ref (s.heap.objs.size + 1) :: us) I2.kIn hl) r2 hq) fun r s' hq' => ?_))
  cases r with
  | error e => exact pa pins _ _ e s' I2 hq'
  | ok fl =>
    cases fl with
    | ret u =>
      obtain ⟨v, H', I3, rv, ev, q3⟩ := I2.after hq'
      subst ev
      exact ⟨rv, ⟨V.ref (s.heap.objs.size + 1), H', I3, rfl, q3⟩⟩
    | next => exact False.elim hq'
    | brk => exact False.elim hq'
    | cont => exact False.elim hq'
theorem pe_makeE {n c : Nat} {fI : Addr} (cx : Cxt P w p mg base (k + 1) N sc W X) (M : Mk p.K (p.CA c) fI) (F : FnOk P w p.K mg base (L2.CX P w) k fI fd ps (spF p C i n)) (a : Arity C i n) (hn : ps.length = n) (hg : Gl X x) (hm : X.mg x = some (.ref (p.CA c)))
    (hb : Binds p.K fd ps ds) (hd : Vals dvs ds) (hD : ∀ r, RVs p r dds dvs) (ha : PA X (e :: es) (tA p W ft)) (hdb : (x == ("__debug__" : Str)) = false) (he : starEach (e :: es) X.env = (false, eval e X.env) :: starEach es X.env) (hpl : (backTo pos (starEach es X.env)).any (·.1) = false) :
    PE X (.Call (.Name x q) (e :: es) [] pos) (tE p W (makeE C i c dds ft)) := by
  have hK := cx.K
  refine ⟨fun pins s σ H Q I ⟨bs, r, st, R, po⟩ => ?_⟩
  refine wpAny_Call_Name_kw (ld_glob I hg hm ?_ hdb)
  refine PySem.W.callWith_K (h₀ := X.base) I.ok.mod.kin (by rw [hK]; exact M.kp) (thn (ha.run pos pins s σ H _ I (Po.bind (rel := RVs p) R po)) fun us s1 ⟨vs, H1, I1, rv, r1, xs, st1, l1, R1, q1, po1⟩ => ⟨I1.kIn, ?_⟩) he hpl
  exact run_makeE cx M F a hn hb hd hD I1 rv R1 q1 po1
end

/-! ### attributes -/
/-- the instance: its class, its fields -/
def insOf (d : D) (hp : List Cell) : Option (Nat × List Nat × List D) := match d with
  | .ins c fs xs => some (c, fs, xs)
  | .ref n => match hp[n]? with
    | some (.ins c fs xs) => some (c, fs, xs)
    | _ => none
  | _ => none
theorem insOf_ok {bs : List Nat} {r : Rp} {hp : List Cell} {H : Hp} (R : RH p bs r hp H) {d : D} {v : V} {c : Nat} {fs : List Nat} {xs : List D} (q : RV p r d v) (e : insOf d hp = some (c, fs, xs)) :
    ∃ a dx vfs, v = .ref a ∧ H a = some (.ins (p.CA c) dx vfs) ∧ vfs.map (·.1) = fs.map p.FN ∧ RVs p r xs (vfs.map (·.2)) := by
  cases d with
  | ins c' fs' xs' =>
    have e2 : c' = c ∧ fs' = fs ∧ xs' = xs := by simpa [insOf] using e
    obtain ⟨rfl, rfl, rfl⟩ := e2
    simp only [RV] at q
    obtain ⟨a, dx, vfs, ev, g, k, t⟩ := q
    exact ⟨a, dx, vfs, ev, R.sub _ _ g, k, t⟩
  | ref n =>
    unfold insOf at e
    simp only at e
    split at e
    · rename_i c' fs' xs' ec
      have e2 : c' = c ∧ fs' = fs ∧ xs' = xs := by simpa using e
      obtain ⟨rfl, rfl, rfl⟩ := e2
      obtain ⟨a, ev, ea, dx, vfs, eh, k, t⟩ := R.cellAt ec q
      exact ⟨a, dx, vfs, ev, eh, k, t⟩
    · cases e
  | _ => cases e
/-- the field j -/
def fldAt (j : Nat) : List Nat → List D → Option D
  | i :: fs, x :: xs => if i = j then some x else fldAt j fs xs
  | _, _ => none
/-- what is known of classes and field names: where no class of it has such a name; names apart -/
structure FldOk (p : Px) (noat : Nat → Nat → Bool) (nf : Nat) : Prop where
  no : ∀ c j, c < p.ncls → j < nf → noat c j = true → NoAttr p.K (p.CA c) (p.FN j)
  cls : ∀ c, c < p.ncls → Cls p.K (p.CA c)
  inj : ∀ i j, i < nf → j < nf → p.FN i = p.FN j → i = j
theorem fld_lookup {r : Rp} {nf : Nat} {noat : Nat → Nat → Bool} (k : FldOk p noat nf) {j : Nat} (hj : j < nf) : ∀ {fs : List Nat} {xs : List D} {vfs : List (Str × V)} {d : D}, fs.all (fun i => decide (i < nf)) = true → vfs.map (·.1) = fs.map p.FN → RVs p r xs (vfs.map (·.2)) → fldAt j fs xs = some d →
    ∃ v, vfs.lookup (p.FN j) = some v ∧ RV p r d v
  | [], xs, vfs, d, _, _, _, h => by cases xs <;> cases h
  | i :: fs, [], vfs, d, _, _, _, h => by cases h
  | i :: fs, x :: xs, vfs, d, ha, e, t, h => by
    rw [List.all_cons, Bool.and_eq_true] at ha
    have hi := of_decide_eq_true ha.1
    cases vfs with
    | nil => cases e
    | cons y vfs =>
      obtain ⟨g, v⟩ := y
      rw [List.map_cons, List.map_cons] at e
      have e1 : g = p.FN i := (List.cons.inj e).1
      have e2 := (List.cons.inj e).2
      obtain ⟨v', us, ev, q1, q2⟩ := t.cons_inv
      have ev1 : v = v' := (List.cons.inj (show v :: vfs.map (·.2) = v' :: us from ev)).1
      have ev2 : vfs.map (·.2) = us := (List.cons.inj (show v :: vfs.map (·.2) = v' :: us from ev)).2
      subst ev1 ev2 e1
      unfold fldAt at h
      rw [List.lookup_cons]
      split at h
      · rename_i hij
        subst hij
        have : x = d := by simpa using h
        subst this
        rw [beq_self_eq_true]
        exact ⟨v, rfl, q1⟩
      · rename_i hij
        have hne : (p.FN j == p.FN i) = false := beq_eq_false_iff_ne.mpr fun z => hij (k.inj i j hi hj z.symm)
        rw [hne]
        exact fld_lookup k hj ha.2 e2 q2 h
def fldE (p : Px) (noat : Nat → Nat → Bool) (nf j : Nat) (a : SemE) : SemE := fun s => (a s).bind fun d s => match insOf d s.hp with
  | some (c, fs, xs) => if (decide (c < p.ncls) && decide (j < nf) && noat c j && fs.all fun i => decide (i < nf)) = true then (match fldAt j fs xs with
    | some v => .ok v s
    | none => .bad) else .bad
  | none => .bad
theorem pe_fldE {noat : Nat → Nat → Bool} {nf j : Nat} {e : Expr} {fe : SemE} {x : Str} {pos : Pos} (hK : X.K = p.K) (kf : FldOk p noat nf) (hx : p.FN j = x) (he : PE X e (tE p W fe)) (hb : attributeBase e x X.env (eval e X.env) = eval e X.env) : PE X (.Attribute e x pos) (tE p W (fldE p noat nf j fe)) :=
  PE.by (pe_fld he hb) fun σ H Q ⟨bs, r, s, R, po⟩ => by
    refine tG.mono (Po.bind (rel := RV p) R po) fun v H1 ⟨r1, d, s1, l1, R1, q1, po1⟩ => ?_
    split at po1
    · rename_i c fs xs ei
      split at po1
      · rename_i hz
        simp only [Bool.and_eq_true] at hz
        obtain ⟨⟨⟨h1, h2⟩, h3⟩, h4⟩ := hz
        have hc := of_decide_eq_true h1
        have hj := of_decide_eq_true h2
        split at po1
        · rename_i y ey
          obtain ⟨a, dx, vfs, ev, eh, en, t⟩ := insOf_ok R1.hp q1 ei
          obtain ⟨u, hu, qu⟩ := fld_lookup kf hj h4 en t ey
          rw [hK, ← hx]
          exact ⟨a, p.CA c, dx, vfs, u, ev, eh, kf.cls c hc, kf.no c j hc hj h3, hu, po1 r1 H1 u (Rp.le.refl r1) R1 qu⟩
        · exact False.elim po1
      · exact False.elim po1
    · exact False.elim po1
/-- self.x = v: the field behind the others, or in its place -/
def fldPut (j : Nat) (v : D) : List Nat → List D → List Nat × List D
  | i :: fs, x :: xs => if i = j then (i :: fs, v :: xs) else let q := fldPut j v fs xs; (i :: q.1, x :: q.2)
  | _, _ => ([j], [v])
theorem fldPut_ok {r : Rp} {nf : Nat} {noat : Nat → Nat → Bool} (k : FldOk p noat nf) {j : Nat} (hj : j < nf) {y : D} {u : V} (qy : RV p r y u) : ∀ {fs : List Nat} {xs : List D} {vfs : List (Str × V)}, fs.all (fun i => decide (i < nf)) = true → vfs.map (·.1) = fs.map p.FN → RVs p r xs (vfs.map (·.2)) →
    (putF (p.FN j) u vfs).map (·.1) = (fldPut j y fs xs).1.map p.FN ∧ RVs p r (fldPut j y fs xs).2 ((putF (p.FN j) u vfs).map (·.2))
  | [], xs, vfs, _, e, t => by
    have ev : vfs = [] := by simpa using e
    subst ev
    cases xs with
    | nil => exact ⟨rfl, .cons qy .nil⟩
    | cons x xs => have := t.length; simp at this
  | i :: fs, [], vfs, _, e, t => by
    have h1 := congrArg List.length e
    have h2 := t.length
    simp at h1 h2
    omega
  | i :: fs, x :: xs, vfs, ha, e, t => by
    rw [List.all_cons, Bool.and_eq_true] at ha
    have hi := of_decide_eq_true ha.1
    cases vfs with
    | nil => cases e
    | cons z vfs =>
      obtain ⟨g, v⟩ := z
      rw [List.map_cons, List.map_cons] at e
      have e1 : g = p.FN i := (List.cons.inj e).1
      have e2 := (List.cons.inj e).2
      obtain ⟨v', us, ev, q1, q2⟩ := t.cons_inv
      have ev1 : v = v' := (List.cons.inj (show v :: vfs.map (·.2) = v' :: us from ev)).1
      have ev2 : vfs.map (·.2) = us := (List.cons.inj (show v :: vfs.map (·.2) = v' :: us from ev)).2
      subst ev1 ev2 e1
      unfold fldPut putF
      by_cases hij : i = j
      · subst hij
        rw [if_pos rfl, if_pos rfl]
        exact ⟨by rw [List.map_cons, List.map_cons, e2], .cons qy q2⟩
      · have hne : ¬ p.FN i = p.FN j := fun z => hij (k.inj i j hi hj z)
        rw [if_neg hij, if_neg hne]
        obtain ⟨h1, h2⟩ := fldPut_ok k hj qy ha.2 e2 q2
        exact ⟨by rw [List.map_cons, h1, List.map_cons], .cons q1 h2⟩
/-- o.f = v -/
def fldS (p : Px) (noat : Nat → Nat → Bool) (nf j : Nat) (o v : SemE) : SemS := fun s => (v s).bind fun y s => (o s).bind fun d s => match d with
  | .ref n => match s.hp[n]? with
    | some (.ins c fs xs) => if (decide (c < p.ncls) && decide (j < nf) && noat c j && (fs.all fun i => decide (i < nf)) && decide (fs.length < 900) && decide (s.base ≤ n)) = true then
        .ok .next { s with hp := s.hp.set n (.ins c (fldPut j y fs xs).1 (fldPut j y fs xs).2) } else .bad
    | _ => .bad
  | _ => .bad
theorem ps_fldS {noat : Nat → Nat → Bool} {nf j : Nat} {o e : Expr} {fo fe : SemE} {x : Str} {pos pos' : Pos} (hK : X.K = p.K) (kf : FldOk p noat nf) (hx : p.FN j = x) (ho : PE X o (tE p W fo)) (he : PE X e (tE p W fe))
    (hs : swapsWith e (some (.Attribute o x pos')) pos.line X.env = pure false) : PS X (.Assign [.Attribute o x pos'] e pos) (tS p W (fldS p noat nf j fo fe)) :=
  PS.by (ps_fld ho he hs) fun E σ H ⟨bs, r, s, R, po⟩ => by
    refine tG.mono (PoS.bind (rel := RV p) R po) fun u H1 ⟨r1, y, s1, l1, R1, q1, po1⟩ => ?_
    refine tG.mono (PoS.bind (rel := RV p) R1 po1) fun v H2 ⟨r2, d, s2, l2, R2, q2, po2⟩ => ?_
    cases d with
    | ref n =>
      dsimp only at po2
      split at po2
      · rename_i c fs xs ec
        split at po2
        · rename_i hz
          simp only [Bool.and_eq_true] at hz
          obtain ⟨⟨⟨⟨⟨h1, h2⟩, h3⟩, h4⟩, h5⟩, h6⟩ := hz
          have hc := of_decide_eq_true h1
          have hj := of_decide_eq_true h2
          have h5' := of_decide_eq_true h5
          have h6' := of_decide_eq_true h6
          obtain ⟨a, ev, ea, dx, vfs, eh, en, t⟩ := R2.hp.cellAt ec q2
          have hlen : vfs.length = fs.length := by have := congrArg List.length en; simpa using this
          rw [hK, ← hx]
          refine ⟨a, p.CA c, dx, vfs, ev, eh, kf.cls c hc, kf.no c j hc hj h3, by omega, ?_⟩
          obtain ⟨g1, g2⟩ := fldPut_ok kf hj (q1.mono l2) h4 en t
          have hn : n < s2.hp.length := (List.getElem?_eq_some_iff.mp ec).1
          refine po2 r2 σ _ (Rp.le.refl r2) ⟨R2.hp.put ea hn (fun H' e => ⟨dx, _, e, g1, g2⟩) fun b hb hnb => ?_, R2.env, R2.bl, R2.bk⟩
          have := R2.bl b hb
          omega
        · exact False.elim po2
      · exact False.elim po2
    | _ => exact False.elim po2
end
end Den
end

-- DenL
section
set_option maxHeartbeats 1000000
/-! Den: what the text must be like; methods, static methods, properties. -/
namespace Den
open PySem PySem.Spec L2

/-! ### the text's forms -/
def plainE : Expr → Bool
  | .Starred _ _ => false
  | _ => true
theorem starEach_plain {e : Expr} {es : List Expr} {env : Env} (h : plainE e = true) : starEach (e :: es) env = (false, eval e env) :: starEach es env := by
  cases e <;> first | rfl | cases h
theorem starEach_any {env : Env} : ∀ {es : List Expr}, es.all plainE = true → (starEach es env).any (·.1) = false
  | [], _ => rfl
  | e :: es, h => by
    rw [List.all_cons, Bool.and_eq_true] at h
    rw [starEach_plain h.1, List.any_cons, starEach_any h.2]
    rfl
theorem backTo_any {pos : Pos} : ∀ {ts : List (Bool × Sem Value)}, ts.any (·.1) = false → (backTo pos ts).any (·.1) = false := fun {ts} h => by
  unfold backTo
  first
    | (rw [List.any_map]; exact h)
    | (simpa using h)
    | exact h
theorem star_any {es : List Expr} {env : Env} {pos : Pos} (h : es.all plainE = true) : (backTo pos (starEach es env)).any (·.1) = false := backTo_any (starEach_any h)
/-- what stands ahead of a dot -/
def plainBase : Expr → Bool
  | .Call (.Name _ _) [] [] _ => false
  | _ => true
theorem plainBase_ok {e : Expr} {x : Str} {env : Env} (h : plainBase e = true) : attributeBase e x env (eval e env) = eval e env := by
  unfold attributeBase
  split
  · cases h
  · rfl
/-- no comprehension (they are stored by a way of their own) -/
def plainV : Expr → Bool
  | .ListComp _ _ _ _ => false
  | .SetComp _ _ _ _ => false
  | .DictComp _ _ _ _ _ => false
  | _ => true
theorem plainV_swaps {e : Expr} {t : Option Expr} {l : Nat} {env : Env} (h : plainV e = true) : swapsWith e t l env = pure false := by
  unfold swapsWith
  cases e <;> first | rfl | cases h
theorem swaps_other {e tg : Expr} {l : Nat} {env : Env} (h : ∀ t pos, tg ≠ .Name t pos) : swapsWith e (some tg) l env = pure false := by
  unfold swapsWith
  split
  · cases tg <;> first | rfl | exact absurd rfl (h _ _)
  · rfl
/-- what may stand as an index -/
def plainIx : Expr → Bool
  | .Slice _ _ _ _ => false
  | _ => true
theorem plainIx_ok {e : Expr} (h : plainIx e = true) : PlainIx e := by
  intro o i
  unfold subscripted
  cases e <;> first | rfl | cases h
def plainSet : Expr → Bool
  | .Set _ _ _ => false
  | _ => true
theorem plainSet_marks {op : CmpOp} {e : Expr} (h : plainSet e = true) : behindInMarks op e = false := by
  cases e <;> first | rfl | cases h
theorem plainSet_folded {e : Expr} (h : plainSet e = true) (env : Env) (x : Value) : foldedSetIterable e env x = pure x := by
  unfold foldedSetIterable
  cases e <;> first | rfl | cases h
theorem plainSet_last {op op' : CmpOp} {b c : Expr} (h2 : plainSet c = true) : lastMarks [op, op'] [b, c] = false := by
  show behindInMarks op' c = false
  exact plainSet_marks h2
/-- the tree of a method's call -/
theorem method_ht {o : Expr} {name : Str} {args : List Expr} {apos pos : Pos} {env : Env} (hb : plainBase o = true) (hs : args.all plainE = true) (hn : args.length < 29) (hl : (apos.endLine == pos.line) = true) :
    eval (.Call (.Attribute o name apos) args [] pos) env = (do
      let ov ← eval o env
      standAt apos.atName
      let (f, first) ← holding [ov] (getMethod ov name (do return (← importBound o env).getD true))
      callWith pos f first (backTo pos (starEach args env)) (backToKw pos (keywordEach [] env))) := by
  have hform : methodCallForm (args.length + ([] : List Keyword).length) (backTo pos (starEach args env)) (backToKw pos (keywordEach [] env)) = true := by
    unfold methodCallForm
    have h1 : (backTo pos (starEach args env)).all (fun x => !x.1) = true := by
      have := star_any (env := env) (pos := pos) hs
      rw [List.any_eq_false] at this
      rw [List.all_eq_true]
      intro x hx
      have := this x hx
      simpa using this
    rw [h1]
    have h2 : keywordEach [] env = [] := rfl
    rw [h2]
    have h3 : backToKw pos ([] : List (Option Str × Sem Value)) = [] := rfl
    rw [h3]
    simp
    omega
  have e1 : eval (.Call (.Attribute o name apos) args [] pos) env = (do
    let ov ← attributeBase o name env (eval o env)
    standAt apos.atName
    methodCall o name apos pos env ov (args.length + ([] : List Keyword).length) (backTo pos (starEach args env)) (backToKw pos (keywordEach [] env))) := by rfl
  rw [e1, plainBase_ok hb]
  unfold methodCall
  rw [hform]
  have h4 : methodCallPos true o env apos pos = pure pos := by
    unfold methodCallPos
    rw [hl]
    rfl
  rw [h4]
  rfl

/-! ### a def, by its number -/
structure FnIs (P : Program) (w : World) (p : Px) (mg : Str → Option Value) (base : Heap) (l : Nat) (C : Calls) (i : Nat) (f : Addr) (ps : List Str) (dds : List D) : Prop where
  ok : ∃ fd, FnOk P w p.K mg base (L2.CX P w) l f fd ps (spF p C i ps.length) ∧ ∀ j, j ≤ dds.length → ∃ ds dvs, Vals dvs ds ∧ Binds p.K fd ps ds ∧ ∀ r, RVs p r (dds.drop j) dvs
  ar : Arity C i ps.length
  kp : PySem.W.keepIn p.K (.ref f) = true
theorem FnIs.all {P : Program} {w : World} {p : Px} {mg : Str → Option Value} {base : Heap} {l : Nat} {C : Calls} {i : Nat} {f : Addr} {ps : List Str} {dds : List D} (F : FnIs P w p mg base l C i f ps dds) : ∃ fd, FnOk P w p.K mg base (L2.CX P w) l f fd ps (spF p C i ps.length) ∧ Binds p.K fd ps [] := by
  obtain ⟨fd, h1, h2⟩ := F.ok
  obtain ⟨ds, dvs, h3, h4, h5⟩ := h2 dds.length (Nat.le_refl _)
  have h6 := h5 ⟨[], fun _ => none⟩
  rw [List.drop_length] at h6
  have e := h6.nil_inv
  subst e
  cases h3
  exact ⟨fd, h1, h4⟩
section
variable {P : Program} {w : World} {p : Px} {mg : Str → Option Value} {base : Heap} {k : Nat} {N ps : List Str} {sc : Scope} {W : WX} {X : Cx} {C : Calls}
theorem Cxt.mono {l : Nat} (cx : Cxt P w p mg base k N sc W X) (h : l ≤ k) : Cxt P w p mg base l N sc W X := ⟨cx.prog, cx.w, cx.K, cx.mg, cx.base, cx.names, cx.nd, cx.sc, cx.calm, cx.room.mono h, cx.tk, cx.more⟩

/-! ### o.m(..) of an instance -/
/-- the classes' methods of one name, by number; the fields have other names -/
structure MthOk (P : Program) (w : World) (p : Px) (mg : Str → Option Value) (base : Heap) (l : Nat) (C : Calls) (m : Str) (tbl : Nat → Option Nat) (nf : Nat) : Prop where
  is : ∀ c i, tbl c = some i → c < p.ncls ∧ ∃ f ps dds, Meth p.K (p.CA c) m f ∧ FnIs P w p mg base l C i f ps dds
  fld : ∀ j, j < nf → p.FN j ≠ m
def mthE (C : Calls) (tbl : Nat → Option Nat) (nf : Nat) (o : SemE) (t : SemA) : SemE := fun s => (o s).bind fun d s => match insOf d s.hp with
  | some (c, fs, _) => match tbl c with
    | some i => if (fs.all fun i => decide (i < nf)) = true then (t s).bind fun xs s => (C i none (d :: xs) s.hp).on s else .bad
    | none => .bad
  | none => .bad
theorem no_field {nf : Nat} {m : Str} (h : ∀ j, j < nf → p.FN j ≠ m) : ∀ {fs : List Nat} {vfs : List (Str × V)}, fs.all (fun i => decide (i < nf)) = true → vfs.map (·.1) = fs.map p.FN → vfs.lookup m = none
  | [], vfs, _, e => by
    have : vfs = [] := by simpa using e
    rw [this] <;> rfl
  | i :: fs, vfs, ha, e => by
    rw [List.all_cons, Bool.and_eq_true] at ha
    cases vfs with
    | nil => rfl
    | cons y vfs =>
      obtain ⟨g, v⟩ := y
      rw [List.map_cons, List.map_cons] at e
      have e1 : g = p.FN i := (List.cons.inj e).1
      have e2 := (List.cons.inj e).2
      rw [List.lookup_cons, show (m == g) = false from beq_eq_false_iff_ne.mpr fun z => h i (of_decide_eq_true ha.1) (by rw [← e1, z])]
      exact no_field h ha.2 e2
section
variable {o e : Expr} {es : List Expr} {fo : SemE} {ft : SemA} {m : Str} {apos pos : Pos} {tbl : Nat → Option Nat} {nf : Nat}
theorem pe_mthE (cx : Cxt P w p mg base k N sc W X) (M : MthOk P w p mg base k C m tbl nf) (cls : ∀ c, c < p.ncls → Cls p.K (p.CA c)) (ho : PE X o (tE p W fo)) (ha : PA X (e :: es) (tA p W ft)) (hb : plainBase o = true) (hs : (e :: es).all plainE = true) (hn : (e :: es).length < 29)
    (hl : (apos.endLine == pos.line) = true) : PE X (.Call (.Attribute o m apos) (e :: es) [] pos) (tE p W (mthE C tbl nf fo ft)) := by
  refine ⟨fun pins s σ H Q I ⟨bs, r, st, R, po⟩ => ?_⟩
  have hK := cx.K
  refine PySem.W.methodCall_KW (thn (ho.run pins s σ H _ I (Po.bind (rel := RV p) R po)) fun u s1 ⟨v, H1, I1, rv, r1, d, st1, l1, R1, q1, po1⟩ => ?_) (method_ht hb hs hn hl)
  try dsimp only at po1
  split at po1
  · rename_i c fs xs ei
    split at po1
    · rename_i i et
      split at po1
      · rename_i hf
        obtain ⟨hc, f, ps, dds, Mt, F⟩ := M.is c i et
        obtain ⟨a, dx, vfs, ev, eh, en, t⟩ := insOf_ok R1.hp q1 ei
        obtain ⟨fd, G, B⟩ := F.all
        subst ev
        obtain rfl : u = Value.ref a := rv
        refine getmeth_ok I1 eh (by rw [hK]; exact cls c hc) (by rw [hK]; exact Mt) (no_field M.fld hf en) ?_
        have hes : es.all plainE = true := by
          rw [List.all_cons, Bool.and_eq_true] at hs
          exact hs.2
        have he1 : plainE e = true := by
          rw [List.all_cons, Bool.and_eq_true] at hs
          exact hs.1
        refine PySem.W.callWith_K (first := [.ref a]) (h₀ := X.base) I.ok.mod.kin (by rw [hK]; exact Mt.kp) (thn (ha.run pos pins s1 σ H1 _ I1 (Po.bind (rel := RVs p) R1 po1)) fun us s2 ⟨vs, H2, I2, rvs, r2, ys, st2, l2, R2, q2, po2⟩ => ⟨I2.kIn, ?_⟩) (starEach_plain he1) (star_any hes)
        exact run_callE (us := .ref a :: us) (vs := .ref a :: vs) (xs := d :: ys) (dds := []) cx G F.ar B .nil (fun _ => .nil) I2 (.cons rfl rvs) R2 (.cons (q1.mono l2) q2) (by rw [List.append_nil]; exact po2.mono (Rp.le.refl r2) fun _ _ z => z)
      · exact False.elim po1
    · exact False.elim po1
  · exact False.elim po1
theorem pe_mthE0 (cx : Cxt P w p mg base k N sc W X) (M : MthOk P w p mg base k C m tbl nf) (cls : ∀ c, c < p.ncls → Cls p.K (p.CA c)) (ho : PE X o (tE p W fo)) (hb : plainBase o = true)
    (hl : (apos.endLine == pos.line) = true) : PE X (.Call (.Attribute o m apos) [] [] pos) (tE p W (mthE C tbl nf fo nilA)) := by
  refine ⟨fun pins s σ H Q I ⟨bs, r, st, R, po⟩ => ?_⟩
  have hK := cx.K
  refine PySem.W.methodCall_KW (thn (ho.run pins s σ H _ I (Po.bind (rel := RV p) R po)) fun u s1 ⟨v, H1, I1, rv, r1, d, st1, l1, R1, q1, po1⟩ => ?_) (method_ht hb rfl (by decide) hl)
  try dsimp only at po1
  split at po1
  · rename_i c fs xs ei
    split at po1
    · rename_i i et
      split at po1
      · rename_i hf
        obtain ⟨hc, f, ps, dds, Mt, F⟩ := M.is c i et
        obtain ⟨a, dx, vfs, ev, eh, en, t⟩ := insOf_ok R1.hp q1 ei
        obtain ⟨fd, G, B⟩ := F.all
        subst ev
        obtain rfl : u = Value.ref a := rv
        refine getmeth_ok I1 eh (by rw [hK]; exact cls c hc) (by rw [hK]; exact Mt) (no_field M.fld hf en) ?_
        refine PySem.W.callWith_K0 (first := [.ref a]) I1.kIn (by rw [hK]; exact Mt.kp) ?_
        exact run_callE (us := [.ref a]) (vs := [.ref a]) (xs := [d]) (dds := []) cx G F.ar B .nil (fun _ => .nil) I1 (.cons rfl .nil) R1 (.cons q1 .nil) po1
      · exact False.elim po1
    · exact False.elim po1
  · exact False.elim po1

/-! ### o.x, a property -/
structure PrpOk (P : Program) (w : World) (p : Px) (mg : Str → Option Value) (base : Heap) (l : Nat) (C : Calls) (x : Str) (tbl : Nat → Option Nat) : Prop where
  is : ∀ c i, tbl c = some i → c < p.ncls ∧ ∃ g f ps dds, PropOf p.K (p.CA c) x g f ∧ FnIs P w p mg base l C i f ps dds
def prpE (C : Calls) (tbl : Nat → Option Nat) (o : SemE) : SemE := fun s => (o s).bind fun d s => match insOf d s.hp with
  | some (c, _, _) => match tbl c with
    | some i => match C i none [d] s.hp with
      | .ok v hp => .ok v { s with hp := hp }
      | _ => .bad
    | none => .bad
  | none => .bad
theorem pe_prpE (cx : Cxt P w p mg base (k + 1) N sc W X) (M : PrpOk P w p mg base k C m tbl) (cls : ∀ c, c < p.ncls → Cls p.K (p.CA c)) (ho : PE X o (tE p W fo)) (hb : plainBase o = true) : PE X (.Attribute o m pos) (tE p W (prpE C tbl fo)) := by
  refine ⟨fun pins s σ H Q I ⟨bs, r, st, R, po⟩ => ?_⟩
  have hK := cx.K
  refine attr_of (plainBase_ok hb) (thn (ho.run pins s σ H _ I (Po.bind (rel := RV p) R po)) fun u s1 ⟨v, H1, I1, rv, r1, d, st1, l1, R1, q1, po1⟩ => ?_)
  try dsimp only at po1
  split at po1
  · rename_i c fs xs ei
    split at po1
    · rename_i i et
      split at po1
      · rename_i d' hp' ec
        obtain ⟨hc, g, f, ps, dds, Mt, F⟩ := M.is c i et
        obtain ⟨a, dx, vfs, ev, eh, en, t⟩ := insOf_ok R1.hp q1 ei
        obtain ⟨fd, G, B⟩ := F.all
        subst ev
        obtain rfl : u = Value.ref a := rv
        have hl : ([V.ref a] : List V).length = ps.length := by
          by_cases h : ([d] : List D).length = ps.length
          · exact h
          · rw [F.ar.1 [d] _ h] at ec
            cases ec
        have hr := cx.room
        obtain ⟨rfl, rfl, _, rfl, rfl, _⟩ := cx
        rw [← hK] at G B
        refine getprop_ok (E := E0) I1 eh (by rw [hK]; exact cls c hc) (by rw [hK]; exact Mt) G hr B .nil passL ?_
        refine ⟨hl, .inl ⟨bs, r1, st1.hp, [d], R1.hp, .cons q1 .nil, ?_⟩⟩
        rw [ec]
        exact fun r' H' v l R' q => po1 r' H' v l ⟨R', R1.env.mono l, R1.bl, R1.bk⟩ q
      · exact False.elim po1
    · exact False.elim po1
  · exact False.elim po1

/-! ### C.m(..), m a static method of the class C -/
structure SMet (K : PySem.W.Frag) (A : Addr) (m : Str) (f : Addr) : Prop where
  rd : PySem.W.readsIn K A (.type "type") = true
  ga : PySem.W.specialIn K (.ref A) "__getattribute__" = some (some (.builtin "type.__getattribute__"))
  at_ : ∃ g, PySem.W.findCls K (.ref A) (.type "type") m = some (.get (.builtin "staticmethod.__get__") (.ref g) .none (.ref A)) ∧ ∃ rest, PySem.W.recIn K g "staticmethod" = some (.ref f :: rest)
theorem get_static {pins : List (Addr × Obj)} {σ : L2.St} {H : Hp} {s : Shared} {A f : Addr} {pl : Sem Bool} {Ar : Around} {E : Value → Shared → Prop} {Q : Value × List Value → Shared → Prop} (I : L2.Inv X pins σ H s) (S : SMet X.K A m f)
    (h : ∀ s', L2.Inv X pins σ H s' → Q (.ref f, []) s') : wpAny (model X.prog X.w) Ar (getMethod (.ref A) m pl) Q E s := by
  obtain ⟨g, h1, rest, h2⟩ := S.at_
  refine PySem.W.method_cls I.kIn S.ga (PySem.W.cls_bind I.kIn S.rd h1 ?_)
  refine wpAny_call (PySem.W.sm_get (s := { s with toks := s.toks + 1 }) I.kIn h2 (PySem.W.handed_on rfl ?_))
  exact h _ (I.tok _)
/-- the class's own word is asked first; it is no value of Den -/
def smE (C : Calls) (i : Nat) (t : SemA) : SemE := fun s => (t s).bind fun xs s => (C i none xs s.hp).on s
theorem pe_smE {x : Str} {c i : Nat} {f : Addr} {dds : List D} {npos : Pos} (cx : Cxt P w p mg base k N sc W X) (F : FnIs P w p mg base k C i f ps dds) (S : SMet p.K (p.CA c) m f) (hg : Gl X x) (hm : X.mg x = some (.ref (p.CA c))) (hdb : (x == ("__debug__" : Str)) = false) (ha : PA X (e :: es) (tA p W ft))
    (hs : (e :: es).all plainE = true) (hn : (e :: es).length < 29) (hl : (apos.endLine == pos.line) = true) : PE X (.Call (.Attribute (.Name x npos) m apos) (e :: es) [] pos) (tE p W (smE C i ft)) := by
  refine ⟨fun pins s σ H Q I ⟨bs, r, st, R, po⟩ => ?_⟩
  have hK := cx.K
  obtain ⟨fd, G, B⟩ := F.all
  have he1 : plainE e = true := by
    rw [List.all_cons, Bool.and_eq_true] at hs
    exact hs.1
  have hes : es.all plainE = true := by
    rw [List.all_cons, Bool.and_eq_true] at hs
    exact hs.2
  refine PySem.W.methodCall_KW (ld_glob I hg hm ?_ hdb) (method_ht rfl hs hn hl)
  refine get_static I (by rw [hK]; exact S) fun s1 I1 => ?_
  refine PySem.W.callWith_K (first := []) (h₀ := X.base) I.ok.mod.kin (by rw [hK]; exact F.kp) (thn (ha.run pos pins s1 σ H _ I1 (Po.bind (rel := RVs p) R po)) fun us s2 ⟨vs, H2, I2, rvs, r2, ys, st2, l2, R2, q2, po2⟩ => ⟨I2.kIn, ?_⟩) (starEach_plain he1) (star_any hes)
  exact run_callE (us := us) (vs := vs) (xs := ys) (dds := []) cx G F.ar B .nil (fun _ => .nil) I2 rvs R2 q2 (by rw [List.append_nil]; exact po2.mono (Rp.le.refl r2) fun _ _ z => z)
end
end
end Den
end

-- DenM
section
set_option maxHeartbeats 1000000
/-! Den: exceptions: raising them, catching them. -/
namespace Den
open PySem PySem.Spec L2 PyProof.Rows
section
variable {P : Program} {w : World} {p : Px} {mg : Str → Option Value} {base : Heap} {k l : Nat} {N ps : List Str} {sc : Scope} {W : WX} {X : Cx}

/-! ### the __init__ of an exception's class -/
/-- it stores its arguments under the names ns -/
def spX (K : PySem.W.Frag) (ns : List Str) : Sp := fun vs H Q _ => ∃ (a C : Addr) (ys : List V), vs = .ref a :: ys ∧ ys.length = ns.length ∧ H a = some (exo a C none) ∧ OexC K C ∧ (∀ f ∈ ns, PySem.W.findIn K (.ref C) f = some none) ∧
  ∀ d, H d = none → Q .non (upd (upd H d (exd d (ns.zip ys).reverse)) a (exo a C (some d)))
theorem spX_len {K : PySem.W.Frag} {ns : List Str} {vs : List V} {H : Hp} {Q : VK} {E : XK} (h : spX K ns vs H Q E) : vs.length = ns.length + 1 := by
  obtain ⟨a, C, ys, e, hl, _⟩ := h
  rw [e, List.length_cons, hl]
section
variable {name qual x0 x1 x2 f1 f2 : Str} {params : Arguments} {dvs : List V} {kws : List (Str × V)} {f : Addr} {fd : FuncData} {p1 p2 p3 p4 q1 q2 q3 q4 : Pos}
theorem dbg_ne {x : Str} (h : (x == ("__debug__" : Str)) = false ∧ (x == ("__classdict__" : Str)) = false) : (x == ("__debug__" : Str)) = false := h.1
theorem init1_ok {K : PySem.W.Frag} (F : FunD K name qual params [.Assign [.Attribute (.Name x0 p1) f1 p2] (.Name x1 p3) p4] sc dvs kws f fd) (S : FnScope [x0, x1] [x0, x1] sc) (v0 : Vis sc x0) (v1 : Vis sc x1)
    (d0 : (x0 == ("__debug__" : Str)) = false ∧ (x0 == ("__classdict__" : Str)) = false) (d1 : (x1 == ("__debug__" : Str)) = false ∧ (x1 == ("__classdict__" : Str)) = false) :
    FnOk P w K mg base (L2.CX P w) (l + 1) f fd [x0, x1] (spX K [f1]) := by
  refine F.ok S (fun vs H Q E h => (spX_len h).trans rfl) fun cdv A outer s H vs Q E hr ⟨a, C, ys, ev, hl, ea, T, hno, q⟩ => ?_
  refine ⟨_, pss_cons (ps_ost (pe_var (i := 0) (x := x0) rfl v0 d0.1 d0.2) (pe_var (i := 1) (x := x1) rfl v1 d1.1 d1.2)) pss_nil, ?_⟩
  match ys, hl with
  | [y], _ =>
    subst ev
    refine ⟨y, rfl, .ref a, rfl, a, C, rfl, T, hno f1 (by simp), .inl ⟨ea, fun d hd hne => q d hd⟩⟩
theorem init2_ok {K : PySem.W.Frag} (F : FunD K name qual params [.Assign [.Attribute (.Name x0 p1) f1 p2] (.Name x1 p3) p4, .Assign [.Attribute (.Name x0 q1) f2 q2] (.Name x2 q3) q4] sc dvs kws f fd) (S : FnScope [x0, x1, x2] [x0, x1, x2] sc)
    (v0 : Vis sc x0) (v1 : Vis sc x1) (v2 : Vis sc x2)
    (d0 : (x0 == ("__debug__" : Str)) = false ∧ (x0 == ("__classdict__" : Str)) = false) (d1 : (x1 == ("__debug__" : Str)) = false ∧ (x1 == ("__classdict__" : Str)) = false) (d2 : (x2 == ("__debug__" : Str)) = false ∧ (x2 == ("__classdict__" : Str)) = false) :
    FnOk P w K mg base (L2.CX P w) (l + 1) f fd [x0, x1, x2] (spX K [f1, f2]) := by
  refine F.ok S (fun vs H Q E h => (spX_len h).trans rfl) fun cdv A outer s H vs Q E hr ⟨a, C, ys, ev, hl, ea, T, hno, q⟩ => ?_
  refine ⟨_, pss_cons (ps_ost (pe_var (i := 0) (x := x0) rfl v0 d0.1 d0.2) (pe_var (i := 1) (x := x1) rfl v1 d1.1 d1.2)) (pss_cons (ps_ost (pe_var (i := 0) (x := x0) rfl v0 d0.1 d0.2) (pe_var (i := 2) (x := x2) rfl v2 d2.1 d2.2)) pss_nil), ?_⟩
  match ys, hl with
  | [y, z], _ =>
    subst ev
    refine ⟨y, rfl, .ref a, rfl, a, C, rfl, T, hno f1 (by simp), .inl ⟨ea, fun d hd hne => ?_⟩⟩
    refine ⟨z, rfl, .ref a, rfl, a, C, rfl, T, hno f2 (by simp), .inr ⟨d, [(f1, y)], upd_same, by rw [upd_ne hne, upd_same], by simp, ?_⟩⟩
    have e : upd (upd (upd H d (exd d [(f1, y)])) a (exo a C (some d))) d (exd d ((f2, z) :: [(f1, y)])) = upd (upd H d (exd d ([f1, f2].zip [y, z]).reverse)) a (exo a C (some d)) := by
      funext b
      by_cases h1 : b = d
      · subst h1
        rw [upd_same, upd_ne hne, upd_same]
        rfl
      · by_cases h2 : b = a
        · subst h2
          rw [upd_ne h1, upd_same, upd_same]
        · rw [upd_ne h1, upd_ne h2, upd_ne h1, upd_ne h2, upd_ne h1]
    show Q .non _
    rw [e]
    exact q d hd
end

/-! ### raise -/
/-- raise C(..), C's own __init__ storing the arguments in the fields fs -/
def raiseS (c : Nat) (fs : List Nat) (t : SemA) : SemS := fun s => (t s).bind fun xs s => if xs.length = fs.length then .exn c fs.reverse xs.reverse s else .bad
/-- raise C() of a class without __init__ -/
def raise0S (c : Nat) : SemS := fun s => .exn c [] [] s
theorem RVs.rev {r : Rp} {xs : List D} {vs : List V} (h : RVs p r xs vs) : RVs p r xs.reverse vs.reverse := h.reverse
theorem passes_none (cx : Cxt P w p mg base k N sc W X) : Passes (L2.CX P w) X (fun _ _ _ => False) := fun pins σ H s e s' I c => by
  obtain ⟨rfl, rfl, _⟩ := cx
  exact passAt (X := X) (W := fun _ _ _ _ => False) takes_none5 σ pins H s e s' I c
section
variable {c : Nat} {fs : List Nat} {fI : Addr} {fd : FuncData} {x : Str} {e : Expr} {es : List Expr} {ft : SemA} {q pos pos' : Pos}
theorem ps_raiseS (cx : Cxt P w p mg base (k + 1) N sc W X) (T : OexC p.K (p.CA c)) (iC : PySem.W.findIn p.K (.ref (p.CA c)) "__init__" = some (some (.ref fI))) (tI : PySem.W.typeIn p.K (.ref fI) = some (.type "function"))
    (F1 : FnOk P w p.K mg base (L2.CX P w) k fI fd ps (spX p.K (fs.map p.FN))) (hb : Binds p.K fd ps []) (hno : ∀ j ∈ fs, PySem.W.findIn p.K (.ref (p.CA c)) (p.FN j) = some none) (hfs : fs.length ≤ 900) (hg : Gl X x) (hm : X.mg x = some (.ref (p.CA c)))
    (hdb : (x == ("__debug__" : Str)) = false) (ha : PA X (e :: es) (tA p W ft)) (he : starEach (e :: es) X.env = (false, eval e X.env) :: starEach es X.env) (hpl : (backTo pos (starEach es X.env)).any (·.1) = false) :
    PS X (.Raise (some (.Call (.Name x q) (e :: es) [] pos)) none pos') (tS p W (raiseS c fs ft)) := by
  have pn := passes_none cx
  obtain ⟨rfl, rfl, hK, rfl, rfl, _, _, _, hcalm, hr, tk, _⟩ := cx
  rw [← hK] at T iC tI F1 hb
  refine PS.by (ps_raise hcalm tk (pmk_oex (dvs := []) T iC tI F1 hr hb .nil pn hg hm ha hdb he hpl)) fun E σ H ⟨bs, r, s, R, po⟩ => ?_
  refine tG.mono (PoS.bind (rel := RVs p) R po) fun vs H1 ⟨r1, xs, st1, l1, R1, q1, po1⟩ => ?_
  split at po1
  · rename_i hl
    have hv : vs.length = fs.length := by rw [← q1.length]; exact hl
    refine ⟨by omega, fun a na => ?_⟩
    rw [List.append_nil]
    refine ⟨a, p.CA c, vs, rfl, by rw [List.length_map]; exact hv, upd_same, T, fun f hf => ?_, fun d hd => ?_⟩
    · obtain ⟨j, hj, rfl⟩ := List.mem_map.mp hf
      rw [hK]
      exact hno j hj
    · have hda : d ≠ a := fun z => by rw [z, upd_same] at hd; cases hd
      have hd1 : H1 d = none := by rw [upd_ne hda] at hd; exact hd
      refine ⟨rfl, d, ((fs.map p.FN).zip vs).reverse, upd_same, by rw [upd_ne hda, upd_same], hd1, ?_⟩
      have eH : upd (del (upd (upd (upd H1 a (exo a (p.CA c) none)) d (exd d ((fs.map p.FN).zip vs).reverse)) a (exo a (p.CA c) (some d))) a) d (.xd ((fs.map p.FN).zip vs).reverse) = upd H1 d (.xd ((fs.map p.FN).zip vs).reverse) := by
        funext b
        by_cases h1 : b = d
        · rw [h1, upd_same, upd_same]
        · rw [upd_ne h1, upd_ne h1]
          by_cases h2 : b = a
          · rw [h2, del_same, na]
          · rw [del_ne h2, upd_ne h2, upd_ne h1, upd_ne h2]
      rw [eH]
      refine po1 r1 σ _ (some d) (Rp.le.refl r1) ⟨R1.hp.grow hd1, R1.env, R1.bl, R1.bk⟩ (.inr ⟨d, _, rfl, upd_same, ?_, ?_⟩)
      · rw [List.map_reverse, List.map_fst_zip (by rw [List.length_map]; omega), ← List.map_reverse]
      · rw [List.map_reverse, List.map_snd_zip (by rw [List.length_map]; omega)]
        exact q1.rev
  · exact False.elim po1
theorem pmk_bare {bmB : List Value} {B newId initId : String} {C : Addr} (F : ExcBaseFacts B newId initId bmB) (hq : PySem.W.excIn X.K C bmB newId = true) (hm : X.mg x = some (.ref C)) (hk : PySem.W.keepIn X.K (.ref C) = true) (hr : Raises X (.ref C)) (hg : Gl X x)
    (hdb : (x == ("__debug__" : Str)) = false) : PMk X (.Call (.Name x q) [] [] pos) (fun _ H Q => Q (.ref C) none H) := fun pins s σ H Q I h => by
  refine wpAny_Call_Name_kw (ld_glob I hg hm ?_ hdb)
  refine PySem.W.callWith_K0 I.kIn hk ?_
  obtain ⟨m1, m2, m3, m4, m5, m6, m7, m8, m9, m10, m11, m12, m13, m14, m15, m16, m17, c1, c2, c3, c4⟩ := exc_obj I.kIn hq
  exact wpAny_call_exc_subT F c4 c1 c2 c3 (fun hp' a made => mk_of I made hr h (I.hok.gone made.new)) (Nat.zero_le _)
theorem ps_raise0S {bmB : List Value} {B newId initId : String} (cx : Cxt P w p mg base k N sc W X) (F : ExcBaseFacts B newId initId bmB) (hq : PySem.W.excIn p.K (p.CA c) bmB newId = true) (hk : PySem.W.keepIn p.K (.ref (p.CA c)) = true)
    (h1 : PySem.W.subIn p.K (.ref (p.CA c)) (.type "BaseException") = some true) (h2 : PySem.W.typeIn p.K (.ref (p.CA c)) = some (.type "type")) (hg : Gl X x) (hm : X.mg x = some (.ref (p.CA c))) (hdb : (x == ("__debug__" : Str)) = false) :
    PS X (.Raise (some (.Call (.Name x q) [] [] pos)) none pos') (tS p W (raise0S c)) := by
  have hK := cx.K
  refine PS.by (ps_raise cx.calm cx.tk (pmk_bare F (by rw [hK]; exact hq) hm (by rw [hK]; exact hk) (raises_own (by rw [hK]; exact h1) (by rw [hK]; exact h2)) hg hdb)) fun E σ H ⟨bs, r, s, R, po⟩ => ?_
  exact po r σ H none (Rp.le.refl r) R (.inl ⟨rfl, rfl, rfl⟩)
end
end
end Den
end

-- DenN
section
set_option maxHeartbeats 1000000
/-! Den: a try with its clauses, each with or without a name for the error. -/
namespace Den
open PySem PySem.Spec L2 PyProof.Rows
/-- a clause: the class that it names; the slot of its name; what its suite does with an error at an address, of a class, with a dict -/
abbrev Cla := Value × Option Nat × (Addr → Value → Option Addr → TS)
def offE (o : Option Nat) (D : Ends) : Ends := match o with
  | none => D
  | some i => ⟨fun σ H => D.nx (σ.set i none) H, D.rt, fun σ H => D.bk (σ.set i none) H, fun σ H => D.ct (σ.set i none) H⟩
def onE (o : Option Nat) (a : Addr) (σ : L2.St) : L2.St := match o with
  | none => σ
  | some i => σ.set i (some (.ref a))
def wCla (K : PySem.W.Frag) (Wo : WX) (D : Ends) : List Cla → WX
  | [] => Wo
  | c :: r => fun cls d σ H => ∃ b, PySem.W.exmOne K cls c.1 = some b ∧ (b = false → wCla K Wo D r cls d σ H) ∧ (b = true → ∀ a, H a = none → c.2.2 a cls d (offE c.2.1 D) (onE c.2.1 a σ) H)
/-- what a suite is read as -/
def SuiteR (X : Cx) (st : List Stmt) (ts : Addr → Value → Option Addr → TS) : Prop := ∀ (a : Addr) (oe : Obj) (cls : Value) (d : Option Addr) (pn : List (Addr × Obj)), Zc cls d oe → (∃ vs, oe.data = .fields vs) → PSs (X.suite a ((a, oe) :: pn)) st (ts a cls d)
inductive Clas (X : Cx) : List ExceptHandler → List Cla → Prop
  | none : Clas X [] []
  | bare {x : Str} {c : Value} {ts : Addr → Value → Option Addr → TS} {st : Stmt} {more : List Stmt} {q q' : Pos} {hs : List ExceptHandler} {l : List Cla} : Names X x c → SuiteR X (st :: more) ts → Clas X hs l →
      Clas X (.ExceptHandler (some (.Name x q)) .none (st :: more) q' :: hs) ((c, .none, ts) :: l)
  | named {x n : Str} {i : Nat} {c : Value} {ts : Addr → Value → Option Addr → TS} {st : Stmt} {more : List Stmt} {q q' : Pos} {hs : List ExceptHandler} {l : List Cla} : X.N[i]? = some n → X.env.kindOf n = some .local → Names X x c → SuiteR X (st :: more) ts →
      Clas X hs l → Clas X (.ExceptHandler (some (.Name x q)) (some n) (st :: more) q' :: hs) ((c, some i, ts) :: l)

/-- the error at a has come down in s; w0 is how things stood without it -/
structure Fell (X : Cx) (pins : List (Addr × Obj)) (σ : L2.St) (H : Hp) (w0 s : Shared) (B : Heap) (a : Addr) (cls : Value) (d : Option Addr) : Prop where
  inv : L2.Inv X pins σ H w0
  nb : ∀ b o, w0.heap.get? b = some o → b ∉ frs X.stack → B.get? b = some o
  up : w0.heap.UpToSlots s.heap
  os : s.os = w0.os
  ag : AllBare s.gens
  na : H a = none
  fl : HandSPX.FlyingZ B (X.env :: X.outer) a (Zc cls d) s.heap
section
variable {X : Cx} {pins : List (Addr × Obj)} {σ : L2.St} {H : Hp} {w0 s : Shared} {B : Heap} {a : Addr} {cls : Value} {d : Option Addr} {Wo : WX}
theorem Fell.here (f : Fell X pins σ H w0 s B a cls d) : L2.Inv X pins σ H s := f.inv.landed f.nb f.fl.1 f.up f.os f.ag
theorem Fell.move (f : Fell X pins σ H w0 s B a cls d) {h : Heap} (fl : HandSPX.FlyingZ B (X.env :: X.outer) a (Zc cls d) h) (up : s.heap.UpToSlots h) : Fell X pins σ H w0 { s with heap := h } B a cls d := ⟨f.inv, f.nb, f.up.trans up, f.os, f.ag, f.na, fl⟩
theorem Fell.away (f : Fell X pins σ H w0 s B a cls d) : a ∉ frs (X.env :: X.outer) := fun hm => by
  obtain ⟨oe, vs, h1, _, h2⟩ := f.fl.there
  obtain ⟨_, o, ho, hno⟩ := f.fl.2.2.1.mem hm
  rw [h1] at ho
  exact hno vs (Option.some.inj ho ▸ h2)
theorem Fell.hold (f : Fell X pins σ H w0 s B a cls d) (hf : X.env.frame = some X.env.locals) : ∃ oe vs, s.heap.get? a = some oe ∧ Zc cls d oe ∧ oe.data = .fields vs ∧ L2.Inv (X.suite a ((a, oe) :: (X.pn ++ pins))) [] σ H s := by
  obtain ⟨oe, vs, h1, h2, h3⟩ := f.fl.there
  refine ⟨oe, vs, h1, h2, h3, f.here.suite h1 h3 f.na (fun z => f.away ?_) fun hm => f.away ?_⟩
  · rw [z]
    exact List.mem_filterMap.mpr ⟨X.env, List.mem_cons_self, hf⟩
  · obtain ⟨e, he, q⟩ := List.mem_filterMap.mp hm
    exact List.mem_filterMap.mpr ⟨e, List.mem_cons_of_mem _ he, q⟩
/-- a clause's class, looked up -/
theorem Fell.class (f : Fell X pins σ H w0 s B a cls d) (hf : X.env.frame = some X.env.locals) {x : Str} {c : Value} {q : Pos} (hn : Names X x c) {Q : Value → Shared → Prop} {E : Value → Shared → Prop} (hq : Q c s) :
    wpAny (model X.prog X.w) (X.A.mark (some (.ref a))) (eval (.Name x q) X.env) Q E s := by
  obtain ⟨oe, vs, _, _, _, J⟩ := f.hold hf
  obtain ⟨h1, h2, h3 | ⟨h3, h4, h5⟩⟩ := hn
  · exact ld_glob (X := X.suite a ((a, oe) :: (X.pn ++ pins))) J h1 h3 hq h2
  · exact ld_blt (X := X.suite a ((a, oe) :: (X.pn ++ pins))) J h1 h3 h4 hq h5 h2
/-- what a suite's end is outside of it -/
theorem SP.outside {q : Addr × Obj} {pn' : List (Addr × Obj)} {D : Ends} {fl : Flow} {s' : Shared} (ok : X.Ok) (h : SP (X.suite a (q :: (X.pn ++ pins))) pn' D fl s') : SP X pins D fl s' := by
  cases fl with
  | ret u =>
    obtain ⟨v, σ', H', J, r, z⟩ := h
    exact ⟨v, σ', H', J.unsuite ok, r, z⟩
  | _ =>
    obtain ⟨σ', H', J, z⟩ := h
    exact ⟨σ', H', J.unsuite ok, z⟩
/-- .. and its name is forgotten -/
theorem SP.forget {i : Nat} {n : Str} {pos : Pos} {D : Ends} {fl : Flow} {s' : Shared} (hN : X.N.Nodup) (hi : X.N[i]? = some n) (hl : X.env.kindOf n = some .local) (h : SP X pins (offE (some i) D) fl s') :
    wpAny (model X.prog X.w) X.A (do bindName X.env n .none; unbindBehindTheSuite X.env n pos) (fun _ s7 => SP X pins D fl s7) X.xe s' := by
  cases fl with
  | ret u =>
    obtain ⟨v, σ', H', J, r, z⟩ := h
    exact gone_ok J hN hi hl fun s7 J7 => ⟨v, _, H', J7, r, z⟩
  | _ =>
    obtain ⟨σ', H', J, z⟩ := h
    exact gone_ok J hN hi hl fun s7 J7 => ⟨_, H', J7, z⟩
theorem Fell.pass (f : Fell X pins σ H w0 s B a cls d) (hs : X.stack = X.env :: X.outer) (hf : X.env.frame = some X.env.locals) (tk : Takes X Wo) (w : Wo cls d σ H) {Q : Flow → Shared → Prop} {m : String} :
    wpAny (model X.prog X.w) X.A (passOn m (.ref a) X.env) Q X.xe s := by
  obtain ⟨_, _, _, oe, vs, T, oT, ts, h1, _, h2, h3, _⟩ := id f.fl
  unfold PySem.passOn
  refine wpAny_bind (wpAny_field h1 h2 h3 ?_)
  rw [if_neg (by simp : ¬ ((Value.ref T == Value.none) = true))]
  have go : wpAny (model X.prog X.w) X.A (setFlight (.ref a) X.env.frame) (fun _ s4 => wpAny (model X.prog X.w) X.A (throw (.ref a) : Sem Flow) Q X.xe s4) X.xe s := by
    rw [hf]
    exact HandSPX.setFlight_upZ f.fl fun h up hup => wpAny_throw (tk _ _ ⟨a, B, w0, pins, σ, H, cls, d, rfl, f.inv, f.nb, f.up.trans hup, .inr (.inr (by rw [hs]; exact up)), f.na, f.os, f.ag, w⟩)
  first
    | exact wpAny_bind (wpAny_pure (wpAny_bind go))
    | exact wpAny_bind go
theorem Fell.clauses (hs : X.stack = X.env :: X.outer) (hf : X.env.frame = some X.env.locals) (hN : X.N.Nodup) (tk : Takes X Wo) {D : Ends} {hds : List ExceptHandler} {l : List Cla} (c : Clas X hds l) :
    ∀ {s : Shared}, Fell X pins σ H w0 s B a cls d → wCla X.K Wo D l cls d σ H → wpAny (model X.prog X.w) X.A (handleBy (.ref a) X.env hds) (SP X pins D) X.xe s := by
  have ask : ∀ {s : Shared} {c : Value} {b : Bool}, Fell X pins σ H w0 s B a cls d → PySem.W.exmOne X.K cls c = some b → PySem.W.Looks (model X.prog X.w) s.heap (excMatches (.ref a) c) b := fun {s c b} f hb => by
    obtain ⟨oe, vs, h1, h2, _⟩ := f.fl.there
    exact PySem.W.exm_one f.here.kIn (fun A' Q' E' t k z => wpAny_typeOf_ref (k _ _ h1) (by rw [h2.1]; exact z)) hb
  induction c with
  | none => exact fun f w => wpAny_handleBy_nil (f.pass hs hf tk w)
  | @bare x c ts st more q q' hds2 l2 hn su _ ih =>
    intro s f ⟨b, hb, no, yes⟩
    refine wpAny_handleBy_cons (codeAny_handlers_test (f.class hf hn ((ask f hb).here ?_))) (fun z => nomatch z)
    cases b with
    | false => exact ih f (no rfl)
    | true =>
      refine codeAny_handlers_suite (HandSPX.lands_againZ f.fl fun h fl up => ?_)
      have f4 := f.move fl up
      obtain ⟨oe, vs, _, h2, h3, J⟩ := f4.hold hf
      exact wpAny_mono ((su a oe cls d (X.pn ++ pins) h2 ⟨vs, h3⟩).run [] _ _ H _ J (yes rfl a f.na)) (fun fl s6 z => SP.outside f.inv.ok z) fun _ _ z => z.elim
  | @named x n i c ts st more q q' hds2 l2 hi hl hn su _ ih =>
    intro s f ⟨b, hb, no, yes⟩
    refine wpAny_handleBy_cons (codeAny_handlers_test (f.class hf hn ((ask f hb).here ?_))) (fun z => nomatch z)
    cases b with
    | false => exact ih f (no rfl)
    | true =>
      refine codeAny_handlers_suite_as (HandSPX.lands_againZ f.fl fun h fl up => ?_)
      have f4 := f.move fl up
      obtain ⟨oe, vs, _, h2, h3, J⟩ := f4.hold hf
      refine store_ok (X := X.suite a ((a, oe) :: (X.pn ++ pins))) (v := .ref a) J hN hi (.inl hl) rfl (fun s5 J5 => ?_) (.inr hl)
      exact wpAny_mono ((su a oe cls d (X.pn ++ pins) h2 ⟨vs, h3⟩).run [] s5 _ H _ J5 (yes rfl a f.na)) (fun fl s6 z => SP.forget hN hi hl (SP.outside f.inv.ok z)) fun _ _ z => z.elim
end
section
variable {X : Cx} {body : List Stmt} {h₀ : ExceptHandler} {hds : List ExceptHandler} {l : List Cla} {pos : Pos} {tb : WX → TS} {Wo : WX}
theorem SP.untry {X : Cx} {pins pn' : List (Addr × Obj)} {xe : Value → Shared → Prop} {D : Ends} {fl : Flow} {s' : Shared} (ok : X.Ok) (h : SP (X.tr (X.pn ++ pins) xe) pn' D fl s') : SP X pins D fl s' := by
  cases fl with
  | ret u =>
    obtain ⟨v, σ', H', J, r, z⟩ := h
    exact ⟨v, σ', H', J.ofTry ok, r, z⟩
  | _ =>
    obtain ⟨σ', H', J, z⟩ := h
    exact ⟨σ', H', J.ofTry ok, z⟩
theorem ps_tryC (hs : X.stack = X.env :: X.outer) (hf : X.env.frame = some X.env.locals) (hN : X.N.Nodup) (tk : Takes X Wo)
    (hb : ∀ (W : WX) (pn : List (Addr × Obj)) (xe : Value → Shared → Prop), Takes (X.tr pn xe) W → PassesOwn (model X.prog X.w) X.A X.env xe → PSs (X.tr pn xe) body (tb W)) (hc : Clas X (h₀ :: hds) l) :
    PS X (.Try body (h₀ :: hds) [] [] pos) (fun D σ H => tb (wCla X.K Wo D l) D σ H) := ⟨fun pins s σ H D I h => by
  have ok := I.ok
  refine wpAny_Try_except (wpAny_mono ((hb (wCla X.K Wo D l) (X.pn ++ pins) (fun e s1 => wpAny (model X.prog X.w) X.A (noteFrame e X.env) (fun _ s2 => wpAny (model X.prog X.w) X.A (setFlight e none)
    (fun _ s3 => wpAny (model X.prog X.w) X.A (handleBy e X.env (h₀ :: hds)) (SP X pins D) X.xe s3) X.xe s2) X.xe s1) (fun u t x => ?_) PassesOwn.looking).run [] s σ H D (I.toTry _) h) (fun fl t z => ?_) fun _ _ z => z)
  · obtain ⟨a, B, w0, pins', σ', H', cls, d, rfl, J, nb, up, sky, na, os, ag, w⟩ := x
    have sk : Sky B (X.env :: X.outer) a (Zc cls d) X.env.locals t.heap := by
      rw [← hs]
      exact sky
    refine Sky.land Zc.steady (by rw [ok.frames, hs]) hf sk fun h fl hup => ?_
    exact Fell.clauses hs hf hN tk hc (s := { t with heap := h }) (w0 := w0) (σ := σ') (H := H') (pins := pins) (B := B) (cls := cls) (d := d) ⟨J.ofTry ok, nb, up.trans hup, os, ag, na, fl⟩ w
  · have z' := SP.untry (pins := pins) ok z
    cases fl with
    | next => exact wpAny_execs_nil z'
    | _ => exact z'⟩
end
end Den
end

-- DenO
section
set_option maxHeartbeats 1000000
/-! Den: a try, its suites. -/
namespace Den
open PySem PySem.Spec L2 PyProof.Rows
/-! ### what the relation reads of a Px -/
structure Px.Like (p p' : Px) : Prop where
  K : p'.K = p.K
  CA : p'.CA = p.CA
  FN : p'.FN = p.FN
section
variable {p p' : Px} {r : Rp}
theorem Px.Like.symm (e : p.Like p') : p'.Like p := ⟨e.K.symm, e.CA.symm, e.FN.symm⟩
mutual
theorem RV.like (e : p.Like p') : ∀ {d : D} {v : V}, RV p r d v → RV p' r d v
  | .non, v, q => by simpa [RV] using q
  | .bl b, v, q => by simpa [RV] using q
  | .int i, v, q => by simpa [RV] using q
  | .str s, v, q => by simpa [RV] using q
  | .cls c, v, q => by
    simp only [RV] at q ⊢
    rw [e.CA]
    exact q
  | .ty c, v, q => by simpa [RV] using q
  | .tup xs, v, q => by
    simp only [RV] at q ⊢
    obtain ⟨a, vs, h, s, t⟩ := q
    exact ⟨a, vs, h, s, RVs.like e t⟩
  | .lst xs, v, q => by
    simp only [RV] at q ⊢
    obtain ⟨a, vs, h, s, t⟩ := q
    exact ⟨a, vs, h, s, RVs.like e t⟩
  | .scr xs, v, q => by
    simp only [RV] at q ⊢
    obtain ⟨a, vs, h, s, t⟩ := q
    exact ⟨a, vs, h, by rw [e.K]; exact s, RVs.like e t⟩
  | .dct ks xs, v, q => by
    simp only [RV] at q ⊢
    obtain ⟨a, o, vs, h, s, k, t⟩ := q
    exact ⟨a, o, vs, h, s, k, RVs.like e t⟩
  | .ins c fs xs, v, q => by
    simp only [RV] at q ⊢
    obtain ⟨a, dx, vfs, h, s, k, t⟩ := q
    exact ⟨a, dx, vfs, h, by rw [e.CA]; exact s, by rw [e.FN]; exact k, RVs.like e t⟩
  | .exc c fs xs, v, q => by
    simp only [RV] at q ⊢
    obtain ⟨a, h, q⟩ := q
    refine ⟨a, h, ?_⟩
    rcases q with ⟨z1, z2, z3⟩ | ⟨dd, vfs, z1, z2, z3, t⟩
    · exact .inl ⟨z1, z2, by rw [e.CA]; exact z3⟩
    · exact .inr ⟨dd, vfs, by rw [e.CA]; exact z1, z2, by rw [e.FN]; exact z3, RVs.like e t⟩
  | .ref n, v, q => by simpa [RV] using q
theorem RVs.like (e : p.Like p') : ∀ {xs : List D} {vs : List V}, RVs p r xs vs → RVs p' r xs vs
  | [], vs, q => by rw [q.nil_inv]; exact .nil
  | x :: xs, vs, q => by
    obtain ⟨v, us, h, h1, h2⟩ := q.cons_inv
    rw [h]
    exact .cons (RV.like e h1) (RVs.like e h2)
end
theorem RC.like (e : p.Like p') {H : Hp} {a : Addr} : ∀ {c : Cell}, RC p r H a c → RC p' r H a c
  | .lst xs, ⟨vs, h, t⟩ => ⟨vs, h, t.like e⟩
  | .dct ks xs, ⟨o, vs, h, k, t⟩ => ⟨o, vs, h, k, t.like e⟩
  | .ins c fs xs, ⟨dx, vfs, h, k, t⟩ => ⟨dx, vfs, by rw [e.CA]; exact h, by rw [e.FN]; exact k, t.like e⟩
theorem RH.like (e : p.Like p') {bs : List Nat} {hp : List Cell} {H : Hp} (h : RH p bs r hp H) : RH p' bs r hp H :=
  ⟨h.sub, h.off, h.nd, h.len, fun n a c e1 e2 => (h.cell n a c e1 e2).like e, fun b hb n a c hn e1 e2 => (h.clo b hb n a c hn e1 e2).like e, h.bsl⟩
theorem RX.like (e : p.Like p') {H : Hp} {fs : List Nat} {xs : List D} {d : Option Addr} (h : RX p r H fs xs d) : RX p' r H fs xs d := by
  rcases h with h | ⟨dd, vfs, h1, h2, h3, h4⟩
  · exact .inl h
  · exact .inr ⟨dd, vfs, h1, h2, by rw [e.FN]; exact h3, h4.like e⟩
theorem Rel.like (e : p.Like p') {bs : List Nat} {s : S} {σ : L2.St} {H : Hp} (h : Rel p bs r s σ H) (hF : p'.F r σ) : Rel p' bs r s σ H :=
  ⟨h.hp.like e, ⟨h.env.1, fun i d q => by
    obtain ⟨v, e1, e2⟩ := h.env.2.1 i d q
    exact ⟨v, e1, e2.like e⟩, hF⟩, h.bl, h.bk⟩
end

/-! ### an error in hand -/
def ErrF (p : Px) (r : Rp) (fs : List Nat) (xs : List D) (d : Option Addr) : Prop :=
  (fs = [] ∧ xs = [] ∧ d = none) ∨ ∃ dd vfs, d = some dd ∧ r.G dd = some (.xd vfs) ∧ vfs.map (·.1) = fs.map p.FN ∧ RVs p r xs (vfs.map (·.2))
/-- .. at a, its fields xs, its dict d; the slot lk holds it -/
def Px.err (p : Px) (fs : List Nat) (xs : List D) (d : Option Addr) (lk : Option Nat) (a : Addr) : Px :=
  { p with F := fun r σ => p.F r σ ∧ ErrF p r fs xs d ∧ ∀ i, lk = some i → σ[i]? = some (some (.ref a)),
           Fm := fun r r' σ l h => ⟨p.Fm r r' σ l h.1, h.2.1.elim (fun e => .inl e) (fun ⟨dd, vfs, e1, e2, e3, e4⟩ => .inr ⟨dd, vfs, e1, l.sub _ _ e2, e3, e4.mono l⟩), h.2.2⟩ }
section
variable {p : Px} {r : Rp} {bs : List Nat} {s : S} {σ : L2.St} {H : Hp} {fs : List Nat} {xs : List D} {d : Option Addr} {lk : Option Nat} {a : Addr} {W : WX}
theorem Px.err_like : p.Like (p.err fs xs d lk a) := ⟨rfl, rfl, rfl⟩
/-- the error's dict is taken into the part that no longer changes -/
theorem Rel.seize (R : Rel p bs r s σ H) (q : RX p r H fs xs d) : ∃ r', r.le r' ∧ Rel p bs r' s σ H ∧ ErrF p r' fs xs d := by
  rcases q with q | ⟨dd, vfs, e1, e2, e3, e4⟩
  · exact ⟨r, Rp.le.refl r, R, .inl q⟩
  · have nin : ∀ {i : Nat} {b : Addr}, r.ρ[i]? = some b → b ≠ dd := fun {i b} e z => by
      subst z
      have hl : i < s.hp.length := by
        rw [← R.hp.len]
        exact (List.getElem?_eq_some_iff.mp e).1
      have hc := R.hp.cell i b s.hp[i] e (List.getElem?_eq_getElem hl)
      cases hx : s.hp[i] with
      | lst xs => rw [hx] at hc; obtain ⟨vs, e, _⟩ := hc; rw [e2] at e; cases e
      | dct ks xs =>
        rw [hx] at hc
        obtain ⟨o, vs, e, k, _⟩ := hc
        rw [e2] at e
        have := Option.some.inj e
        subst this
        exact k
      | ins c fs xs => rw [hx] at hc; obtain ⟨dx, vf, e, _⟩ := hc; rw [e2] at e; cases e
    have le : ∀ ρ, Rp.le ⟨ρ, r.G⟩ ⟨ρ, upd r.G dd (.xd vfs)⟩ := fun ρ => ⟨⟨[], by simp⟩, fun b o e => by
      show upd r.G dd (.xd vfs) b = some o
      by_cases z : b = dd
      · have e' := R.hp.sub b o e
        rw [z, upd_same, ← e2, ← z]
        exact e'
      · rw [upd_ne z]
        exact e⟩
    refine ⟨⟨r.ρ, upd r.G dd (.xd vfs)⟩, le r.ρ, ⟨⟨fun b o e => ?_, fun b hb => ?_, R.hp.nd, R.hp.len, fun i b c h1 h2 => (R.hp.cell i b c h1 h2).mono (le r.ρ), fun n hn i b c hi h1 h2 => (R.hp.clo n hn i b c hi h1 h2).mono (le _), R.hp.bsl⟩, R.env.mono (le r.ρ), R.bl, R.bk⟩,
      .inr ⟨dd, vfs, e1, upd_same, e3, e4.mono (le r.ρ)⟩⟩
    · have e' : upd r.G dd (.xd vfs) b = some o := e
      by_cases z : b = dd
      · rw [z, upd_same] at e'
        rw [z, e2]
        exact e'
      · rw [upd_ne z] at e'
        exact R.hp.sub b o e'
    · obtain ⟨i, hi, e⟩ := List.mem_iff_getElem.mp hb
      show upd r.G dd (.xd vfs) b = none
      rw [upd_ne (nin (by rw [List.getElem?_eq_getElem hi, e]))]
      exact R.hp.off b hb
end

/-! ### try -/
/-- a clause: its class, its name's slot, its suite by the error's class and fields -/
structure Hd where
  c : Nat
  slot : Option Nat
  run : Nat → List Nat → List D → SemS
def onS (o : Option Nat) (s : S) : S := match o with
  | none => s
  | some i => { s with env := s.env.set i none }
def offS (o : Option Nat) : Out Fl → Out Fl
  | .ok a s => .ok a (onS o s)
  | _ => .bad
def slotIn (o : Option Nat) (s : S) : Bool := match o with
  | none => true
  | some i => decide (i < s.env.length)
/-- c is the number of an exception's class -/
def inE (E : Nat × Nat) (c : Nat) : Bool := decide (E.1 ≤ c) && decide (c < E.2)
def catchS (n : Nat × Nat) (sub : Nat → Nat → Bool) (c : Nat) (fs : List Nat) (xs : List D) : List Hd → SemS
  | [] => fun s => .exn c fs xs s
  | h :: r => fun s => if inE n c = true ∧ slotIn h.slot s = true then (if sub c h.c = true then offS h.slot (h.run c fs xs (onS h.slot s)) else catchS n sub c fs xs r s) else .bad
def tryS (n : Nat × Nat) (sub : Nat → Nat → Bool) (b : SemS) (hs : List Hd) : SemS := fun s => match b s with
  | .exn c fs xs s' => catchS n sub c fs xs hs s'
  | o => o
abbrev noW : WX := fun _ _ _ _ => False
/-- a suite as its clause reads it -/
def sufT (p : Px) (h : Hd) : Addr → Value → Option Addr → TS := fun a cls d D σ H => ∃ c fs xs bs r s, cls = .ref (p.CA c) ∧ Rel p bs r s σ H ∧ RX p r H fs xs d ∧ (∀ i, h.slot = some i → σ[i]? = some (some (.ref a))) ∧ PoS p bs r noW D (h.run c fs xs s)
def claOf (p : Px) (h : Hd) : Cla := (.ref (p.CA h.c), h.slot, sufT p h)
section
variable {p : Px} {X : Cx} {W : WX}
/-- a suite, read with the error in hand -/
theorem suite_of {h : Hd} {st : List Stmt} (hs : ∀ (a : Addr) (oe : Obj) (c : Nat) (d : Option Addr) (pn : List (Addr × Obj)) (fs : List Nat) (xs : List D), Zc (.ref (p.CA c)) d oe → (∃ vs, oe.data = .fields vs) →
    PSs (X.suite a ((a, oe) :: pn)) st (tS (p.err fs xs d h.slot a) noW (h.run c fs xs))) : SuiteR X st (sufT p h) := by
  intro a oe cls d pn hz hd
  refine ⟨fun pins s σ H D I ⟨c, fs, xs, bs, r, t, ec, R, q, hl, po⟩ => ?_⟩
  subst ec
  obtain ⟨r', l, R', ef⟩ := R.seize q
  refine (hs a oe c d pn fs xs hz hd).run pins s σ H D I ⟨bs, r', t, R'.like Px.err_like ⟨R'.env.2.2, ef, hl⟩, ?_⟩
  have lk : (p.err fs xs d h.slot a).Like p := Px.err_like.symm
  cases e : h.run c fs xs t with
  | bad => rw [e] at po; exact po
  | exn c' fs' xs' s' =>
    rw [e] at po
    intro r2 σ2 H2 cd l2 R2 q2
    exact (po r2 σ2 H2 cd (l.trans l2) (R2.like lk R2.env.2.2.1) (q2.like lk))
  | ok fl s' =>
    rw [e] at po
    cases fl with
    | ret v => exact fun r2 σ2 H2 v l2 R2 q2 => po r2 σ2 H2 v (l.trans l2) (R2.like lk R2.env.2.2.1) (q2.like lk)
    | next => exact fun r2 σ2 H2 l2 R2 => po r2 σ2 H2 (l.trans l2) (R2.like lk R2.env.2.2.1)
    | brk => exact fun r2 σ2 H2 l2 R2 => po r2 σ2 H2 (l.trans l2) (R2.like lk R2.env.2.2.1)
    | cont => exact fun r2 σ2 H2 l2 R2 => po r2 σ2 H2 (l.trans l2) (R2.like lk R2.env.2.2.1)
theorem Rel.offS [p.Free] {bs : List Nat} {r : Rp} {s : S} {σ : L2.St} {H : Hp} (R : Rel p bs r s σ H) {i : Nat} {u : Option V} : Rel p bs r { s with env := s.env.set i none } (σ.set i u) H := ⟨R.hp, R.env.off, R.bl, R.bk⟩
theorem Rel.onE [p.Free] {bs : List Nat} {r : Rp} {s : S} {σ : L2.St} {H : Hp} (R : Rel p bs r s σ H) (o : Option Nat) (a : Addr) : Rel p bs r (onS o s) (Den.onE o a σ) H := by
  cases o with
  | none => exact R
  | some i => exact R.offS
theorem catchS_ok [p.Free] {n : Nat × Nat} {sub : Nat → Nat → Bool} {D : Ends} {bs : List Nat} {c : Nat} {fs : List Nat} {xs : List Den.D} {r r' : Rp} {s : S} {σ : L2.St} {H : Hp} {cd : Option Addr} (l : r.le r') (R : Rel p bs r' s σ H) (q : RX p r' H fs xs cd) :
    ∀ (hs : List Hd), (∀ h ∈ hs, ∀ c, inE n c = true → PySem.W.exmOne p.K (.ref (p.CA c)) (.ref (p.CA h.c)) = some (sub c h.c)) → PoS p bs r W D (catchS n sub c fs xs hs s) → wCla p.K W D (hs.map (claOf p)) (.ref (p.CA c)) cd σ H
  | [], _, po => po r' σ H cd l R q
  | h :: hs, hx, po => by
    unfold catchS at po
    split at po
    · rename_i hc
      obtain ⟨hc, hsl⟩ := hc
      refine ⟨sub c h.c, hx h List.mem_cons_self c hc, fun e => ?_, fun e a na => ?_⟩
      · rw [if_neg (by rw [e]; decide)] at po
        exact catchS_ok l R q hs (fun h' hm => hx h' (List.mem_cons_of_mem _ hm)) po
      · rw [if_pos e] at po
        refine ⟨c, fs, xs, bs, r', onS h.slot s, rfl, R.onE h.slot a, q, fun i ei => ?_, ?_⟩
        · show (Den.onE h.slot a σ)[i]? = _
          rw [ei]
          rw [ei] at hsl
          exact List.getElem?_set_self (by rw [← R.env.1]; exact of_decide_eq_true hsl)
        · show PoS p bs r' noW (offE h.slot D) (h.run c fs xs (onS h.slot s))
          have fin : ∀ {r2 : Rp} {σ2 : L2.St} {H2 : Hp} {s' : S}, Rel p bs r2 s' σ2 H2 → Rel p bs r2 (onS h.slot s') (match h.slot with | none => σ2 | some i => σ2.set i none) H2 := fun {r2 σ2 H2 s'} R2 => by
            cases h.slot with
            | none => exact R2
            | some i => exact R2.offS
          cases ee : h.run c fs xs (onS h.slot s) with
          | bad => rw [ee] at po; exact po
          | exn c' fs' xs' s' => rw [ee] at po; exact False.elim po
          | ok fl s' =>
            rw [ee] at po
            cases fl with
            | ret v =>
              intro r2 σ2 H2 u l2 R2 q2
              have z := po r2 _ H2 u (l.trans l2) (fin R2) q2
              unfold offE
              cases h.slot <;> exact z
            | next =>
              intro r2 σ2 H2 l2 R2
              have z := po r2 _ H2 (l.trans l2) (fin R2)
              unfold offE
              revert z
              cases h.slot <;> exact fun z => z
            | brk =>
              intro r2 σ2 H2 l2 R2
              have z := po r2 _ H2 (l.trans l2) (fin R2)
              unfold offE
              revert z
              cases h.slot <;> exact fun z => z
            | cont =>
              intro r2 σ2 H2 l2 R2
              have z := po r2 _ H2 (l.trans l2) (fin R2)
              unfold offE
              revert z
              cases h.slot <;> exact fun z => z
    · exact False.elim po
theorem ps_tryS [p.Free] {body : List Stmt} {h₀ : ExceptHandler} {hds : List ExceptHandler} {pos : Pos} {n : Nat × Nat} {sub : Nat → Nat → Bool} {b : SemS} {hl : List Hd} (hK : X.K = p.K) (hs : X.stack = X.env :: X.outer) (hf : X.env.frame = some X.env.locals) (hN : X.N.Nodup) (tk : Takes X W)
    (hb : ∀ (W : WX) (pn : List (Addr × Obj)) (xe : Value → Shared → Prop), Takes (X.tr pn xe) W → PassesOwn (model X.prog X.w) X.A X.env xe → PSs (X.tr pn xe) body (tS p W b)) (hc : Clas X (h₀ :: hds) (hl.map (claOf p)))
    (hx : ∀ h ∈ hl, ∀ c, inE n c = true → PySem.W.exmOne p.K (.ref (p.CA c)) (.ref (p.CA h.c)) = some (sub c h.c)) : PS X (.Try body (h₀ :: hds) [] [] pos) (tS p W (tryS n sub b hl)) := by
  refine ⟨fun pins s σ H E I ⟨bs, r, t, R, po⟩ => (ps_tryC hs hf hN tk hb hc).run pins s σ H E I ⟨bs, r, t, R, ?_⟩⟩
  unfold tryS at po
  cases e : b t with
  | bad => rw [e] at po; exact po
  | ok fl s' =>
    rw [e] at po
    cases fl <;> exact po
  | exn c fs xs s' =>
    rw [e] at po
    intro r' σ' H' cd l R' q
    rw [hK]
    exact catchS_ok l R' q hl hx po
end
end Den
end

-- DenP
section
set_option maxHeartbeats 1000000
/-! Den: what a suite asks of the error in hand. -/
namespace Den
open PySem PySem.Spec L2 PyProof.Rows
/-- what the head tells of the exceptions' classes -/
structure ErrOk (p : Px) (E : Nat × Nat) (nf : Nat) : Prop where
  exm : ∀ c e, inE E c = true → inE E e = true → PySem.W.exmOne p.K (.ref (p.CA c)) (.ref (p.CA e)) = some (p.sub c e)
  kit : ∀ c e, inE E c = true → inE E e = true → PySem.W.kitOne p.K (.ref (p.CA c)) (.ref (p.CA e)) = some (p.sub c e)
  isC : ∀ c, inE E c = true → (PySem.W.clsIn p.K (p.CA c)).isSome = true
  xf : ∀ c, inE E c = true → XfC p.K (p.CA c)
  cla : ∀ c, inE E c = true → PySem.W.findIn p.K (.ref (p.CA c)) "__class__" = some (some (.builtin "object.__class__"))
  mro : ∀ c, inE E c = true → PySem.W.mroIn p.K (p.CA c) (.type "object") = some true
  nof : ∀ c j, inE E c = true → j < nf → PySem.W.findIn p.K (.ref (p.CA c)) (p.FN j) = some none
  get : PySem.W.specialIn p.K (.builtin "object.__class__") "__get__" = some (some (.builtin "getset_descriptor.__get__"))
  tak : PySem.W.takesIn p.K (.builtin "object.__class__") = some true
def errFldE (E : Nat × Nat) (nf : Nat) (c : Nat) (fs : List Nat) (xs : List D) (j : Nat) : SemE := fun s => if (inE E c && decide (j < nf) && fs.all fun i => decide (i < nf)) = true then (match fldAt j fs xs with
  | some v => .ok v s
  | none => .bad) else .bad
def errIsE (E : Nat × Nat) (sub : Nat → Nat → Bool) (c e : Nat) : SemE := fun s => if (inE E c && inE E e) = true then .ok (.bl (sub c e)) s else .bad
section
variable {p : Px} {X : Cx} {W : WX} {E : Nat × Nat} {nf : Nat} {noat : Nat → Nat → Bool} {a : Addr} {oe : Obj} {c : Nat} {d : Option Addr} {pn : List (Addr × Obj)} {fs : List Nat} {xs : List D} {i : Nat}
theorem pe_errFld {j : Nat} {x n : Str} {q pos : Pos} (hK : X.K = p.K) (k : ErrOk p E nf) (kf : FldOk p noat nf) (hz : Zc (.ref (p.CA c)) d oe) (hd : ∃ vs, oe.data = .fields vs) (hx : p.FN j = x) (hN : X.N[i]? = some n) (hv : Vis X.env.scope n) (h1 : (n == ("__debug__" : Str)) = false) (h2 : (n == ("__classdict__" : Str)) = false) :
    PE (X.suite a ((a, oe) :: pn)) (.Attribute (.Name n q) x pos) (tE (p.err fs xs d (some i) a) W (errFldE E nf c fs xs j)) := by
  by_cases hz' : (inE E c && decide (j < nf) && fs.all fun i => decide (i < nf)) = true
  · have hh := hz'
    simp only [Bool.and_eq_true] at hh
    obtain ⟨⟨hc, hj⟩, hfs⟩ := hh
    have hj := of_decide_eq_true hj
    refine PE.by (pe_xf (C := p.CA c) (by rw [hK]; exact k.xf c hc) (by rw [hK, ← hx]; exact k.nof c j hc hj) hz hd (pe_var (X := X.suite a ((a, oe) :: pn)) (i := i) hN hv h1 h2) rfl) fun σ H Q ⟨bs, r, s, R, po⟩ => ?_
    unfold errFldE at po
    rw [if_pos hz'] at po
    split at po
    · rename_i y ey
      obtain ⟨_, ef, lk⟩ := R.env.2.2
      refine ⟨.ref a, lk i rfl, rfl, rfl, ?_⟩
      rcases ef with ⟨e1, e2, _⟩ | ⟨dd, vfs, e1, e2, e3, e4⟩
      · rw [e1, e2] at ey
        cases ey
      · obtain ⟨u, hu, qu⟩ := fld_lookup kf hj hfs e3 e4 ey
        exact ⟨dd, vfs, u, e1, R.hp.sub _ _ e2, by rw [← hx]; exact hu, po r H u (Rp.le.refl r) R (qu.like Px.err_like)⟩
    · exact False.elim po
  · refine ⟨fun pins s σ H Q I ⟨bs, r, t, R, po⟩ => ?_⟩
    unfold errFldE at po
    rw [if_neg hz'] at po
    exact False.elim po
/-- isinstance(error, class) -/
def rErrIs (p : Px) (a : Addr) (c e : Nat) (d : Option Addr) (b : Bool) : List V → Hp → VK → Prop := fun vs H Q => vs = [.ref a, .ref (p.CA e)] ∧ (d = none ∨ ∃ dd vfs, d = some dd ∧ H dd = some (.xd vfs)) ∧ Q (.bl b) H
theorem call_errIs {e : Nat} (hK : X.K = p.K) (k : ErrOk p E nf) (hc : inE E c = true) (he : inE E e = true) (hz : Zc (.ref (p.CA c)) d oe) (hd : ∃ vs, oe.data = .fields vs) : CallR (X.suite a ((a, oe) :: pn)) (.builtin "isinstance") (rErrIs p a c e d (p.sub c e)) := by
  rintro pins s σ H vs us Q I rv ⟨rfl, hdd, q⟩
  cases rv with
  | cons r1 rr =>
    cases rr with
    | cons r2 rr =>
      cases rr
      cases r1
      cases r2
      obtain ⟨hget, _⟩ := I.pin (a, oe) (List.mem_append_left _ List.mem_cons_self)
      obtain ⟨ws, hw⟩ := hd
      have hno : PySem.W.notCls oe = true := by
        unfold PySem.W.notCls
        rw [hw] <;> rfl
      have go : ∀ {od : Option Obj}, PySem.W.InstAt s.heap a oe (p.CA c) od → wpAny (model X.prog X.w) (X.A.mark (some (.ref a))) (call (.builtin "isinstance") [.ref a, .ref (p.CA e)]) (EP (X.suite a ((a, oe) :: pn)) pins σ Q) (fun _ _ => False) s := fun {od} J => by
        have xf := k.xf c hc
        refine PySem.W.kia_one (PySem.W.kitx_exc (K := X.K) (gt := none) (od := od) (by rw [hK]; exact k.isC c hc) (by rw [hK]; exact xf.ga) (by rw [hK]; exact xf.gg) (by rw [hK]; exact xf.exC) (by rw [hK]; exact k.cla c hc) (by rw [hK]; exact k.get) (by rw [hK]; exact k.tak) (by rw [hK]; exact k.mro c hc)) I.kIn J
          (by rw [hK]; exact k.kit c e hc he) (fun z => nomatch z) fun tk => ⟨.bl (p.sub c e), H, I.kept (t' := tk) fun _ _ z => z, rfl, q⟩
      rcases hdd with e0 | ⟨dd, vfs, e1, e2⟩
      · exact go (od := none) ⟨hget, hz.1, hno, by rw [hz.2, e0]; trivial⟩
      · have hx : ObjOk X.prog X.w H s.heap dd (.xd vfs) := I.hok dd _ e2
        obtain ⟨mA, hns, _⟩ := hx
        obtain ⟨od, ho, _⟩ := lookIn_ns hns
        exact go (od := some od) ⟨hget, hz.1, hno, by rw [hz.2, e1]; exact ho⟩
theorem pe_errIs {e : Nat} {n x : Str} {q q2 q3 pos : Pos} (hK : X.K = p.K) (k : ErrOk p E nf) (hz : Zc (.ref (p.CA c)) d oe) (hd : ∃ vs, oe.data = .fields vs) (hN : X.N[i]? = some n) (hv : Vis X.env.scope n) (h1 : (n == ("__debug__" : Str)) = false) (h2 : (n == ("__classdict__" : Str)) = false)
    (hg : Gl X x) (hm : X.mg x = some (.ref (p.CA e))) (h3 : (x == ("__debug__" : Str)) = false) (gI : Gl X "isinstance") (mI : X.mg "isinstance" = none) :
    PE (X.suite a ((a, oe) :: pn)) (.Call (.Name "isinstance" q) [.Name n q2, .Name x q3] [] pos) (tE (p.err fs xs d (some i) a) W (errIsE E p.sub c e)) := by
  by_cases hz' : (inE E c && inE E e) = true
  · have hh := hz'
    rw [Bool.and_eq_true] at hh
    have hva : PE (X.suite a ((a, oe) :: pn)) (.Name n q2) (tVar i) := pe_var hN hv h1 h2
    have hvc : PE (X.suite a ((a, oe) :: pn)) (.Name x q3) (tC (.ref (p.CA e))) := pe_glob hg hm rfl h3
    refine PE.by (pe_callB (call_errIs (a := a) (pn := pn) hK k hh.1 hh.2 hz hd) gI mI (by kernel_rfl) (pa_cons hva (pa_cons hvc pa_nil))) fun σ H Q ⟨bs, r, s, R, po⟩ => ?_
    unfold errIsE at po
    rw [if_pos hz'] at po
    obtain ⟨_, ef, lk⟩ := R.env.2.2
    refine ⟨.ref a, lk i rfl, rfl, ?_, po r H (.bl (p.sub c e)) (Rp.le.refl r) R (by simp [RV])⟩
    rcases ef with ⟨_, _, e0⟩ | ⟨dd, vfs, e1, e2, _⟩
    · exact .inl e0
    · exact .inr ⟨dd, vfs, e1, R.hp.sub _ _ e2⟩
  · refine ⟨fun pins s σ H Q I ⟨bs, r, t, R, po⟩ => ?_⟩
    unfold errIsE at po
    rw [if_neg hz'] at po
    exact False.elim po
end
end Den
end

-- DenPv
section
set_option maxHeartbeats 1000000
/-! Den: exceptions as values: made, asked for their class, their fields read. -/
namespace Den
open PySem PySem.Spec L2 PyProof.Rows
/-- C(..), an exception, its __init__ storing the arguments in the fields fs -/
def excE (c : Nat) (fs : List Nat) (t : SemA) : SemE := fun s => (t s).bind fun xs s => if xs.length = fs.length then .ok (.exc c fs.reverse xs.reverse) s else .bad
def exc0E (c : Nat) : SemE := fun s => .ok (.exc c [] []) s
section
variable {P : Program} {w : World} {p : Px} {mg : Str → Option Value} {base : Heap} {k l : Nat} {N ps : List Str} {sc : Scope} {W : WX} {X : Cx} {c : Nat} {fs : List Nat} {fI : Addr} {fd : FuncData} {x : Str} {e : Expr} {es : List Expr} {ft : SemA} {q pos : Pos}
theorem pe_excE (cx : Cxt P w p mg base (k + 1) N sc W X) (T : OexC p.K (p.CA c)) (iC : PySem.W.findIn p.K (.ref (p.CA c)) "__init__" = some (some (.ref fI))) (tI : PySem.W.typeIn p.K (.ref fI) = some (.type "function"))
    (F1 : FnOk P w p.K mg base (L2.CX P w) k fI fd ps (spX p.K (fs.map p.FN))) (hb : Binds p.K fd ps []) (hno : ∀ j ∈ fs, PySem.W.findIn p.K (.ref (p.CA c)) (p.FN j) = some none) (hfs : fs.length ≤ 900) (hg : Gl X x) (hm : X.mg x = some (.ref (p.CA c)))
    (hdb : (x == ("__debug__" : Str)) = false) (ha : PA X (e :: es) (tA p W ft)) (he : starEach (e :: es) X.env = (false, eval e X.env) :: starEach es X.env) (hpl : (backTo pos (starEach es X.env)).any (·.1) = false) :
    PE X (.Call (.Name x q) (e :: es) [] pos) (tE p W (excE c fs ft)) := by
  have pn := passes_none cx
  obtain ⟨rfl, rfl, hK, rfl, rfl, _, _, _, _, hr, _, _⟩ := cx
  rw [← hK] at T iC tI F1 hb
  refine ⟨fun pins s σ H Q I ⟨bs, r, st, R, po⟩ => ?_⟩
  obtain ⟨n1, n2, n3, n4, bm, n6, n7, n8, n9, n10, n11, n12, n13, n14, n15, hC, hbm⟩ := T.cls
  refine wpAny_Call_Name_kw (ld_glob I hg hm ?_ hdb)
  refine PySem.W.callWith_K (h₀ := X.base) I.ok.mod.kin T.kC (thn (ha.run pos pins s σ H _ I (Po.bind (rel := RVs p) R po)) fun us s1 ⟨vs, H1, I1, rv, r1, xs, st1, l1, R1, q1, po1⟩ => ⟨I1.kIn, ?_⟩) he hpl
  split at po1
  · rename_i hlen
    have hv : vs.length = fs.length := by rw [← q1.length]; exact hlen
    obtain ⟨h1, gs, dr, tk, os⟩ := s1
    have sz : h1.objs.size ≤ h1.objs.size + 1 := Nat.le_succ _
    have na : H1 (h1.objs.size + 1) = none := I1.hok.fresh sz
    have kp : ∀ b o, h1.get? b = some o → ((h1.push (PySem.W.kdv_tup us)).push (PySem.HandSPX.excO (p.CA c) h1.objs.size)).get? b = some o := fun b o z => Heap.get?_push_of_some _ (Heap.get?_push_of_some _ z)
    have at_ : ((h1.push (PySem.W.kdv_tup us)).push (PySem.HandSPX.excO (p.CA c) h1.objs.size)).get? (h1.objs.size + 1) = some (PySem.HandSPX.excO (p.CA c) h1.objs.size) := by heap_get
    have I2 := I1.laid (t' := tk) (a := h1.objs.size + 1) (o := exo (h1.objs.size + 1) (p.CA c) none) kp sz (exo_ok at_)
    have hus : us.length = fs.length := by rw [← Paired.length rv]; exact hv
    have sp : spX X.K (fs.map p.FN) (.ref (h1.objs.size + 1) :: vs) (upd H1 (h1.objs.size + 1) (exo (h1.objs.size + 1) (p.CA c) none)) (fun v H2 => v = .non ∧ Q (.ref (h1.objs.size + 1)) H2) (fun _ _ _ => False) := by
      refine ⟨h1.objs.size + 1, p.CA c, vs, rfl, by rw [List.length_map]; exact hv, upd_same, T, fun f hf => ?_, fun d hd => ⟨rfl, ?_⟩⟩
      · obtain ⟨j, hj, rfl⟩ := List.mem_map.mp hf
        rw [hK]
        exact hno j hj
      · have hda : d ≠ h1.objs.size + 1 := fun z => by rw [z, upd_same] at hd; cases hd
        have hd1 : H1 d = none := by rw [upd_ne hda] at hd; exact hd
        obtain ⟨A1, l2⟩ := R1.hp.ice (o := exd d ((fs.map p.FN).zip vs).reverse) hd1
        have na2 : upd H1 d (exd d ((fs.map p.FN).zip vs).reverse) (h1.objs.size + 1) = none := by rw [upd_ne (Ne.symm hda)]; exact na
        obtain ⟨A2, l3⟩ := A1.ice (o := exo (h1.objs.size + 1) (p.CA c) (some d)) na2
        have eH : upd (upd (upd H1 (h1.objs.size + 1) (exo (h1.objs.size + 1) (p.CA c) none)) d (exd d ((fs.map p.FN).zip vs).reverse)) (h1.objs.size + 1) (exo (h1.objs.size + 1) (p.CA c) (some d)) =
            upd (upd H1 d (exd d ((fs.map p.FN).zip vs).reverse)) (h1.objs.size + 1) (exo (h1.objs.size + 1) (p.CA c) (some d)) := by
          funext b
          by_cases z : b = h1.objs.size + 1
          · rw [z, upd_same, upd_same]
          · rw [upd_ne z, upd_ne z]
            by_cases z2 : b = d
            · rw [z2, upd_same, upd_same]
            · rw [upd_ne z2, upd_ne z2, upd_ne z]
        rw [eH]
        refine po1 _ _ _ (l2.trans l3) ⟨A2, R1.env.mono (l2.trans l3), R1.bl, R1.bk⟩ ?_
        simp only [RV]
        refine ⟨_, rfl, .inr ⟨d, ((fs.map p.FN).zip vs).reverse, upd_same, ?_, ?_, ?_⟩⟩
        · show upd (upd r1.G d _) (h1.objs.size + 1) _ d = _
          rw [upd_ne hda, upd_same]
        · rw [List.map_reverse, List.map_fst_zip (by rw [List.length_map]; omega), ← List.map_reverse]
        · rw [List.map_reverse, List.map_snd_zip (by rw [List.length_map]; omega)]
          exact (q1.reverse).mono (l2.trans l3)
    have r2 : Vals (V.ref (h1.objs.size + 1) :: vs) (Value.ref (h1.objs.size + 1) :: us) := .cons rfl rv
    have hlp : (Value.ref (h1.objs.size + 1) :: us).length = ps.length := by
      rw [← F1.len _ _ _ _ sp, ← r2.length]
    have bd := hb ⟨(h1.push (PySem.W.kdv_tup us)).push (PySem.HandSPX.excO (p.CA c) h1.objs.size), gs, dr, tk, os⟩ (Value.ref (h1.objs.size + 1) :: us) I2.kIn (by rw [List.append_nil]; exact hlp)
    rw [List.append_nil] at bd
    refine wpAny_call (PySem.HandSPX.call_own PySem.F.excBase_ValueError (fun Y => PySem.HandSPX.refsVE_contains Y bm hbm) (I1.kIn _ _ hC) (PySem.W.looks_findIn I1.kIn iC) (fun self => PySem.W.bind_fn I1.kIn self tI) (by
        have h0 : us.length ≤ sizeLine := by
          rw [sizeLine_eq]
          omega
        simpa using h0)
      (codeAny_mono (F1.run _ X.stack _ _ ⟨Value.ref (h1.objs.size + 1) :: us, []⟩ (Value.ref (h1.objs.size + 1) :: us) _ _ (fun _ _ _ => False) (hr.make (p.CA c) us []) (I2.env0.make (p.CA c) us []) bd r2 sp) fun rr s' hq' => ?_))
    cases rr with
    | error er => exact pn pins σ _ _ er s' I2 hq'
    | ok fl =>
      cases fl with
      | ret u =>
        obtain ⟨v, H', I3, rv', ev, q3⟩ := I2.after hq'
        subst ev
        exact ⟨rv', V.ref (h1.objs.size + 1), H', I3, rfl, q3⟩
      | next => exact False.elim hq'
      | brk => exact False.elim hq'
      | cont => exact False.elim hq'
  · exact False.elim po1
theorem pe_exc0E {bmB : List Value} {B newId initId : String} (hK : X.K = p.K) (F : ExcBaseFacts B newId initId bmB) (hq : PySem.W.excIn p.K (p.CA c) bmB newId = true) (hk : PySem.W.keepIn p.K (.ref (p.CA c)) = true) (hg : Gl X x) (hm : X.mg x = some (.ref (p.CA c))) (hdb : (x == ("__debug__" : Str)) = false) :
    PE X (.Call (.Name x q) [] [] pos) (tE p W (exc0E c)) := by
  refine ⟨fun pins s σ H Q I ⟨bs, r, st, R, po⟩ => ?_⟩
  refine wpAny_Call_Name_kw (ld_glob I hg hm ?_ hdb)
  refine PySem.W.callWith_K0 I.kIn (by rw [hK]; exact hk) ?_
  obtain ⟨m1, m2, m3, m4, m5, m6, m7, m8, m9, m10, m11, m12, m13, m14, m15, m16, m17, c1, c2, c3, c4⟩ := exc_obj I.kIn (by rw [hK]; exact hq)
  refine wpAny_call_exc_subT F c4 c1 c2 c3 (fun hp' a made => ?_) (Nat.zero_le _)
  have na : H a = none := I.hok.gone made.new
  obtain ⟨t, h1, _, _⟩ := made.there
  obtain ⟨R2, l2⟩ := R.hp.ice (o := exo a (p.CA c) none) na
  refine ⟨.ref a, _, I.laidN (t' := s.toks) made.keeps made.new na (exo_ok h1), rfl, po _ _ _ l2 ⟨R2, R.env.mono l2, R.bl, R.bk⟩ ?_⟩
  simp only [RV]
  exact ⟨a, rfl, .inl ⟨trivial, trivial, upd_same⟩⟩
end

/-! ### what is asked of them -/
section
variable {p : Px} {X : Cx} {W : WX} {E : Nat × Nat} {nf : Nat} {noat : Nat → Nat → Bool}
theorem exc_inst {pins : List (Addr × Obj)} {σ : L2.St} {H : Hp} {s : Shared} {bs : List Nat} {r : Rp} {hp : List Cell} {c : Nat} {fs : List Nat} {xs : List D} {v : V} (I : L2.Inv X pins σ H s) (R : RH p bs r hp H) (q : RV p r (.exc c fs xs) v) :
    ∃ a oe od, v = .ref a ∧ PySem.W.InstAt s.heap a oe (p.CA c) od ∧ (fs = [] ∧ xs = [] ∨ ∃ (vfs : List (Str × V)) (ob : Obj), od = some ob ∧ vfs.map (·.1) = fs.map p.FN ∧ RVs p r xs (vfs.map (·.2)) ∧ ∃ mA : Str → Option Value, (∀ f, RelO (vfs.lookup f) (mA f)) ∧ ∀ n, PySem.W.lookIn n ob = some (mA n)) := by
  simp only [RV] at q
  obtain ⟨a, rfl, q⟩ := q
  rcases q with ⟨z1, z2, z3⟩ | ⟨dd, vfs, z1, z2, z3, t⟩
  · obtain ⟨t1, ho⟩ := exo_at I.hok (R.sub _ _ z3)
    exact ⟨a, _, none, rfl, ⟨ho, rfl, rfl, trivial⟩, .inl ⟨z1, z2⟩⟩
  · obtain ⟨t1, ho⟩ := exo_at I.hok (R.sub _ _ z1)
    obtain ⟨mA, hns, hr⟩ := exd_at I.hok (R.sub _ _ z2)
    obtain ⟨ob, hob, hl⟩ := lookIn_ns hns
    exact ⟨a, _, some ob, rfl, ⟨ho, rfl, rfl, hob⟩, .inr ⟨vfs, ob, rfl, z3, t, mA, hr, hl⟩⟩
/-- isinstance, of exceptions too -/
def isaX (p : Px) (E : Nat × Nat) : VA := fun xs hp => match xs with
  | [.exc c _ _, .cls e] => if (inE E c && inE E e) = true then .val (.bl (p.sub c e)) else .bad
  | [.exc c _ _, .ty 7] => if inE E c = true then .val (.bl true) else .bad
  | xs => isaV p xs hp
theorem call_isaX (hK : X.K = p.K) (k : KitOk p) (ke : ErrOk p E nf) (kv : ∀ c, inE E c = true → PySem.W.kitOne p.K (.ref (p.CA c)) (.type "ValueError") = some true) : CallR X (.builtin "isinstance") (rA p (isaX p E)) := by
  have one : ∀ {pins : List (Addr × Obj)} {σ : L2.St} {H : Hp} {s : Shared} {bs : List Nat} {r : Rp} {hp : List Cell} {c : Nat} {fs : List Nat} {xs : List D} {v : V} {u : Value} {cv : Value} {b : Bool} {Q : VK}, L2.Inv X pins σ H s → RH p bs r hp H → RV p r (.exc c fs xs) v → RelV v u → inE E c = true →
      PySem.W.kitOne p.K (.ref (p.CA c)) cv = some b → (cv ≠ .builtin "__main__.__loader__#opaque" → True) → Q (.bl b) H → wpAny (model X.prog X.w) X.A (call (.builtin "isinstance") [u, cv]) (EP X pins σ Q) X.xe s := by
    intro pins σ H s bs r hp c fs xs v u cv b Q I R q rv hc hk _ hQ
    obtain ⟨a, oe, od, rfl, J, _⟩ := exc_inst I R q
    obtain rfl : u = Value.ref a := rv
    have xf := ke.xf c hc
    exact PySem.W.kia_one (PySem.W.kitx_exc (K := X.K) (gt := none) (od := od) (by rw [hK]; exact ke.isC c hc) (by rw [hK]; exact xf.ga) (by rw [hK]; exact xf.gg) (by rw [hK]; exact xf.exC) (by rw [hK]; exact ke.cla c hc) (by rw [hK]; exact ke.get) (by rw [hK]; exact ke.tak) (by rw [hK]; exact ke.mro c hc)) I.kIn J
      (by rw [hK]; exact hk) (fun z => nomatch z) fun tk => ⟨.bl b, H, I.kept (t' := tk) fun _ _ z => z, rfl, hQ⟩
  rintro pins s σ H vs us Q I rx ⟨bs, r, hp, xs, R, q, po⟩
  unfold isaX at po
  split at po
  · rename_i c fs ys e
    obtain ⟨v, u, rfl, q1, q2⟩ := q.two
    split at po
    · rename_i hz
      obtain ⟨hc, he⟩ := Bool.and_eq_true_iff.mp hz
      rw [rv_cls.mp q2] at rx
      cases rx with
      | cons ra rr =>
        cases rr with
        | cons rb rr =>
          cases rr
          cases rb
          exact one I R q1 ra hc (ke.kit c e hc he) (fun _ => trivial) (po.of_val R (rv_bl.mpr rfl))
    · exact False.elim po
  · rename_i c fs ys
    obtain ⟨v, u, rfl, q1, q2⟩ := q.two
    split at po
    · rename_i hc
      have ev : u = .ty "ValueError" := by simpa [RV, tyName] using q2
      subst ev
      cases rx with
      | cons ra rr =>
        cases rr with
        | cons rb rr =>
          cases rr
          cases rb
          exact one I R q1 ra hc (kv c hc) (fun _ => trivial) (po.of_val R (rv_bl.mpr rfl))
    · exact False.elim po
  · exact call_isaV hK k pins s σ H _ us Q I rx ⟨bs, r, hp, _, R, q, po⟩
/-- o.x, o an instance or an exception -/
def fldX (p : Px) (E : Nat × Nat) (noat : Nat → Nat → Bool) (nf j : Nat) (a : SemE) : SemE := fun s => (a s).bind fun d s => match d with
  | .exc c fs xs => if (inE E c && decide (j < nf) && fs.all fun i => decide (i < nf)) = true then (match fldAt j fs xs with
    | some v => .ok v s
    | none => .bad) else .bad
  | d => fldE p noat nf j (conE d) s
theorem pe_fldX {j : Nat} {e : Expr} {fe : SemE} {x : Str} {pos : Pos} (hK : X.K = p.K) (kf : FldOk p noat nf) (ke : ErrOk p E nf) (hx : p.FN j = x) (he : PE X e (tE p W fe)) (hb : attributeBase e x X.env (eval e X.env) = eval e X.env) : PE X (.Attribute e x pos) (tE p W (fldX p E noat nf j fe)) := by
  refine ⟨fun pins s σ H Q I ⟨bs, r, st, R, po⟩ => ?_⟩
  refine attr_of hb (thn (he.run pins s σ H _ I (Po.bind (rel := RV p) R po)) fun u s1 ⟨v, H1, I1, rv, r1, d, st1, l1, R1, q1, po1⟩ => ?_)
  split at po1
  · rename_i c fs xs
    split at po1
    · rename_i hz
      simp only [Bool.and_eq_true] at hz
      obtain ⟨⟨hc, hj⟩, hfs⟩ := hz
      have hj := of_decide_eq_true hj
      split at po1
      · rename_i y ey
        obtain ⟨a, oe, od, rfl, J, z⟩ := exc_inst I1 R1.hp q1
        obtain rfl : u = Value.ref a := rv
        rcases z with ⟨z1, z2⟩ | ⟨vfs, ob, rfl, z3, t, mA, hr, hl⟩
        · rw [z1, z2] at ey
          cases ey
        · obtain ⟨y', hy, qy⟩ := fld_lookup kf hj hfs z3 t ey
          obtain ⟨w', hw, rw'⟩ := RelO.some_of (v := y') (o := mA x) (by rw [← hy, hx]; exact hr x)
          have xf := ke.xf c hc
          exact HandSPX.exc_get I1.kIn J (by rw [hK]; exact xf.ga) (by rw [hK]; exact xf.gg) (by rw [hK]; exact xf.exC) (PySem.W.findObj_own (by rw [hK]; exact xf.hdC) (by rw [hK, ← hx]; exact ke.nof c j hc hj) rfl (by rw [hl, hw])) (handed_of rw') ⟨y', H1, I1.tok _, rw', po1 r1 H1 y' (Rp.le.refl r1) R1 qy⟩
      · exact False.elim po1
    · exact False.elim po1
  · unfold fldE conE at po1
    simp only [Out.bind_ok] at po1
    split at po1
    · rename_i c fs xs ei
      split at po1
      · rename_i hz
        simp only [Bool.and_eq_true] at hz
        obtain ⟨⟨⟨h1, h2⟩, h3⟩, h4⟩ := hz
        have hc := of_decide_eq_true h1
        have hj := of_decide_eq_true h2
        split at po1
        · rename_i y ey
          obtain ⟨a, dx, vfs, ev, eh, en, t⟩ := insOf_ok R1.hp q1 ei
          obtain ⟨y', hu, qu⟩ := fld_lookup kf hj h4 en t ey
          subst ev
          obtain rfl : u = Value.ref a := rv
          exact getattr_ok I1 eh (by rw [hK]; exact kf.cls c hc) (by rw [hK, ← hx]; exact kf.no c j hc hj h3) (by rw [← hx]; exact hu) fun u' s2 I2 ru => ⟨y', H1, I2, ru, po1 r1 H1 y' (Rp.le.refl r1) R1 qu⟩
        · exact False.elim po1
      · exact False.elim po1
    · exact False.elim po1
end
end Den
end

-- DenOp0
section
set_option maxHeartbeats 2000000
/-! Den: operators of own classes, the machine's steps. -/
namespace Den
open PySem PySem.Calls PyProof.Rows PySem.W
section
variable {prog : Program} {w : World} {A : Around} {E : Value → Shared → Prop} {s : Shared} {K : Frag} {x C L f : Addr} {h₀ : Heap} {m : Str → Option Value} {ox : Obj} {od : Option Obj} {T : String}
/-- an instance on the left, a value of a built-in type on the right -/
theorem bin_left {op : Operator} {b : Value} {fo ro rc : Option Value} {Q : Value → Shared → Prop} (X : K.In s.heap) (I : InstAt s.heap x ox C od) (L2 : Looks (model prog w) s.heap (typeOf b) (.type T))
    (hc : selfFirst K C = true) (hs : findIn K (.ref C) (PySem.dunder op.info.2) = some (some (.ref f))) (hf : isFn K (.ref f) = true)
    (hr : findIn K (.ref C) (dunderR op.info.2) = some rc) (hp : rc = none ∨ ∃ g : Addr, rc = some (.ref g)) (h1 : findIn K (.type T) (PySem.dunder op.info.2) = some fo)
    (h2 : findIn K (.type T) (dunderR op.info.2) = some ro) (hsub : subIn K (.type T) (.ref C) = some false)
    (h : wpAny (model prog w) A (call (.ref f) [.ref x, b]) (W.CmpBack Q) E s) : wpAny (model prog w) A (binaryOp op (.ref x) b) Q E s := by
  obtain ⟨cd, rest, hcd, hm⟩ := ksp_first hc
  obtain ⟨sym, nm, hi⟩ : ∃ sym nm, op.info = (sym, nm) := ⟨_, _, rfl⟩
  rw [hi] at hs hr h1 h2
  dsimp only at hs hr h1 h2
  have one := ksp_try X I hs hf h
  cases s with
  | mk hh g d tt os =>
  have L1 : Looks (model prog w) hh (typeOf (.ref x)) (.ref C) := I.type
  have L3 : Looks (model prog w) hh (fillsNumberSlot (.ref C) nm) true := fills_K X hcd hm hs
  have L4 := ksp_fillsT (M := model prog w) X h1 h2
  have L5 : Looks (model prog w) hh (isSubtype (.type T) (.ref C)) false := looks_subIn X hsub
  have L6 : Looks (model prog w) hh (numberSlotInPython (.ref C) nm) true := ksp_inPy X hs hr hp
  have L7 : Looks (model prog w) hh (numberSlotInPython (.type T) nm) false := Looks.of_pure rfl
  have L8 : Looks (model prog w) hh (typeLookup (.type T) (dunderR nm)) ro := looks_findIn X h2
  have hne : (Value.ref C == Value.type T) = false := Bool.eq_false_iff.mpr fun q => by cases beq_iff_eq.mp q
  generalize ((fo.isSome && !isSeqSlot fo) || (ro.isSome && !isSeqSlot ro)) = rt at L4
  simp only [binaryOp, hi]
  refine wpAny_holding (wpAny_bind ?_)
  unfold binaryOp1
  refine wpAny_bind (L1.at (wpAny_bind (L2.at (wpAny_bind (L3.at ?_)))))
  simp only [hne, if_false, Bool.false_eq_true]
  cases rt
  all_goals
    ksp_lk
    refine wpAny_mono one (fun r s' z => ?_) fun _ _ e => e
    obtain ⟨v, rfl, q⟩ := z
    ksp_lk
    exact q
end
/-- an int's own word for a stranger -/
theorem add_own (i : Int) (t : Tok) (x dx C : Addr) : Meets (Builtin.«int.__add__» ⟨[.int i t, .ref x], []⟩) (fun _ R s => s.heap.get? x = some (instObj C dx) ∧ R (.ok (.ret Value.notImplemented)) s) :=
  .of_wp fun prog w A R s h => by
    cases s with
    | mk hp g d tk os =>
    obtain ⟨hl, h⟩ := h
    unfold instObj at hl
    wp_walk
    exact ⟨_, rfl, h⟩
theorem sub_own (i : Int) (t : Tok) (x dx C : Addr) : Meets (Builtin.«int.__sub__» ⟨[.int i t, .ref x], []⟩) (fun _ R s => s.heap.get? x = some (instObj C dx) ∧ R (.ok (.ret Value.notImplemented)) s) :=
  .of_wp fun prog w A R s h => by
    cases s with
    | mk hp g d tk os =>
    obtain ⟨hl, h⟩ := h
    unfold instObj at hl
    wp_walk
    exact ⟨_, rfl, h⟩
theorem mul_own (i : Int) (t : Tok) (x dx C : Addr) : Meets (Builtin.«int.__mul__» ⟨[.int i t, .ref x], []⟩) (fun _ R s => s.heap.get? x = some (instObj C dx) ∧ R (.ok (.ret Value.notImplemented)) s) :=
  .of_wp fun prog w A R s h => by
    cases s with
    | mk hp g d tk os =>
    obtain ⟨hl, h⟩ := h
    unfold instObj at hl
    wp_walk
    exact ⟨_, rfl, h⟩
section
variable {prog : Program} {w : World} {A : Around} {E : Value → Shared → Prop} {s : Shared} {K : Frag} {y dy C f g : Addr} {od : Option Obj}
/-- an int on the left, an instance on the right, whose own word it is then -/
theorem bin_right {op : Operator} {id : String} {B : Builtin} {i : Int} {t : Tok} {Q : Value → Shared → Prop} (X : K.In s.heap) (I : InstAt s.heap y (instObj C dy) C od)
    (hc : selfFirst K C = true) (hd : findIn K (.ref C) (PySem.dunder op.info.2) = some (some (.ref g)))
    (hs : findIn K (.ref C) (dunderR op.info.2) = some (some (.ref f))) (hf : isFn K (.ref f) = true) (fills : fillsNumberSlot (.type "int") op.info.2 = pure true)
    (slot : Slot "int" (PySem.dunder op.info.2) id) (entry : entryFor table id = some B) (args : argsOk id ⟨[.int i t, .ref y], []⟩)
    (meets : Meets (B ⟨[.int i t, .ref y], []⟩) (fun _ R s => s.heap.get? y = some (instObj C dy) ∧ R (.ok (.ret Value.notImplemented)) s)) (hsub : subIn K (.ref C) (.type "int") = some false)
    (h : wpAny (model prog w) A (call (.ref f) [.ref y, .int i t]) (W.CmpBack Q) E s) : wpAny (model prog w) A (binaryOp op (.int i t) (.ref y)) Q E s := by
  obtain ⟨cd, rest, hcd, hm⟩ := ksp_first hc
  obtain ⟨sym, nm, hi⟩ : ∃ sym nm, op.info = (sym, nm) := ⟨_, _, rfl⟩
  rw [hi] at hs hd fills slot
  dsimp only at hs hd fills slot
  have one := ksp_try X I hs hf h
  have two : ∀ {Q' : Option Value → Shared → Prop}, Q' none s → wpAny (model prog w) A (tryMethod (.int i t) (PySem.dunder nm) (.ref y)) Q' E s := fun {Q'} q =>
    wpAny_tryMethod_declines (typeIs_int s i t) slot (call_meets slot (typeIs_int s i t) entry args meets ⟨I.at_, rfl, q⟩)
  cases s with
  | mk hh gg d tt os =>
  have L1 : Looks (model prog w) hh (typeOf (.ref y)) (.ref C) := I.type
  have L3 : Looks (model prog w) hh (fillsNumberSlot (.ref C) nm) true := fills_K X hcd hm hd
  have L4 : Looks (model prog w) hh (fillsNumberSlot (.type "int") nm) true := Looks.of_pure fills
  have L5 : Looks (model prog w) hh (isSubtype (.ref C) (.type "int")) false := looks_subIn X hsub
  have L7 : Looks (model prog w) hh (numberSlotInPython (.type "int") nm) false := Looks.of_pure rfl
  have hne : (Value.type "int" == Value.ref C) = false := Bool.eq_false_iff.mpr fun q => by cases beq_iff_eq.mp q
  have L0 : Looks (model prog w) hh (typeOf (.int i t)) (.type "int") := Looks.of_pure rfl
  simp only [binaryOp, hi]
  refine wpAny_holding (wpAny_bind ?_)
  unfold binaryOp1
  refine wpAny_bind (L0.at (wpAny_bind (L1.at (wpAny_bind (L4.at ?_)))))
  simp only [hne, if_false, Bool.false_eq_true]
  ksp_lk
  refine two ?_
  ksp_lk
  refine wpAny_mono one (fun r s' z => ?_) fun _ _ e => e
  obtain ⟨v, rfl, q⟩ := z
  ksp_lk
  exact q
end
end Den
end

-- DenOp
section
set_option maxHeartbeats 2000000
/-! Den: operators of own classes. -/
namespace Den
open PySem PySem.Spec L2 PyProof.Rows
section
variable {P : Program} {w : World} {p : Px} {mg : Str → Option Value} {base : Heap} {k : Nat} {N : List Str} {sc : Scope} {W : WX} {X : Cx} {C : Calls} {a b : Expr} {fa fb : SemE} {pos : Pos}
/-- the classes' own words of one name, by number -/
structure Ow (P : Program) (w : World) (p : Px) (mg : Str → Option Value) (base : Heap) (l : Nat) (C : Calls) (m : Str) (tbl : Nat → Option Nat) : Prop where
  is : ∀ c i, tbl c = some i → c < p.ncls ∧ ∃ f ps dds, PySem.W.findIn p.K (.ref (p.CA c)) m = some (some (.ref f)) ∧ PySem.W.isFn p.K (.ref f) = true ∧ FnIs P w p mg base l C i f ps dds
/-- an operator of two: what is asked of the classes that have it -/
structure OpOk (P : Program) (w : World) (p : Px) (mg : Str → Option Value) (base : Heap) (l : Nat) (C : Calls) (nm : String) (tl tr : Nat → Option Nat) : Prop where
  left : Ow P w p mg base l C (PySem.dunder nm) tl
  right : Ow P w p mg base l C (dunderR nm) tr
  lft : ∀ c i, tl c = some i → PySem.W.selfFirst p.K (p.CA c) = true ∧ (∃ rc, PySem.W.findIn p.K (.ref (p.CA c)) (dunderR nm) = some rc ∧ (rc = none ∨ ∃ g : Addr, rc = some (.ref g))) ∧
    (PySem.W.subIn p.K (.type "int") (.ref (p.CA c)) = some false ∧ PySem.W.subIn p.K (.type "tuple") (.ref (p.CA c)) = some false)
  rgt : ∀ c i, tr c = some i → PySem.W.selfFirst p.K (p.CA c) = true ∧ (∃ g : Addr, PySem.W.findIn p.K (.ref (p.CA c)) (PySem.dunder nm) = some (some (.ref g))) ∧ PySem.W.subIn p.K (.ref (p.CA c)) (.type "int") = some false
  ty : (∃ fo ro, PySem.W.findIn p.K (.type "int") (PySem.dunder nm) = some fo ∧ PySem.W.findIn p.K (.type "int") (dunderR nm) = some ro) ∧ ∃ fo ro, PySem.W.findIn p.K (.type "tuple") (PySem.dunder nm) = some fo ∧ PySem.W.findIn p.K (.type "tuple") (dunderR nm) = some ro
/-- an int's word for an instance: none -/
def IntNo (nm : String) : Prop := fillsNumberSlot (.type "int") nm = pure true ∧ ∃ id B, Slot "int" (PySem.dunder nm) id ∧ entryFor table id = some B ∧ ∀ (i : Int) (t : Tok) (y C dy : Addr), argsOk id ⟨[.int i t, .ref y], []⟩ ∧
  Meets (B ⟨[.int i t, .ref y], []⟩) (fun _ R s => s.heap.get? y = some (PySem.W.instObj C dy) ∧ R (.ok (.ret Value.notImplemented)) s)
theorem intNo_add : IntNo "add" := ⟨F.fills_int_add, _, _, F.slot_int_add, F.entry_int_add, fun i t y C dy => ⟨F.args_int_add_2 _ _, add_own i t y dy C⟩⟩
theorem intNo_sub : IntNo "sub" := ⟨F.fills_int_sub, _, _, F.slot_int_sub, F.entry_int_sub, fun i t y C dy => ⟨F.args_int_sub_2 _ _, sub_own i t y dy C⟩⟩
theorem intNo_mul : IntNo "mul" := ⟨F.fills_int_mul, _, _, F.slot_int_mul, F.entry_int_mul, fun i t y C dy => ⟨F.args_int_mul_2 _ _, mul_own i t y dy C⟩⟩
/-- may stand to the right of an instance of the class c -/
def okRight (c : Nat) (e : D) (hp : List Cell) : Bool := match e with
  | .int _ => true
  | .tup _ => true
  | e => match insOf e hp with
    | some (c', _, _) => decide (c' = c)
    | none => false
/-- a op b, once both are there -/
def opC (C : Calls) (tl tr : Nat → Option Nat) (f : V2) (x y : D) (s : S) : Out D := match insOf x s.hp with
  | some (c, _, _) => match tl c with
    | some i => if okRight c y s.hp = true then (C i none [x, y] s.hp).on s else .bad
    | none => .bad
  | none => match insOf y s.hp with
    | some (c, _, _) => match x, tr c with
      | .int _, some i => (C i none [y, x] s.hp).on s
      | _, _ => .bad
    | none => (f x y s.hp).on s
theorem inst_of {pins : List (Addr × Obj)} {σ : L2.St} {H : Hp} {s : Shared} {a c dx : Addr} {fs : List (Str × V)} (I : L2.Inv X pins σ H s) (h : H a = some (.ins c dx fs)) :
    ∃ od, PySem.W.InstAt s.heap a (PySem.W.instObj c dx) c od ∧ s.heap.get? a = some (PySem.W.instObj c dx) := by
  obtain ⟨mA, J, _⟩ := ins_get I.hok h
  obtain ⟨od, J, _⟩ := J.look
  exact ⟨_, J, J.at_⟩
/-- two operands, by what comes behind them -/
theorem two_ops {core : D → D → S → Out D} {op : Value → Value → Sem Value} {pins : List (Addr × Obj)} {σ : L2.St} {H : Hp} {s : Shared} {Q : VK} (ha : PE X a (tE p W fa)) (hb : PE X b (tE p W fb)) (I : L2.Inv X pins σ H s)
    (h : tE p W (fun s => (fa s).bind fun x s => (fb s).bind fun y s => core x y s) σ H Q)
    (k : ∀ v u s2 x y H2 bs r st d e, L2.Inv X pins σ H2 s2 → RelV x v → RelV y u → Rel p bs r st σ H2 → RV p r d x → RV p r e y → Po p bs r σ W (RV p) Q (core d e st) → wpAny (model X.prog X.w) X.A (op v u) (EP X pins σ Q) X.xe s2) :
    wpAny (model X.prog X.w) X.A (eval a X.env) (fun v s₁ => wpAny (model X.prog X.w) X.A (eval b X.env) (fun u s₂ => wpAny (model X.prog X.w) X.A (op v u) (EP X pins σ Q) X.xe s₂) X.xe s₁) X.xe s := by
  refine binT (R := fun x y H2 => ∃ bs r st d e, Rel p bs r st σ H2 ∧ RV p r d x ∧ RV p r e y ∧ Po p bs r σ W (RV p) Q (core d e st)) ha hb I ?_ fun v u s2 x y H2 I2 rx ry ⟨bs, r, st, d, e, R, q1, q2, po⟩ => k v u s2 x y H2 bs r st d e I2 rx ry R q1 q2 po
  obtain ⟨bs, r, st, R, po⟩ := h
  refine tG.mono (Po.bind (rel := RV p) R po) fun x H1 ⟨r1, d, s1, l1, R1, q1, po1⟩ => ?_
  refine tG.mono (Po.bind (rel := RV p) R1 po1) fun y H2 ⟨r2', e, s2, l2, R2', q2, po2⟩ => ?_
  exact ⟨bs, r2', s2, d, e, R2', q1.mono l2, q2, po2⟩
/-- an operation on two values, by what it comes to in Den -/
def CoreR (X : Cx) (p : Px) (W : WX) (op : Value → Value → Sem Value) (core : D → D → S → Out D) : Prop := ∀ (pins : List (Addr × Obj)) (σ : L2.St) (Q : VK) (v u : Value) (s2 : Shared) (x y : V) (H2 : Hp) (bs : List Nat) (r : Rp) (st : S) (d e : D),
  L2.Inv X pins σ H2 s2 → RelV x v → RelV y u → Rel p bs r st σ H2 → RV p r d x → RV p r e y → Po p bs r σ W (RV p) Q (core d e st) → wpAny (model X.prog X.w) X.A (op v u) (EP X pins σ Q) X.xe s2
def two (core : D → D → S → Out D) (a b : SemE) : SemE := fun s => (a s).bind fun x s => (b s).bind fun y s => core x y s
theorem pe_cmpC {op : CmpOp} {core : D → D → S → Out D} (ho : CoreR X p W (compareOp op) core) (ha : PE X a (tE p W fa)) (hb : PE X b (tE p W fb)) (hm : behindInMarks op b = false) : PE X (.Compare a [op] [b] pos) (tE p W (two core fa fb)) :=
  ⟨fun pins s σ H Q I h => wpAny_Compare1 (two_ops (core := core) ha hb I h fun v u s2 x y H2 bs r st d e I2 rx ry R q1 q2 po => ho pins σ Q v u s2 x y H2 bs r st d e I2 rx ry R q1 q2 po) hm⟩
theorem pt_cmpC {op : CmpOp} {core : D → D → S → Out D} (ho : CoreR X p W (compareOp op) core) (ha : PE X a (tE p W fa)) (hb : PE X b (tE p W fb)) (hm : behindInMarks op b = false) : PT X (.Compare a [op] [b] pos) (tT p W (blT (two core fa fb))) := by
  refine ⟨fun pins s σ H Q I ⟨bs, r, st, R, po⟩ => ?_⟩
  have po' : tE p W (two core fa fb) σ H (fun x H' => ∃ z, x = .bl z ∧ Q z H') := by
    refine tG.mono (Po.bind (rel := RV p) R po) fun x H1 ⟨r1, d, s1, l1, R1, q1, po1⟩ => ?_
    cases d with
    | bl z => exact ⟨z, rv_bl.mp q1, po1 r1 H1 _ (Rp.le.refl r1) R1 rfl⟩
    | _ => exact False.elim po1
  obtain ⟨bs, r, st, R, po⟩ := po'
  refine wpAny_isTrue_Compare1 (thn (ha.run pins s σ H _ I (Po.bind (rel := RV p) R po)) fun v s1 ⟨x, H1, I1, rx, r1, d, s1', l1, R1, q1, po1⟩ => thn (hb.run pins s1 σ H1 _ I1 (Po.bind (rel := RV p) R1 po1)) fun u s2 ⟨y, H2, I2, ry, r2', e, s2', l2, R2', q2, po2⟩ =>
    thn (ho pins σ _ v u s2 x y H2 bs r2' s2' d e I2 rx ry R2' (q1.mono l2) q2 po2) fun c s3 ⟨z, H3, I3, rz, k', ez, q3⟩ => ?_) hm
  subst ez
  obtain rfl : c = Value.bool k' := rz
  exact wpAny_truthy_bool ⟨H3, I3, q3⟩
/-- a call of an own word -/
theorem run_ow {tbl : Nat → Option Nat} {m : Str} {c i : Nat} {pins : List (Addr × Obj)} {σ : L2.St} {H : Hp} {s : Shared} {Q : VK} {us : List Value} {vs : List V} {bs : List Nat} {r : Rp} {st : S} {xs : List D} (cx : Cxt P w p mg base k N sc W X) {f : Addr} {ps : List Str} {dds : List D} (F : FnIs P w p mg base k C i f ps dds)
    (I : L2.Inv X pins σ H s) (rv : Vals vs us) (R : Rel p bs r st σ H) (qs : RVs p r xs vs) (po : Po p bs r σ W (RV p) Q ((C i none xs st.hp).on st)) :
    wpAny (model X.prog X.w) X.A (call (.ref f) us) (EP X pins σ Q) X.xe s := by
  obtain ⟨fd, G, B⟩ := F.all
  exact run_callE (dds := []) cx G F.ar B .nil (fun _ => .nil) I rv R qs (by rw [List.append_nil]; exact po)
theorem cmp_of {R : Value → Shared → Prop} {z : V} {v : Value} {s' : Shared} (r : RelV z v) (h : R v s') : PySem.W.CmpBack R v s' := by
  cases v <;> first | exact h | (cases z <;> first | (cases r; done) | (obtain ⟨_, r⟩ := r; cases r))
theorem cmp_back {pins : List (Addr × Obj)} {σ : L2.St} {Q : VK} {Ar : Around} {E : Value → Shared → Prop} {s : Shared} {m : Sem Value} (h : wpAny (model X.prog X.w) Ar m (EP X pins σ Q) E s) : wpAny (model X.prog X.w) Ar m (PySem.W.CmpBack (EP X pins σ Q)) E s :=
  wpAny_mono h (fun v s' ⟨z, H', I', rz, q⟩ => cmp_of rz ⟨z, H', I', rz, q⟩) fun _ _ x => x
theorem tup_type {pins : List (Addr × Obj)} {σ : L2.St} {H : Hp} {s : Shared} {a : Addr} {vs : List V} (I : L2.Inv X pins σ H s) (h : H a = some (.tup vs)) : PySem.W.Looks (model X.prog X.w) s.heap (typeOf (.ref a)) (.type "tuple") := by
  obtain ⟨_, its, _, o, ho, hc, _⟩ := I.hok a _ h
  rw [← hc]
  exact (PySem.W.Looks.ld ho).andThen .now
theorem pe_opE {op : Operator} {tl tr : Nat → Option Nat} {f : V2} (cx : Cxt P w p mg base k N sc W X) (O : OpOk P w p mg base k C op.info.2 tl tr) (Z : IntNo op.info.2) (ho : OpR X (binaryOp op) (r2 p f)) (ha : PE X a (tE p W fa)) (hb : PE X b (tE p W fb)) :
    PE X (.BinOp a op b pos) (tE p W (two (opC C tl tr f) fa fb)) := by
  refine ⟨fun pins s σ H Q I h => ?_⟩
  refine wpAny_BinOp (two_ops (core := opC C tl tr f) ha hb I h fun v u s2 x y H2 bs r st d e I2 rx ry R q1 q2 po => ?_)
  have hK := cx.K
  obtain ⟨mF, hF⟩ := I2.fr
  unfold opC at po
  split at po
  · rename_i c fs xs ei
    split at po
    · rename_i i et
      split at po
      · rename_i hr
        obtain ⟨hc, f', ps, dds, hfi, hfn, Fi⟩ := O.left.is c i et
        obtain ⟨hsf, ⟨rc, hrc, hp⟩, hs1, hs2⟩ := O.lft c i et
        obtain ⟨A, dx, vfs, ev, eh, en, t⟩ := insOf_ok R.hp q1 ei
        subst ev
        obtain rfl : v = Value.ref A := rx
        obtain ⟨od, J, _⟩ := inst_of I2 eh
        rw [← hK] at hsf hrc hs1 hs2 hfi hfn
        have one := cmp_back (run_ow (us := [.ref A, u]) (vs := [.ref A, y]) cx Fi I2 (.cons rfl (.cons ry .nil)) R (.cons q1 (.cons q2 .nil)) po (tbl := tl) (m := "") (c := c))
        unfold okRight at hr
        split at hr
        · rename_i j
          obtain rfl := rv_int.mp q2
          obtain ⟨t, rfl⟩ : ∃ t, u = Value.int j t := ry
          obtain ⟨⟨fo, ro, h1, h2⟩, _⟩ := O.ty
          rw [← hK] at h1 h2
          exact bin_left I2.kIn J (PySem.W.Looks.of_pure rfl) hsf hfi hfn hrc hp h1 h2 hs1 one
        · rename_i ys
          obtain ⟨B, vs, rfl, g, _⟩ := rv_tupI q2
          obtain rfl : u = Value.ref B := ry
          obtain ⟨_, fo, ro, h1, h2⟩ := O.ty
          rw [← hK] at h1 h2
          exact bin_left I2.kIn J (tup_type I2 (R.hp.sub _ _ g)) hsf hfi hfn hrc hp h1 h2 hs2 one
        · split at hr
          · rename_i c' fs' xs' ei'
            have hcc : c' = c := of_decide_eq_true hr
            subst hcc
            obtain ⟨B, dy, vfs', ev', eh', en', t'⟩ := insOf_ok R.hp q2 ei'
            subst ev'
            obtain rfl : u = Value.ref B := ry
            obtain ⟨od', J', _⟩ := inst_of I2 eh'
            exact PySem.W.binop_K hF I2.ok.mod.kin J J'.type hsf hfi hfn one
          · cases hr
      · exact False.elim po
    · exact False.elim po
  · split at po
    · rename_i c fs xs ei
      split at po
      · rename_i j i et zz
        obtain ⟨hc, f', ps, dds, hfi, hfn, Fi⟩ := O.right.is c i et
        obtain ⟨hsf, ⟨g, hd⟩, hsu⟩ := O.rgt c i et
        obtain ⟨B, dy, vfs', ev', eh', en', t'⟩ := insOf_ok R.hp q2 ei
        subst ev'
        obtain rfl : u = Value.ref B := ry
        obtain rfl := rv_int.mp q1
        obtain ⟨t, rfl⟩ : ∃ t, v = Value.int j t := rx
        obtain ⟨od', J', _⟩ := inst_of I2 eh'
        rw [← hK] at hsf hd hsu hfi hfn
        obtain ⟨z1, id, Bb, z2, z3, z4⟩ := Z
        exact bin_right I2.kIn J' hsf hd hfi hfn z1 z2 z3 (z4 j t B 0 dy).1 (z4 j t B _ dy).2 hsu (cmp_back (run_ow (us := [.ref B, .int j t]) (vs := [.ref B, .int j]) cx Fi I2 (.cons rfl (.cons ⟨t, rfl⟩ .nil)) R (.cons q2 (.cons q1 .nil)) po (tbl := tr) (m := "") (c := c)))
      · exact False.elim po
    · exact ho pins s2 σ H2 x y v u Q I2 rx ry ⟨bs, r, st.hp, d, e, R.hp, q1, q2, po.vo R⟩
end
end Den
end

-- DenOp2
section
set_option maxHeartbeats 2000000
/-! Den: own words further in; minus, ==, bool. -/
namespace Den
open PySem PySem.Spec L2 PyProof.Rows
section
variable {P : Program} {w : World} {p : Px} {mg : Str → Option Value} {base : Heap} {k : Nat} {N : List Str} {sc : Scope} {W : WX} {X : Cx} {C : Calls} {a b : Expr} {fa fb : SemE} {pos : Pos}
/-- a def called further in, that raises nothing -/
theorem run_at {A : Around} {pins : List (Addr × Obj)} {σ : L2.St} {H : Hp} {s : Shared} {Q : VK} {E' : Value → Shared → Prop} {us : List Value} {vs : List V} {bs : List Nat} {r : Rp} {hp hp' : List Cell} {xs : List D} {d : D} {i j : Nat} {f : Addr} {ps : List Str} {dds : List D} (cx : Cxt P w p mg base j N sc W X) (F : FnIs P w p mg base k C i f ps dds)
    (hr : Room k A) (hA : A.frames = X.A.frames) (I : L2.Inv X pins σ H s) (rv : Vals vs us) (R : RH p bs r hp H) (qs : RVs p r xs vs) (ec : C i none xs hp = .ok d hp') (hQ : ∀ r' H' v, r.le r' → RH p bs r' hp' H' → RV p r' d v → Q v H') :
    wpAny (model X.prog X.w) A (call (.ref f) us) (EP X pins σ Q) E' s := by
  obtain ⟨fd, G, B⟩ := F.all
  have hl : vs.length = ps.length := by
    rw [← qs.length]
    by_cases h : xs.length = ps.length
    · exact h
    · rw [F.ar.1 xs _ h] at ec
      cases ec
  obtain ⟨rfl, rfl, hK, rfl, rfl, _⟩ := cx
  rw [← hK] at G B
  have hsp : spF p C i ps.length vs H Q (fun _ _ _ => False) := by
    refine ⟨hl, .inl ⟨bs, r, hp, xs, R, qs, ?_⟩⟩
    rw [ec]
    exact hQ
  have e0 : Env0 X.prog X.w X.K X.mg X.base A X.stack s H := by
    have e := I.env0
    exact ⟨by rw [hA]; exact e.frames, e.mod, e.bs, e.bsz, e.funs, e.frf, e.hok, e.bare⟩
  have hb := B s us I.kIn (by rw [List.append_nil, ← rv.length]; exact hl)
  rw [List.append_nil] at hb
  refine wpAny_call (codeAny_mono (G.run A X.stack s H ⟨us, []⟩ us vs Q _ hr e0 hb rv hsp) fun o s' z => ?_)
  cases o with
  | error e =>
    obtain ⟨_, _, _, _, _, _, _, _, _, _, _, _, no⟩ := z
    exact no.elim
  | ok fl =>
    cases fl with
    | ret u => exact I.after z
    | next => exact False.elim z
    | brk => exact False.elim z
    | cont => exact False.elim z

/-! ### - -/
def negC (C : Calls) (tn : Nat → Option Nat) (f : V1) (x : D) (s : S) : Out D := match insOf x s.hp with
  | some (c, _, _) => match tn c with
    | some i => (C i none [x] s.hp).on s
    | none => .bad
  | none => (f x s.hp).on s
def negE (C : Calls) (tn : Nat → Option Nat) (f : V1) (a : SemE) : SemE := fun s => (a s).bind fun x s => negC C tn f x s
theorem pe_negE {tn : Nat → Option Nat} {f : V1} (cx : Cxt P w p mg base k N sc W X) (O : Ow P w p mg base k C "__neg__" tn) (ho : UnR X (unaryOp .USub) (r1 p f)) (ha : PE X a (tE p W fa)) : PE X (.UnaryOp .USub a pos) (tE p W (negE C tn f fa)) := by
  refine ⟨fun pins s σ H Q I ⟨bs, r, st, R, po⟩ => UnaryOp_ (thn (ha.run pins s σ H _ I (Po.bind (rel := RV p) R po)) fun v s1 ⟨x, H1, I1, rx, r1', d, s1', l1, R1, q1, po1⟩ => ?_)⟩
  have hK := cx.K
  unfold negC at po1
  split at po1
  · rename_i c fs xs ei
    split at po1
    · rename_i i et
      obtain ⟨hc, f', ps, dds, hfi, hfn, Fi⟩ := O.is c i et
      obtain ⟨A, dx, vfs, ev, eh, en, t⟩ := insOf_ok R1.hp q1 ei
      subst ev
      obtain rfl : v = Value.ref A := rx
      obtain ⟨od, J, _⟩ := inst_of I1 eh
      obtain ⟨mF, hF⟩ := I1.fr
      rw [← hK] at hfi hfn
      exact PySem.W.ksp_neg hF I1.ok.mod.kin J hfi hfn (run_ow (us := [.ref A]) (vs := [.ref A]) (tbl := tn) (m := "") (c := c) cx Fi I1 (.cons rfl .nil) R1 (.cons q1 .nil) po1)
    · exact False.elim po1
  · exact ho pins s1 σ H1 x v Q I1 rx ⟨bs, r1', s1'.hp, d, R1.hp, q1, po1.vo R1⟩

/-! ### == -/
def eqTys : List String := ["int", "NoneType", "str", "bool", "tuple"]
structure EqOk (P : Program) (w : World) (p : Px) (mg : Str → Option Value) (base : Heap) (l : Nat) (C : Calls) (te : Nat → Option Nat) : Prop where
  own : Ow P w p mg base l C "__eq__" te
  lft : ∀ c i, te c = some i → ∀ T ∈ eqTys, PySem.W.notFirst p.K (p.CA c) (.type T) = true
def okEq (c : Nat) (e : D) (hp : List Cell) : Bool := match e with
  | .int _ => true
  | .non => true
  | .str _ => true
  | .bl _ => true
  | .tup _ => true
  | e => match insOf e hp with
    | some (c', _, _) => decide (c' = c)
    | none => false
def eqC (C : Calls) (te : Nat → Option Nat) (f : V2) (x y : D) (s : S) : Out D := match insOf x s.hp with
  | some (c, _, _) => match te c with
    | some i => if okEq c y s.hp = true then (C i none [x, y] s.hp).on s else .bad
    | none => .bad
  | none => (f x y s.hp).on s
theorem eq_core {te : Nat → Option Nat} {f : V2} (cx : Cxt P w p mg base k N sc W X) (O : EqOk P w p mg base k C te) (ho : OpR X (compareOp .Eq) (r2 p f)) : CoreR X p W (compareOp .Eq) (eqC C te f) := by
  intro pins σ Q v u s2 x y H2 bs r st d e I2 rx ry R q1 q2 po
  have hK := cx.K
  obtain ⟨mF, hF⟩ := I2.fr
  have hu := cx.room.units0
  unfold eqC at po
  split at po
  · rename_i c fs xs ei
    split at po
    · rename_i i et
      split at po
      · rename_i hr
        obtain ⟨hc, f', ps, dds, hfi, hfn, Fi⟩ := O.own.is c i et
        have hl := O.lft c i et
        obtain ⟨A, dx, vfs, ev, eh, en, t⟩ := insOf_ok R.hp q1 ei
        subst ev
        obtain rfl : v = Value.ref A := rx
        obtain ⟨od, J, _⟩ := inst_of I2 eh
        rw [← hK] at hfi hfn hl
        have one := cmp_back (run_ow (us := [.ref A, u]) (vs := [.ref A, y]) (tbl := te) (m := "") (c := c) cx Fi I2 (.cons rfl (.cons ry .nil)) R (.cons q1 (.cons q2 .nil)) po)
        have go : ∀ {tb : Value}, PySem.W.Looks (model X.prog X.w) s2.heap (typeOf u) tb → PySem.W.notFirst X.K (p.CA c) tb = true → wpAny (model X.prog X.w) X.A (compareOp .Eq (.ref A) u) (EP X pins σ Q) X.xe s2 := fun {tb} hb hn =>
          PySem.W.cmp_K (op := .Eq) (tb := tb) hu hF I2.ok.mod.kin J hb hn hfi hfn one
        unfold okEq at hr
        split at hr
        · rename_i j
          obtain rfl := rv_int.mp q2
          obtain ⟨t, rfl⟩ : ∃ t, u = Value.int j t := ry
          exact go (PySem.W.Looks.of_pure rfl) (hl "int" (by decide))
        · obtain rfl := rv_non.mp q2
          obtain rfl : u = Value.none := ry
          exact go (PySem.W.Looks.of_pure rfl) (hl "NoneType" (by decide))
        · rename_i j
          obtain rfl := rv_str.mp q2
          obtain ⟨t, rfl⟩ : ∃ t, u = Value.str j t := ry
          exact go (PySem.W.Looks.of_pure rfl) (hl "str" (by decide))
        · rename_i j
          obtain rfl := rv_bl.mp q2
          obtain rfl : u = Value.bool j := ry
          exact go (PySem.W.Looks.of_pure rfl) (hl "bool" (by decide))
        · obtain ⟨B, vs, rfl, g, _⟩ := rv_tupI q2
          obtain rfl : u = Value.ref B := ry
          exact go (tup_type I2 (R.hp.sub _ _ g)) (hl "tuple" (by decide))
        · split at hr
          · rename_i c' fs' xs' ei'
            have hcc : c' = c := of_decide_eq_true hr
            subst hcc
            obtain ⟨B, dy, vfs', ev', eh', en', t'⟩ := insOf_ok R.hp q2 ei'
            subst ev'
            obtain rfl : u = Value.ref B := ry
            obtain ⟨od', J', _⟩ := inst_of I2 eh'
            exact go J'.type (by simp [PySem.W.notFirst])
          · cases hr
      · exact False.elim po
    · exact False.elim po
  · exact ho pins s2 σ H2 x y v u Q I2 rx ry ⟨bs, r, st.hp, d, e, R.hp, q1, q2, po.vo R⟩

/-! ### bool(..) -/
abbrev VG := List D → List Cell → Option (D × List Cell)
def rG (p : Px) (g : VG) : List V → Hp → VK → Prop := fun vs H Q => ∃ bs r hp xs d hp', RH p bs r hp H ∧ RVs p r xs vs ∧ g xs hp = some (d, hp') ∧ ∀ r' H' v, r.le r' → RH p bs r' hp' H' → RV p r' d v → Q v H'
def callG (g : VG) (t : SemA) : SemE := fun s => (t s).bind fun xs s => match g xs s.hp with
  | some (d, hp) => .ok d { s with hp := hp }
  | none => .bad
theorem callG_of {g : VG} {ft : SemA} {σ : L2.St} {H : Hp} {Q : VK} (h : tE p W (callG g ft) σ H Q) : tCB (rG p g) (tA p W ft) σ H Q := by
  obtain ⟨bs, r, s, R, po⟩ := h
  refine tG.mono (Po.bind (rel := RVs p) R po) fun vs H1 ⟨r1, xs, s1, l1, R1, q1, po1⟩ => ?_
  split at po1
  · rename_i d hp eg
    exact ⟨bs, r1, s1.hp, xs, d, hp, R1.hp, q1, eg, fun r' H' v l R' q => po1 r' H' v l ⟨R', R1.env.mono l, R1.bl, R1.bk⟩ q⟩
  · exact False.elim po1
/-- bool(x) of an instance whose class has a word for it -/
def boolG (C : Calls) (tb : Nat → Option Nat) : VG := fun xs hp => match xs with
  | [.int i] => some (.bl (i != 0), hp)
  | [.bl b] => some (.bl b, hp)
  | [x] => match insOf x hp with
    | some (c, _, _) => match tb c with
      | some i => match C i none [x] hp with
        | .ok (.bl b) hp' => some (.bl b, hp')
        | _ => none
      | none => none
    | none => none
  | _ => none
theorem bool_meets {prog : Program} {w : World} {x : Addr} : MeetsIn prog w (Builtin.«bool.__new__» ⟨[.type "bool", .ref x], []⟩) (fun A R s => wpAny (model prog w) A.in1 (truthy (.ref x)) (fun b s' => R (.ok (.ret (.bool b))) s') (fun e s' => R (.error e) s') s) :=
  .of_wp fun A R s h => by
    cases s with
    | mk hp g d tk os =>
    have f1 := F.conv_sub_bool
    repeat (any_goals (first | assumption | (with_reducible refine wpAny_mono h (fun b s' z => ?_) (fun _ _ z => z)) | wp_step))
    all_goals first | exact ⟨_, rfl, z⟩ | skip
    all_goals trace_state
theorem call_boolG {tb : Nat → Option Nat} (cx : Cxt P w p mg base (k + 2) N sc W X) (O : Ow P w p mg base k C "__bool__" tb) : CallR X (.type "bool") (rG p (boolG C tb)) := by
  rintro pins s σ H vs us Q I rx ⟨bs, r, hp, xs, d, hp', R, q, eg, hQ⟩
  have hK := cx.K
  unfold boolG at eg
  split at eg
  · rename_i i
    obtain ⟨v, rfl, q1⟩ := q.one
    cases eg
    exact call_bool1 pins s σ H _ us Q I rx (.inl ⟨i, by rw [rv_int.mp q1], hQ r H _ (Rp.le.refl r) R (rv_bl.mpr rfl)⟩)
  · rename_i i
    obtain ⟨v, rfl, q1⟩ := q.one
    cases eg
    exact call_bool1 pins s σ H _ us Q I rx (.inr ⟨i, by rw [rv_bl.mp q1], hQ r H _ (Rp.le.refl r) R (rv_bl.mpr rfl)⟩)
  · rename_i x _ _
    split at eg
    · rename_i c fs xs ei
      split at eg
      · rename_i i et
        split at eg
        · rename_i b hp2 ec
          cases eg
          obtain ⟨v, rfl, q1⟩ := q.one
          obtain ⟨hc, f', ps, dds, hfi, hfn, Fi⟩ := O.is c i et
          obtain ⟨A, dx, vfs, ev, eh, en, t⟩ := insOf_ok R q1 ei
          subst ev
          obtain ⟨u, rfl, r1⟩ := vals1 rx
          obtain rfl : u = Value.ref A := r1
          obtain ⟨od, J, _⟩ := inst_of I eh
          obtain ⟨mF, hF⟩ := I.fr
          rw [← hK] at hfi hfn
          refine callType_newIn (S := fun A' R' s' => wpAny (model X.prog X.w) A'.in1 (truthy (.ref A)) (fun b s'' => R' (.ok (.ret (.bool b))) s'') (fun e s'' => R' (.error e) s'') s') F.called_bool F.newNe_bool (F.typeCall_bool_1 _) (F.newCall_bool_1 _) (fun obj => F.args_object_init_2 obj _) F.entry_bool_new bool_meets ?_
          refine PySem.W.truthy_K hF I.ok.mod.kin J hfi hfn (wpAny_mono (run_at (A := X.A.in1.in1) (us := [.ref A]) (vs := [.ref A]) (Q := fun v H' => v = .bl b ∧ Q (.bl b) H') cx Fi cx.room.in1.in1 rfl I (.cons rfl .nil) R (.cons q1 .nil) ec fun r' H' v l R' q => ?_) (fun v s' z => ?_) fun _ _ z => z)
          · exact ⟨rv_bl.mp q, hQ r' H' _ l R' (rv_bl.mpr rfl)⟩
          · obtain ⟨vv, H', I', rz, rfl, q⟩ := z
            obtain rfl : v = Value.bool b := rz
            exact ⟨rfl, .bl b, H', I', rfl, q⟩
        · cases eg
      · cases eg
    · cases eg
  · cases eg
end
end Den
end

-- DenOp3
section
set_option maxHeartbeats 4000000
/-! Den: != of two lists whose items are equal, some by their classes' own word. -/
namespace Den
open PySem PySem.Calls PyProof.Rows
open PySem.AutoSeq1 (wpAny_loadPart')
open PySem.MeetsSeq PySem.MeetsSeq2 PySem.MeetsSeq3 PySem.SeqRoads2 PySem.SeqAt
section
variable {prog : Program} {w : World} {A : Around} {R : Result → Shared → Prop}
theorem ne_turns (x y : Addr) (N : Nat) (I : Nat → Shared → Prop) (hl : GQ.ListI prog w A (fun e t => R (.error e) t) x y N I) (fin : ∀ t, I N t → R (.ok (.ret (.bool false))) t) (left : Nat) :
    ∀ i : Nat, N - i = left → i ≤ N → ∀ t, I i t →
      wpAny (model prog w) A.in1 (Builtin.«list.__eq__.loop» ⟨[.ref x, .ref y, rawInt i, rawInt 3], []⟩) (GQ.FinOf prog w A R) (fun e t' => R (.error e) t') t := by
  induction left with
  | zero =>
    intro i hk hi t h
    have ei : i = N := by omega
    obtain ⟨as, bs, ca, cb, gx, gy, za, zb, _⟩ := hl _ _ h
    have last : R (.ok (.ret (.bool false))) t := fin t (ei ▸ h)
    cases t with
    | mk hh gs dr tk os =>
    wp_walk using wpAny_loadPart' gx, wpAny_loadPart' gy
    have na : as[((i : Nat) : Int).toNat]? = none := by simp; omega
    have nb : bs[((i : Nat) : Int).toNat]? = none := by simp; omega
    rw [na, nb]
    wp_walk using wpAny_loadPart' gx, wpAny_loadPart' gy
    show R (.ok (.ret (.bool (as.size != bs.size)))) _
    rw [za, zb]
    simpa using last
  | succ left ih =>
    intro i hk hi t h
    obtain ⟨as, bs, ca, cb, gx, gy, za, zb, turn⟩ := hl _ _ h
    have la : i < as.size := by omega
    have lb : i < bs.size := by omega
    have one := turn la lb
    cases t with
    | mk hh gs dr tk os =>
    wp_walk using wpAny_loadPart' gx, wpAny_loadPart' gy
    have sa : as[((i : Nat) : Int).toNat]? = some as[i] := by simp [la]
    have sb : bs[((i : Nat) : Int).toNat]? = some bs[i] := by simp [lb]
    have up : ((i : Int) + 1) = ((i + 1 : Nat) : Int) := by omega
    rw [sa, sb]
    refine wpAny_bind (wpAny_mono one (fun r t2 q => ?_) fun _ _ x => x)
    obtain ⟨hr, q⟩ := q
    subst hr
    have more := ih (i + 1) (by omega) (by omega) t2 q
    cases t2 with
    | mk hh2 gs2 dr2 tk2 os2 =>
    wp_walk
    rw [up]
    refine ⟨plainId_quiet plain_eq_loop _, codeAny_builtin entry_eq_loop ?_⟩
    rw [Around.under_plainId plain_eq_loop _]
    exact more
theorem list_neG (x y : Addr) (N : Nat) (I : Nat → Shared → Prop) (hl : GQ.ListI prog w A (fun e t => R (.error e) t) x y N I) (fin : ∀ t, I N t → R (.ok (.ret (.bool false))) t) {t : Shared} (h : I 0 t) :
    wpAny (model prog w) A.in1 (Builtin.«list.__ne__» ⟨[.ref x, .ref y], []⟩) (GQ.FinOf prog w A R) (fun e t' => R (.error e) t') t := by
  obtain ⟨as, bs, ca, cb, gx, gy, za, zb, _⟩ := hl _ _ h
  have rec0 := ne_turns (A := A) (R := R) x y N I hl fin _ 0 rfl (Nat.zero_le _) t h
  cases t with
  | mk hh gs dr tk os =>
  have f3 := AutoSeq1.sub_list_list
  have same : ¬ (as.size != bs.size) = true := by simp [za, zb]
  wp_walk using wpAny_loadPart' gx, wpAny_loadPart' gy
  refine ⟨plainId_quiet plain_eq_loop _, codeAny_builtin entry_eq_loop ?_⟩
  rw [Around.under_plainId plain_eq_loop _]
  exact rec0
end
section
variable {prog : Program} {w : World} {A : Around} {E : Value → Shared → Prop} {s : Shared}
theorem rc_neG {x y : Addr} {N : Nat} {Q : Value → Shared → Prop} (hu : A.units < cLine) (I : Nat → Shared → Prop) (hl : GQ.ListI prog w A E x y N I) (fin : ∀ t, I N t → Q (.bool false) t) (h : I 0 s) :
    wpAny (model prog w) A (richCompare .NotEq (.ref x) (.ref y)) Q E s := by
  obtain ⟨as, bs, ca, cb, gx, gy, _, _, _⟩ := hl _ _ h
  refine wpAny_richCompare_same_room (op := .NotEq) ⟨_, gx, rfl⟩ ⟨_, gy, rfl⟩ F.slot_list_ne (GQ.call_here F.slot_list_ne ⟨_, gx, rfl⟩ F.entry_list_ne (F.args_list_ne_2 _ _) ?_) hu
  exact list_neG (R := wants (fun v t => v ≠ .notImplemented ∧ Q v t) E) x y N I hl (fun t q => ⟨(fun z => nomatch z), fin t q⟩) h
end
end Den
end

-- DenOp4
section
set_option maxHeartbeats 4000000
/-! Den: != , of lists with instances too. -/
namespace Den
open PySem PySem.Spec L2 PyProof.Rows
section
variable {P : Program} {w : World} {p : Px} {mg : Str → Option Value} {base : Heap} {k : Nat} {N : List Str} {sc : Scope} {W : WX} {X : Cx} {C : Calls} {a b : Expr} {fa fb : SemE} {pos : Pos}
def SelfEq (C : Calls) (te : Nat → Option Nat) (z : D) (hp : List Cell) : Prop := (∃ i, z = .int i) ∨ ∃ c fs zs i, insOf z hp = some (c, fs, zs) ∧ te c = some i ∧ C i none [z, z] hp = .ok (.bl true) hp
def SameL (C : Calls) (te : Nat → Option Nat) (d e : D) (hp : List Cell) : Prop := ∃ xs, lstOf d hp = some xs ∧ lstOf e hp = some xs ∧ ∀ z ∈ xs, SelfEq C te z hp
open Classical in
noncomputable def neC (C : Calls) (te : Nat → Option Nat) (x y : D) (s : S) : Out D := match eqV true x y s.hp with
  | .bad => if SameL C te x y s.hp then .ok (.bl false) s else .bad
  | o => o.on s
theorem ne_core {te : Nat → Option Nat} (cx : Cxt P w p mg base (k + 1) N sc W X) (O : EqOk P w p mg base k C te) (ho : OpR X (compareOp .NotEq) (r2 p (eqV true))) : CoreR X p W (compareOp .NotEq) (neC C te) := by
  intro pins σ Q v u s2 x y H2 bs r st d e I2 rx ry R q1 q2 po
  have hK := cx.K
  unfold neC at po
  split at po
  · rename_i ebad
    split at po
    · rename_i hs
      obtain ⟨xs, e1, e2, hz⟩ := hs
      obtain ⟨A, vs, ev, eh, t⟩ := lstOf_ok R.hp q1 e1
      obtain ⟨B, us, eu, eh2, t2⟩ := lstOf_ok R.hp q2 e2
      subst ev
      subst eu
      obtain rfl : v = Value.ref A := rx
      obtain rfl : u = Value.ref B := ry
      show wpAny (model X.prog X.w) X.A (richCompare .NotEq (.ref A) (.ref B)) (EP X pins σ Q) X.xe s2
      refine rc_neG (N := xs.length) cx.room.units0 (fun _ t => ∃ r' H', r.le r' ∧ L2.Inv X pins σ H' t ∧ RH p bs r' st.hp H') (fun i t ⟨r', H', l', I', R'⟩ => ?_) (fun t ⟨r', H', l', I', R'⟩ => ?_) ⟨r, H2, Rp.le.refl r, I2, R.hp⟩
      · obtain ⟨A', vs', ev', eh', t'⟩ := lstOf_ok R' (q1.mono l') e1
        obtain ⟨B', us', eu', eh2', t2'⟩ := lstOf_ok R' (q2.mono l') e2
        cases ev'
        cases eu'
        obtain ⟨_, its, k1, rv1, g1⟩ := I'.hok A _ eh'
        obtain ⟨_, its2, k2, rv2, g2⟩ := I'.hok B _ eh2'
        have n1 : its.toArray.size = xs.length := by rw [List.size_toArray, ← rv1.length, ← t'.length]
        have n2 : its2.toArray.size = xs.length := by rw [List.size_toArray, ← rv2.length, ← t2'.length]
        refine ⟨its.toArray, its2.toArray, k1, k2, g1, g2, n1, n2, fun h1 h2 => ?_⟩
        have hx : i < xs.length := by rw [← n1]; exact h1
        have ez := List.getElem?_eq_getElem hx
        obtain ⟨v1, ev1, qv1⟩ := t'.get ez
        obtain ⟨u1, eu1, qu1⟩ := t2'.get ez
        obtain ⟨w1, ew1, rw1⟩ := rv1.get ev1
        obtain ⟨w2, ew2, rw2⟩ := rv2.get eu1
        have y1 : its.toArray[i] = w1 := by
          have : its[i]? = some its.toArray[i] := by simp
          rw [this] at ew1
          exact Option.some.inj ew1
        have y2 : its2.toArray[i] = w2 := by
          have : its2[i]? = some its2.toArray[i] := by simp
          rw [this] at ew2
          exact Option.some.inj ew2
        rw [y1, y2]
        have keep : ∃ r' H', r.le r' ∧ L2.Inv X pins σ H' t ∧ RH p bs r' st.hp H' := ⟨r', H', l', I', R'⟩
        rcases hz _ (List.getElem_mem hx) with ⟨j, ej⟩ | ⟨c, fs, zs, ix, ei, et, ec⟩
        · rw [ej] at qv1 qu1
          obtain rfl := rv_int.mp qv1
          obtain rfl := rv_int.mp qu1
          obtain ⟨t1, rfl⟩ : ∃ t, w1 = Value.int j t := rw1
          obtain ⟨t2, rfl⟩ : ∃ t, w2 = Value.int j t := rw2
          refine wpAny_eqBool_int ?_
          exact ⟨by simp, keep⟩
        · obtain ⟨A1, dx, vfs, z1, z2, _⟩ := insOf_ok R' qv1 ei
          obtain ⟨B1, dy, vfs', z1', z2', _⟩ := insOf_ok R' qu1 ei
          subst z1
          subst z1'
          obtain rfl : w1 = Value.ref A1 := rw1
          obtain rfl : w2 = Value.ref B1 := rw2
          by_cases hab : A1 = B1
          · subst hab
            exact SeqAt.EqAt.same (A := X.A.in1) (s := t) (.ref A1) X.prog X.w X.xe _ ⟨rfl, keep⟩
          · obtain ⟨hc, f', ps, dds, hfi, hfn, Fi⟩ := O.own.is c ix et
            obtain ⟨od, J, _⟩ := inst_of I' z2
            obtain ⟨od', J', _⟩ := inst_of I' z2'
            obtain ⟨mF, hF⟩ := I'.fr
            rw [← hK] at hfi hfn
            refine GQ.eqBool_refG hab (PySem.W.cmp_K (op := .Eq) (tb := .ref (p.CA c)) cx.room.in1.units0 hF I'.ok.mod.kin J J'.type (by simp [PySem.W.notFirst]) hfi hfn (wpAny_mono (run_at (A := X.A.in1) (us := [.ref A1, .ref B1]) (vs := [.ref A1, .ref B1]) (Q := fun v H' => v = .bl true ∧ ∃ r2, r'.le r2 ∧ RH p bs r2 st.hp H') cx Fi cx.room.in1 rfl I' (.cons rfl (.cons rfl .nil)) R' (.cons qv1 (.cons qu1 .nil)) ec fun r2 H' v l2 R2 q => ⟨rv_bl.mp q, r2, l2, R2⟩) (fun v s' z => ?_) fun _ _ z => z))
            obtain ⟨vv, H3, I3, rz, rfl, r2, l2, R2⟩ := z
            obtain rfl : v = Value.bool true := rz
            exact ⟨true, rfl, rfl, r2, H3, l'.trans l2, I3, R2⟩
      · exact ⟨.bl false, H', I', rfl, po r' H' _ l' ⟨R', R.env.mono l', R.bl, R.bk⟩ (rv_bl.mpr rfl)⟩
    · exact False.elim po
  · exact ho pins s2 σ H2 x y v u Q I2 rx ry ⟨bs, r, st.hp, d, e, R.hp, q1, q2, po.vo R⟩
end
end Den
end

-- DenOp5
section
set_option maxHeartbeats 4000000
/-! Den: o.f as a target; bit_length; f'..'. -/
namespace Den
open PySem PySem.Spec L2 PyProof.Rows
section
variable {X : Cx} {p : Px} {W : WX} {bs : List Nat} {r : Rp} {H : Hp}
def fldG (p : Px) (noat : Nat → Nat → Bool) (nf j : Nat) (o : SemE) : SemG := fun y s => (o s).bind fun d s => match d with
  | .ref n => match s.hp[n]? with
    | some (.ins c fs xs) => if (decide (c < p.ncls) && decide (j < nf) && noat c j && (fs.all fun i => decide (i < nf)) && decide (fs.length < 900) && decide (s.base ≤ n)) = true then
        .ok () { s with hp := s.hp.set n (.ins c (fldPut j y fs xs).1 (fldPut j y fs xs).2) } else .bad
    | _ => .bad
  | _ => .bad
theorem pg_fldG {noat : Nat → Nat → Bool} {nf j : Nat} {o : Expr} {fo : SemE} {x : Str} {pos : Pos} (hK : X.K = p.K) (kf : FldOk p noat nf) (hx : p.FN j = x) (ho : PE X o (tE p W fo)) : PG X (.Attribute o x pos) (tT1 p W (fldG p noat nf j fo)) := by
  refine ⟨fun pins s σ H v u Q I rv ⟨bs, r, st, y, R, q, po⟩ => ?_⟩
  show wpAny (model X.prog X.w) X.A (do
    let ov ← holding [u] (eval o X.env)
    standAt pos.atName
    holding [u, ov] (setAttr ov x u)
    release [u, ov] []) _ X.xe s
  refine wpAny_bind (wpAny_holding (thn (ho.run pins s σ H _ I (tG.toG R po True.intro)) fun ov s2 ⟨w2, H2, I2, rw2, r2, d, s2', l2, R2, q2, po2⟩ => ?_))
  cases d with
  | ref n =>
    dsimp only at po2
    split at po2
    · rename_i c fs xs ec
      split at po2
      · rename_i hz
        simp only [Bool.and_eq_true] at hz
        obtain ⟨⟨⟨⟨⟨h1, h2⟩, h3⟩, h4⟩, h5⟩, h6⟩ := hz
        have hc := of_decide_eq_true h1
        have hj := of_decide_eq_true h2
        have h5' := of_decide_eq_true h5
        have h6' := of_decide_eq_true h6
        obtain ⟨a, ev, ea, dx, vfs, eh, en, t⟩ := R2.hp.cellAt ec q2
        have hlen : vfs.length = fs.length := by have := congrArg List.length en; simpa using this
        subst ev
        obtain rfl : ov = Value.ref a := rw2
        obtain ⟨g1, g2⟩ := fldPut_ok kf hj (q.mono l2) h4 en t
        have hn : n < s2'.hp.length := (List.getElem?_eq_some_iff.mp ec).1
        refine wpAny_bind (wpAny_standAt (wpAny_bind (wpAny_holding (setattr_ok I2 eh (by rw [hK]; exact kf.cls c hc) (by rw [hK, ← hx]; exact kf.no c j hc hj h3) (by omega) rv fun s3 I3 => ?_))))
        refine wpAny_release ⟨σ, _, I3, ?_⟩
        rw [← hx]
        refine po2 r2 σ _ (Rp.le.refl r2) ⟨R2.hp.put ea hn (fun H' e => ⟨dx, _, e, g1, g2⟩) fun b hb hnb => ?_, R2.env, R2.bl, R2.bk⟩
        have := R2.bl b hb
        omega
      · exact False.elim po2
    · exact False.elim po2
  | _ => exact False.elim po2
/-! ### bit_length -/
def bitsE (a : SemE) : SemE := fun s => (a s).bind fun d s => match d with
  | .int i => .ok (.int (Builtin.Int.intBits i : Nat)) s
  | _ => .bad
theorem pe_bitsE {o : Expr} {fo : SemE} {apos pos : Pos} (h : PE X (.Call (.Attribute o "bit_length" apos) [] [] pos) (tBits (tE p W fo))) : PE X (.Call (.Attribute o "bit_length" apos) [] [] pos) (tE p W (bitsE fo)) :=
  PE.by h fun σ H Q ⟨bs, r, s, R, po⟩ => tG.mono (Po.bind (rel := RV p) R po) fun x H1 ⟨r1, d, s1, l1, R1, q1, po1⟩ => by
    cases d with
    | int i => exact ⟨i, rv_int.mp q1, po1 r1 H1 _ (Rp.le.refl r1) R1 (rv_int.mpr rfl)⟩
    | _ => exact False.elim po1
/-! ### f'..' -/
def fmtE (a : SemE) : SemE := fun s => (a s).bind fun d s => match d with
  | .str y => if y.length ≤ sizeLine then .ok (.str y) s else .bad
  | .int i => if i.natAbs.log2 < 1920 then .ok (.str (toString i)) s else .bad
  | _ => .bad
theorem pe_fmtE {e : Expr} {fe : SemE} {pos : Pos} (he : PE X e (tE p W fe)) : PE X (.FormattedValue e (-1) none pos) (tE p W (fmtE fe)) :=
  PE.by (pe_fmt he) fun σ H Q ⟨bs, r, s, R, po⟩ => tG.mono (Po.bind (rel := RV p) R po) fun x H1 ⟨r1, d, s1, l1, R1, q1, po1⟩ => by
    cases d with
    | str y =>
      dsimp only at po1
      split at po1
      · rename_i hz
        exact .inl ⟨y, rv_str.mp q1, hz, po1 r1 H1 _ (Rp.le.refl r1) R1 (rv_str.mpr rfl)⟩
      · exact False.elim po1
    | int i =>
      dsimp only at po1
      split at po1
      · rename_i hz
        exact .inr ⟨i, rv_int.mp q1, hz, po1 r1 H1 _ (Rp.le.refl r1) R1 (rv_str.mpr rfl)⟩
      · exact False.elim po1
    | _ => exact False.elim po1
def joinL : List SemE → Str → SemE
  | [], acc => fun s => .ok (.str acc) s
  | t :: ts, acc => fun s => (t s).bind fun d s => match d with
    | .str y => if (acc ++ y).length ≤ sizeLine then joinL ts (acc ++ y) s else .bad
    | _ => .bad
def joinE (ts : List SemE) : SemE := joinL ts Str.empty
theorem join_of {σ : L2.St} {Q : VK} : ∀ {ts : List SemE} {acc : Str} {H : Hp}, tE p W (joinL ts acc) σ H Q → tJs (ts.map (tE p W)) acc σ H (fun out H1 => Q (.str out) H1)
  | [], acc, H, ⟨bs, r, s, R, po⟩ => po r H _ (Rp.le.refl r) R (rv_str.mpr rfl)
  | t :: ts, acc, H, ⟨bs, r, s, R, po⟩ => tG.mono (Po.bind (rel := RV p) R po) fun x H1 ⟨r1, d, s1, l1, R1, q1, po1⟩ => by
    cases d with
    | str y =>
      dsimp only at po1
      split at po1
      · rename_i hz
        exact ⟨y, rv_str.mp q1, hz, join_of ⟨bs, r1, s1, R1, po1⟩⟩
      · exact False.elim po1
    | _ => exact False.elim po1
theorem pe_joinE {v1 v2 : Expr} {rest : List Expr} {fs : List SemE} {pos : Pos} (h : PJ X (v1 :: v2 :: rest) (fs.map (tE p W))) : PE X (.JoinedStr (v1 :: v2 :: rest) pos) (tE p W (joinE fs)) :=
  PE.by (pe_joined h) fun σ H Q q => join_of q
end
end Den
end

-- DenQ
section
set_option maxHeartbeats 2000000
/-! Den: from the syntax to Den, expressions. -/
namespace Den
open PySem PySem.Spec L2 PyProof.Rows

/-! ### what a program is to it -/
/-- a global name: a class, a def, a built-in (by its row here), a function of an imported module -/
inductive Gk where
  | cls (c : Nat) | fn (i : Nat) | blt (n : Nat) | imp (n : Nat)
  deriving DecidableEq
structure Pg where
  glo : List (Str × Gk)
  dds : Nat → List D
  arity : Nat → Nat
  ini : Nat → Option Nat
  exc : Nat → Option (List Nat)
  flds : List Str
  noat : Nat → Nat → Bool
  E : Nat × Nat
  sub : Nat → Nat → Bool
  meth : List (Str × (Nat → Option Nat))
  prop : List (Str × (Nat → Option Nat))
  stat : Nat → Str → Option Nat
  own : List (Str × (Nat → Option Nat))
  fuel : Nat
/-- the classes' own words of a name -/
def Pg.ow (g : Pg) (m : Str) : Nat → Option Nat := match g.own.lookup m with
  | some t => t
  | none => fun _ => none
def bltName : Nat → Str
  | 0 => "len" | 1 => "abs" | 2 => "max" | 3 => "min" | 4 => "sum" | 5 => "any" | 6 => "all" | 7 => "int" | 8 => "bool" | 9 => "str" | 10 => "list" | 11 => "tuple" | 12 => "sorted" | 13 => "isinstance" | 14 => "range" | 15 => "ValueError" | _ => "range"
def impId : Nat → String
  | _ => "math.gcd"
def bltV (p : Px) (E : Nat × Nat) : Nat → Option VA
  | 0 => some lenV | 1 => some absV | 2 => some maxV | 3 => some minV | 4 => some sumV | 5 => some anyV | 6 => some allV | 7 => some intV | 8 => some boolV | 9 => some strV | 10 => some listV | 11 => some tupleV | 12 => some sortedV | 13 => some (isaX p E)
  | _ => none
/-- a built-in type as a value -/
def bltT : Nat → Option Nat
  | 7 => some 2 | 8 => some 1 | 9 => some 3 | 10 => some 4 | 11 => some 5 | 15 => some 7
  | _ => none
def binV : Operator → Option V2
  | .Add => some addV | .Sub => some subV | .Mult => some mulV | .FloorDiv => some fdivV | .Mod => some modV | .Pow => some powV
  | _ => none
def cmpV : CmpOp → Option V2
  | .Eq => some (eqV false) | .NotEq => some (eqV true) | .Lt => some (ordV fun i j => decide (i < j)) | .LtE => some (ordV fun i j => decide (i ≤ j)) | .Gt => some (ordV fun i j => decide (j < i)) | .GtE => some (ordV fun i j => decide (j ≤ i))
  | .Is => some (isNV false) | .IsNot => some (isNV true)
  | _ => none
def lstM (m : Str) : Option VM := if m = "append" then some appendM else if m = "pop" then some popM else if m = "reverse" then some reverseM else if m = "insert" then some insertM else none

/-! ### names -/
def ixOf : List Str → Str → Option Nat
  | [], _ => none
  | y :: ys, x => if y = x then some 0 else match ixOf ys x with
    | some i => some (i + 1)
    | none => none
theorem ixOf_ok : ∀ {N : List Str} {x : Str} {i : Nat}, ixOf N x = some i → N[i]? = some x
  | [], x, i, h => by cases h
  | y :: ys, x, i, h => by
    unfold ixOf at h
    split at h
    · rename_i e
      have : i = 0 := (Option.some.inj h).symm
      subst this
      rw [e] <;> rfl
    · split at h
      · rename_i j ej
        have : i = j + 1 := (Option.some.inj h).symm
        subst this
        rw [List.getElem?_cons_succ]
        exact ixOf_ok ej
      · cases h
def kindIn (sc : Scope) (x : Str) : Option NameKind := sc.names.lookup x
def isVis (sc : Scope) (x : Str) : Bool := match sc.names.lookup x with
  | some .local => true
  | some .cell => true
  | some .free => true
  | _ => false
def isLoc (sc : Scope) (x : Str) : Bool := match sc.names.lookup x with
  | some .local => true
  | some .cell => true
  | _ => false
def isGlo (sc : Scope) (x : Str) : Bool := match sc.names.lookup x with
  | some .globalImplicit => true
  | _ => false
def okN (x : Str) : Bool := decide ((x == ("__debug__" : Str)) = false) && decide ((x == ("__classdict__" : Str)) = false)
theorem okN_ok {x : Str} (h : okN x = true) : (x == ("__debug__" : Str)) = false ∧ (x == ("__classdict__" : Str)) = false := by
  obtain ⟨h1, h2⟩ := Bool.and_eq_true_iff.mp h
  exact ⟨of_decide_eq_true h1, of_decide_eq_true h2⟩
theorem isVis_ok {sc : Scope} {x : Str} (h : isVis sc x = true) : Vis sc x := by
  unfold isVis at h
  split at h
  · rename_i e; exact .inl e
  · rename_i e; exact .inr (.inl e)
  · rename_i e; exact .inr (.inr e)
  · cases h
theorem isLoc_ok {sc : Scope} {x : Str} (h : isLoc sc x = true) : Loc sc x := by
  unfold isLoc at h
  split at h
  · rename_i e; exact .inl e
  · rename_i e; exact .inr e
  · cases h
theorem isGlo_ok {sc : Scope} {x : Str} (h : isGlo sc x = true) : sc.names.lookup x = some .globalImplicit := by
  unfold isGlo at h
  split at h
  · rename_i e; exact e
  · cases h

/-! ### expressions -/
def badE : SemE := fun _ => .bad
def badT : SemT := fun _ => .bad
def badA : SemA := fun _ => .bad
def badI : SemI := fun _ => .bad
def badO : SemO := fun _ => .bad
/-- one fuel less -/
structure Sems where
  e : Scope → Expr → SemE
  t : Scope → Expr → SemT
def stA (r : Sems) (sc : Scope) : List Expr → SemA
  | [] => nilA
  | e :: es => if plainE e = true then consA (r.e sc e) (stA r sc es) else badA
def boolE' (r : Sems) (sc : Scope) (op : BoolOp) : List Expr → SemE
  | [] => badE
  | [a] => r.e sc a
  | a :: b :: l => match op with
    | .And => andE (r.e sc a) (boolE' r sc op (b :: l))
    | .Or => orE (r.e sc a) (boolE' r sc op (b :: l))
def boolT' (r : Sems) (sc : Scope) (op : BoolOp) : List Expr → SemT
  | [] => badT
  | [a] => r.t sc a
  | a :: b :: l => match op with
    | .And => andT (r.t sc a) (boolT' r sc op (b :: l))
    | .Or => orT (r.t sc a) (boolT' r sc op (b :: l))
def stO (r : Sems) (sc : Scope) : Option Expr → SemO
  | none => noO
  | some e => someO (r.e sc e)
def stName (g : Pg) (N : List Str) (sc : Scope) (x : Str) : SemE :=
  if okN x = true then (if isVis sc x = true then (match ixOf N x with
    | some i => varE i
    | none => badE) else if isGlo sc x = true then (match g.glo.lookup x with
    | some (.cls c) => conE (.cls c)
    | some (.blt n) => (match bltT n with
      | some t => conE (.ty t)
      | none => badE)
    | _ => badE) else badE) else badE
def rest (g : Pg) (i a : Nat) : List D := (g.dds i).drop ((g.dds i).length + a - g.arity i)
/-- C(..), C an exception's class -/
def stExc (g : Pg) (c : Nat) (args : List Expr) (t : SemA) : SemE := match g.exc c with
  | some fs => (match args with
    | [] => (match fs with
      | [] => exc0E c
      | _ => badE)
    | _ :: _ => (match fs with
      | [] => badE
      | fs => excE c fs t))
  | none => badE
def stCall (p : Px) (g : Pg) (C : Calls) (r : Sems) (sc : Scope) (x : Str) (args : List Expr) : SemE :=
  if (okN x && isGlo sc x && args.all plainE) = true then (match g.glo.lookup x with
    | some (.fn i) => if args.length ≤ g.arity i then callE C i (rest g i args.length) (stA r sc args) else badE
    | some (.cls c) => (match g.ini c, args with
      | some i, _ :: _ => if args.length + 1 ≤ g.arity i then makeE C i c (rest g i (args.length + 1)) (stA r sc args) else badE
      | some _, [] => badE
      | none, as => stExc g c as (stA r sc args))
    | some (.blt n) => if (n == 8 && !g.own.isEmpty) = true then (match args with
      | [a] => callG (boolG C (g.ow "__bool__")) (stA r sc [a])
      | _ => badE) else (match bltV p g.E n, args with
      | some f, _ :: _ => callV f (stA r sc args)
      | _, _ => badE)
    | some (.imp _) => (match args with
      | _ :: _ => callV gcdV (stA r sc args)
      | [] => badE)
    | none => badE) else badE
/-- C.m(..): the class that the name is -/
def clsNamed (g : Pg) (sc : Scope) : Expr → Option Nat
  | .Name x _ => if (okN x && isGlo sc x) = true then (match g.glo.lookup x with
    | some (.cls c) => some c
    | _ => none) else none
  | _ => none
def stMeth (g : Pg) (C : Calls) (r : Sems) (sc : Scope) (o : Expr) (m : Str) (args : List Expr) (line : Bool) : SemE :=
  if (plainBase o && args.all plainE && decide (args.length < 29) && line) = true then (match clsNamed g sc o with
    | some c => (match g.stat c m, args with
      | some i, _ :: _ => smE C i (stA r sc args)
      | _, _ => badE)
    | none => (match g.meth.lookup m with
      | some t => mthE C t g.flds.length (r.e sc o) (stA r sc args)
      | none => (match lstM m with
        | some f => mthL f (r.e sc o) (stA r sc args)
        | none => (match args with
          | [] => if m = "bit_length" then bitsE (r.e sc o) else badE
          | _ => badE)))) else badE
def ownNm : Operator → Option String
  | .Add => some "add" | .Sub => some "sub" | .Mult => some "mul"
  | _ => none
def stBin (g : Pg) (C : Calls) (r : Sems) (sc : Scope) (a : Expr) (op : Operator) (b : Expr) : SemE := match binV op with
  | some f => (match ownNm op with
    | some nm => if g.own.isEmpty = true then bin f (r.e sc a) (r.e sc b) else two (opC C (g.ow (PySem.dunder nm)) (g.ow (dunderR nm)) f) (r.e sc a) (r.e sc b)
    | none => bin f (r.e sc a) (r.e sc b))
  | none => badE
/-- a comparison that a class may have its own word for -/
noncomputable def ownCmp (g : Pg) (C : Calls) : CmpOp → Option (D → D → S → Out D)
  | .Eq => some (eqC C (g.ow "__eq__") (eqV false))
  | .NotEq => some (neC C (g.ow "__eq__"))
  | _ => none
noncomputable def stCmp1 (g : Pg) (C : Calls) (op : CmpOp) (a b : SemE) : SemE := match cmpV op with
  | some f => if g.own.isEmpty = true then bin f a b else (match ownCmp g C op with
    | some core => two core a b
    | none => bin f a b)
  | none => badE
noncomputable def stCmp (g : Pg) (C : Calls) (r : Sems) (sc : Scope) (a : Expr) (ops : List CmpOp) (bs : List Expr) : SemE := match ops, bs with
  | [op], [b] => if plainSet b = true then stCmp1 g C op (r.e sc a) (r.e sc b) else badE
  | [op, op'], [b, c] => if plainSet c = true then (match cmpV op, cmpV op' with
    | some f, some f' => chainE f f' (r.e sc a) (r.e sc b) (r.e sc c)
    | _, _ => badE) else badE
  | _, _ => badE
noncomputable def stE (p : Px) (g : Pg) (C : Calls) (N : List Str) (r : Sems) (sc : Scope) : Expr → SemE
  | .Name x _ => stName g N sc x
  | .Constant c _ _ => match c with
    | .none => conE .non
    | .bool b => conE (.bl b)
    | .int i => conE (.int i)
    | .str x => conE (.str x)
    | _ => badE
  | .Tuple es _ _ => tupE (stA r sc es)
  | .List es _ => lstE (stA r sc es)
  | .BinOp a op b _ => stBin g C r sc a op b
  | .JoinedStr es _ => (match es with
    | a :: b :: l => joinE ((a :: b :: l).map (r.e sc))
    | _ => badE)
  | .FormattedValue e c f _ => (match f with
    | none => if c = -1 then fmtE (r.e sc e) else badE
    | some _ => badE)
  | .UnaryOp op a _ => match op with
    | .USub => if g.own.isEmpty = true then un negV (r.e sc a) else negE C (g.ow "__neg__") negV (r.e sc a)
    | .Not => notE (r.e sc a)
    | _ => badE
  | .BoolOp op vs _ => boolE' r sc op vs
  | .IfExp c a b _ => ifE (r.t sc c) (r.e sc a) (r.e sc b)
  | .Compare a ops bs _ => stCmp g C r sc a ops bs
  | .Subscript a i _ => match i with
    | .Slice lo hi st _ => (match st with
      | none => sliE (r.e sc a) (stO r sc lo) (stO r sc hi)
      | some _ => badE)
    | i => if plainIx i = true then bin ixV (r.e sc a) (r.e sc i) else badE
  | .Attribute o f _ => if plainBase o = true then (match g.prop.lookup f with
    | some t => prpE C t (r.e sc o)
    | none => (match ixOf g.flds f with
      | some j => fldX p g.E g.noat g.flds.length j (r.e sc o)
      | none => badE)) else badE
  | .Call f args kws pos => match kws with
    | [] => (match f with
      | .Name x _ => stCall p g C r sc x args
      | .Attribute o m apos => stMeth g C r sc o m args (apos.endLine == pos.line)
      | _ => badE)
    | _ => badE
  | _ => badE
noncomputable def stT (g : Pg) (C : Calls) (N : List Str) (r : Sems) (sc : Scope) : Expr → SemT
  | .UnaryOp op a _ => match op with
    | .Not => notT (r.t sc a)
    | _ => badT
  | .BoolOp op vs _ => boolT' r sc op vs
  | .IfExp _ _ _ _ => badT
  | .Compare a ops bs _ => blT (stCmp g C r sc a ops bs)
  | e => if plainTest e = true then truE truth (r.e sc e) else badT

/-! ### it is right -/
section
variable {P : Program} {w : World} {p : Px} {mg : Str → Option Value} {base : Heap} {l : Nat} {N : List Str} {sc : Scope} {W : WX} {X : Cx} {C : Calls} {g : Pg} {r : Sems}
def GkOk (P : Program) (w : World) (p : Px) (mg : Str → Option Value) (base : Heap) (l : Nat) (C : Calls) (g : Pg) (x : Str) : Gk → Prop
  | .cls c => mg x = some (.ref (p.CA c))
  | .fn i => ∃ f ps, mg x = some (.ref f) ∧ FnIs P w p mg base l C i f ps (g.dds i) ∧ ps.length = g.arity i
  | .blt n => mg x = none ∧ x = bltName n
  | .imp n => mg x = some (.builtin (impId n))
/-- raising an exception of the class c, whose fields fs are stored by its own __init__ -/
structure RaiseOk (P : Program) (w : World) (p : Px) (mg : Str → Option Value) (base : Heap) (l : Nat) (c : Nat) (fs : List Nat) : Prop where
  own : fs ≠ [] → OexC p.K (p.CA c) ∧ (∀ j ∈ fs, PySem.W.findIn p.K (.ref (p.CA c)) (p.FN j) = some none) ∧ fs.length ≤ 900 ∧ ∃ fI fd ps, PySem.W.findIn p.K (.ref (p.CA c)) "__init__" = some (some (.ref fI)) ∧ PySem.W.typeIn p.K (.ref fI) = some (.type "function") ∧
    FnOk P w p.K mg base (L2.CX P w) l fI fd ps (spX p.K (fs.map p.FN)) ∧ Binds p.K fd ps []
  no : fs = [] → ∃ bmB B newId initId, ExcBaseFacts B newId initId bmB ∧ PySem.W.excIn p.K (p.CA c) bmB newId = true ∧ PySem.W.keepIn p.K (.ref (p.CA c)) = true ∧ PySem.W.subIn p.K (.ref (p.CA c)) (.type "BaseException") = some true ∧ PySem.W.typeIn p.K (.ref (p.CA c)) = some (.type "type")
/-- the classes' own words, all of them -/
structure OwnAll (P : Program) (w : World) (p : Px) (mg : Str → Option Value) (base : Heap) (l : Nat) (C : Calls) (ow : Str → Nat → Option Nat) : Prop where
  op : ∀ nm, nm = "add" ∨ nm = "sub" ∨ nm = "mul" → OpOk P w p mg base l C nm (ow (PySem.dunder nm)) (ow (dunderR nm))
  neg : Ow P w p mg base l C "__neg__" (ow "__neg__")
  eq : EqOk P w p mg base l C (ow "__eq__")
  bool : Ow P w p mg base l C "__bool__" (ow "__bool__")
structure GFacts (P : Program) (w : World) (p : Px) (mg : Str → Option Value) (base : Heap) (l : Nat) (C : Calls) (g : Pg) : Prop where
  glo : ∀ x k, g.glo.lookup x = some k → GkOk P w p mg base l C g x k
  ini : ∀ c i, g.ini c = some i → ∃ fI ps, Mk p.K (p.CA c) fI ∧ FnIs P w p mg base l C i fI ps (g.dds i) ∧ ps.length = g.arity i
  exc : ∀ c fs, g.exc c = some fs → RaiseOk P w p mg base l c fs
  fld : FldOk p g.noat g.flds.length
  fn : ∀ j x, g.flds[j]? = some x → p.FN j = x
  kit : KitOk p
  err : ErrOk p g.E g.flds.length
  ve : ∀ c, inE g.E c = true → PySem.W.kitOne p.K (.ref (p.CA c)) (.type "ValueError") = some true
  sub : p.sub = g.sub
  meth : ∀ m t, g.meth.lookup m = some t → MthOk P w p mg base l C m t g.flds.length
  prop : ∀ m t, g.prop.lookup m = some t → PrpOk P w p mg base l C m t
  stat : ∀ c m i, g.stat c m = some i → ∃ f ps dds, FnIs P w p mg base l C i f ps dds ∧ SMet p.K (p.CA c) m f
  own : g.own.isEmpty = true ∨ OwnAll P w p mg base l C g.ow
theorem pe_bad {e : Expr} : PE X e (tE p W badE) := ⟨fun _ _ _ _ _ _ ⟨_, _, _, _, po⟩ => False.elim po⟩
theorem pt_bad {e : Expr} : PT X e (tT p W badT) := ⟨fun _ _ _ _ _ _ ⟨_, _, _, _, po⟩ => False.elim po⟩
theorem pw_bad {e : Expr} : PW X e (tT p W badT) := ⟨fun _ _ _ _ _ _ _ ⟨_, _, _, _, po⟩ => False.elim po⟩
theorem pa_bad {es : List Expr} : PA X es (tA p W badA) := ⟨fun _ _ _ _ _ _ _ ⟨_, _, _, _, po⟩ => False.elim po⟩
/-- what one fuel less is right about -/
structure SoundE (P : Program) (w : World) (p : Px) (mg : Str → Option Value) (base : Heap) (l : Nat) (N : List Str) (r : Sems) : Prop where
  e : ∀ sc W X, Cxt P w p mg base (l + 4) N sc W X → ∀ e, PE X e (tE p W (r.e sc e))
  t : ∀ sc W X, Cxt P w p mg base (l + 4) N sc W X → ∀ e, PT X e (tT p W (r.t sc e))
section
variable (h : SoundE P w p mg base l N r) (cx : Cxt P w p mg base (l + 4) N sc W X) (G : GFacts P w p mg base l C g)
include h cx
theorem stA_ok : ∀ es : List Expr, PA X es (tA p W (stA r sc es))
  | [] => pa_nilA
  | e :: es => by
    unfold stA
    split
    · rename_i hp
      exact pa_consA (h.e sc W X cx e) (stA_ok es) (starEach_plain hp)
    · exact pa_bad
theorem boolE_ok {op : BoolOp} {pos : Pos} : ∀ vs : List Expr, PE X (.BoolOp op vs pos) (tE p W (boolE' r sc op vs))
  | [] => pe_bad
  | [a] => pe_one (h.e sc W X cx a)
  | a :: b :: vs => by
    cases op with
    | And => exact pe_andE (h.e sc W X cx a) (boolE_ok (b :: vs))
    | Or => exact pe_orE (h.e sc W X cx a) (boolE_ok (b :: vs))
theorem boolT_ok {op : BoolOp} {pos : Pos} : ∀ vs : List Expr, PW X (.BoolOp op vs pos) (tT p W (boolT' r sc op vs))
  | [] => pw_bad
  | [a] => by
    cases op with
    | And => exact pw_and1T (h.t sc W X cx a)
    | Or => exact pw_or1T (h.t sc W X cx a)
  | a :: b :: vs => by
    cases op with
    | And => exact pw_andT (h.t sc W X cx a) (boolT_ok (b :: vs))
    | Or => exact pw_orT (h.t sc W X cx a) (boolT_ok (b :: vs))
theorem stO_ok : ∀ e : Option Expr, PO X e (tO p W (stO r sc e))
  | none => po_noO
  | some e => po_someO (h.e sc W X cx e)
end
theorem gl_of (cx : Cxt P w p mg base (l + 4) N sc W X) {x : Str} (hg : isGlo sc x = true) : Gl X x := by
  show X.env.scope.names.lookup x = _
  rw [cx.sc]
  exact isGlo_ok hg
theorem op_binV (hK : X.K = p.K) {op : Operator} {f : V2} (e : binV op = some f) : OpR X (binaryOp op) (r2 p f) := by
  cases op <;> first | (cases e; done) | (cases e; first | exact op_addV hK | exact op_subV | exact op_mulV | exact op_fdivV | exact op_modV | exact op_powV)
theorem op_cmpV (hK : X.K = p.K) (hu : X.A.units + 64 < cLine) {op : CmpOp} {f : V2} (e : cmpV op = some f) : OpR X (compareOp op) (r2 p f) := by
  cases op <;> first | (cases e; done) | (cases e; first | exact op_eqV hK hu | exact op_neV hK hu | exact op_ordV op_lt | exact op_ordV op_le | exact op_ordV op_gt | exact op_ordV op_ge | exact op_isV | exact op_isnV)
theorem stName_ok (cx : Cxt P w p mg base (l + 4) N sc W X) (G : GFacts P w p mg base l C g) (x : Str) (pos : Pos) : PE X (.Name x pos) (tE p W (stName g N sc x)) := by
  unfold stName
  split
  · rename_i hn
    obtain ⟨d1, d2⟩ := okN_ok hn
    split
    · rename_i hv
      split
      · rename_i i ei
        exact pe_varE (by rw [cx.names]; exact ixOf_ok ei) (by rw [cx.sc]; exact isVis_ok hv) d1 d2
      · exact pe_bad
    · split
      · rename_i hg
        have gl := gl_of cx hg
        split
        · rename_i c ek
          have hm : mg x = some (.ref (p.CA c)) := G.glo x _ ek
          exact con_of (t := tC .non) (pe_glob (v := .ref (p.CA c)) gl (by rw [cx.mg]; exact hm) rfl d1) fun r => by simp [RV]
        · rename_i n ek
          obtain ⟨hm, hx⟩ : mg x = none ∧ x = bltName n := G.glo x _ ek
          have hm' : X.mg x = none := by rw [cx.mg]; exact hm
          split
          · rename_i t et
            have ty : ∀ t : Nat, bootBuiltins x = some (.type (tyName t)) → x ≠ "__name__" → PE X (.Name x pos) (tE p W (conE (.ty t))) := fun t hb hn => con_of (t := tC .non) (v := .ty (tyName t)) (pe_bltn (u := .type (tyName t)) gl hm' hb rfl hn d1) fun r => by simp [RV]
            subst hx
            unfold bltT at et
            split at et <;> first
              | (cases et; done)
              | (cases et
                 exact ty _ (by kernel_rfl) (by decide +kernel))
          · exact pe_bad
        · exact pe_bad
      · exact pe_bad
  · exact pe_bad
theorem rest_of {i a : Nat} {f : Addr} {ps : List Str} (F : FnIs P w p mg base l C i f ps (g.dds i)) (e : ps.length = g.arity i) : ∃ fd ds dvs, FnOk P w p.K mg base (L2.CX P w) l f fd ps (spF p C i ps.length) ∧ Vals dvs ds ∧ Binds p.K fd ps ds ∧ ∀ r, RVs p r (rest g i a) dvs := by
  obtain ⟨fd, h1, h2⟩ := F.ok
  by_cases hj : (g.dds i).length + a - g.arity i ≤ (g.dds i).length
  · obtain ⟨ds, dvs, h3, h4, h5⟩ := h2 _ hj
    exact ⟨fd, ds, dvs, h1, h3, h4, h5⟩
  · obtain ⟨ds, dvs, h3, h4, h5⟩ := h2 _ (Nat.le_refl _)
    refine ⟨fd, ds, dvs, h1, h3, h4, fun r => ?_⟩
    have e1 : rest g i a = (g.dds i).drop (g.dds i).length := by
      unfold rest
      rw [List.drop_length, List.drop_eq_nil_of_le (by omega)]
    rw [e1]
    exact h5 r
theorem FnOk.up {j : Nat} {f : Addr} {fd : FuncData} {ps : List Str} {sp : Sp} (F : FnOk P w p.K mg base (L2.CX P w) l f fd ps sp) (hj : l ≤ j) : FnOk P w p.K mg base (L2.CX P w) j f fd ps sp := F.mono hj
theorem stExc_ok (cx : Cxt P w p mg base (l + 4) N sc W X) (G : GFacts P w p mg base l C g) {x : Str} {c : Nat} {q pos : Pos} (gl : Gl X x) (hm : X.mg x = some (.ref (p.CA c))) (d1 : (x == ("__debug__" : Str)) = false) {args : List Expr} {t : SemA} (hA : PA X args (tA p W t)) (hpl : args.all plainE = true) :
    PE X (.Call (.Name x q) args [] pos) (tE p W (stExc g c args t)) := by
  have hK := cx.K
  unfold stExc
  split
  · rename_i fs ef
    have RO := G.exc c fs ef
    cases args with
    | nil =>
      cases fs with
      | nil =>
        obtain ⟨bmB, B, newId, initId, F, q1, q2, q3, q4⟩ := RO.no rfl
        exact pe_exc0E hK F q1 q2 gl hm d1
      | cons => exact pe_bad
    | cons e es =>
      cases fs with
      | nil => exact pe_bad
      | cons f fs =>
        obtain ⟨T, hno, hle, fI, fd, ps, iC, tI, F1, hb⟩ := RO.own (List.cons_ne_nil _ _)
        rw [List.all_cons, Bool.and_eq_true] at hpl
        exact pe_excE (cx.mono (show l + 1 ≤ l + 4 by omega)) T iC tI F1 hb hno hle gl hm d1 hA (starEach_plain hpl.1) (star_any hpl.2)
  · exact pe_bad
theorem stCall_ok (h : SoundE P w p mg base l N r) (cx : Cxt P w p mg base (l + 4) N sc W X) (G : GFacts P w p mg base l C g) (x : Str) (args : List Expr) (q pos : Pos) : PE X (.Call (.Name x q) args [] pos) (tE p W (stCall p g C r sc x args)) := by
  have hK := cx.K
  have hcalm := cx.calm
  unfold stCall
  split
  · rename_i hn
    obtain ⟨hn, hpl⟩ := Bool.and_eq_true_iff.mp hn
    obtain ⟨hn, hg⟩ := Bool.and_eq_true_iff.mp hn
    obtain ⟨d1, _⟩ := okN_ok hn
    have gl := gl_of cx hg
    have hA := stA_ok h cx args
    split
    · rename_i i ek
      obtain ⟨f, ps, hm, F, hl⟩ : ∃ f ps, mg x = some (.ref f) ∧ FnIs P w p mg base l C i f ps (g.dds i) ∧ ps.length = g.arity i := G.glo x _ ek
      split
      · obtain ⟨fd, ds, dvs, F1, hd, hb, hD⟩ := rest_of (a := args.length) F hl
        have ar := F.ar
        cases args with
        | nil => exact pe_callE0 (cx.mono (Nat.le_add_right l 4)) F1 ar gl (by rw [cx.mg]; exact hm) (by rw [hK]; exact F.kp) hb hd hD d1
        | cons e es =>
          rw [List.all_cons, Bool.and_eq_true] at hpl
          exact pe_callE (cx.mono (Nat.le_add_right l 4)) F1 ar gl (by rw [cx.mg]; exact hm) (by rw [hK]; exact F.kp) hb hd hD hA d1 (starEach_plain hpl.1) (star_any hpl.2)
      · exact pe_bad
    · rename_i c ek
      have hm : mg x = some (.ref (p.CA c)) := G.glo x _ ek
      split
      · rename_i i e es ei
        split
        · obtain ⟨fI, ps, M, F, hl⟩ := G.ini c i ei
          obtain ⟨fd, ds, dvs, F1, hd, hb, hD⟩ := rest_of (a := (e :: es).length + 1) F hl
          rw [List.all_cons, Bool.and_eq_true] at hpl
          exact pe_makeE (cx.mono (show l + 1 ≤ l + 4 by omega)) M F1 F.ar rfl gl (by rw [cx.mg]; exact hm) hb hd hD hA d1 (starEach_plain hpl.1) (star_any hpl.2)
        · exact pe_bad
      · exact pe_bad
      · exact stExc_ok cx G gl (by rw [cx.mg]; exact hm) d1 hA hpl
    · rename_i n ek
      obtain ⟨hm, hx⟩ : mg x = none ∧ x = bltName n := G.glo x _ ek
      have hm' : X.mg x = none := by rw [cx.mg]; exact hm
      split
      · rename_i hb8
        split
        · rename_i a
          rw [Bool.and_eq_true] at hb8
          have e8 : n = 8 := by simpa using hb8.1
          subst e8
          subst hx
          have O : OwnAll P w p mg base l C g.ow := by
            rcases G.own with z | z
            · rw [z] at hb8
              exact absurd hb8.2 (by decide)
            · exact z
          rw [List.all_cons, Bool.and_eq_true] at hpl
          exact PE.by (pe_callTy (call_boolG (cx.mono (show l + 2 ≤ l + 4 by omega)) O.bool) gl hm' (by kernel_rfl) hA (by decide +kernel) d1 (starEach_plain hpl.1) (star_any hpl.2)) fun _ _ _ h => callG_of h
        · exact pe_bad
      split
      · rename_i f e es ef
        rw [List.all_cons, Bool.and_eq_true] at hpl
        subst hx
        have s1 := starEach_plain (env := X.env) (es := es) hpl.1
        have s2 := star_any (env := X.env) (pos := pos) hpl.2
        unfold bltV at ef
        split at ef <;> first
          | (cases ef; done)
          | (cases ef
             first
               | exact pe_bltV (call_lenV hK) gl hm' (by kernel_rfl) hA (by decide +kernel) d1 s1 s2
               | exact pe_bltV call_absV gl hm' (by kernel_rfl) hA (by decide +kernel) d1 s1 s2
               | exact pe_bltV (call_maxV hK hcalm) gl hm' (by kernel_rfl) hA (by decide +kernel) d1 s1 s2
               | exact pe_bltV (call_minV hK hcalm) gl hm' (by kernel_rfl) hA (by decide +kernel) d1 s1 s2
               | exact pe_bltV (call_sumV hK hcalm) gl hm' (by kernel_rfl) hA (by decide +kernel) d1 s1 s2
               | exact pe_bltV (call_anyV hK hcalm) gl hm' (by kernel_rfl) hA (by decide +kernel) d1 s1 s2
               | exact pe_bltV (call_allV hK hcalm) gl hm' (by kernel_rfl) hA (by decide +kernel) d1 s1 s2
               | exact pe_tyV call_intV gl hm' (by kernel_rfl) hA (by decide +kernel) d1 s1 s2
               | exact pe_tyV call_boolV gl hm' (by kernel_rfl) hA (by decide +kernel) d1 s1 s2
               | exact pe_tyV call_strV gl hm' (by kernel_rfl) hA (by decide +kernel) d1 s1 s2
               | exact pe_tyV (call_listV hK) gl hm' (by kernel_rfl) hA (by decide +kernel) d1 s1 s2
               | exact pe_tyV (call_tupleV hK) gl hm' (by kernel_rfl) hA (by decide +kernel) d1 s1 s2
               | exact pe_bltV (call_sortedV hK) gl hm' (by kernel_rfl) hA (by decide +kernel) d1 s1 s2
               | exact pe_bltV (call_isaX hK G.kit G.err G.ve) gl hm' (by kernel_rfl) hA (by decide +kernel) d1 s1 s2)
      · exact pe_bad
    · rename_i n ek
      have hm : mg x = some (.builtin (impId n)) := G.glo x _ ek
      split
      · rename_i e es
        rw [List.all_cons, Bool.and_eq_true] at hpl
        exact pe_funV call_gcdV gl (by rw [cx.mg]; exact hm) hA d1 (starEach_plain hpl.1) (star_any hpl.2)
      · exact pe_bad
    · exact pe_bad
  · exact pe_bad
theorem few_ok {cpos : Pos} {es : List Expr} {env : Env} (hs : es.all plainE = true) (hn : es.length < 29) : ((backTo cpos (starEach es env)).all (fun x => !x.1) && (backToKw cpos (keywordEach [] env)).all (fun x => x.1.isSome)
      && decide (es.length + ([] : List Keyword).length + (if ([] : List Keyword).isEmpty then 0 else 1) < 30)) = true := by
  have h1 : (backTo cpos (starEach es env)).all (fun x => !x.1) = true := by
    have := star_any (env := env) (pos := cpos) hs
    rw [List.any_eq_false] at this
    rw [List.all_eq_true]
    intro x hx
    simpa using this x hx
  rw [h1]
  have h2 : backToKw cpos (keywordEach [] env) = [] := rfl
  rw [h2]
  simp
  omega
theorem lst_ok {m : Str} {f : VM} (e : lstM m = some f) (hK : X.K = p.K) {o : Expr} {fo : SemE} {es : List Expr} {ft : SemA} {apos pos : Pos} (ho : PE X o (tE p W fo)) (ha : PA X es (tA p W ft)) (hft : es = [] → ft = nilA) (hb : plainBase o = true) (hs : es.all plainE = true) (hn : es.length < 29)
    (hl : (apos.endLine == pos.line) = true) : PE X (.Call (.Attribute o m apos) es [] pos) (tE p W (mthL f fo ft)) := by
  have go : ∀ {id : String} {f : VM}, Slot "list" m id → typeOf (.builtin id) = pure (.type "method_descriptor") → MtR X id (rM p f) → PE X (.Call (.Attribute o m apos) es [] pos) (tE p W (mthL f fo ft)) := fun {id f} slot ty hm => by
    cases es with
    | nil =>
      rw [hft rfl]
      exact pe_mthL0 hK PySem.F.plainAttrs_list slot ty hm ho (plainBase_ok hb) hl
    | cons e es =>
      have hs' := hs
      rw [List.all_cons, Bool.and_eq_true] at hs'
      exact pe_mthL hK PySem.F.plainAttrs_list slot ty hm ho ha (plainBase_ok hb) (few_ok hs hn) hl (starEach_plain hs'.1) (star_any hs'.2)
  unfold lstM at e
  split at e
  · rename_i em
    cases e
    subst em
    exact go PySem.F.slot_list_append PySem.F.type_list_append mt_appendM
  · split at e
    · rename_i em
      cases e
      subst em
      exact go PySem.F.slot_list_pop PySem.F.type_list_pop mt_popM
    · split at e
      · rename_i em
        cases e
        subst em
        exact go PySem.F.slot_list_reverse PySem.F.type_list_reverse mt_reverseM
      · split at e
        · rename_i em
          cases e
          subst em
          exact go PySem.F.slot_list_insert PySem.F.type_list_insert mt_insertM
        · cases e
theorem clsNamed_ok {o : Expr} {c : Nat} (e : clsNamed g sc o = some c) : ∃ x q, o = .Name x q ∧ okN x = true ∧ isGlo sc x = true ∧ g.glo.lookup x = some (.cls c) := by
  unfold clsNamed at e
  split at e
  · rename_i x q
    split at e
    · rename_i hn
      obtain ⟨h1, h2⟩ := Bool.and_eq_true_iff.mp hn
      split at e
      · rename_i c' ek
        have : c' = c := Option.some.inj e
        subst this
        exact ⟨x, q, rfl, h1, h2, ek⟩
      · cases e
    · cases e
  · cases e
theorem stMeth_ok (h : SoundE P w p mg base l N r) (cx : Cxt P w p mg base (l + 4) N sc W X) (G : GFacts P w p mg base l C g) (o : Expr) (m : Str) (args : List Expr) (apos pos : Pos) : PE X (.Call (.Attribute o m apos) args [] pos) (tE p W (stMeth g C r sc o m args (apos.endLine == pos.line))) := by
  have hK := cx.K
  unfold stMeth
  split
  · rename_i hn
    obtain ⟨hn, hl⟩ := Bool.and_eq_true_iff.mp hn
    obtain ⟨hn, hlen⟩ := Bool.and_eq_true_iff.mp hn
    obtain ⟨hb, hs⟩ := Bool.and_eq_true_iff.mp hn
    have hlen := of_decide_eq_true hlen
    have hA := stA_ok h cx args
    have hO := h.e sc W X cx o
    split
    · rename_i c ec
      obtain ⟨x, q, rfl, h1, h2, h3⟩ := clsNamed_ok ec
      have hm : mg x = some (.ref (p.CA c)) := G.glo x _ h3
      cases ei : g.stat c m with
      | none => exact pe_bad
      | some i =>
        cases args with
        | nil => exact pe_bad
        | cons e es =>
          obtain ⟨f, ps, dds, F, S⟩ := G.stat c m i ei
          exact pe_smE (cx.mono (Nat.le_add_right l 4)) F S (gl_of cx h2) (by rw [cx.mg]; exact hm) (okN_ok h1).1 hA hs hlen hl
    · split
      · rename_i t et
        have M := G.meth m t et
        cases args with
        | nil => exact pe_mthE0 (cx.mono (Nat.le_add_right l 4)) M G.fld.cls hO hb hl
        | cons e es => exact pe_mthE (cx.mono (Nat.le_add_right l 4)) M G.fld.cls hO hA hb hs hlen hl
      · split
        · rename_i f ef
          exact lst_ok ef hK hO hA (fun e => by subst e; rfl) hb hs hlen hl
        · split
          · split
            · rename_i em
              subst em
              exact pe_bitsE (pe_bits hO (plainBase_ok hb) hl)
            · exact pe_bad
          · exact pe_bad
  · exact pe_bad
theorem ownNm_ok {op : Operator} {nm : String} (e : ownNm op = some nm) : op.info.2 = nm ∧ IntNo nm ∧ (nm = "add" ∨ nm = "sub" ∨ nm = "mul") := by
  cases op <;> first
    | (cases e; done)
    | (cases e; first | exact ⟨rfl, intNo_add, .inl rfl⟩ | exact ⟨rfl, intNo_sub, .inr (.inl rfl)⟩ | exact ⟨rfl, intNo_mul, .inr (.inr rfl)⟩)
theorem stBin_ok (h : SoundE P w p mg base l N r) (cx : Cxt P w p mg base (l + 4) N sc W X) (G : GFacts P w p mg base l C g) (a : Expr) (op : Operator) (b : Expr) (pos : Pos) : PE X (.BinOp a op b pos) (tE p W (stBin g C r sc a op b)) := by
  have hK := cx.K
  unfold stBin
  split
  · rename_i f ef
    split
    · rename_i nm en
      split
      · exact pe_bin (op_binV hK ef) (h.e sc W X cx a) (h.e sc W X cx b)
      · rename_i hne
        obtain ⟨e1, e2, e3⟩ := ownNm_ok en
        have O : OwnAll P w p mg base l C g.ow := by
          rcases G.own with z | z
          · exact absurd z hne
          · exact z
        subst e1
        exact pe_opE (cx.mono (Nat.le_add_right l 4)) (O.op _ e3) e2 (op_binV hK ef) (h.e sc W X cx a) (h.e sc W X cx b)
    · exact pe_bin (op_binV hK ef) (h.e sc W X cx a) (h.e sc W X cx b)
  · exact pe_bad
theorem ownCmp_ok (cx : Cxt P w p mg base (l + 4) N sc W X) (G : GFacts P w p mg base l C g) (hne : ¬ g.own.isEmpty = true) {op : CmpOp} {core : D → D → S → Out D} (e : ownCmp g C op = some core) : CoreR X p W (compareOp op) core := by
  have hK := cx.K
  have hu := cx.room.units
  have O : OwnAll P w p mg base l C g.ow := by
    rcases G.own with z | z
    · exact absurd z hne
    · exact z
  cases op <;> first
    | (cases e; done)
    | (cases e; first | exact eq_core (cx.mono (Nat.le_add_right l 4)) O.eq (op_eqV hK hu) | exact ne_core (cx.mono (show l + 1 ≤ l + 4 by omega)) O.eq (op_neV hK hu))
theorem pj_of (h : SoundE P w p mg base l N r) (cx : Cxt P w p mg base (l + 4) N sc W X) : ∀ es : List Expr, PJ X es ((es.map (r.e sc)).map (tE p W))
  | [] => .nil
  | e :: es => .cons (h.e sc W X cx e) (pj_of h cx es)
end
end Den
end

-- DenR
section
set_option maxHeartbeats 2000000
/-! Den: from the syntax to Den, comprehensions, all expressions. -/
namespace Den
open PySem PySem.Spec L2 PyProof.Rows
/-- a block's scope, as it stands in the scope sc -/
def relS (scope sc : Scope) : Scope := { scope with names := scope.names.map fun (n, k) => if (k == .free && sc.kind == .function && sc.names.lookup n == some .cell) then (n, .cell) else (n, k) }
theorem relS_eq {scope : Scope} {env : Env} : relabel scope env = relS scope env.scope := rfl
theorem relS_lookup {sc : Scope} {x : Str} {k : NameKind} (hk : k ≠ .free) : ∀ {names : List (Str × NameKind)}, names.lookup x = some k →
    (names.map fun (n, k) => if (k == NameKind.free && sc.kind == .function && sc.names.lookup n == some .cell) then (n, NameKind.cell) else (n, k)).lookup x = some k
  | [], h => by cases h
  | (n, j) :: names, h => by
    have ih := @relS_lookup sc x k hk names
    rw [List.map_cons]
    rw [List.lookup_cons] at h
    cases e : x == n with
    | true =>
      rw [e] at h
      have : j = k := Option.some.inj h
      subst this
      have hf : (j == NameKind.free) = false := beq_eq_false_iff_ne.mpr hk
      simp only [hf, Bool.false_and, Bool.false_eq_true, if_false]
      rw [List.lookup_cons, e]
    | false =>
      rw [e] at h
      by_cases hc : (j == NameKind.free && sc.kind == .function && sc.names.lookup n == some .cell) = true
      · simp only [hc, if_true]
        rw [List.lookup_cons, e]
        exact ih h
      · simp only [hc, if_false, Bool.false_eq_true]
        rw [List.lookup_cons, e]
        exact ih h
/-- the names that a comprehension's block binds, with their slots -/
def ownOf (N : List Str) (scope : Scope) : List (Str × Nat) := scope.names.filterMap fun y => match y.2 with
  | .local => (ixOf N y.1).map fun i => (y.1, i)
  | .cell => (ixOf N y.1).map fun i => (y.1, i)
  | _ => none
def namesOf (N : List Str) (sc : Scope) : List Expr → Option (List Nat)
  | [] => some []
  | .Name x _ :: es => if isLoc sc x = true then (match ixOf N x, namesOf N sc es with
    | some i, some is => some (i :: is)
    | _, _ => none) else none
  | _ => none
def tgtOf (N : List Str) (sc : Scope) : Expr → Option Tgt
  | .Name x _ => if isLoc sc x = true then (match ixOf N x with
    | some i => some (.one i)
    | none => none) else none
  | .Tuple es _ _ => (match namesOf N sc es with
    | some is => some (.many is)
    | none => none)
  | _ => none
def within (is js : List Nat) : Bool := is.all fun i => js.contains i
def stIfs (r : Sems) (sc : Scope) : List Expr → Option SemT
  | [] => some yesT
  | [c] => some (r.t sc c)
  | _ => none
def isRange (g : Pg) (sc : Scope) (x : Str) : Bool := decide (x = "range") && isGlo sc x && (match g.glo.lookup x with
  | some (.blt 14) => true
  | _ => false)
def stI (g : Pg) (r : Sems) (sc : Scope) (e : Expr) : SemI := match e with
  | .Call (.Name x _) args [] _ => if isRange g sc x = true then (match args with
    | [a] => if plainE a = true then range1I (stA r sc [a]) else badI
    | [a, b] => if (plainE a && plainE b) = true then range2I (stA r sc [a, b]) else badI
    | _ => badI) else seqI (r.e sc e)
  | _ => seqI (r.e sc e)
def stComp (g : Pg) (N : List Str) (r : Sems) (sc : Scope) (elt : Expr) (gens : List Comprehension) (scope : Scope) : SemE :=
  if blkC N sc scope (ownOf N scope) = true then (match gens with
    | [⟨tg, iter, ifs, 0⟩] => (match tgtOf N scope tg, stIfs r (relS scope sc) ifs with
      | some t, some c => if (plainSet iter && within t.slots ((ownOf N scope).map (·.2))) = true then lcE (stI g r sc iter) t c (r.e (relS scope sc) elt) ((ownOf N scope).map (·.2)) else badE
      | _, _ => badE)
    | [⟨tg, iter, ifs, 0⟩, ⟨tg1, iter1, ifs1, 0⟩] => (match tgtOf N scope tg, stIfs r (relS scope sc) ifs, tgtOf N scope tg1, stIfs r (relS scope sc) ifs1 with
      | some t, some c, some t1, some c1 => if (plainSet iter && plainSet iter1 && within t.slots ((ownOf N scope).map (·.2)) && within t1.slots ((ownOf N scope).map (·.2))) = true then
          lc2E (stI g r sc iter) t c (stI g r (relS scope sc) iter1) t1 c1 (r.e (relS scope sc) elt) ((ownOf N scope).map (·.2)) t1.slots else badE
      | _, _, _, _ => badE)
    | _ => badE) else badE
noncomputable def stE2 (p : Px) (g : Pg) (C : Calls) (N : List Str) (r : Sems) (sc : Scope) (e : Expr) : SemE := match e with
  | .ListComp elt gens scope _ => stComp g N r sc elt gens scope
  | _ => stE p g C N r sc e

section
variable {P : Program} {w : World} {p : Px} {mg : Str → Option Value} {base : Heap} {l : Nat} {N : List Str} {sc : Scope} {W : WX} {X : Cx} {C : Calls} {g : Pg} {r : Sems}
theorem Cxt.blk (cx : Cxt P w p mg base (l + 4) N sc W X) {s : Shared} {H : Hp} {scope : Scope} {A : Addr} {cl : List (Str × Addr)} {fp : List Addr} : Cxt P w p mg base (l + 4) N (relS scope sc) W0 (X.blk s H scope (compEnvC scope cl A X.env) fp) where
  prog := cx.prog
  w := cx.w
  K := cx.K
  mg := cx.mg
  base := cx.base
  names := cx.names
  nd := cx.nd
  sc := by
    rw [← cx.sc]
    rfl
  calm := cx.calm
  room := cx.room
  tk := takes_none5
  more := trivial
/-- where names may be stored: those of the scope `scope` -/
structure Sto (N : List Str) (scope : Scope) (X : Cx) : Prop where
  nd : X.N.Nodup
  names : X.N = N
  calm : X.calm = true
  at_ : ∀ x, isLoc scope x = true → Loc X.env.scope x ∧ (X.fn x = true ∨ X.env.scope.names.lookup x = some .local)
theorem Cxt.sto (cx : Cxt P w p mg base (l + 4) N sc W X) {s : Shared} {H : Hp} {scope : Scope} {A : Addr} {cl : List (Str × Addr)} {fp : List Addr} : Sto N scope (X.blk s H scope (compEnvC scope cl A X.env) fp) := by
  refine ⟨cx.nd, cx.names, cx.calm, fun x hx => ?_⟩
  rcases isLoc_ok hx with h | h
  · have h2 : (relS scope X.env.scope).names.lookup x = some .local := relS_lookup (by decide) h
    exact ⟨.inl h2, .inr h2⟩
  · have h2 : (relS scope X.env.scope).names.lookup x = some .cell := relS_lookup (by decide) h
    refine ⟨.inr h2, .inl ?_⟩
    show (scope.names.lookup x == some .cell) = true
    rw [h]
    rfl
theorem Cxb.sto (cx : Cxb P w p mg base (l + 4) N sc W X) : Sto N sc X := ⟨cx.nd, cx.names, cx.calm, fun x hx => ⟨by rw [cx.sc]; exact isLoc_ok hx, .inl (cx.fnT x)⟩⟩
theorem pgN_ok (cx : Sto N sc X) {x : Str} {i : Nat} {q : Pos} (hl : isLoc sc x = true) (hi : ixOf N x = some i) : PG X (.Name x q) (gName i) := by
  obtain ⟨h1, h2⟩ := cx.at_ x hl
  exact pg_name cx.nd (by rw [cx.names]; exact ixOf_ok hi) h1 h2
theorem names_ok (cx : Sto N sc X) : ∀ {es : List Expr} {is : List Nat}, namesOf N sc es = some is → PGs X es (gNames is) ∧ (assignEach es X.env).length = is.length ∧ (assignEach es X.env).findIdx? (·.1) = none
  | [], is, h => by
    have : is = [] := (Option.some.inj h).symm
    subst this
    exact ⟨pgs_nil, rfl, rfl⟩
  | e :: es, is, h => by
    unfold namesOf at h
    split at h
    · rename_i he
      cases he
    · rename_i x q es' he
      have he1 := (List.cons.inj he).1
      have he2 := (List.cons.inj he).2
      subst he1 he2
      split at h
      · rename_i hl
        split at h
        · rename_i i is' hi hs
          have : is = i :: is' := (Option.some.inj h).symm
          subst this
          obtain ⟨h1, h2, h3⟩ := names_ok cx hs
          refine ⟨pgs_cons (pgN_ok cx hl hi) h1 rfl, ?_, ?_⟩
          · show ((false, _) :: assignEach es X.env).length = _
            rw [List.length_cons, h2, List.length_cons]
          · show ((false, _) :: assignEach es X.env).findIdx? (·.1) = none
            rw [List.findIdx?_cons, if_neg Bool.false_ne_true, h3]
            rfl
        · cases h
      · cases h
    · cases h
theorem tgt_ok (cx : Sto N sc X) {e : Expr} {t : Tgt} (h : tgtOf N sc e = some t) : PG X e (t.read X.K) := by
  unfold tgtOf at h
  split at h
  · split at h
    · rename_i hl
      split at h
      · rename_i i hi
        have : t = .one i := (Option.some.inj h).symm
        subst this
        exact pgN_ok cx hl hi
      · cases h
    · cases h
  · split at h
    · rename_i is hs
      have : t = .many is := (Option.some.inj h).symm
      subst this
      obtain ⟨h1, h2, h3⟩ := names_ok cx hs
      exact pg_tup cx.calm h1 h2 h3
    · cases h
  · cases h
theorem within_ok {is js : List Nat} (h : within is js = true) : ∀ i ∈ is, i ∈ js := fun i hi => by
  have := List.all_eq_true.mp h i hi
  simpa using this
theorem ifs_ok (h : SoundE P w p mg base l N r) (cx : Cxt P w p mg base (l + 4) N sc W X) {ifs : List Expr} {t : SemT} (e : stIfs r sc ifs = some t) : PTs X ifs (tT p W t) := by
  unfold stIfs at e
  split at e
  · cases e; exact pts_nilT
  · cases e; exact pts_oneT (h.t sc W X cx _)
  · cases e
theorem pi_bad {tg e : Expr} : PI X tg e (tI p W badI) := ⟨fun _ _ _ _ _ _ ⟨_, _, _, _, po⟩ => False.elim po⟩
theorem stI_ok (h : SoundE P w p mg base l N r) (cx : Cxt P w p mg base (l + 4) N sc W X) (G : GFacts P w p mg base l C g) (tg e : Expr) : PI X tg e (tI p W (stI g r sc e)) := by
  unfold stI
  split
  · rename_i x q args pos
    split
    · rename_i hr
      unfold isRange at hr
      obtain ⟨hr, hk⟩ := Bool.and_eq_true_iff.mp hr
      obtain ⟨hx, hg⟩ := Bool.and_eq_true_iff.mp hr
      have hx := of_decide_eq_true hx
      subst hx
      have gl := gl_of cx hg
      have hm : X.mg "range" = none := by
        split at hk
        · rename_i ek
          rw [cx.mg]
          exact (G.glo _ _ ek).1
        · cases hk
      split
      · rename_i a
        split
        · rename_i ha
          exact pi_range1I gl hm (stA_ok h cx [a]) (by rw [starEach_plain ha]; rfl)
        · exact pi_bad
      · rename_i a b
        split
        · rename_i ha
          obtain ⟨ha, hb⟩ := Bool.and_eq_true_iff.mp ha
          exact pi_range2I gl hm (stA_ok h cx [a, b]) (by rw [starEach_plain ha, starEach_plain hb]; rfl) (by rw [starEach_plain hb]; rfl)
        · exact pi_bad
      · exact pi_bad
    · exact pi_seqI cx.K (h.e sc W X cx _)
  · exact pi_seqI cx.K (h.e sc W X cx _)
theorem stComp_ok [p.Free] (h : SoundE P w p mg base l N r) (cx : Cxt P w p mg base (l + 4) N sc W X) (G : GFacts P w p mg base l C g) (elt : Expr) (gens : List Comprehension) (scope : Scope) (pos : Pos) :
    PE X (.ListComp elt gens scope pos) (tE p W (stComp g N r sc elt gens scope)) ∧
      ∀ (i : Nat) (y : Str) (py spos : Pos), N[i]? = some y → sc.names.lookup y = some .local → swapsWith (.ListComp elt gens scope pos) (some (.Name y py)) spos.line X.env = pure true →
        PS X (.Assign [.Name y py] (.ListComp elt gens scope pos) spos) (tS p W (asgS (stComp g N r sc elt gens scope) (nameG i))) := by
  have ps_bad : ∀ {st : Stmt} {i : Nat}, PS X st (tS p W (asgS badE (nameG i))) := ⟨fun _ _ _ _ _ _ ⟨_, _, _, _, po⟩ => False.elim po⟩
  have hK := cx.K
  have cb : ∀ (s : Shared) (H : Hp) (A : Addr) (cl : List (Str × Addr)) (fp : List Addr), Cxt P w p mg base (l + 4) N (relS scope sc) W0 (X.blk s H scope (compEnvC scope cl A X.env) fp) := fun s H A cl fp => cx.blk
  have cs : ∀ (s : Shared) (H : Hp) (A : Addr) (cl : List (Str × Addr)) (fp : List Addr), Sto N scope (X.blk s H scope (compEnvC scope cl A X.env) fp) := fun s H A cl fp => cx.sto
  unfold stComp
  split
  · rename_i hb
    have ok : BlkOk X.N X.env.scope scope (ownOf N scope) := by rw [cx.names, cx.sc]; exact blkOk_by hb
    split
    · rename_i tg iter ifs
      split
      · rename_i t c et ec
        split
        · rename_i hz
          obtain ⟨h1, h2⟩ := Bool.and_eq_true_iff.mp hz
          have hi := stI_ok h cx G tg iter
          have hg := fun s H A cl fp => tgt_ok (cs s H A cl fp) et
          have ht := fun s H A cl fp => ifs_ok h (cb s H A cl fp) ec
          have he := fun s H A cl fp => h.e _ W0 _ (cb s H A cl fp) elt
          have hs := fun x => plainSet_folded h1 X.env x
          exact ⟨pe_lcE hK cx.calm cx.nd hi ok (within_ok h2) hg ht he hs, fun i y py spos hi' hl hsw => ps_setLcE hK cx.calm cx.nd (by rw [cx.names]; exact hi') (by rw [cx.sc]; exact hl) hsw hi ok (within_ok h2) hg ht he hs⟩
        · exact ⟨pe_bad, fun _ _ _ _ _ _ _ => ps_bad⟩
      · exact ⟨pe_bad, fun _ _ _ _ _ _ _ => ps_bad⟩
    · rename_i tg iter ifs tg1 iter1 ifs1
      split
      · rename_i t c t1 c1 et ec et1 ec1
        split
        · rename_i hz
          obtain ⟨hz, h4⟩ := Bool.and_eq_true_iff.mp hz
          obtain ⟨hz, h3⟩ := Bool.and_eq_true_iff.mp hz
          obtain ⟨h1, h2⟩ := Bool.and_eq_true_iff.mp hz
          have hi := stI_ok h cx G tg iter
          have hg := fun s H A cl fp => tgt_ok (cs s H A cl fp) et
          have ht := fun s H A cl fp => ifs_ok h (cb s H A cl fp) ec
          have hi1 := fun s H A cl fp => stI_ok h (cb s H A cl fp) G tg1 iter1
          have hg1 := fun s H A cl fp => tgt_ok (cs s H A cl fp) et1
          have ht1 := fun s H A cl fp => ifs_ok h (cb s H A cl fp) ec1
          have he := fun s H A cl fp => h.e _ W0 _ (cb s H A cl fp) elt
          have hs := fun x => plainSet_folded h1 X.env x
          have hs1 := fun env x => plainSet_folded h2 env x
          exact ⟨pe_lc2E hK cx.calm cx.nd hi ok (within_ok h4) (within_ok h3) (fun _ z => z) hg ht hi1 hg1 ht1 he hs hs1,
            fun i y py spos hi' hl hsw => ps_setLc2E hK cx.calm cx.nd (by rw [cx.names]; exact hi') (by rw [cx.sc]; exact hl) hsw hi ok (within_ok h4) (within_ok h3) (fun _ z => z) hg ht hi1 hg1 ht1 he hs hs1⟩
        · exact ⟨pe_bad, fun _ _ _ _ _ _ _ => ps_bad⟩
      · exact ⟨pe_bad, fun _ _ _ _ _ _ _ => ps_bad⟩
    · exact ⟨pe_bad, fun _ _ _ _ _ _ _ => ps_bad⟩
  · exact ⟨pe_bad, fun _ _ _ _ _ _ _ => ps_bad⟩
theorem stE_ok (h : SoundE P w p mg base l N r) (cx : Cxt P w p mg base (l + 4) N sc W X) (G : GFacts P w p mg base l C g) (e : Expr) : PE X e (tE p W (stE p g C N r sc e)) := by
  have hK := cx.K
  have hu := cx.room.units
  cases e with
  | Name x pos => exact stName_ok cx G x pos
  | Constant c k pos =>
    cases c with
    | none => exact con_of (t := tC .non) pe_non fun r => by simp [RV]
    | bool b => exact con_of (t := tC .non) pe_bl fun r => by simp [RV]
    | int i => exact con_of (t := tC .non) pe_int fun r => by simp [RV]
    | str x => exact con_of (t := tC .non) pe_str fun r => by simp [RV]
    | _ => exact pe_bad
  | Tuple es k pos => exact pe_tupE (stA_ok h cx es)
  | List es pos => exact pe_lstE (stA_ok h cx es)
  | BinOp a op b pos =>
    exact stBin_ok h cx G a op b pos
  | JoinedStr es pos =>
    cases es with
    | nil => exact pe_bad
    | cons a l =>
      cases l with
      | nil => exact pe_bad
      | cons b l => exact pe_joinE (pj_of h cx (a :: b :: l))
  | FormattedValue e c f pos =>
    cases f with
    | none =>
      show PE X _ (tE p W (if c = -1 then fmtE (r.e sc e) else badE))
      split
      · rename_i ec
        subst ec
        exact pe_fmtE (h.e sc W X cx e)
      · exact pe_bad
    | some _ => exact pe_bad
  | UnaryOp op a pos =>
    cases op with
    | USub =>
      show PE X _ (tE p W (if g.own.isEmpty = true then un negV (r.e sc a) else negE C (g.ow "__neg__") negV (r.e sc a)))
      split
      · exact pe_una un_negV (h.e sc W X cx a)
      · rename_i hne
        have O : OwnAll P w p mg base l C g.ow := by
          rcases G.own with z | z
          · exact absurd z hne
          · exact z
        exact pe_negE (cx.mono (Nat.le_add_right l 4)) O.neg un_negV (h.e sc W X cx a)
    | Not => exact pe_notE (h.e sc W X cx a)
    | _ => exact pe_bad
  | BoolOp op vs pos => exact boolE_ok h cx vs
  | IfExp c a b pos => exact pe_ifE (h.t sc W X cx c) (h.e sc W X cx a) (h.e sc W X cx b)
  | Compare a ops bs pos =>
    show PE X _ (tE p W (stCmp g C r sc a ops bs))
    unfold stCmp
    split
    · rename_i op b
      split
      · rename_i hp
        unfold stCmp1
        split
        · rename_i f ef
          split
          · exact pe_cmpE (op_cmpV hK hu ef) (h.e sc W X cx a) (h.e sc W X cx b) (plainSet_marks hp)
          · rename_i hne
            split
            · rename_i core ec
              exact pe_cmpC (ownCmp_ok cx G hne ec) (h.e sc W X cx a) (h.e sc W X cx b) (plainSet_marks hp)
            · exact pe_cmpE (op_cmpV hK hu ef) (h.e sc W X cx a) (h.e sc W X cx b) (plainSet_marks hp)
        · exact pe_bad
      · exact pe_bad
    · rename_i op op' b c
      split
      · rename_i hp
        split
        · rename_i f f' ef ef'
          exact pe_chainE (op_cmpV hK hu ef) (op_cmpV hK hu ef') (h.e sc W X cx a) (h.e sc W X cx b) (h.e sc W X cx c) (plainSet_last hp)
        · exact pe_bad
      · exact pe_bad
    · exact pe_bad
  | Subscript a i pos =>
    have gen : PE X (.Subscript a i pos) (tE p W (if plainIx i = true then bin ixV (r.e sc a) (r.e sc i) else badE)) := by
      split
      · rename_i hp
        exact pe_ixE (ix_V hK) (h.e sc W X cx a) (h.e sc W X cx i) (plainIx_ok hp)
      · exact pe_bad
    cases i with
    | Slice lo hi st pos2 =>
      cases st with
      | none => exact pe_sliE (h.e sc W X cx a) (stO_ok h cx lo) (stO_ok h cx hi)
      | some s => exact pe_bad
    | _ => exact gen
  | Attribute o f pos =>
    show PE X _ (tE p W (if plainBase o = true then (match g.prop.lookup f with
      | some t => prpE C t (r.e sc o)
      | none => (match ixOf g.flds f with
        | some j => fldX p g.E g.noat g.flds.length j (r.e sc o)
        | none => badE)) else badE))
    split
    · rename_i hp
      split
      · rename_i t et
        exact pe_prpE (cx.mono (show l + 1 ≤ l + 4 by omega)) (G.prop f t et) G.fld.cls (h.e sc W X cx o) hp
      · split
        · rename_i j ej
          exact pe_fldX hK G.fld G.err (G.fn j f (ixOf_ok ej)) (h.e sc W X cx o) (plainBase_ok hp)
        · exact pe_bad
    · exact pe_bad
  | Call f args kws pos =>
    cases kws with
    | cons => exact pe_bad
    | nil =>
      cases f with
      | Name x q => exact stCall_ok h cx G x args q pos
      | Attribute o m apos => exact stMeth_ok h cx G o m args apos pos
      | _ => exact pe_bad
  | _ => exact pe_bad
theorem stE2_ok [p.Free] (h : SoundE P w p mg base l N r) (cx : Cxt P w p mg base (l + 4) N sc W X) (G : GFacts P w p mg base l C g) (e : Expr) : PE X e (tE p W (stE2 p g C N r sc e)) := by
  unfold stE2
  split
  · exact (stComp_ok h cx G _ _ _ _).1
  · exact stE_ok h cx G e
theorem stT_ok (h : SoundE P w p mg base l N r) (cx : Cxt P w p mg base (l + 4) N sc W X) (G : GFacts P w p mg base l C g) (e : Expr) : PT X e (tT p W (stT g C N r sc e)) := by
  have hK := cx.K
  have gen : ∀ e : Expr, PT X e (tT p W (if plainTest e = true then truE truth (r.e sc e) else badT)) := fun e => by
    split
    · rename_i hp
      exact pt_truE hK (h.e sc W X cx e) hp
    · exact pt_bad
  cases e with
  | UnaryOp op a pos =>
    cases op with
    | Not => exact pt_notT (h.t sc W X cx a)
    | _ => exact pt_bad
  | BoolOp op vs pos => exact (boolT_ok h cx vs).pt
  | IfExp => exact pt_bad
  | Compare a ops bs pos =>
    have hu := cx.room.units
    have bad : PT X (.Compare a ops bs pos) (tT p W (blT badE)) := ⟨fun _ _ _ _ _ _ ⟨_, _, _, _, po⟩ => False.elim po⟩
    show PT X _ (tT p W (blT (stCmp g C r sc a ops bs)))
    revert bad
    unfold stCmp
    split
    · rename_i op b
      split
      · rename_i hp
        unfold stCmp1
        split
        · rename_i f ef
          split
          · exact fun _ => pt_cmpE (op_cmpV hK hu ef) (h.e sc W X cx a) (h.e sc W X cx b) (plainSet_marks hp)
          · rename_i hne
            split
            · rename_i core ec
              exact fun _ => pt_cmpC (ownCmp_ok cx G hne ec) (h.e sc W X cx a) (h.e sc W X cx b) (plainSet_marks hp)
            · exact fun _ => pt_cmpE (op_cmpV hK hu ef) (h.e sc W X cx a) (h.e sc W X cx b) (plainSet_marks hp)
        · exact id
      · exact id
    · rename_i op op' b c
      split
      · rename_i hp
        split
        · rename_i f f' ef ef'
          exact fun _ => pt_chainE (op_cmpV hK hu ef) (op_cmpV hK hu ef') (h.e sc W X cx a) (h.e sc W X cx b) (h.e sc W X cx c) (plainSet_last hp)
        · exact id
      · exact id
    · exact id
  | _ => exact gen _
end
end Den
end

-- DenS
section
set_option maxHeartbeats 2000000
/-! Den: from the syntax to Den, statements. -/
namespace Den
open PySem PySem.Spec L2 PyProof.Rows
def badS : SemS := fun _ => .bad
def badG : SemG := fun _ _ => .bad
/-! ### targets -/
def stG0 (p : Px) (g : Pg) (N : List Str) (r : Sems) (sc : Scope) : Expr → SemG
  | .Name x _ => if isLoc sc x = true then (match ixOf N x with
    | some i => nameG i
    | none => badG) else badG
  | .Subscript o i _ => if plainIx i = true then subG (r.e sc o) (r.e sc i) else badG
  | .Attribute o f _ => (match ixOf g.flds f with
    | some j => fldG p g.noat g.flds.length j (r.e sc o)
    | none => badG)
  | _ => badG
def stGs (f : Expr → SemG) : List Expr → SemGs
  | [] => nilG
  | e :: es => if plainE e = true then consG (f e) (stGs f es) else fun _ _ => .bad
def stG1 (f : Expr → SemG) (e : Expr) : SemG := match e with
  | .Tuple es _ _ => if es.all plainE = true then tupG es.length (stGs f es) else badG
  | _ => f e
def stG (p : Px) (g : Pg) (N : List Str) (r : Sems) (sc : Scope) : Expr → SemG := stG1 (stG1 (stG0 p g N r sc))
/-- no tuple display is stored into a tuple (that may be a swap) -/
def noSwap : Expr → Expr → Bool
  | .Tuple _ _ _, .Tuple _ _ _ => false
  | .List _ _, _ => false
  | _, _ => true
def isComp : Expr → Bool
  | .ListComp _ _ _ _ => true
  | _ => false
/-! ### statements -/
def stSetN (g : Pg) (N : List Str) (r : Sems) (sc : Scope) (x : Str) (px : Pos) (e : Expr) : SemS := if (isLoc sc x) = true then (match ixOf N x with
    | some i => (match e with
      | .ListComp elt gens scope cpos => if (decide (sc.kind = .function) && decide (sc.names.lookup x = some .local) && px.line == cpos.line && !(scope.names.any fun y => y.1 == x && (y.2 == .local || y.2 == .cell))) = true then
          asgS (stComp g N r sc elt gens scope) (nameG i) else badS
      | e => if plainV e = true then asgS (r.e sc e) (nameG i) else badS)
    | none => badS) else badS
def stSet (p : Px) (g : Pg) (N : List Str) (r : Sems) (sc : Scope) (tg e : Expr) (line : Nat) : SemS := match tg with
  | .Name x px => stSetN g N r sc x px e
  | .Attribute o f _ => if plainV e = true then (match ixOf g.flds f with
    | some j => fldS p g.noat g.flds.length j (r.e sc o) (r.e sc e)
    | none => badS) else badS
  | tg => if (plainV e && noSwap tg e && plainE tg) = true then asgS (r.e sc e) (stG p g N r sc tg) else badS
def stRaise (g : Pg) (r : Sems) (sc : Scope) : Expr → SemS
  | .Call (.Name x _) args [] _ => if (okN x && isGlo sc x && args.all plainE) = true then (match g.glo.lookup x with
    | some (.cls c) => (match g.exc c with
      | some [] => (match args with
        | [] => raise0S c
        | _ => badS)
      | some (f :: fs) => (match args with
        | [] => badS
        | _ => raiseS c (f :: fs) (stA r sc args))
      | none => badS)
    | _ => badS) else badS
  | _ => badS
def stExpr (r : Sems) (sc : Scope) : Expr → SemS
  | .Constant (.str _) _ _ => nextS
  | e => if plainV e = true then dropS (r.e sc e) else badS
def stS (p : Px) (g : Pg) (N : List Str) (sc : Scope) (r : Sems) (ss : List Stmt → SemS) (tr : List Stmt → List ExceptHandler → SemS) : Stmt → SemS
  | .Pass _ => nextS
  | .Break _ => brkS
  | .Continue _ => contS
  | .Expr e _ => stExpr r sc e
  | .Return e _ => (match e with
    | some e => retS (r.e sc e)
    | none => retN)
  | .Assign tgs e pos => (match tgs with
    | [tg] => stSet p g N r sc tg e pos.line
    | _ => badS)
  | .If c a b _ => ifS (r.t sc c) (ss a) (ss b)
  | .While c body els _ => (match els with
    | [] => whileS (r.t sc c) (ss body) g.fuel
    | _ => badS)
  | .For tg iter body els _ => (match els with
    | [] => if plainSet iter = true then forS (stI g r sc iter) (stG p g N r sc tg) (ss body) else badS
    | _ => badS)
  | .Raise e cause _ => (match e, cause with
    | some e, none => stRaise g r sc e
    | _, _ => badS)
  | .Try body hs els fin _ => (match els, fin with
    | [], [] => tr body hs
    | _, _ => badS)
  | _ => badS
def stSs (f : Stmt → SemS) : List Stmt → SemS
  | [] => nextS
  | st :: rest => seqS (f st) (stSs f rest)

section
variable {P : Program} {w : World} {p : Px} {mg : Str → Option Value} {base : Heap} {l : Nat} {N : List Str} {sc : Scope} {W : WX} {X : Cx} {C : Calls} {g : Pg} {r : Sems}
theorem pss_bad {st : List Stmt} : PSs X st (tS p W badS) := ⟨fun _ _ _ _ _ _ ⟨_, _, _, _, po⟩ => False.elim po⟩
theorem ps_bad {st : Stmt} : PS X st (tS p W badS) := ⟨fun _ _ _ _ _ _ ⟨_, _, _, _, po⟩ => False.elim po⟩
theorem pg_bad {e : Expr} : PG X e (tT1 p W badG) := ⟨fun _ _ _ _ _ _ _ _ _ ⟨_, _, _, _, _, _, po⟩ => False.elim po⟩
theorem pgs_bad {es : List Expr} : PGs X es (tTs p W fun _ _ => .bad) := ⟨fun _ _ _ _ _ _ _ _ _ ⟨_, _, _, _, _, _, po⟩ => False.elim po⟩
theorem sub_assign {o i : Expr} {pos : Pos} (h : plainIx i = true) (env : Env) (v : Value) : assign (.Subscript o i pos) env v = (do
      let ov ← holding [v] (eval o env)
      let iv ← holding [v, ov] (eval i env)
      standAt pos
      holding [v, ov, iv] (setItem ov iv v)
      release [v, ov, iv] []) := by
  cases i <;> first | rfl | cases h
theorem stG0_ok [p.Free] (h : SoundE P w p mg base l N r) (cx : Cxb P w p mg base (l + 4) N sc W X) (G : GFacts P w p mg base l C g) (e : Expr) : PG X e (tT1 p W (stG0 p g N r sc e)) := by
  cases e with
  | Name x q =>
    show PG X _ (tT1 p W (if isLoc sc x = true then (match ixOf N x with | some i => nameG i | none => badG) else badG))
    split
    · rename_i hl
      split
      · rename_i i ei
        obtain ⟨h1, h2⟩ := cx.sto.at_ x hl
        exact pg_nameG cx.nd (by rw [cx.names]; exact ixOf_ok ei) h1 h2
      · exact pg_bad
    · exact pg_bad
  | Subscript o i q =>
    show PG X _ (tT1 p W (if plainIx i = true then subG (r.e sc o) (r.e sc i) else badG))
    split
    · rename_i hp
      exact pg_subG (h.e sc W X cx.toCxt o) (h.e sc W X cx.toCxt i) fun v => sub_assign hp X.env v
    · exact pg_bad
  | Attribute o f q =>
    show PG X _ (tT1 p W (match ixOf g.flds f with | some j => fldG p g.noat g.flds.length j (r.e sc o) | none => badG))
    split
    · rename_i j ej
      exact pg_fldG cx.toCxt.K G.fld (G.fn j f (ixOf_ok ej)) (h.e sc W X cx.toCxt o)
    · exact pg_bad
  | _ => exact pg_bad
theorem assign_cons {e : Expr} {es : List Expr} {env : Env} (h : plainE e = true) : assignEach (e :: es) env = (false, assign e env) :: assignEach es env := by
  cases e <;> first | rfl | cases h
theorem stGs_ok {f : Expr → SemG} (hf : ∀ e, PG X e (tT1 p W (f e))) : ∀ es : List Expr, PGs X es (tTs p W (stGs f es))
  | [] => pgs_nilG
  | e :: es => by
    unfold stGs
    split
    · rename_i hp
      exact pgs_consG (hf e) (stGs_ok hf es) (by rw [assign_cons hp]; rfl)
    · exact pgs_bad
theorem each_ok : ∀ {es : List Expr} {env : Env}, es.all plainE = true → (assignEach es env).length = es.length ∧ (assignEach es env).findIdx? (·.1) = none
  | [], _, _ => ⟨rfl, rfl⟩
  | e :: es, env, h => by
    rw [List.all_cons, Bool.and_eq_true] at h
    obtain ⟨h1, h2⟩ := each_ok (es := es) (env := env) h.2
    rw [assign_cons h.1]
    exact ⟨by rw [List.length_cons, List.length_cons, h1], by rw [List.findIdx?_cons, if_neg Bool.false_ne_true, h2]; rfl⟩
theorem stG1_ok {f : Expr → SemG} (cx : Cxt P w p mg base (l + 4) N sc W X) (hf : ∀ e, PG X e (tT1 p W (f e))) (e : Expr) : PG X e (tT1 p W (stG1 f e)) := by
  unfold stG1
  split
  · rename_i es k pos
    split
    · rename_i hs
      obtain ⟨h1, h2⟩ := each_ok (env := X.env) hs
      exact pg_tupG cx.calm cx.K (stGs_ok hf es) h1 h2
    · exact pg_bad
  · exact hf e
theorem stG_ok [p.Free] (h : SoundE P w p mg base l N r) (cx : Cxb P w p mg base (l + 4) N sc W X) (G : GFacts P w p mg base l C g) (e : Expr) : PG X e (tT1 p W (stG p g N r sc e)) := stG1_ok cx.toCxt (stG1_ok cx.toCxt (stG0_ok h cx G)) e
theorem noSwap_ok {tg e : Expr} {env : Env} (h : noSwap tg e = true) : swappedStores [tg] e env = pure none := by
  unfold swappedStores
  cases tg with
  | Tuple ts k q =>
    cases e with
    | Tuple => cases h
    | _ => rfl
  | List => cases h
  | _ => rfl
theorem stSet_ok [p.Free] (h : SoundE P w p mg base l N r) (cx : Cxb P w p mg base (l + 4) N sc W X) (G : GFacts P w p mg base l C g) (tg e : Expr) (pos : Pos) : PS X (.Assign [tg] e pos) (tS p W (stSet p g N r sc tg e pos.line)) := by
  have gen : (∀ t q, tg ≠ .Name t q) → PS X (.Assign [tg] e pos) (tS p W (if (plainV e && noSwap tg e && plainE tg) = true then asgS (r.e sc e) (stG p g N r sc tg) else badS)) := fun hn => by
    split
    · rename_i hz
      obtain ⟨hz, h3⟩ := Bool.and_eq_true_iff.mp hz
      obtain ⟨h1, h2⟩ := Bool.and_eq_true_iff.mp hz
      exact ps_asgS (h.e sc W X cx.toCxt e) (stG_ok h cx G tg) (plainV_swaps h1) (noSwap_ok h2) (by rw [assign_cons h3]; rfl)
    · exact ps_bad
  cases tg with
  | Name x px =>
    show PS X _ (tS p W (stSetN g N r sc x px e))
    clear gen
    unfold stSetN
    split
    · rename_i hl
      obtain ⟨h1, h2⟩ := cx.sto.at_ x hl
      split
      · rename_i i ei
        have hN : X.N[i]? = some x := by rw [cx.names]; exact ixOf_ok ei
        split
        · rename_i elt gens scope cpos
          split
          · rename_i hz
            simp only [Bool.and_eq_true] at hz
            obtain ⟨⟨⟨z1, z2⟩, z3⟩, z4⟩ := hz
            refine (stComp_ok h cx.toCxt G elt gens scope cpos).2 i x px pos (ixOf_ok ei) (of_decide_eq_true z2) ?_
            have k1 : X.env.blockKind = .function := by
              unfold Env.blockKind
              rw [cx.kind]
              rfl
            have k2 : X.env.kindOf x = some .local := by
              show X.env.scope.names.lookup x = _
              rw [cx.sc]
              exact of_decide_eq_true z2
            have k3 : (px.line == cpos.line) = true := z3
            show (pure (X.env.blockKind == .function && X.env.kindOf x == some .local && px.line == cpos.line
              && !(scope.names.any fun (n, k) => n == x && (k == .local || k == .cell))) : Sem Bool) = pure true
            rw [k1, k2, k3]
            have z4' : (!(scope.names.any fun (n, k) => n == x && (k == .local || k == .cell))) = true := z4
            rw [z4']
            rfl
          · exact ps_bad
        · split
          · rename_i hv
            exact ps_setS cx.nd hN h1 (h.e sc W X cx.toCxt _) (plainV_swaps hv) h2
          · exact ps_bad
      · exact ps_bad
    · exact ps_bad
  | Attribute o f q =>
    show PS X _ (tS p W (if plainV e = true then (match ixOf g.flds f with
      | some j => fldS p g.noat g.flds.length j (r.e sc o) (r.e sc e)
      | none => badS) else badS))
    split
    · rename_i hv
      split
      · rename_i j ej
        exact ps_fldS cx.K G.fld (G.fn j f (ixOf_ok ej)) (h.e sc W X cx.toCxt o) (h.e sc W X cx.toCxt e) (plainV_swaps hv)
      · exact ps_bad
    · exact ps_bad
  | _ => exact gen (fun _ _ => nofun)
theorem stRaise_ok (h : SoundE P w p mg base l N r) (cx : Cxb P w p mg base (l + 4) N sc W X) (G : GFacts P w p mg base l C g) (e : Expr) (pos : Pos) : PS X (.Raise (some e) none pos) (tS p W (stRaise g r sc e)) := by
  unfold stRaise
  split
  · rename_i x q args pos'
    split
    · rename_i hn
      obtain ⟨hn, hpl⟩ := Bool.and_eq_true_iff.mp hn
      obtain ⟨hn, hg⟩ := Bool.and_eq_true_iff.mp hn
      have d1 := (okN_ok hn).1
      have gl := gl_of cx.toCxt hg
      split
      · rename_i c ek
        have hm : X.mg x = some (.ref (p.CA c)) := by
          rw [cx.mg]
          exact G.glo x _ ek
        split
        · rename_i ef
          split
          · obtain ⟨bmB, B, newId, initId, F, q1, q2, q3, q4⟩ := (G.exc c _ ef).no rfl
            exact ps_raise0S cx.toCxt F q1 q2 q3 q4 gl hm d1
          · exact ps_bad
        · rename_i f fs ef
          cases args with
          | nil => exact ps_bad
          | cons a as =>
            obtain ⟨T, hno, hle, fI, fd, ps, iC, tI, F1, hb⟩ := (G.exc c _ ef).own (List.cons_ne_nil _ _)
            have hA := stA_ok h cx.toCxt (a :: as)
            rw [List.all_cons, Bool.and_eq_true] at hpl
            exact ps_raiseS (cx.toCxt.mono (show l + 1 ≤ l + 4 by omega)) T iC tI F1 hb hno hle gl hm d1 hA (starEach_plain hpl.1) (star_any hpl.2)
        · exact ps_bad
      · exact ps_bad
    · exact ps_bad
  · exact ps_bad
theorem stExpr_ok (h : SoundE P w p mg base l N r) (cx : Cxt P w p mg base (l + 4) N sc W X) (e : Expr) (pos : Pos) : PS X (.Expr e pos) (tS p W (stExpr r sc e)) := by
  unfold stExpr
  split
  · exact ps_docS
  · split
    · rename_i hv
      exact ps_exprS (h.e sc W X cx _) (plainV_swaps hv)
    · exact ps_bad
/-- the bodies inside are right -/
def SoundS (P : Program) (w : World) (p : Px) (mg : Str → Option Value) (base : Heap) (l : Nat) (N : List Str) (sc : Scope) (ss : List Stmt → SemS) : Prop := ∀ W X, Cxb P w p mg base (l + 4) N sc W X → ∀ st, PSs X st (tS p W (ss st))
def SoundT (P : Program) (w : World) (p : Px) (mg : Str → Option Value) (base : Heap) (l : Nat) (N : List Str) (sc : Scope) (tr : List Stmt → List ExceptHandler → SemS) : Prop := ∀ W X, Cxb P w p mg base (l + 4) N sc W X → ∀ body hs pos, PS X (.Try body hs [] [] pos) (tS p W (tr body hs))
theorem stS_ok [p.Free] {ss : List Stmt → SemS} {tr : List Stmt → List ExceptHandler → SemS} (h : SoundE P w p mg base l N r) (hs : SoundS P w p mg base l N sc ss) (ht : SoundT P w p mg base l N sc tr) (cx : Cxb P w p mg base (l + 4) N sc W X) (G : GFacts P w p mg base l C g) (st : Stmt) :
    PS X st (tS p W (stS p g N sc r ss tr st)) := by
  cases st with
  | Pass => exact ps_passS
  | Break => exact ps_breakS
  | Continue => exact ps_contS
  | Expr e pos => exact stExpr_ok h cx.toCxt e pos
  | Return e pos =>
    cases e with
    | none => exact ps_retNS
    | some e => exact ps_retS (h.e sc W X cx.toCxt e)
  | Assign tgs e pos =>
    match tgs with
    | [] => exact ps_bad
    | [tg] => exact stSet_ok h cx G tg e pos
    | _ :: _ :: _ => exact ps_bad
  | If c a b pos => exact ps_ifS (h.t sc W X cx.toCxt c) (hs W X cx a) (hs W X cx b)
  | While c body els pos =>
    cases els with
    | nil => exact ps_whileS cx.pass (h.t sc W X cx.toCxt c) (hs W X cx body)
    | cons => exact ps_bad
  | For tg iter body els pos =>
    cases els with
    | nil =>
      show PS X _ (tS p W (if plainSet iter = true then forS (stI g r sc iter) (stG p g N r sc tg) (ss body) else badS))
      split
      · rename_i hp
        exact ps_forS cx.pass cx.calm (stI_ok h cx.toCxt G tg iter) (stG_ok h cx G tg) (hs W X cx body) (plainSet_folded hp X.env)
      · exact ps_bad
    | cons => exact ps_bad
  | Raise e cause pos =>
    cases e with
    | none => exact ps_bad
    | some e =>
      cases cause with
      | none => exact stRaise_ok h cx G e pos
      | some => exact ps_bad
  | Try body hds els fin pos =>
    cases els with
    | nil =>
      cases fin with
      | nil => exact ht W X cx body hds pos
      | cons => exact ps_bad
    | cons => exact ps_bad
  | _ => exact ps_bad
theorem stSs_ok {f : Stmt → SemS} (hf : ∀ st, PS X st (tS p W (f st))) : ∀ st : List Stmt, PSs X st (tS p W (stSs f st))
  | [] => pss_nilS
  | st :: rest => pss_consS (hf st) (stSs_ok hf rest)
end
end Den
end

-- DenT
section
set_option maxHeartbeats 2000000
/-! Den: from the syntax to Den, a try's suites; the fuel. -/
namespace Den
open PySem PySem.Spec L2 PyProof.Rows
/-! ### a suite's expressions -/
/-- what is at hand in a suite: the error's name and its slot (if it has one), its class, its fields -/
structure Er where
  nm : Option (Str × Nat)
  c : Nat
  fs : List Nat
  xs : List D
def Er.slot (er : Er) : Option Nat := er.nm.map (·.2)
def Er.is (er : Er) (x : Str) : Bool := match er.nm with
  | some (n, _) => decide (n = x)
  | none => false
def sufA (f : Expr → SemE) : List Expr → SemA
  | [] => nilA
  | e :: es => if plainE e = true then consA (f e) (sufA f es) else badA
def sufB (f : Expr → SemE) (op : BoolOp) : List Expr → SemE
  | [] => badE
  | [a] => f a
  | a :: b :: l => match op with
    | .And => andE (f a) (sufB f op (b :: l))
    | .Or => orE (f a) (sufB f op (b :: l))
def isBlt (g : Pg) (sc : Scope) (n : Nat) (x : Str) : Bool := decide (x = bltName n) && isGlo sc x && (match g.glo.lookup x with
  | some (.blt m) => decide (m = n)
  | _ => false)
def sufName (N : List Str) (sc : Scope) (er : Er) (x : Str) : SemE := if (okN x && isVis sc x && !er.is x) = true then (match ixOf N x with
  | some i => varE i
  | none => badE) else badE
def sufAttr (g : Pg) (N : List Str) (sc : Scope) (er : Er) (o : Expr) (f : Str) : SemE := match o, er.nm with
  | .Name x _, some (n, i) => if (decide (x = n) && okN x && isVis sc x && decide (ixOf N x = some i)) = true then (match ixOf g.flds f with
    | some j => errFldE g.E g.flds.length er.c er.fs er.xs j
    | none => badE) else badE
  | _, _ => badE
def sufIs (p : Px) (g : Pg) (N : List Str) (sc : Scope) (er : Er) (args : List Expr) : SemE := match args, er.nm with
  | [.Name y _, .Name z _], some (n, i) => if (decide (y = n) && okN y && isVis sc y && decide (ixOf N y = some i) && okN z && isGlo sc z) = true then (match g.glo.lookup z with
    | some (.cls e) => errIsE g.E p.sub er.c e
    | _ => badE) else badE
  | _, _ => badE
def sufCmp (f : Expr → SemE) (a : Expr) (ops : List CmpOp) (bs : List Expr) : SemE := match ops, bs with
  | [.Eq], [b] => if plainSet b = true then bin (eqV false) (f a) (f b) else badE
  | _, _ => badE
def sufE (p : Px) (g : Pg) (N : List Str) (sc : Scope) (er : Er) : Nat → Expr → SemE
  | 0, _ => badE
  | k + 1, e => match e with
    | .Constant c _ _ => match c with
      | .none => conE .non
      | .bool b => conE (.bl b)
      | .int i => conE (.int i)
      | .str x => conE (.str x)
      | _ => badE
    | .Name x _ => sufName N sc er x
    | .Tuple es _ _ => tupE (sufA (sufE p g N sc er k) es)
    | .Attribute o f _ => sufAttr g N sc er o f
    | .BoolOp op vs _ => sufB (sufE p g N sc er k) op vs
    | .Compare a ops bs _ => sufCmp (sufE p g N sc er k) a ops bs
    | .Subscript a i _ => if plainIx i = true then bin ixV (sufE p g N sc er k a) (sufE p g N sc er k i) else badE
    | .BinOp a op b _ => match op with
      | .Sub => bin subV (sufE p g N sc er k a) (sufE p g N sc er k b)
      | _ => badE
    | .Call f args kws _ => match f, kws with
      | .Name x _, [] => if isBlt g sc 13 x = true then sufIs p g N sc er args else if isBlt g sc 0 x = true then (match args with
        | [a] => if plainE a = true then callV lenV (sufA (sufE p g N sc er k) [a]) else badE
        | _ => badE) else badE
      | _, _ => badE
    | _ => badE
def sufS (p : Px) (g : Pg) (N : List Str) (sc : Scope) (k : Nat) (er : Er) : List Stmt → SemS
  | [] => nextS
  | .Assign [.Name y _] e _ :: rest => if (isLoc sc y && !er.is y && plainV e) = true then (match ixOf N y with
    | some i => seqS (asgS (sufE p g N sc er k e) (nameG i)) (sufS p g N sc k er rest)
    | none => badS) else badS
  | _ => badS
/-! ### clauses -/
def hdOf (p : Px) (g : Pg) (N : List Str) (sc : Scope) (k : Nat) : ExceptHandler → Option Hd
  | .ExceptHandler (some (.Name x _)) nm (st :: more) _ => if (okN x && isGlo sc x) = true then (match g.glo.lookup x with
    | some (.cls c) => if inE g.E c = true then (match nm with
      | none => some ⟨c, none, fun ec fs xs => sufS p g N sc k ⟨none, ec, fs, xs⟩ (st :: more)⟩
      | some n => if (decide (sc.names.lookup n = some .local) && okN n) = true then (match ixOf N n with
        | some i => some ⟨c, some i, fun ec fs xs => sufS p g N sc k ⟨some (n, i), ec, fs, xs⟩ (st :: more)⟩
        | none => none) else none) else none
    | _ => none) else none
  | _ => none
def hdsOf (p : Px) (g : Pg) (N : List Str) (sc : Scope) (k : Nat) : List ExceptHandler → Option (List Hd)
  | [] => some []
  | h :: hs => match hdOf p g N sc k h, hdsOf p g N sc k hs with
    | some a, some l => some (a :: l)
    | _, _ => none
def stTry (p : Px) (g : Pg) (N : List Str) (sc : Scope) (k : Nat) (ss : List Stmt → SemS) (body : List Stmt) (hs : List ExceptHandler) : SemS := match hs with
  | [] => badS
  | h :: hs => match hdsOf p g N sc k (h :: hs) with
    | some l => tryS g.E p.sub (ss body) l
    | none => badS
/-! ### the fuel -/
noncomputable def semsOf (p : Px) (g : Pg) (C : Calls) (N : List Str) : Nat → Sems
  | 0 => ⟨fun _ _ => badE, fun _ _ => badT⟩
  | k + 1 => ⟨fun sc e => stE2 p g C N (semsOf p g C N k) sc e, fun sc e => stT g C N (semsOf p g C N k) sc e⟩
noncomputable def bodyOf (p : Px) (g : Pg) (C : Calls) (N : List Str) (sc : Scope) (ke : Nat) : Nat → List Stmt → SemS
  | 0, _ => badS
  | k + 1, st => stSs (stS p g N sc (semsOf p g C N ke) (bodyOf p g C N sc ke k) (stTry p g N sc ke (bodyOf p g C N sc ke k))) st

section
variable {P : Program} {w : World} {p : Px} {mg : Str → Option Value} {base : Heap} {l : Nat} {N : List Str} {sc : Scope} {W : WX} {X : Cx} {C : Calls} {g : Pg} {r : Sems}
theorem semsOf_ok [p.Free] (G : GFacts P w p mg base l C g) : ∀ k, SoundE P w p mg base l N (semsOf p g C N k)
  | 0 => ⟨fun _ _ _ _ _ => pe_bad, fun _ _ _ _ _ => pt_bad⟩
  | k + 1 => ⟨fun sc W X cx e => stE2_ok (semsOf_ok G k) cx G e, fun sc W X cx e => stT_ok (semsOf_ok G k) cx G e⟩
section
variable {a : Addr} {oe : Obj} {d : Option Addr} {pn : List (Addr × Obj)} {er : Er}
theorem ps_setErr [p.Free] {Y : Cx} {fs : List Nat} {xs : List D} {lk : Option Nat} {e : Expr} {fe : SemE} {i : Nat} {x : Str} {pos pos' : Pos} (hne : ∀ j, lk = some j → j ≠ i) (hN : Y.N.Nodup) (hi : Y.N[i]? = some x) (hx : Loc Y.env.scope x) (he : PE Y e (tE (p.err fs xs d lk a) W fe)) (hv : plainV e = true)
    (hf : Y.fn x = true ∨ Y.env.scope.names.lookup x = some .local) : PS Y (.Assign [.Name x pos'] e pos) (tS (p.err fs xs d lk a) W (asgS fe (nameG i))) :=
  PS.by (ps_set hN hi hx he (plainV_swaps hv) hf) fun E σ H ⟨bs, r, s, R, po⟩ => by
    refine tG.mono (PoS.bind (rel := RV (p.err fs xs d lk a)) R po) fun v H1 ⟨r1, d', s1, l1, R1, q1, po1⟩ => ?_
    obtain ⟨f1, f2, f3⟩ := R1.env.2.2
    refine po1 r1 _ H1 (Rp.le.refl r1) ⟨R1.hp, R1.env.setF q1 ⟨Px.Free.set _ _ _ _ f1, f2, fun j hj => ?_⟩, R1.bl, R1.bk⟩
    rw [List.getElem?_set_ne (Ne.symm (hne j hj))]
    exact f3 j hj
theorem sufA_ok {q : Px} {Y : Cx} {f : Expr → SemE} (hf : ∀ e, PE Y e (tE q W (f e))) : ∀ es : List Expr, PA Y es (tA q W (sufA f es))
  | [] => pa_nilA
  | e :: es => by
    unfold sufA
    split
    · rename_i hp
      exact pa_consA (hf e) (sufA_ok hf es) (starEach_plain hp)
    · exact pa_bad
theorem sufB_ok {q : Px} {Y : Cx} {f : Expr → SemE} (hf : ∀ e, PE Y e (tE q W (f e))) {op : BoolOp} {pos : Pos} : ∀ vs : List Expr, PE Y (.BoolOp op vs pos) (tE q W (sufB f op vs))
  | [] => pe_bad
  | [a] => pe_one (hf a)
  | a :: b :: vs => by
    cases op with
    | And => exact pe_andE (hf a) (sufB_ok hf (b :: vs))
    | Or => exact pe_orE (hf a) (sufB_ok hf (b :: vs))
theorem isBlt_ok (cx : Cxt P w p mg base (l + 4) N sc W X) (G : GFacts P w p mg base l C g) {n : Nat} {x : Str} (h : isBlt g sc n x = true) : x = bltName n ∧ Gl X x ∧ X.mg x = none := by
  unfold isBlt at h
  obtain ⟨h, hk⟩ := Bool.and_eq_true_iff.mp h
  obtain ⟨hx, hg⟩ := Bool.and_eq_true_iff.mp h
  refine ⟨of_decide_eq_true hx, gl_of cx hg, ?_⟩
  split at hk
  · rename_i m ek
    rw [cx.mg]
    exact (G.glo _ _ ek).1
  · cases hk
theorem sufE_ok (cx : Cxb P w p mg base (l + 4) N sc W X) (G : GFacts P w p mg base l C g) (hz : Zc (.ref (p.CA er.c)) d oe) (hd : ∃ vs, oe.data = .fields vs) : ∀ (k : Nat) (e : Expr), PE (X.suite a ((a, oe) :: pn)) e (tE (p.err er.fs er.xs d er.slot a) noW (sufE p g N sc er k e))
  | 0, e => pe_bad
  | k + 1, e => by
    have hK : X.K = p.K := cx.K
    have hu : (X.suite a ((a, oe) :: pn)).A.units + 64 < cLine := cx.room.units
    have ih := sufE_ok cx G hz hd k
    have ct : ∀ {v : V} {dv : D} {e : Expr}, PE (X.suite a ((a, oe) :: pn)) e (tC v) → (∀ r, RV (p.err er.fs er.xs d er.slot a) r dv v) → PE (X.suite a ((a, oe) :: pn)) e (tE (p.err er.fs er.xs d er.slot a) noW (conE dv)) := fun h1 h2 => con_of (t := tC .non) h1 h2
    cases e with
    | Constant c kk pos =>
      cases c with
      | none => exact ct pe_non fun r => by simp [RV]
      | bool b => exact ct pe_bl fun r => by simp [RV]
      | int i => exact ct pe_int fun r => by simp [RV]
      | str x => exact ct pe_str fun r => by simp [RV]
      | _ => exact pe_bad
    | Name x pos =>
      show PE _ _ (tE _ noW (sufName N sc er x))
      unfold sufName
      split
      · rename_i hn
        obtain ⟨hn, _⟩ := Bool.and_eq_true_iff.mp hn
        obtain ⟨hn, hv⟩ := Bool.and_eq_true_iff.mp hn
        obtain ⟨d1, d2⟩ := okN_ok hn
        split
        · rename_i i ei
          exact pe_varE (X := X.suite a ((a, oe) :: pn)) (by show X.N[i]? = some x; rw [cx.names]; exact ixOf_ok ei) (by show Vis X.env.scope x; rw [cx.sc]; exact isVis_ok hv) d1 d2
        · exact pe_bad
      · exact pe_bad
    | Tuple es kk pos => exact pe_tupE (sufA_ok ih es)
    | Attribute o f pos =>
      show PE _ _ (tE _ noW (sufAttr g N sc er o f))
      obtain ⟨nm, c, fs, xs⟩ := er
      unfold sufAttr
      split
      · rename_i x q n i en
        split
        · rename_i hn
          obtain ⟨hn, hi⟩ := Bool.and_eq_true_iff.mp hn
          obtain ⟨hn, hv⟩ := Bool.and_eq_true_iff.mp hn
          obtain ⟨hx, hn⟩ := Bool.and_eq_true_iff.mp hn
          obtain ⟨d1, d2⟩ := okN_ok hn
          have en' : nm = some (n, i) := en
          subst en'
          split
          · rename_i j ej
            exact pe_errFld hK G.err G.fld hz hd (G.fn j f (ixOf_ok ej)) (by rw [cx.names]; exact ixOf_ok (of_decide_eq_true hi)) (by rw [cx.sc]; exact isVis_ok hv) d1 d2
          · exact pe_bad
        · exact pe_bad
      · exact pe_bad
    | BoolOp op vs pos => exact sufB_ok ih vs
    | Compare x ops bs pos =>
      show PE _ _ (tE _ noW (sufCmp (sufE p g N sc er k) x ops bs))
      unfold sufCmp
      split
      · rename_i b
        split
        · rename_i hp
          exact pe_cmpE (op_eqV hK hu) (ih x) (ih b) (plainSet_marks hp)
        · exact pe_bad
      · exact pe_bad
    | Subscript x i pos =>
      show PE _ _ (tE _ noW (if plainIx i = true then bin ixV (sufE p g N sc er k x) (sufE p g N sc er k i) else badE))
      split
      · rename_i hp
        exact pe_ixE (ix_V hK) (ih x) (ih i) (plainIx_ok hp)
      · exact pe_bad
    | BinOp x op b pos =>
      cases op with
      | Sub => exact pe_bin op_subV (ih x) (ih b)
      | _ => exact pe_bad
    | Call f args kws pos =>
      cases f with
      | Name x q =>
        cases kws with
        | cons => exact pe_bad
        | nil =>
          show PE _ _ (tE _ noW (if isBlt g sc 13 x = true then sufIs p g N sc er args else if isBlt g sc 0 x = true then (match args with
            | [a] => if plainE a = true then callV lenV (sufA (sufE p g N sc er k) [a]) else badE
            | _ => badE) else badE))
          split
          · rename_i hb
            obtain ⟨rfl, gl, hm⟩ := isBlt_ok cx.toCxt G hb
            obtain ⟨nm, c, fs, xs⟩ := er
            unfold sufIs
            split
            · rename_i y q2 z q3 n i en
              split
              · rename_i hn
                obtain ⟨hn, gz⟩ := Bool.and_eq_true_iff.mp hn
                obtain ⟨hn, oz⟩ := Bool.and_eq_true_iff.mp hn
                obtain ⟨hn, hi⟩ := Bool.and_eq_true_iff.mp hn
                obtain ⟨hn, hv⟩ := Bool.and_eq_true_iff.mp hn
                obtain ⟨hx, hn⟩ := Bool.and_eq_true_iff.mp hn
                obtain ⟨d1, d2⟩ := okN_ok hn
                have en' : nm = some (n, i) := en
                subst en'
                split
                · rename_i e2 ek
                  have hmz : X.mg z = some (.ref (p.CA e2)) := by
                    rw [cx.mg]
                    exact G.glo z _ ek
                  exact pe_errIs hK G.err hz hd (by rw [cx.names]; exact ixOf_ok (of_decide_eq_true hi)) (by rw [cx.sc]; exact isVis_ok hv) d1 d2 (gl_of cx.toCxt gz) hmz (okN_ok oz).1 gl hm
                · exact pe_bad
              · exact pe_bad
            · exact pe_bad
          · split
            · rename_i hb
              obtain ⟨rfl, gl, hm⟩ := isBlt_ok cx.toCxt G hb
              split
              · rename_i a1
                split
                · rename_i hp
                  exact pe_bltV (X := X.suite a ((a, oe) :: pn)) (call_lenV hK) gl hm (by kernel_rfl) (sufA_ok ih [a1]) (by decide +kernel) (by decide +kernel) (starEach_plain hp) rfl
                · exact pe_bad
              · exact pe_bad
            · exact pe_bad
      | _ => exact pe_bad
    | _ => exact pe_bad
theorem sufS_ok [p.Free] (cx : Cxb P w p mg base (l + 4) N sc W X) (G : GFacts P w p mg base l C g) (hz : Zc (.ref (p.CA er.c)) d oe) (hd : ∃ vs, oe.data = .fields vs) (hs : ∀ n i, er.nm = some (n, i) → N[i]? = some n) {k : Nat} : ∀ st : List Stmt, PSs (X.suite a ((a, oe) :: pn)) st (tS (p.err er.fs er.xs d er.slot a) noW (sufS p g N sc k er st))
  | [] => pss_nilS
  | st :: rest => by
    unfold sufS
    split
    · rename_i he
      cases he
    · rename_i y q e pos rest' he
      obtain ⟨rfl, rfl⟩ := List.cons.inj he
      split
      · rename_i hn
        obtain ⟨hn, hv⟩ := Bool.and_eq_true_iff.mp hn
        obtain ⟨hl, hne⟩ := Bool.and_eq_true_iff.mp hn
        split
        · rename_i i ei
          obtain ⟨h1, h2⟩ := cx.sto.at_ y hl
          have hy := ixOf_ok ei
          refine pss_consS (ps_setErr (Y := X.suite a ((a, oe) :: pn)) (fun j hj z => ?_) cx.nd (by show X.N[i]? = some y; rw [cx.names]; exact hy) h1 (sufE_ok cx G hz hd k e) hv h2) (sufS_ok cx G hz hd hs rest)
          subst z
          obtain ⟨nm, c, fs, xs⟩ := er
          cases nm with
          | none => cases hj
          | some nj =>
            obtain ⟨n, j'⟩ := nj
            have : j' = j := Option.some.inj hj
            subst this
            have hn2 := hs n j' rfl
            rw [hy] at hn2
            have : y = n := Option.some.inj hn2
            subst this
            simp [Er.is] at hne
        · exact pss_bad
      · exact pss_bad
    · exact pss_bad
end
theorem Cxb.tr (cx : Cxb P w p mg base (l + 4) N sc W X) {W' : WX} {pn : List (Addr × Obj)} {xe : Value → Shared → Prop} (tk : Takes (X.tr pn xe) W') (hp : PassesOwn (model X.prog X.w) X.A X.env xe) : Cxb P w p mg base (l + 4) N sc W' (X.tr pn xe) :=
  { prog := cx.prog, w := cx.w, K := cx.K, mg := cx.mg, base := cx.base, names := cx.names, nd := cx.nd, sc := cx.sc, calm := cx.calm, room := cx.room, tk := tk, more := trivial, stk := cx.stk, fr := cx.fr, pass := hp, kind := cx.kind, fnT := cx.fnT }
theorem hdOf_ok [p.Free] (cx : Cxb P w p mg base (l + 4) N sc W X) (G : GFacts P w p mg base l C g) {k : Nat} {h : ExceptHandler} {a : Hd} (e : hdOf p g N sc k h = some a) {hs : List ExceptHandler} {cl : List Cla} (r : Clas X hs cl) : Clas X (h :: hs) (claOf p a :: cl) ∧ inE g.E a.c = true := by
  unfold hdOf at e
  split at e
  · rename_i x q nm st more q'
    split at e
    · rename_i hn
      obtain ⟨hn, hg⟩ := Bool.and_eq_true_iff.mp hn
      split at e
      · rename_i c ek
        have nms : Names X x (.ref (p.CA c)) := ⟨gl_of cx.toCxt hg, (okN_ok hn).1, .inl (by rw [cx.mg]; exact G.glo x _ ek)⟩
        split at e
        · rename_i hE
          split at e
          · cases e
            exact ⟨.bare nms (suite_of fun a oe c' d pn fs xs hz hd => sufS_ok (er := ⟨none, c', fs, xs⟩) cx G hz hd (fun _ _ z => nomatch z) (st :: more)) r, hE⟩
          · rename_i n
            split at e
            · rename_i hz
              obtain ⟨hl, ho⟩ := Bool.and_eq_true_iff.mp hz
              split at e
              · rename_i i ei
                cases e
                refine ⟨.named (by rw [cx.names]; exact ixOf_ok ei) (by show X.env.scope.names.lookup n = _; rw [cx.sc]; exact of_decide_eq_true hl) nms (suite_of fun a oe c' d pn fs xs hz hd => sufS_ok (er := ⟨some (n, i), c', fs, xs⟩) cx G hz hd (fun n' i' z => ?_) (st :: more)) r, hE⟩
                cases z
                exact ixOf_ok ei
              · cases e
            · cases e
        · cases e
      · cases e
    · cases e
  · cases e
theorem hdsOf_ok [p.Free] (cx : Cxb P w p mg base (l + 4) N sc W X) (G : GFacts P w p mg base l C g) {k : Nat} : ∀ {hs : List ExceptHandler} {as : List Hd}, hdsOf p g N sc k hs = some as → Clas X hs (as.map (claOf p)) ∧ ∀ a ∈ as, inE g.E a.c = true
  | [], as, e => by
    have : as = [] := (Option.some.inj e).symm
    subst this
    exact ⟨.none, fun _ z => nomatch z⟩
  | h :: hs, as, e => by
    unfold hdsOf at e
    split at e
    · rename_i a l' e1 e2
      have : as = a :: l' := (Option.some.inj e).symm
      subst this
      obtain ⟨r1, r2⟩ := hdsOf_ok cx G e2
      obtain ⟨r3, r4⟩ := hdOf_ok cx G e1 r1
      refine ⟨r3, fun b hb => ?_⟩
      rcases List.mem_cons.mp hb with rfl | hb
      · exact r4
      · exact r2 b hb
    · cases e
theorem stTry_ok [p.Free] {ss : List Stmt → SemS} (hs : SoundS P w p mg base l N sc ss) (G : GFacts P w p mg base l C g) {k : Nat} : SoundT P w p mg base l N sc (stTry p g N sc k ss) := by
  intro W X cx body hds pos
  unfold stTry
  split
  · exact ps_bad
  · rename_i h hds
    split
    · rename_i as e
      obtain ⟨r1, r2⟩ := hdsOf_ok cx G e
      exact ps_tryS cx.K cx.stk cx.fr cx.nd cx.tk (fun W' pn xe tk hp => hs W' _ (cx.tr tk hp) body) r1 fun h hh c hc => G.err.exm c h.c hc (r2 h hh)
    · exact ps_bad
theorem bodyOf_ok [p.Free] (G : GFacts P w p mg base l C g) {ke : Nat} : ∀ k, SoundS P w p mg base l N sc (bodyOf p g C N sc ke k)
  | 0 => fun _ _ _ _ => pss_bad
  | k + 1 => fun W X cx st => stSs_ok (fun st => stS_ok (semsOf_ok G ke) (bodyOf_ok G k) (stTry_ok (bodyOf_ok G k) G) cx G st) st
end
end Den
end

-- DenU
section
set_option maxHeartbeats 2000000
/-! Den: a whole program: what its head says, the promise of each def at each depth; a law. -/
namespace Den
open PySem PySem.Spec L2 PyProof.Rows
section
variable {P : Program} {w : World} {p : Px} {mg : Str → Option Value} {base : Heap} {g : Pg} {fns : List Fn}
/-- the def number i is the function at f -/
structure DefAt (p : Px) (g : Pg) (fns : List Fn) (i : Nat) (f : Addr) (ps : List Str) : Prop where
  ex : ∃ (fn : Fn) (N : List Str) (sc : Scope) (name qual : Str) (params : Arguments) (body : List Stmt) (dvs : List V) (kws : List (Str × V)) (fd : FuncData) (ke ks : Nat) (gl : List (Str × Gk)), fns[i]? = some fn ∧ FunD p.K name qual params body sc dvs kws f fd ∧ FnScope N ps sc ∧
    fn.slots = N.length ∧ fn.params = ps.length ∧ (fn.body = fun C => bodyOf p { g with glo := gl } C N sc ke ks body) ∧ (∀ x k, gl.lookup x = some k → g.glo.lookup x = some k) ∧
    ∀ j, j ≤ (g.dds i).length → ∃ ds dvs', Vals dvs' ds ∧ Binds p.K fd ps ds ∧ ∀ r, RVs p r ((g.dds i).drop j) dvs'
  kp : PySem.W.keepIn p.K (.ref f) = true
  ar : ps.length = g.arity i
def GloAt (p : Px) (mg : Str → Option Value) (g : Pg) (fns : List Fn) (x : Str) : Gk → Prop
  | .cls c => mg x = some (.ref (p.CA c))
  | .fn i => ∃ f ps, mg x = some (.ref f) ∧ DefAt p g fns i f ps
  | .blt n => mg x = none ∧ x = bltName n
  | .imp n => mg x = some (.builtin (impId n))
/-- own words, by the defs that they are -/
def OwSt (p : Px) (g : Pg) (fns : List Fn) (m : Str) (tbl : Nat → Option Nat) : Prop := ∀ c i, tbl c = some i → c < p.ncls ∧ ∃ f ps, PySem.W.findIn p.K (.ref (p.CA c)) m = some (some (.ref f)) ∧ PySem.W.isFn p.K (.ref f) = true ∧ DefAt p g fns i f ps
structure OpSt (p : Px) (g : Pg) (fns : List Fn) (nm : String) (tl tr : Nat → Option Nat) : Prop where
  left : OwSt p g fns (PySem.dunder nm) tl
  right : OwSt p g fns (dunderR nm) tr
  lft : ∀ c i, tl c = some i → PySem.W.selfFirst p.K (p.CA c) = true ∧ (∃ rc, PySem.W.findIn p.K (.ref (p.CA c)) (dunderR nm) = some rc ∧ (rc = none ∨ ∃ g : Addr, rc = some (.ref g))) ∧
    (PySem.W.subIn p.K (.type "int") (.ref (p.CA c)) = some false ∧ PySem.W.subIn p.K (.type "tuple") (.ref (p.CA c)) = some false)
  rgt : ∀ c i, tr c = some i → PySem.W.selfFirst p.K (p.CA c) = true ∧ (∃ g : Addr, PySem.W.findIn p.K (.ref (p.CA c)) (PySem.dunder nm) = some (some (.ref g))) ∧ PySem.W.subIn p.K (.ref (p.CA c)) (.type "int") = some false
  ty : (∃ fo ro, PySem.W.findIn p.K (.type "int") (PySem.dunder nm) = some fo ∧ PySem.W.findIn p.K (.type "int") (dunderR nm) = some ro) ∧ ∃ fo ro, PySem.W.findIn p.K (.type "tuple") (PySem.dunder nm) = some fo ∧ PySem.W.findIn p.K (.type "tuple") (dunderR nm) = some ro
structure OwnSt (p : Px) (g : Pg) (fns : List Fn) (ow : Str → Nat → Option Nat) : Prop where
  op : ∀ nm, nm = "add" ∨ nm = "sub" ∨ nm = "mul" → OpSt p g fns nm (ow (PySem.dunder nm)) (ow (dunderR nm))
  neg : OwSt p g fns "__neg__" (ow "__neg__")
  eq : OwSt p g fns "__eq__" (ow "__eq__")
  eql : ∀ c i, ow "__eq__" c = some i → ∀ T ∈ eqTys, PySem.W.notFirst p.K (p.CA c) (.type T) = true
  bool : OwSt p g fns "__bool__" (ow "__bool__")
/-- what the head of a program says -/
structure Stat (P : Program) (w : World) (p : Px) (mg : Str → Option Value) (base : Heap) (g : Pg) (fns : List Fn) : Prop where
  hF : ∀ r σ, p.F r σ
  glo : ∀ x k, g.glo.lookup x = some k → GloAt p mg g fns x k
  ini : ∀ c i, g.ini c = some i → ∃ fI ps, Mk p.K (p.CA c) fI ∧ DefAt p g fns i fI ps
  exc : ∀ c fs, g.exc c = some fs → RaiseOk P w p mg base 1 c fs
  fld : FldOk p g.noat g.flds.length
  fn : ∀ j x, g.flds[j]? = some x → p.FN j = x
  kit : KitOk p
  err : ErrOk p g.E g.flds.length
  ve : ∀ c, inE g.E c = true → PySem.W.kitOne p.K (.ref (p.CA c)) (.type "ValueError") = some true
  sub : p.sub = g.sub
  meth : ∀ m t, g.meth.lookup m = some t → (∀ c i, t c = some i → c < p.ncls ∧ ∃ f ps, Meth p.K (p.CA c) m f ∧ DefAt p g fns i f ps) ∧ ∀ j, j < g.flds.length → p.FN j ≠ m
  prop : ∀ m t, g.prop.lookup m = some t → ∀ c i, t c = some i → c < p.ncls ∧ ∃ q f ps, PropOf p.K (p.CA c) m q f ∧ DefAt p g fns i f ps
  stat : ∀ c m i, g.stat c m = some i → ∃ f ps, DefAt p g fns i f ps ∧ SMet p.K (p.CA c) m f
  own : g.own.isEmpty = true ∨ OwnSt p g fns g.ow
theorem RaiseOk.mono {l l' c : Nat} {fs : List Nat} (R : RaiseOk P w p mg base l c fs) (h : l ≤ l') : RaiseOk P w p mg base l' c fs :=
  ⟨fun e => by
    obtain ⟨T, hno, hle, fI, fd, ps, iC, tI, F1, hb⟩ := R.own e
    exact ⟨T, hno, hle, fI, fd, ps, iC, tI, F1.mono h, hb⟩, R.no⟩
/-- the defs at a depth keep their promises: so does the program at that depth -/
theorem gfacts_of {k l : Nat} (S : Stat P w p mg base g fns) (hl : 1 ≤ l) (D : ∀ i f ps, DefAt p g fns i f ps → FnIs P w p mg base l (callK fns k) i f ps (g.dds i)) {gl : List (Str × Gk)} (hg : ∀ x k, gl.lookup x = some k → g.glo.lookup x = some k) : GFacts P w p mg base l (callK fns k) { g with glo := gl } where
  glo := fun x kd e => by
    have q := S.glo x kd (hg x kd e)
    cases kd with
    | cls c => exact q
    | fn i =>
      obtain ⟨f, ps, h1, h2⟩ := q
      exact ⟨f, ps, h1, D i f ps h2, h2.ar⟩
    | blt n => exact q
    | imp n => exact q
  ini := fun c i e => by
    obtain ⟨fI, ps, M, h2⟩ := S.ini c i e
    exact ⟨fI, ps, M, D i fI ps h2, h2.ar⟩
  exc := fun c fs e => (S.exc c fs e).mono hl
  fld := S.fld
  fn := S.fn
  kit := S.kit
  err := S.err
  ve := S.ve
  sub := S.sub
  meth := fun m t e => by
    obtain ⟨h1, h2⟩ := S.meth m t e
    refine ⟨fun c i ei => ?_, h2⟩
    obtain ⟨hc, f, ps, M, d⟩ := h1 c i ei
    exact ⟨hc, f, ps, _, M, D i f ps d⟩
  prop := fun m t e => ⟨fun c i ei => by
    obtain ⟨hc, q, f, ps, M, d⟩ := S.prop m t e c i ei
    exact ⟨hc, q, f, ps, _, M, D i f ps d⟩⟩
  stat := fun c m i e => by
    obtain ⟨f, ps, d, M⟩ := S.stat c m i e
    exact ⟨f, ps, _, D i f ps d, M⟩
  own := by
    rcases S.own with z | z
    · exact .inl z
    · have one : ∀ {m : Str} {tbl : Nat → Option Nat}, OwSt p g fns m tbl → Ow P w p mg base l (callK fns k) m tbl := fun {m tbl} q => ⟨fun c i e => by
        obtain ⟨hc, f, ps, h1, h2, d⟩ := q c i e
        exact ⟨hc, f, ps, _, h1, h2, D i f ps d⟩⟩
      exact .inr ⟨fun nm hn => ⟨one (z.op nm hn).left, one (z.op nm hn).right, (z.op nm hn).lft, (z.op nm hn).rgt, (z.op nm hn).ty⟩, one z.neg, ⟨one z.eq, z.eql⟩, one z.bool⟩
theorem defs_ok [p.Free] (S : Stat P w p mg base g fns) : ∀ k i f ps, DefAt p g fns i f ps → FnIs P w p mg base (5 * k + 1) (callK fns k) i f ps (g.dds i)
  | 0, i, f, ps, d => by
    obtain ⟨fn, N, sc, name, qual, params, body, dvs, kws, fd, ke, ks, gl, hf, F, Sc, h1, h2, h3, h4, h5⟩ := d.ex
    refine ⟨⟨fd, ⟨fun vs H Q E h => h.1, fun A outer s H args us vs Q E _ _ _ _ h => ?_⟩, h5⟩, by rw [← h2]; exact arity_callK hf 0, d.kp⟩
    obtain ⟨_, h | h⟩ := h
    · obtain ⟨_, _, _, _, _, _, po⟩ := h
      exact False.elim po
    · obtain ⟨_, _, _, _, _, _, _, _, _, _, _, _, _, _, po⟩ := h
      exact False.elim po
  | k + 1, i, f, ps, d => by
    obtain ⟨fn, N, sc, name, qual, params, body, dvs, kws, fd, ke, ks, gl, hf, F, Sc, h1, h2, h3, h4, h5⟩ := d.ex
    have G := gfacts_of S (by omega) (defs_ok S k) h4
    have ok := fn_ok (l := 5 * k + 1 + 4) (k := k) rfl S.hF hf F Sc h1 h2 fun X W cx => by
      rw [h3]
      exact bodyOf_ok G ks W X cx body
    exact ⟨⟨fd, ok, h5⟩, by rw [← h2]; exact arity_callK hf (k + 1), d.kp⟩
/-! ### a law -/
theorem law_sp {i k n : Nat} (hev : ∀ ns : List Int, ns.length ≤ n → ∃ hp, callK fns k i none [.scr (ns.map .int)] [] = .ok (.bl true) hp) {H : Hp} {a : Addr} {ns : List Int} (hn : ns.length ≤ n) (hS : SqL p.K H a (ns.map V.int)) :
    spF p (callK fns k) i 1 [.ref a] H (fun v _ => v = .bl true) fun _ _ _ => False := by
  obtain ⟨hp, e⟩ := hev ns hn
  have R : RH p [] ⟨[], H⟩ [] H :=
    { sub := fun _ _ e => e, off := fun a h => absurd h List.not_mem_nil, nd := List.nodup_nil, len := rfl, cell := fun n a c h1 h2 => by simp at h1, clo := fun b hb => absurd hb List.not_mem_nil, bsl := fun b hb => absurd hb List.not_mem_nil }
  refine ⟨rfl, .inl ⟨[], ⟨[], H⟩, [], [.scr (ns.map .int)], R, .cons ?_ .nil, ?_⟩⟩
  · simp only [RV]
    exact ⟨a, _, rfl, hS, rvs_ints ns⟩
  · rw [e]
    intro r' H' v l R q
    simpa [RV] using q
theorem cx_none {H : Hp} {s : Shared} {e : Value} {s' : Shared} (h : L2.CX P w [] H s (fun _ _ _ => False) e s') : False := by
  obtain ⟨_, _, _, _, _, _, _, _, _, _, _, _, z⟩ := h
  exact z
end
end Den
end

-- DenV
section
set_option maxHeartbeats 2000000
/-! Den: a program as tables; what its head says of them, by one check. -/
namespace Den
open PySem PySem.Spec L2 PyProof.Rows
/-- a def: where it stands, its parts, its slots' names, its parameters, the globals that it names, its defaults -/
structure Row where
  at_ : Str × Option Str
  name : Str
  qual : Str
  params : Arguments
  body : List Stmt
  scope : Scope
  N : List Str
  ps : List Str
  gl : List (Str × Gk)
  dfl : List He.Dv
  dds : List D
  keep : Bool
  wrap : Option String
/-- the def's address: of a global, of a class's method, within a static method -/
def Row.ad (r : Row) (K : PySem.W.Frag) : Addr := match r.wrap with
  | none => He.fAd K r.at_
  | some T => He5.wf K (He.ga K r.at_.1) T (match r.at_.2 with
    | some m => m
    | none => "")
structure Tb where
  cls : List Str
  ncls : Nat
  E : Nat × Nat
  subs : List (List Bool)
  flds : List Str
  noats : List (List Bool)
  inis : List (Nat × Nat)
  excs : List (Nat × List Nat)
  meths : List (Str × List (Nat × Nat))
  props : List (Str × List (Nat × Nat))
  stats : List (Nat × Str × Nat)
  owns : List (Str × List (Nat × Nat))
  glo : List (Str × Gk)
  rows : List Row
  fuel : Nat
def Tb.subF (t : Tb) (c e : Nat) : Bool := match t.subs[c]? with
  | some r => r.getD e false
  | none => false
def Tb.noatF (t : Tb) (c j : Nat) : Bool := match t.noats[c]? with
  | some r => r.getD j false
  | none => false
def statF : List (Nat × Str × Nat) → Nat → Str → Option Nat
  | [], _, _ => none
  | (c, m, i) :: r, c', m' => if c = c' ∧ m = m' then some i else statF r c' m'
def Tb.pg (t : Tb) : Pg where
  glo := t.glo
  dds := fun i => match t.rows[i]? with
    | some r => r.dds
    | none => []
  arity := fun i => match t.rows[i]? with
    | some r => r.ps.length
    | none => 0
  ini := fun c => t.inis.lookup c
  exc := fun c => t.excs.lookup c
  flds := t.flds
  noat := t.noatF
  E := t.E
  sub := t.subF
  meth := t.meths.map fun q => (q.1, fun c => q.2.lookup c)
  prop := t.props.map fun q => (q.1, fun c => q.2.lookup c)
  stat := statF t.stats
  own := t.owns.map fun q => (q.1, fun c => q.2.lookup c)
  fuel := t.fuel
def Tb.px (t : Tb) (K : PySem.W.Frag) : Px where
  K := K
  CA := fun c => match t.cls[c]? with
    | some x => He.ga K x
    | none => 0
  FN := fun j => t.flds.getD j ""
  sub := t.subF
  ncls := t.ncls
  F := fun _ _ => True
  Fm := fun _ _ _ _ h => h
instance {t : Tb} {K : PySem.W.Frag} : (t.px K).Free := ⟨fun _ _ _ _ h => h⟩
/-- how deep expressions, statements lie in one another -/
def keF : Nat := 40
def ksF : Nat := 30
noncomputable def Tb.fn (t : Tb) (K : PySem.W.Frag) (r : Row) : Fn := ⟨r.N.length, r.ps.length, r.keep, fun C => bodyOf (t.px K) { t.pg with glo := r.gl } C r.N r.scope keF ksF r.body⟩
noncomputable def Tb.fns (t : Tb) (K : PySem.W.Frag) : List Fn := t.rows.map (t.fn K)
def Row.defD (r : Row) : He5.DefA := ⟨fun K => r.ad K, r.name, r.qual, r.params, r.body, r.scope, r.dfl, []⟩

/-! ### the check -/
def eqOb (a b : Option Bool) : Bool := decide (a = b)
def eqOv (a b : Option Value) : Bool := decide (a = b)
def eqOo (a b : Option (Option Value)) : Bool := decide (a = b)
def Tb.ca (t : Tb) (K : PySem.W.Frag) (c : Nat) : Addr := (t.px K).CA c
def Tb.ckGlo (t : Tb) (K : PySem.W.Frag) : Bool := t.glo.all fun q => match q.2 with
  | .cls c => decide (t.cls[c]? = some q.1) && eqOo (PySem.W.nsIn K mainGlobals q.1) (some (some (.ref (He.ga K q.1))))
  | .fn i => decide ((t.rows[i]?).map (fun r => (r.at_, r.wrap)) = some ((q.1, none), none)) && eqOo (PySem.W.nsIn K mainGlobals q.1) (some (some (.ref (He.ga K q.1))))
  | .blt n => decide (q.1 = bltName n) && eqOo (PySem.W.nsIn K mainGlobals q.1) (some none)
  | .imp n => eqOo (PySem.W.nsIn K mainGlobals q.1) (some (some (.builtin (impId n))))
def Tb.ckCls (t : Tb) (K : PySem.W.Frag) : Bool := (List.range t.ncls).all fun c => PySem.W.plainGet K (t.ca K c) Str.empty && (PySem.W.hasDictIn K (t.ca K c) && (PySem.W.plainOver K (t.ca K c) && (eqOo (PySem.W.findIn K (.ref (t.ca K c)) "__setattr__") (some (some (.builtin "object.__setattr__"))) &&
  (eqOo (PySem.W.findIn K (.ref (t.ca K c)) "__class__") (some (some (.builtin "object.__class__"))) && eqOb (PySem.W.mroIn K (t.ca K c) (.type "object")) (some true)))))
def Tb.ckNo (t : Tb) (K : PySem.W.Frag) : Bool := (List.range t.ncls).all fun c => (List.range t.flds.length).all fun j => !t.noatF c j || eqOo (PySem.W.findIn K (.ref (t.ca K c)) (t.flds.getD j "")) (some none)
def tgs (n : Nat) : List Tg := (List.range 7).map Tg.ty ++ (List.range n).map Tg.cls
def Tb.ckKit (t : Tb) (K : PySem.W.Frag) : Bool := ((tgs t.ncls).all fun s => (tgs t.ncls).all fun u => eqOb (PySem.W.kitOne K (s.val (t.px K)) (u.val (t.px K))) (some (isTg (t.px K) s u))) &&
  (eqOo (PySem.W.specialIn K (.builtin "object.__class__") "__get__") (some (some (.builtin "getset_descriptor.__get__"))) && eqOb (PySem.W.takesIn K (.builtin "object.__class__")) (some true))
def inEs (E : Nat × Nat) : List Nat := (List.range E.2).filter fun c => inE E c
def Tb.ckErr (t : Tb) (K : PySem.W.Frag) : Bool := (inEs t.E).all fun c => ((inEs t.E).all fun e => eqOb (PySem.W.exmOne K (.ref (t.ca K c)) (.ref (t.ca K e))) (some (t.subF c e)) && eqOb (PySem.W.kitOne K (.ref (t.ca K c)) (.ref (t.ca K e))) (some (t.subF c e))) &&
  ((eqOb (PySem.W.kitOne K (.ref (t.ca K c)) (.type "ValueError")) (some true) && (PySem.W.clsIn K (t.ca K c)).isSome) && (xfB K (t.ca K c) && (eqOo (PySem.W.findIn K (.ref (t.ca K c)) "__class__") (some (some (.builtin "object.__class__"))) && (eqOb (PySem.W.mroIn K (t.ca K c) (.type "object")) (some true) &&
    (List.range t.flds.length).all fun j => eqOo (PySem.W.findIn K (.ref (t.ca K c)) (t.flds.getD j "")) (some none)))))
def Tb.ckIni (t : Tb) (K : PySem.W.Frag) : Bool := t.inis.all fun q => match t.rows[q.2]? with
  | some r => PySem.W.makesIn K (t.ca K q.1) && (eqOo (PySem.W.findIn K (.ref (t.ca K q.1)) "__init__") (some (some (.ref (r.ad K)))) && (PySem.W.isFn K (.ref (r.ad K)) && PySem.W.keepIn K (.ref (t.ca K q.1))))
  | none => false
def Tb.ckMeth (t : Tb) (K : PySem.W.Frag) : Bool := t.meths.all fun m => (m.2.all fun q => decide (q.1 < t.ncls) && (match t.rows[q.2]? with
  | some r => eqOo (PySem.W.findIn K (.ref (t.ca K q.1)) m.1) (some (some (.ref (r.ad K)))) && (PySem.W.isFn K (.ref (r.ad K)) && PySem.W.keepIn K (.ref (r.ad K)))
  | none => false)) && t.flds.all fun f => decide (f ≠ m.1)
def Tb.ckFld (t : Tb) : Bool := decide t.flds.Nodup
def Tb.own (t : Tb) (m : Str) : List (Nat × Nat) := match t.owns.lookup m with
  | some l => l
  | none => []
def Tb.ckOwn (t : Tb) (K : PySem.W.Frag) (m : Str) : Bool := (t.own m).all fun q => decide (q.1 < t.ncls) && (match t.rows[q.2]? with
  | some r => eqOo (PySem.W.findIn K (.ref (t.ca K q.1)) m) (some (some (.ref (r.ad K)))) && PySem.W.isFn K (.ref (r.ad K))
  | none => false)
def noneOrRef (o : Option (Option Value)) : Bool := match o with
  | some none => true
  | some (some (.ref _)) => true
  | _ => false
def isRef (o : Option (Option Value)) : Bool := match o with
  | some (some (.ref _)) => true
  | _ => false
def Tb.ckOp (t : Tb) (K : PySem.W.Frag) (nm : String) : Bool := (t.ckOwn K (PySem.dunder nm) && t.ckOwn K (dunderR nm)) && (((t.own (PySem.dunder nm)).all fun q => PySem.W.selfFirst K (t.ca K q.1) && (noneOrRef (PySem.W.findIn K (.ref (t.ca K q.1)) (dunderR nm)) &&
    (eqOb (PySem.W.subIn K (.type "int") (.ref (t.ca K q.1))) (some false) && eqOb (PySem.W.subIn K (.type "tuple") (.ref (t.ca K q.1))) (some false)))) &&
  (((t.own (dunderR nm)).all fun q => PySem.W.selfFirst K (t.ca K q.1) && (isRef (PySem.W.findIn K (.ref (t.ca K q.1)) (PySem.dunder nm)) && eqOb (PySem.W.subIn K (.ref (t.ca K q.1)) (.type "int")) (some false))) &&
  (((PySem.W.findIn K (.type "int") (PySem.dunder nm)).isSome && (PySem.W.findIn K (.type "int") (dunderR nm)).isSome) && ((PySem.W.findIn K (.type "tuple") (PySem.dunder nm)).isSome && (PySem.W.findIn K (.type "tuple") (dunderR nm)).isSome))))
def Tb.ckEq (t : Tb) (K : PySem.W.Frag) : Bool := (t.own "__eq__").all fun q => eqTys.all fun T => PySem.W.notFirst K (t.ca K q.1) (.type T)
def Tb.ckOwns (t : Tb) (K : PySem.W.Frag) : Bool := t.owns.isEmpty || ((t.ckOp K "add" && (t.ckOp K "sub" && t.ckOp K "mul")) && ((t.ckOwn K "__neg__" && t.ckOwn K "__bool__") && (t.ckOwn K "__eq__" && t.ckEq K)))
def isSRec (o : Option (List Value)) (f : Addr) : Bool := match o with
  | some (v :: _) => decide (v = .ref f)
  | _ => false
def isSGet (K : PySem.W.Frag) (b : Value) (f : Addr) : Bool := match b with
  | .ref b => isSRec (PySem.W.recIn K b "staticmethod") f
  | _ => false
def isStat (K : PySem.W.Frag) (a : Addr) (o : Option PySem.W.CFound) (f : Addr) : Bool := match o with
  | some (.get g b n a') => decide (g = .builtin "staticmethod.__get__") && (decide (n = .none) && (decide (a' = .ref a) && isSGet K b f))
  | _ => false
def Tb.ckStat (t : Tb) (K : PySem.W.Frag) : Bool := t.stats.all fun q => match t.rows[q.2.2]? with
  | some r => PySem.W.readsIn K (t.ca K q.1) (.type "type") && (eqOo (PySem.W.specialIn K (.ref (t.ca K q.1)) "__getattribute__") (some (some (.builtin "type.__getattribute__"))) && isStat K (t.ca K q.1) (PySem.W.findCls K (.ref (t.ca K q.1)) (.type "type") q.2.1) (r.ad K))
  | none => false
/-- all of it (properties apart) -/
def Tb.ck (t : Tb) (K : PySem.W.Frag) : Bool := t.ckGlo K && (t.ckCls K && (t.ckNo K && (t.ckKit K && (t.ckErr K && (t.ckIni K && (t.ckMeth K && (t.ckFld && (t.ckOwns K && t.ckStat K))))))))

/-! ### what it tells -/
section
variable {t : Tb} {K : PySem.W.Frag}
theorem lookup_mem {α β : Type} [BEq α] [LawfulBEq α] : ∀ {l : List (α × β)} {a : α} {b : β}, l.lookup a = some b → (a, b) ∈ l
  | [], a, b, h => by cases h
  | (x, y) :: l, a, b, h => by
    rw [List.lookup_cons] at h
    split at h
    · rename_i e
      have : y = b := Option.some.inj h
      rw [beq_iff_eq.mp e, this]
      exact List.mem_cons_self
    · exact List.mem_cons_of_mem _ (lookup_mem h)
theorem inEs_mem {E : Nat × Nat} {c : Nat} (h : inE E c = true) : c ∈ inEs E := by
  unfold inEs
  rw [List.mem_filter]
  refine ⟨?_, h⟩
  unfold inE at h
  rw [Bool.and_eq_true] at h
  exact List.mem_range.mpr (of_decide_eq_true h.2)
theorem tgs_mem {n : Nat} {s : Tg} (h : match s with | .ty a => a < 7 | .cls c => c < n) : s ∈ tgs n := by
  unfold tgs
  rw [List.mem_append]
  cases s with
  | ty a => exact .inl (List.mem_map.mpr ⟨a, List.mem_range.mpr h, rfl⟩)
  | cls c => exact .inr (List.mem_map.mpr ⟨c, List.mem_range.mpr h, rfl⟩)
theorem ck_cls (h : t.ckCls K = true) {c : Nat} (hc : c < t.ncls) : Cls K (t.ca K c) ∧ PySem.W.findIn K (.ref (t.ca K c)) "__class__" = some (some (.builtin "object.__class__")) ∧ PySem.W.mroIn K (t.ca K c) (.type "object") = some true := by
  have q := List.all_eq_true.mp h c (List.mem_range.mpr hc)
  simp only [Bool.and_eq_true] at q
  obtain ⟨q1, q2, q3, q4, q5, q6⟩ := q
  exact ⟨⟨q1, q2, q3, of_decide_eq_true q4⟩, of_decide_eq_true q5, of_decide_eq_true q6⟩
theorem ck_fld (h1 : t.ckCls K = true) (h2 : t.ckNo K = true) (h3 : t.ckFld = true) : FldOk (t.px K) t.noatF t.flds.length where
  no := fun c j hc hj hn => by
    have q := List.all_eq_true.mp (List.all_eq_true.mp h2 c (List.mem_range.mpr hc)) j (List.mem_range.mpr hj)
    rw [hn] at q
    have q' : eqOo (PySem.W.findIn K (.ref (t.ca K c)) (t.flds.getD j "")) (some none) = true := q
    have e : PySem.W.findIn K (.ref (t.ca K c)) (t.flds.getD j "") = some none := of_decide_eq_true q'
    exact e
  cls := fun c hc => (ck_cls h1 hc).1
  inj := fun i j hi hj e => by
    have nd : t.flds.Nodup := of_decide_eq_true h3
    have e' : t.flds.getD i "" = t.flds.getD j "" := e
    rw [List.getD_eq_getElem?_getD, List.getD_eq_getElem?_getD, List.getElem?_eq_getElem hi, List.getElem?_eq_getElem hj] at e'
    have e2 : t.flds[i] = t.flds[j] := e'
    exact nodup_ix nd (List.getElem?_eq_getElem hi) (by rw [List.getElem?_eq_getElem hj, e2])
theorem ck_kit (h1 : t.ckCls K = true) (h2 : t.ckKit K = true) : KitOk (t.px K) := by
  obtain ⟨q1, q2⟩ := Bool.and_eq_true_iff.mp h2
  obtain ⟨q2, q3⟩ := Bool.and_eq_true_iff.mp q2
  exact ⟨fun s u hs hu => of_decide_eq_true (List.all_eq_true.mp (List.all_eq_true.mp q1 s (tgs_mem hs)) u (tgs_mem hu)), fun c hc => ck_cls h1 hc, of_decide_eq_true q2, of_decide_eq_true q3⟩
theorem ck_err (h : t.ckErr K = true) (h2 : t.ckKit K = true) : ErrOk (t.px K) t.E t.flds.length := by
  obtain ⟨q1, q2⟩ := Bool.and_eq_true_iff.mp h2
  obtain ⟨q2, q3⟩ := Bool.and_eq_true_iff.mp q2
  have all : ∀ c, inE t.E c = true → (∀ e, inE t.E e = true → PySem.W.exmOne K (.ref (t.ca K c)) (.ref (t.ca K e)) = some (t.subF c e) ∧ PySem.W.kitOne K (.ref (t.ca K c)) (.ref (t.ca K e)) = some (t.subF c e)) ∧ (PySem.W.clsIn K (t.ca K c)).isSome = true ∧ XfC K (t.ca K c) ∧
      PySem.W.findIn K (.ref (t.ca K c)) "__class__" = some (some (.builtin "object.__class__")) ∧ PySem.W.mroIn K (t.ca K c) (.type "object") = some true ∧ ∀ j, j < t.flds.length → PySem.W.findIn K (.ref (t.ca K c)) (t.flds.getD j "") = some none := fun c hc => by
    have q := List.all_eq_true.mp h c (inEs_mem hc)
    simp only [Bool.and_eq_true] at q
    obtain ⟨z1, ⟨_, z2⟩, z3, z4, z5, z6⟩ := q
    refine ⟨fun e he => ?_, z2, xfB_ok z3, of_decide_eq_true z4, of_decide_eq_true z5, fun j hj => of_decide_eq_true (List.all_eq_true.mp z6 j (List.mem_range.mpr hj))⟩
    have w := List.all_eq_true.mp z1 e (inEs_mem he)
    obtain ⟨w1, w2⟩ := Bool.and_eq_true_iff.mp w
    exact ⟨of_decide_eq_true w1, of_decide_eq_true w2⟩
  exact ⟨fun c e hc he => ((all c hc).1 e he).1, fun c e hc he => ((all c hc).1 e he).2, fun c hc => (all c hc).2.1, fun c hc => (all c hc).2.2.1, fun c hc => (all c hc).2.2.2.1, fun c hc => (all c hc).2.2.2.2.1, fun c j hc hj => (all c hc).2.2.2.2.2 j hj, of_decide_eq_true q2, of_decide_eq_true q3⟩
/-! ### the defs -/
/-- what is known of a row by itself: its scope; how it binds its arguments -/
structure RowOk (t : Tb) (K : PySem.W.Frag) (r : Row) : Prop where
  scope : FnScope r.N r.ps r.scope
  gl : ∀ x k, r.gl.lookup x = some k → t.glo.lookup x = some k
  binds : ∀ {fd : FuncData}, FunD K r.name r.qual r.params r.body r.scope (r.dfl.map (He.Dv.v K)) [] (r.ad K) fd → ∀ j, j ≤ r.dds.length → ∃ ds dvs', Vals dvs' ds ∧ Binds K fd r.ps ds ∧ ∀ ρ, RVs (t.px K) ρ (r.dds.drop j) dvs'
theorem def_at {i : Nat} {r : Row} (hr : t.rows[i]? = some r) (R : RowOk t K r) (F : ∃ fd, FunD K r.name r.qual r.params r.body r.scope (r.dfl.map (He.Dv.v K)) [] (r.ad K) fd) : DefAt (t.px K) t.pg (t.fns K) i (r.ad K) r.ps where
  ex := by
    obtain ⟨fd, F⟩ := F
    have e1 : t.pg.dds i = r.dds := by
      show (match t.rows[i]? with | some r => r.dds | none => []) = _
      rw [hr]
    refine ⟨t.fn K r, r.N, r.scope, r.name, r.qual, r.params, r.body, _, _, fd, keF, ksF, r.gl, ?_, F, R.scope, rfl, rfl, rfl, R.gl, ?_⟩
    · unfold Tb.fns
      rw [List.getElem?_map, hr]
      rfl
    · rw [e1]
      exact R.binds F
  kp := by
    obtain ⟨fd, F⟩ := F
    exact F.kp
  ar := by
    show _ = (match t.rows[i]? with | some r => r.ps.length | none => 0)
    rw [hr]
theorem px_ca {c : Nat} {x : Str} (h : t.cls[c]? = some x) : (t.px K).CA c = He.ga K x := by
  show (match t.cls[c]? with | some x => He.ga K x | none => 0) = _
  rw [h]
theorem lookup_map {α β γ : Type} [BEq α] {f : β → γ} : ∀ {l : List (α × β)} {a : α} {c : γ}, (l.map fun q => (q.1, f q.2)).lookup a = some c → ∃ b, l.lookup a = some b ∧ f b = c
  | [], a, c, h => by cases h
  | (x, y) :: l, a, c, h => by
    rw [List.map_cons, List.lookup_cons] at h
    rw [List.lookup_cons]
    cases e : a == x with
    | true =>
      rw [e] at h
      exact ⟨y, rfl, Option.some.inj h⟩
    | false =>
      rw [e] at h
      exact lookup_map h
theorem noneOrRef_ok {o : Option (Option Value)} (h : noneOrRef o = true) : ∃ rc, o = some rc ∧ (rc = none ∨ ∃ g : Addr, rc = some (.ref g)) := by
  unfold noneOrRef at h
  split at h
  · exact ⟨_, rfl, .inl rfl⟩
  · exact ⟨_, rfl, .inr ⟨_, rfl⟩⟩
  · cases h
theorem isRef_ok {o : Option (Option Value)} (h : isRef o = true) : ∃ g : Addr, o = some (some (.ref g)) := by
  unfold isRef at h
  split at h
  · exact ⟨_, rfl⟩
  · cases h
theorem isStat_ok {a f : Addr} {o : Option PySem.W.CFound} (h : isStat K a o f = true) : ∃ g, o = some (.get (.builtin "staticmethod.__get__") (.ref g) .none (.ref a)) ∧ ∃ rest, PySem.W.recIn K g "staticmethod" = some (.ref f :: rest) := by
  cases o with
  | none => cases h
  | some q =>
    cases q with
    | val v => cases h
    | get g b n a' =>
      have h' : (decide (g = .builtin "staticmethod.__get__") && (decide (n = .none) && (decide (a' = .ref a) && isSGet K b f))) = true := h
      simp only [Bool.and_eq_true] at h'
      obtain ⟨h1, h2, h3, h4⟩ := h'
      have e1 := of_decide_eq_true h1
      have e2 := of_decide_eq_true h2
      have e3 := of_decide_eq_true h3
      subst e1
      subst e2
      subst e3
      cases b with
      | ref b =>
        have h5 : isSRec (PySem.W.recIn K b "staticmethod") f = true := h4
        generalize ho : PySem.W.recIn K b "staticmethod" = o at h5
        cases o with
        | none => cases h5
        | some l =>
          cases l with
          | nil => cases h5
          | cons v rest =>
            have e4 := of_decide_eq_true h5
            subst e4
            exact ⟨b, rfl, rest, ho⟩
      | _ => cases h4
theorem statF_mem : ∀ {l : List (Nat × Str × Nat)} {c : Nat} {m : Str} {i : Nat}, statF l c m = some i → (c, m, i) ∈ l
  | [], _, _, _, h => by cases h
  | (c', m', i') :: l, c, m, i, h => by
    unfold statF at h
    split at h
    · rename_i e
      obtain ⟨rfl, rfl⟩ := e
      cases h
      exact List.mem_cons_self
    · exact List.mem_cons_of_mem _ (statF_mem h)
theorem own_mem {m : Str} {c i : Nat} (e : t.pg.ow m c = some i) : (c, i) ∈ t.own m := by
  cases el : t.owns.lookup m with
  | none =>
    have e1 : (t.owns.map fun q => (q.1, fun c => q.2.lookup c)).lookup m = none := by
      cases h : (t.owns.map fun q => (q.1, fun (c : Nat) => q.2.lookup c)).lookup m with
      | none => rfl
      | some tbl =>
        obtain ⟨b, eb, _⟩ := lookup_map (f := fun (q : List (Nat × Nat)) => fun c => q.lookup c) h
        rw [el] at eb
        cases eb
    have e2 : t.pg.ow m = fun _ => none := by
      show (match (t.owns.map fun q => (q.1, fun c => q.2.lookup c)).lookup m with | some t => t | none => fun _ => none) = _
      rw [e1]
    rw [e2] at e
    cases e
  | some b =>
    have e1 : (t.owns.map fun q => (q.1, fun (c : Nat) => q.2.lookup c)).lookup m = some fun c => b.lookup c := by
      have : ∀ l : List (Str × List (Nat × Nat)), l.lookup m = some b → (l.map fun q => (q.1, fun (c : Nat) => q.2.lookup c)).lookup m = some fun c => b.lookup c := fun l => by
        induction l with
        | nil => intro h; cases h
        | cons y l ih =>
          obtain ⟨n, v⟩ := y
          intro h
          rw [List.lookup_cons] at h
          rw [List.map_cons, List.lookup_cons]
          show (match m == n with | true => some fun (c : Nat) => v.lookup c | false => (l.map fun (q : Str × List (Nat × Nat)) => (q.1, fun (c : Nat) => q.2.lookup c)).lookup m) = _
          cases em : m == n with
          | true =>
            rw [em] at h
            cases h
            rfl
          | false =>
            rw [em] at h
            exact ih h
      exact this _ el
    have e2 : t.pg.ow m = fun c => b.lookup c := by
      show (match (t.owns.map fun q => (q.1, fun c => q.2.lookup c)).lookup m with | some t => t | none => fun _ => none) = _
      rw [e1]
    rw [e2] at e
    unfold Tb.own
    rw [el]
    exact lookup_mem e
/-- the whole: the check holds, the rows are right, no properties and static methods -/
theorem stat_of {P : Program} {w : World} {mg : Str → Option Value} {base : Heap} {h : Heap} (X : K.In h) (Gm : h.Ns mainGlobals mg) (hck : t.ck K = true) (hprop : t.props = []) (hrow : ∀ r ∈ t.rows, RowOk t K r ∧ ∃ fd, FunD K r.name r.qual r.params r.body r.scope (r.dfl.map (He.Dv.v K)) [] (r.ad K) fd)
    (hexc : ∀ c fs, t.excs.lookup c = some fs → RaiseOk P w (t.px K) mg base 1 c fs) : Stat P w (t.px K) mg base t.pg (t.fns K) := by
  unfold Tb.ck at hck
  simp only [Bool.and_eq_true] at hck
  obtain ⟨k1, k2, k3, k4, k5, k6, k7, k8, k9, k10⟩ := hck
  have DA : ∀ i r, t.rows[i]? = some r → DefAt (t.px K) t.pg (t.fns K) i (r.ad K) r.ps := fun i r hr => by
    obtain ⟨h1, h2⟩ := hrow r (List.mem_of_getElem? hr)
    exact def_at hr h1 h2
  exact {
    hF := fun _ _ => trivial
    glo := fun x k e => by
      have q := List.all_eq_true.mp k1 (x, k) (lookup_mem e)
      cases k with
      | cls c =>
        obtain ⟨q1, q2⟩ := Bool.and_eq_true_iff.mp q
        show mg x = _
        rw [px_ca (of_decide_eq_true q1)]
        exact PySem.W.mg_of X Gm (of_decide_eq_true q2)
      | fn i =>
        obtain ⟨q1, q2⟩ := Bool.and_eq_true_iff.mp q
        have e1 : (t.rows[i]?).map (fun r => (r.at_, r.wrap)) = some ((x, none), none) := of_decide_eq_true q1
        cases er : t.rows[i]? with
        | none => rw [er] at e1; cases e1
        | some r =>
          rw [er] at e1
          have e0 : (r.at_, r.wrap) = ((x, none), none) := Option.some.inj e1
          have e2 : r.ad K = He.ga K x := by
            unfold Row.ad
            rw [(Prod.mk.inj e0).2, (Prod.mk.inj e0).1]
            rfl
          refine ⟨r.ad K, r.ps, ?_, DA i r er⟩
          rw [e2]
          exact PySem.W.mg_of X Gm (of_decide_eq_true q2)
      | blt n =>
        obtain ⟨q1, q2⟩ := Bool.and_eq_true_iff.mp q
        exact ⟨PySem.W.mg_none_of X Gm (of_decide_eq_true q2), of_decide_eq_true q1⟩
      | imp n => exact PySem.W.mg_of X Gm (of_decide_eq_true q)
    ini := fun c i e => by
      have q := List.all_eq_true.mp k6 (c, i) (lookup_mem e)
      dsimp only at q
      cases er : t.rows[i]? with
      | none => rw [er] at q; cases q
      | some r =>
        rw [er] at q
        have q' : (PySem.W.makesIn K (t.ca K c) && (eqOo (PySem.W.findIn K (.ref (t.ca K c)) "__init__") (some (some (.ref (r.ad K)))) && (PySem.W.isFn K (.ref (r.ad K)) && PySem.W.keepIn K (.ref (t.ca K c))))) = true := q
        simp only [Bool.and_eq_true] at q'
        obtain ⟨q1, q2, q3, q4⟩ := q'
        exact ⟨r.ad K, r.ps, ⟨q1, of_decide_eq_true q2, q3, q4⟩, DA i r er⟩
    exc := hexc
    fld := ck_fld k2 k3 k8
    fn := fun j x e => by
      show t.flds.getD j "" = x
      have e' : t.flds[j]? = some x := e
      rw [List.getD_eq_getElem?_getD, e']
      rfl
    kit := ck_kit k2 k4
    err := ck_err k5 k4
    ve := fun c hc => by
      have q := List.all_eq_true.mp k5 c (inEs_mem hc)
      simp only [Bool.and_eq_true] at q
      exact of_decide_eq_true q.2.1.1
    sub := rfl
    meth := fun m f e => by
      obtain ⟨b, eb, rfl⟩ := lookup_map (f := fun (q : List (Nat × Nat)) => fun c => q.lookup c) e
      have q := List.all_eq_true.mp k7 (m, b) (lookup_mem eb)
      obtain ⟨q1, q2⟩ := Bool.and_eq_true_iff.mp q
      refine ⟨fun c i ei => ?_, fun j hj => ?_⟩
      · have z := List.all_eq_true.mp q1 (c, i) (lookup_mem ei)
        obtain ⟨z1, z2⟩ := Bool.and_eq_true_iff.mp z
        dsimp only at z2
        cases er : t.rows[i]? with
        | none => rw [er] at z2; cases z2
        | some r =>
          rw [er] at z2
          have z3 : (eqOo (PySem.W.findIn K (.ref (t.ca K c)) m) (some (some (.ref (r.ad K)))) && (PySem.W.isFn K (.ref (r.ad K)) && PySem.W.keepIn K (.ref (r.ad K)))) = true := z2
          simp only [Bool.and_eq_true] at z3
          obtain ⟨y1, y2, y3⟩ := z3
          exact ⟨of_decide_eq_true z1, r.ad K, r.ps, ⟨of_decide_eq_true y1, y2, y3⟩, DA i r er⟩
      · have hj' : j < t.flds.length := hj
        have z := List.all_eq_true.mp q2 t.flds[j] (List.getElem_mem hj')
        show t.flds.getD j "" ≠ m
        rw [List.getD_eq_getElem?_getD, List.getElem?_eq_getElem hj']
        exact of_decide_eq_true z
    prop := fun m f e => by
      have e' : (t.props.map fun q => (q.1, fun c => q.2.lookup c)).lookup m = some f := e
      rw [hprop] at e'
      cases e'
    stat := fun c m i e => by
      have q := List.all_eq_true.mp k10 (c, m, i) (statF_mem e)
      dsimp only at q
      cases er : t.rows[i]? with
      | none => rw [er] at q; cases q
      | some r =>
        rw [er] at q
        have q' : (PySem.W.readsIn K (t.ca K c) (.type "type") && (eqOo (PySem.W.specialIn K (.ref (t.ca K c)) "__getattribute__") (some (some (.builtin "type.__getattribute__"))) && isStat K (t.ca K c) (PySem.W.findCls K (.ref (t.ca K c)) (.type "type") m) (r.ad K))) = true := q
        simp only [Bool.and_eq_true] at q'
        obtain ⟨q1, q2, q3⟩ := q'
        exact ⟨r.ad K, r.ps, DA i r er, q1, of_decide_eq_true q2, isStat_ok q3⟩
    own := by
      rcases Bool.or_eq_true_iff.mp k9 with z | z
      · left
        show (t.owns.map _).isEmpty = true
        rw [List.isEmpty_iff] at z ⊢
        rw [z]
        rfl
      · right
        simp only [Bool.and_eq_true] at z
        obtain ⟨⟨z1, z2, z3⟩, ⟨z4, z5⟩, z6, z7⟩ := z
        have ow : ∀ {m : Str}, t.ckOwn K m = true → OwSt (t.px K) t.pg (t.fns K) m (t.pg.ow m) := fun {m} h c i e => by
          have e' := own_mem e
          have q := List.all_eq_true.mp h (c, i) e'
          obtain ⟨q1, q2⟩ := Bool.and_eq_true_iff.mp q
          dsimp only at q2
          cases er : t.rows[i]? with
          | none => rw [er] at q2; cases q2
          | some r =>
            rw [er] at q2
            have q3 : (eqOo (PySem.W.findIn K (.ref (t.ca K c)) m) (some (some (.ref (r.ad K)))) && PySem.W.isFn K (.ref (r.ad K))) = true := q2
            obtain ⟨q4, q5⟩ := Bool.and_eq_true_iff.mp q3
            exact ⟨of_decide_eq_true q1, r.ad K, r.ps, of_decide_eq_true q4, q5, DA i r er⟩
        have op : ∀ nm, t.ckOp K nm = true → OpSt (t.px K) t.pg (t.fns K) nm (t.pg.ow (PySem.dunder nm)) (t.pg.ow (dunderR nm)) := fun nm h => by
          unfold Tb.ckOp at h
          simp only [Bool.and_eq_true] at h
          obtain ⟨⟨h1, h2⟩, h3, h4, ⟨h5, h6⟩, h7, h8⟩ := h
          refine ⟨ow h1, ow h2, fun c i e => ?_, fun c i e => ?_, ?_⟩
          · have q := List.all_eq_true.mp h3 (c, i) (own_mem e)
            simp only [Bool.and_eq_true] at q
            obtain ⟨q1, q2, q3, q4⟩ := q
            exact ⟨q1, noneOrRef_ok q2, of_decide_eq_true q3, of_decide_eq_true q4⟩
          · have q := List.all_eq_true.mp h4 (c, i) (own_mem e)
            simp only [Bool.and_eq_true] at q
            obtain ⟨q1, q2, q3⟩ := q
            exact ⟨q1, isRef_ok q2, of_decide_eq_true q3⟩
          · obtain ⟨a1, e1⟩ := Option.isSome_iff_exists.mp h5
            obtain ⟨a2, e2⟩ := Option.isSome_iff_exists.mp h6
            obtain ⟨a3, e3⟩ := Option.isSome_iff_exists.mp h7
            obtain ⟨a4, e4⟩ := Option.isSome_iff_exists.mp h8
            exact ⟨⟨_, _, e1, e2⟩, _, _, e3, e4⟩
        refine ⟨fun nm hn => ?_, ow z4, ow z6, fun c i e T hT => ?_, ow z5⟩
        · rcases hn with rfl | rfl | rfl
          · exact op _ z1
          · exact op _ z2
          · exact op _ z3
        · have q := List.all_eq_true.mp z7 (c, i) (own_mem e)
          exact List.all_eq_true.mp q T hT }
end
end Den
end

-- DenW
section
set_option maxHeartbeats 2000000
/-! Den: the Hook of a head; exceptions' classes by a check; a law, whole. -/
namespace Den
open PySem PySem.Spec L2 PyProof.Rows
/-! ### exceptions' classes -/
def oexB (K : PySem.W.Frag) (C : Addr) : Bool := match K.lookup C with
  | some ⟨.type y, _, .cls cd, sl⟩ => (match cd.mro, sl.toList with
    | .ref D :: bm, [_, _, _, _, some (.builtin n), _] => decide (y = "type") && (decide (D = C) && (decide (n = "ValueError.__new__") && (cd.hasDict && (!cd.hasDel && PySem.HandSPX.refsVE bm))))
    | _, _ => false)
  | _ => false
theorem oexB_ok {K : PySem.W.Frag} {C : Addr} (h : oexB K C = true) : ∃ nm q N bs bm sn sub ab col dd k0 k1 k2 k3 k5, K.lookup C = some (excClassObj nm q C N bs bm true sn sub ab col dd k0 k1 k2 k3 k5 "ValueError.__new__") ∧ PySem.HandSPX.refsVE bm = true := by
  unfold oexB at h
  cases e : K.lookup C with
  | none => rw [e] at h; cases h
  | some o =>
    rw [e] at h
    obtain ⟨oc, od, dt, osl⟩ := o
    skip
    split at h
    · rename_i y dd cd sl ho
      split at h
      · rename_i D bm k0 k1 k2 k3 n k5 hm hs
        simp only [Bool.and_eq_true] at h
        obtain ⟨h1, h2, h3, h4, h5, h6⟩ := h
        have h1 := of_decide_eq_true h1
        have h2 := of_decide_eq_true h2
        have h3 := of_decide_eq_true h3
        obtain ⟨nm, bs, mro, ns, qn, hd, sn, sub, ab, col, del⟩ := cd
        dsimp only at hm h4 h5
        have h5 : del = false := by simpa using h5
        obtain ⟨l⟩ := sl
        dsimp only at hs
        have hs' : l = [k0, k1, k2, k3, some (.builtin n), k5] := hs
        subst h1 h2 h3 hm h4 h5 hs'
        exact ⟨nm, qn, ns, bs, bm, sn, sub, ab, col, dd, k0, k1, k2, k3, k5, ho, h6⟩
      · cases h
    · cases h
/-- a class whose instances are raised -/
def Tb.ckExc (t : Tb) (K : PySem.W.Frag) : Bool := t.excs.all fun q => decide (PySem.W.subIn K (.ref (t.ca K q.1)) (.type "BaseException") = some true) && (decide (PySem.W.typeIn K (.ref (t.ca K q.1)) = some (.type "type")) && (PySem.W.keepIn K (.ref (t.ca K q.1)) && (match q.2 with
  | [] => PySem.W.excIn K (t.ca K q.1) He.veBase "ValueError.__new__"
  | fs => oexB K (t.ca K q.1) && (eqOo (PySem.W.findIn K (.ref (t.ca K q.1)) "__setattr__") (some (some (.builtin "object.__setattr__"))) && fs.all fun j => eqOo (PySem.W.findIn K (.ref (t.ca K q.1)) (t.flds.getD j "")) (some none)))))
/-- an __init__ of an exception's class -/
structure IRow where
  c : Nat
  at_ : Str × Option Str
  qual : Str
  params : Arguments
  body : List Stmt
  scope : Scope
  ps : List Str
def IRow.defD (r : IRow) : He5.DefA := ⟨fun K => He.fAd K r.at_, "__init__", r.qual, r.params, r.body, r.scope, [], []⟩
def ckInit (t : Tb) (K : PySem.W.Frag) (is : List IRow) : Bool := t.excs.all fun q => match q.2 with
  | [] => true
  | _ => is.any fun r => decide (r.c = q.1) && (eqOo (PySem.W.findIn K (.ref (t.ca K q.1)) "__init__") (some (some (.ref (He.fAd K r.at_)))) && decide (PySem.W.typeIn K (.ref (He.fAd K r.at_)) = some (.type "function")))
/-- the class's fields are stored by this row -/
structure IRowOk (P : Program) (w : World) (t : Tb) (K : PySem.W.Frag) (mg : Str → Option Value) (base : Heap) (r : IRow) : Prop where
  ok : ∀ {fd : FuncData}, FunD K "__init__" r.qual r.params r.body r.scope [] [] (He.fAd K r.at_) fd → ∀ fs, t.excs.lookup r.c = some fs → FnOk P w K mg base (L2.CX P w) 1 (He.fAd K r.at_) fd r.ps (spX K (fs.map (t.px K).FN)) ∧ Binds K fd r.ps []
theorem raise_of {P : Program} {w : World} {t : Tb} {K : PySem.W.Frag} {mg : Str → Option Value} {base : Heap} {is : List IRow} (h1 : t.ckExc K = true) (h2 : ckInit t K is = true) (hle : ∀ q ∈ t.excs, q.2.length ≤ 900)
    (hi : ∀ r ∈ is, IRowOk P w t K mg base r ∧ ∃ fd, FunD K "__init__" r.qual r.params r.body r.scope [] [] (He.fAd K r.at_) fd) (c : Nat) (fs : List Nat) (e : t.excs.lookup c = some fs) : RaiseOk P w (t.px K) mg base 1 c fs := by
  have m := lookup_mem e
  have q := List.all_eq_true.mp h1 (c, fs) m
  obtain ⟨q1, q⟩ := Bool.and_eq_true_iff.mp q
  obtain ⟨q2, q⟩ := Bool.and_eq_true_iff.mp q
  obtain ⟨q3, q⟩ := Bool.and_eq_true_iff.mp q
  have q1 := of_decide_eq_true q1
  have q2 := of_decide_eq_true q2
  cases fs with
  | nil => exact ⟨fun z => absurd rfl z, fun _ => ⟨He.veBase, "ValueError", "ValueError.__new__", "ValueError.__init__", PySem.F.excBase_ValueError, q, q3, q1, q2⟩⟩
  | cons f fs =>
    have q' : (oexB K (t.ca K c) && (eqOo (PySem.W.findIn K (.ref (t.ca K c)) "__setattr__") (some (some (.builtin "object.__setattr__"))) && (f :: fs).all fun j => eqOo (PySem.W.findIn K (.ref (t.ca K c)) (t.flds.getD j "")) (some none))) = true := q
    obtain ⟨z1, z⟩ := Bool.and_eq_true_iff.mp q'
    obtain ⟨z2, z3⟩ := Bool.and_eq_true_iff.mp z
    have w1 : (is.any fun r => decide (r.c = c) && (eqOo (PySem.W.findIn K (.ref (t.ca K c)) "__init__") (some (some (.ref (He.fAd K r.at_)))) && decide (PySem.W.typeIn K (.ref (He.fAd K r.at_)) = some (.type "function")))) = true := List.all_eq_true.mp h2 (c, f :: fs) m
    obtain ⟨r, hr, w2⟩ := List.any_eq_true.mp w1
    obtain ⟨w3, w4⟩ := Bool.and_eq_true_iff.mp w2
    obtain ⟨w5, w6⟩ := Bool.and_eq_true_iff.mp w4
    have w3 := of_decide_eq_true w3
    obtain ⟨R, fd, F⟩ := hi r hr
    obtain ⟨F1, hb⟩ := R.ok F (f :: fs) (by rw [w3]; exact e)
    exact ⟨fun _ => ⟨⟨oexB_ok z1, of_decide_eq_true z2, q1, q2, q3⟩, fun j hj => of_decide_eq_true (List.all_eq_true.mp z3 j hj), hle _ m, He.fAd K r.at_, fd, r.ps, of_decide_eq_true w5, of_decide_eq_true w6, F1, hb⟩, fun z => by cases z⟩

/-! ### the Hook -/
abbrev AlT : Type := Bool × He.AlD
def defsT (t : Tb) (is : List IRow) : List He5.DefA := t.rows.map Row.defD ++ is.map IRow.defD
def obsT (t : Tb) (is : List IRow) (K : PySem.W.Frag) : AlT := (t.ck K && (t.ckExc K && ckInit t K is), He5.obsA [] (defsT t is) K)
def valT (t : Tb) (is : List IRow) : AlT := (true, He5.valA (defsT t is))
def SaysT (t : Tb) (is : List IRow) (K : PySem.W.Frag) : Prop := obsT t is K = valT t is
def obsTG (n : Nat) (t : Tb) (is : List IRow) (g : Addr → Option Obj) : AlT := obsT t is (He.frG g (He5.asA g n))
def hookT (n : Nat) (t : Tb) (is : List IRow) : PySem.W.Hook where
  α := AlT
  obs := fun s => obsTG n t is s.heap.get?
  val := fun _ => valT t is
  says := fun _ h => ∃ K : PySem.W.Frag, K.In h ∧ SaysT t is K
  of := fun _ _ e => ⟨_, He.frG_in, e⟩
  keeps := fun _ _ _ ⟨K, hK, c⟩ k => ⟨K, PySem.W.Frag.In.keeps hK k, c⟩
theorem obsTG_eq {n : Nat} {t : Tb} {is : List IRow} {g : Addr → Option Obj} {s : Shared} (h : ∀ a, g a = s.heap.get? a) : obsTG n t is g = (hookT n t is).obs s := by
  have e : g = s.heap.get? := funext h
  rw [e] <;> rfl
theorem SaysT.ck {t : Tb} {is : List IRow} {K : PySem.W.Frag} (h : SaysT t is K) : t.ck K = true ∧ t.ckExc K = true ∧ ckInit t K is = true := by
  have h1 : (t.ck K && (t.ckExc K && ckInit t K is)) = true := congrArg (fun z : AlT => z.1) h
  obtain ⟨a, b⟩ := Bool.and_eq_true_iff.mp h1
  obtain ⟨b, c⟩ := Bool.and_eq_true_iff.mp b
  exact ⟨a, b, c⟩
theorem SaysT.def_ {t : Tb} {is : List IRow} {K : PySem.W.Frag} (h : SaysT t is K) {d : He5.DefA} (m : d ∈ defsT t is) : ∃ fd, FunD K d.name d.qual d.params d.body d.scope (d.dvs K) (d.kws K) (d.at_ K) fd := by
  have h1 : He5.SaysA [] (defsT t is) K := congrArg (fun z : AlT => z.2) h
  obtain ⟨i, hi, e⟩ := List.mem_iff_getElem.mp m
  exact h1.def_ i (by rw [List.getElem?_eq_getElem hi, e])
/-- the head told, a program's facts -/
theorem stat_says {P : Program} {w : World} {t : Tb} {is : List IRow} {K : PySem.W.Frag} {mg : Str → Option Value} {base : Heap} {h : Heap} (X : K.In h) (Gm : h.Ns mainGlobals mg) (s : SaysT t is K) (hprop : t.props = [])
    (hrow : ∀ r ∈ t.rows, RowOk t K r) (hle : ∀ q ∈ t.excs, q.2.length ≤ 900) (hi : ∀ r ∈ is, IRowOk P w t K mg base r) : Stat P w (t.px K) mg base t.pg (t.fns K) := by
  obtain ⟨c1, c2, c3⟩ := s.ck
  refine stat_of X Gm c1 hprop (fun r hr => ⟨hrow r hr, ?_⟩) (raise_of c2 c3 hle fun r hr => ⟨hi r hr, ?_⟩)
  · exact s.def_ (d := r.defD) (List.mem_append.mpr (.inl (List.mem_map.mpr ⟨r, hr, rfl⟩)))
  · exact s.def_ (d := r.defD) (List.mem_append.mpr (.inr (List.mem_map.mpr ⟨r, hr, rfl⟩)))
/-- a law's def -/
theorem law_fn {P : Program} {w : World} {t : Tb} {K : PySem.W.Frag} {mg : Str → Option Value} {base : Heap} (S : Stat P w (t.px K) mg base t.pg (t.fns K)) {i k : Nat} {f : Addr} {x : Str} (d : DefAt (t.px K) t.pg (t.fns K) i f [x]) :
    ∃ fd, FnOk P w K mg base (L2.CX P w) (5 * k + 1) f fd [x] (spF (t.px K) (callK (t.fns K) k) i 1) := by
  obtain ⟨fd, F, _⟩ := (defs_ok S k i f [x] d).ok
  exact ⟨fd, F⟩
end Den
end

-- DenX
section
set_option maxHeartbeats 2000000
/-! Den: the last steps of a law. -/
namespace Den
open PySem PySem.Spec L2 PyProof.Rows
section
variable {P : Program} {w : World} {K : PySem.W.Frag} {mg : Str → Option Value} {base : Heap} {t : Tb}
theorem fn_cx0 {k : Nat} {f : Addr} {fd : FuncData} {ps : List Str} {sp : Sp} (F : FnOk P w K mg base (L2.CX P w) k f fd ps sp) : FnOk P w K mg base CX0 k f fd ps (fun vs H Q _ => sp vs H Q fun _ _ _ => False) := by
  refine ⟨fun vs H Q E h => F.len vs H Q _ h, fun A outer s H args us vs Q E hr he hb hv h => codeAny_mono (F.run A outer s H args us vs Q _ hr he hb hv h) fun r s' z => ?_⟩
  cases r with
  | error e =>
    obtain ⟨_, _, _, _, _, _, _, _, _, _, _, _, no⟩ := z
    exact no.elim
  | ok fl => cases fl <;> exact z
def glB (t : Tb) (r : Den.Row) : Bool := r.gl.all fun q => decide (t.glo.lookup q.1 = some q.2)
theorem rowOk_of {r : Den.Row} (hs : FnScope r.N r.ps r.scope) (hg : glB t r = true) (hd : r.dds = []) (hb : ∀ {fd : FuncData}, FunD K r.name r.qual r.params r.body r.scope (r.dfl.map (He.Dv.v K)) [] (r.ad K) fd → Binds K fd r.ps []) : RowOk t K r := by
  refine ⟨hs, fun x k e => ?_, fun {fd} F j hj => ⟨[], [], .nil, hb F, fun ρ => ?_⟩⟩
  · exact of_decide_eq_true (List.all_eq_true.mp hg (x, k) (lookup_mem e))
  · rw [hd, List.drop_nil]
    exact .nil
def dvD : He.Dv → Option D
  | .non => some .non
  | .bl b => some (.bl b)
  | .int i => some (.int i)
  | .str x => some (.str x)
  | _ => none
theorem rvs_dv {p : Px} {ρ : Rp} : ∀ {l : List He.Dv} {ds : List D}, allSome (l.map dvD) = some ds → RVs p ρ ds (l.map (He.Dv.v K))
  | [], ds, h => by
    have e : ds = [] := by simpa [allSome] using h.symm
    rw [e]
    exact .nil
  | x :: l, ds, h => by
    rw [List.map_cons] at h
    cases ex : dvD x with
    | none => rw [ex] at h; cases h
    | some d =>
      rw [ex] at h
      cases el : allSome (l.map dvD) with
      | none =>
        simp only [allSome, el] at h
        cases h
      | some ys =>
        simp only [allSome, el] at h
        cases h
        rw [List.map_cons]
        refine .cons ?_ (rvs_dv el)
        cases x <;> first | (cases ex; done) | (cases ex; simp [RV, He.Dv.v])
/-- a def with defaults -/
theorem rowOk_d {r : Den.Row} (hs : FnScope r.N r.ps r.scope) (hg : glB t r = true) (hd : allSome (r.dfl.map dvD) = some r.dds)
    (hb : ∀ {fd : FuncData}, FunD K r.name r.qual r.params r.body r.scope (r.dfl.map (He.Dv.v K)) [] (r.ad K) fd → ∀ j, j ≤ r.dds.length → ∃ ds, Vals ((r.dfl.map (He.Dv.v K)).drop j) ds ∧ Binds K fd r.ps ds) : RowOk t K r :=
  ⟨hs, fun x k e => of_decide_eq_true (List.all_eq_true.mp hg (x, k) (lookup_mem e)), fun {fd} F j hj => by
    obtain ⟨ds, h1, h2⟩ := hb F j hj
    exact ⟨ds, _, h1, h2, fun ρ => (rvs_dv hd).drop j⟩⟩
theorem law_of (S : Stat P w (t.px K) mg base t.pg (t.fns K)) {i : Nat} {r : Den.Row} (hr : t.rows[i]? = some r) (R : RowOk t K r) {fd : FuncData} (F : FunD K r.name r.qual r.params r.body r.scope (r.dfl.map (He.Dv.v K)) [] (r.ad K) fd) (k : Nat) :
    FnOk P w K mg base (L2.CX P w) (5 * (k + 1) + 1) (r.ad K) fd r.ps (spF (t.px K) (callK (t.fns K) (k + 1)) i r.ps.length) := by
  have hf : (t.fns K)[i]? = some (t.fn K r) := by
    unfold Tb.fns
    rw [List.getElem?_map, hr]
    rfl
  have G := gfacts_of S (by omega) (defs_ok S k) R.gl
  exact fn_ok (l := 5 * k + 1 + 4) (k := k) rfl S.hF hf F R.scope rfl rfl fun X W cx => bodyOf_ok G ksF W X cx r.body
end
end Den
end

-- DenY
section
set_option maxHeartbeats 2000000
/-! Den: loops by invariants; the numbers that every law makes of its script. -/
namespace Den
open PySem
/-- a walk over a fixed lot: what each turn keeps holds at the end -/
theorem forL_ok {g : SemG} {f : SemS} {xs : List D} (I : Nat → S → Prop) (h : ∀ i d s, xs[i]? = some d → I i s → ∃ s1 s2, g d s = .ok () s1 ∧ f s1 = .ok .next s2 ∧ I (i + 1) s2) :
    ∀ (k i : Nat) (s : S), I i s → i ≤ xs.length → xs.length ≤ i + k → ∃ s', forL (.vals xs) g f k i s = .ok .next s' ∧ I xs.length s'
  | 0, i, s, hi, h1, h2 => by
    have e : i = xs.length := by omega
    subst e
    refine ⟨s, ?_, hi⟩
    unfold forL
    simp [ItD.at]
  | k + 1, i, s, hi, h1, h2 => by
    by_cases hl : i < xs.length
    · obtain ⟨s1, s2, e1, e2, hi2⟩ := h i xs[i] s (List.getElem?_eq_getElem hl) hi
      obtain ⟨s', e3, hi3⟩ := forL_ok I h k (i + 1) s2 hi2 hl (by omega)
      refine ⟨s', ?_, hi3⟩
      unfold forL
      have ea : ItD.at (.vals xs) i s = some (some xs[i]) := by simp [ItD.at, hl]
      rw [ea]
      simp only [e1, Out.bind_ok, e2]
      exact e3
    · have e : i = xs.length := by omega
      subst e
      refine ⟨s, ?_, hi⟩
      unfold forL
      simp [ItD.at]
theorem forS_ok {w : SemI} {g : SemG} {f : SemS} {xs : List D} {s0 s : S} (I : Nat → S → Prop) (hw : w s0 = .ok (.vals xs) s) (h0 : I 0 s) (h : ∀ i d s, xs[i]? = some d → I i s → ∃ s1 s2, g d s = .ok () s1 ∧ f s1 = .ok .next s2 ∧ I (i + 1) s2) :
    ∃ s', forS w g f s0 = .ok .next s' ∧ I xs.length s' := by
  obtain ⟨s', e, hi⟩ := forL_ok I h xs.length 0 s h0 (Nat.zero_le _) (by omega)
  refine ⟨s', ?_, hi⟩
  unfold forS
  rw [hw]
  exact e
/-- the row of a stream: the one cell of the call; n numbers at most -/
def StI (ns : List Int) (n : Nat) (s : S) : Prop := s.base = 0 ∧ ∃ (xs : List Int) (o2 o3 o4 o5 : Option D), s.env = [some (.scr (ns.map .int)), some (.ref 0), o2, o3, o4, o5] ∧ s.hp = [.lst (xs.map .int)] ∧ xs.length ≤ n
/-- one more number behind the row -/
def putS (e : SemE) : SemS := dropS (mthL appendM (varE 1) (consA e nilA))
theorem putS_ok {xs : List Int} {v : Int} {env : List (Option D)} {e : SemE} (h1 : env[1]? = some (some (.ref 0))) (he : e ⟨env, [.lst (xs.map .int)], 0⟩ = .ok (.int v) ⟨env, [.lst (xs.map .int)], 0⟩) (hl : xs.length < sizeLine) :
    putS e ⟨env, [.lst (xs.map .int)], 0⟩ = .ok .next ⟨env, [.lst ((xs ++ [v]).map .int)], 0⟩ := by
  have hl' : (xs.map D.int).length < sizeLine := by rw [List.length_map]; exact hl
  have hi : isLst (.ref 0) [.lst (xs.map D.int)] = true := rfl
  have ha : appendM (.ref 0) [.int v] [.lst (xs.map D.int)] 0 = some (.non, [.lst ((xs ++ [v]).map .int)]) := by
    show (if (mayPut 0 0 [.int v] && decide ((xs.map D.int).length < sizeLine)) = true then some (D.non, [Cell.lst (xs.map D.int ++ [.int v])]) else none) = _
    rw [if_pos (by simp [mayPut]; exact hl), List.map_append]
    rfl
  show (mthL appendM (varE 1) (consA e nilA) ⟨env, [.lst (xs.map .int)], 0⟩).bind _ = _
  have hv : varE 1 ⟨env, [.lst (xs.map .int)], 0⟩ = .ok (.ref 0) ⟨env, [.lst (xs.map .int)], 0⟩ := by
    unfold varE
    simp only [h1]
  unfold mthL
  rw [hv, Out.bind_ok, if_pos hi]
  simp only [consA, nilA, he, Out.bind_ok, ha]
/-! ### the stream, as every law has it: slots script, row, at, cell, turn, mix -/
abbrev k (i : Int) : SemE := conE (.int i)
abbrev a1 (e : SemE) : SemA := consA e nilA
def bigF : SemS := seqS (ifS (blT (bin (ordV fun i j => decide (j < i)) (varE 3) (k 0))) (seqS (putS (bin modV (callV intV (a1 (varE 3))) (k 24))) (seqS (asgS (bin fdivV (varE 3) (k 24)) (nameG 3)) nextS)) nextS) nextS
def smallF : SemS := seqS (asgS (bin modV (callV intV (a1 (bin addV (bin addV (bin addV (bin mulV (varE 5) (varE 5)) (bin mulV (varE 4) (k 69069))) (bin mulV (varE 2) (k 13))) (k 3)))) (k 2147483399)) (nameG 5))
  (seqS (putS (bin modV (callV intV (a1 (bin fdivV (varE 5) (k 16)))) (k 5040))) nextS)
def smallB : SemS := seqS (asgS (bin modV (callV intV (a1 (bin addV (bin addV (bin mulV (varE 3) (k 40014)) (bin mulV (varE 2) (k 52774))) (k 11)))) (k 2147483563)) (nameG 5)) (seqS (forS (range1I (a1 (k 7))) (nameG 4) smallF) nextS)
def streamF : SemS := seqS (asgS (callV intV (a1 (bin ixV (varE 0) (varE 2)))) (nameG 3)) (seqS (ifS (blT (bin (ordV fun i j => decide (i < j)) (varE 3) (k 0))) (seqS (asgS (bin subV (k 5) (varE 3)) (nameG 3)) nextS) nextS)
  (seqS (ifS (blT (bin (ordV fun i j => decide (j ≤ i)) (varE 3) (bin powV (k 10) (k 18)))) (seqS (forS (range1I (a1 (k 56))) (nameG 4) bigF) nextS) smallB) nextS))
def streamB : SemS := seqS (asgS (lstE nilA) (nameG 1)) (seqS (forS (range1I (a1 (callV minV (consA (callV lenV (a1 (varE 0))) (a1 (k 63)))))) (nameG 2) streamF) (seqS (dropS (mthL reverseM (varE 1) nilA)) (seqS (retS (varE 1)) nextS)))
end Den
end

-- DenZ
section
set_option maxHeartbeats 2000000
/-! Den: the stream of a script. -/
namespace Den
open PySem
section
variable {sc : Option D} {a c t m : Int} {o2 o3 o4 o5 : Option D} {xs : List Int}
abbrev stS0 (sc o2 o3 o4 o5 : Option D) (xs : List Int) : S := ⟨[sc, some (.ref 0), o2, o3, o4, o5], [.lst (xs.map .int)], 0⟩
abbrev i_ (i : Int) : Option D := some (.int i)
theorem bin_ok {f : V2} {a b : SemE} {s : S} {d e v : D} (ha : a s = .ok d s) (hb : b s = .ok e s) (hf : f d e s.hp = .val v) : bin f a b s = .ok v s := by
  unfold bin
  rw [ha, Out.bind_ok, hb, Out.bind_ok, hf]
  rfl
theorem mul_ok {i j : Int} {hp : List Cell} (h : mulOk i j = true) : mulV (.int i) (.int j) hp = .val (.int (i * j)) := if_pos h
theorem mod_ok {i j : Int} {hp : List Cell} (h : 0 < j) : modV (.int i) (.int j) hp = .val (.int (i % j)) := if_pos h
theorem call_ok {f : VA} {a : SemE} {s : S} {d v : D} (ha : a s = .ok d s) (hf : f [d] s.hp = .val v) : callV f (a1 a) s = .ok v s := by
  unfold callV
  simp only [a1, consA, nilA, ha, Out.bind_ok, hf]
  rfl
theorem log_lt {i : Int} {n : Nat} (h : i.natAbs < 2 ^ n) (hn : 0 < n) : i.natAbs.log2 < n := by
  by_cases z : i.natAbs = 0
  · rw [z]
    exact hn
  · exact (Nat.log2_lt z).mpr h
theorem mulOk_of {i j : Int} (h1 : i.natAbs < 2 ^ 64) (h2 : j.natAbs < 2 ^ 64) : mulOk i j = true := by
  unfold mulOk
  have a := log_lt h1 (by decide)
  have b := log_lt h2 (by decide)
  exact decide_eq_true (by omega)
theorem smallF_ok (hl : xs.length < sizeLine) (ha : a.natAbs < 2 ^ 64) (ht : t.natAbs < 2 ^ 64) (hm : m.natAbs < 2 ^ 64) : ∃ m' v, m'.natAbs < 2 ^ 64 ∧ smallF (stS0 sc (i_ a) o3 (i_ t) (i_ m) xs) = .ok .next (stS0 sc (i_ a) o3 (i_ t) (i_ m') (xs ++ [v])) := by
  refine ⟨(m * m + t * 69069 + a * 13 + 3) % 2147483399, (m * m + t * 69069 + a * 13 + 3) % 2147483399 / 16 % 5040, by omega, ?_⟩
  have e0 : bin modV (callV intV (a1 (bin addV (bin addV (bin addV (bin mulV (varE 5) (varE 5)) (bin mulV (varE 4) (k 69069))) (bin mulV (varE 2) (k 13))) (k 3)))) (k 2147483399) (stS0 sc (i_ a) o3 (i_ t) (i_ m) xs) =
      .ok (.int ((m * m + t * 69069 + a * 13 + 3) % 2147483399)) (stS0 sc (i_ a) o3 (i_ t) (i_ m) xs) :=
    bin_ok (call_ok (v := .int (m * m + t * 69069 + a * 13 + 3)) (bin_ok (bin_ok (bin_ok (bin_ok (d := .int m) (e := .int m) rfl rfl (mul_ok (mulOk_of hm hm))) (bin_ok (d := .int t) (e := .int 69069) rfl rfl (mul_ok (mulOk_of ht (by decide)))) rfl) (bin_ok (d := .int a) (e := .int 13) rfl rfl (mul_ok (mulOk_of ha (by decide)))) rfl) (e := .int 3) rfl rfl) rfl) (e := .int 2147483399) rfl (mod_ok (by decide))
  have e1 : asgS (bin modV (callV intV (a1 (bin addV (bin addV (bin addV (bin mulV (varE 5) (varE 5)) (bin mulV (varE 4) (k 69069))) (bin mulV (varE 2) (k 13))) (k 3)))) (k 2147483399)) (nameG 5) (stS0 sc (i_ a) o3 (i_ t) (i_ m) xs) =
      .ok .next (stS0 sc (i_ a) o3 (i_ t) (i_ ((m * m + t * 69069 + a * 13 + 3) % 2147483399)) xs) := by
    unfold asgS
    rw [e0]
    rfl
  have e2 := putS_ok (xs := xs) (env := [sc, some (.ref 0), i_ a, o3, i_ t, i_ ((m * m + t * 69069 + a * 13 + 3) % 2147483399)]) (v := (m * m + t * 69069 + a * 13 + 3) % 2147483399 / 16 % 5040) (e := bin modV (callV intV (a1 (bin fdivV (varE 5) (k 16)))) (k 5040)) rfl (by kernel_rfl) hl
  unfold smallF seqS
  rw [e1]
  simp only
  rw [e2]
  rfl
theorem bigF_ok (hl : xs.length < sizeLine) : ∃ c' ys, bigF (stS0 sc o2 (i_ c) o4 o5 xs) = .ok .next (stS0 sc o2 (i_ c') o4 o5 ys) ∧ ys.length ≤ xs.length + 1 := by
  by_cases hc : 0 < c
  · refine ⟨c / 24, xs ++ [c % 24], ?_, by simp⟩
    have e1 : blT (bin (ordV fun i j => decide (j < i)) (varE 3) (k 0)) (stS0 sc o2 (i_ c) o4 o5 xs) = .ok (decide (0 < c)) (stS0 sc o2 (i_ c) o4 o5 xs) := by rfl
    have e2 := putS_ok (xs := xs) (env := [sc, some (.ref 0), o2, i_ c, o4, o5]) (v := c % 24) (e := bin modV (callV intV (a1 (varE 3))) (k 24)) rfl (by kernel_rfl) hl
    have e3 : asgS (bin fdivV (varE 3) (k 24)) (nameG 3) (stS0 sc o2 (i_ c) o4 o5 (xs ++ [c % 24])) = .ok .next (stS0 sc o2 (i_ (c / 24)) o4 o5 (xs ++ [c % 24])) := by rfl
    unfold bigF seqS ifS
    rw [e1]
    simp only [Out.bind_ok, hc, decide_true, if_true]
    rw [e2]
    simp only
    rw [e3]
    rfl
  · refine ⟨c, xs, ?_, by simp⟩
    have e1 : blT (bin (ordV fun i j => decide (j < i)) (varE 3) (k 0)) (stS0 sc o2 (i_ c) o4 o5 xs) = .ok (decide (0 < c)) (stS0 sc o2 (i_ c) o4 o5 xs) := by rfl
    unfold bigF seqS ifS
    rw [e1]
    simp only [Out.bind_ok, hc, decide_false, Bool.false_eq_true, if_false]
    rfl
theorem range_at {lo : Int} {n i : Nat} {d : D} (h : (rangeL lo n)[i]? = some d) : d = .int (lo + (i : Nat)) ∧ i < n := by
  unfold rangeL at h
  rw [List.getElem?_map] at h
  by_cases hi : i < n
  · rw [List.getElem?_range hi] at h
    exact ⟨(Option.some.inj h).symm, hi⟩
  · rw [List.getElem?_eq_none (by simpa using hi)] at h
    cases h
theorem range_len {lo : Int} {n : Nat} : (rangeL lo n).length = n := by simp [rangeL]
theorem bigL_ok (hl : xs.length + 56 < sizeLine) : ∃ c' o4' ys, forS (range1I (a1 (k 56))) (nameG 4) bigF (stS0 sc o2 (i_ c) o4 o5 xs) = .ok .next (stS0 sc o2 (i_ c') o4' o5 ys) ∧ ys.length ≤ xs.length + 56 := by
  obtain ⟨s', e, c', o4', ys, rfl, h⟩ := forS_ok (w := range1I (a1 (k 56))) (g := nameG 4) (f := bigF) (xs := rangeL 0 56) (s0 := stS0 sc o2 (i_ c) o4 o5 xs) (s := stS0 sc o2 (i_ c) o4 o5 xs) (fun i s => ∃ c o4 ys, s = stS0 sc o2 (i_ c) o4 o5 ys ∧ ys.length ≤ xs.length + i)
    (by kernel_rfl) ⟨c, o4, xs, rfl, by omega⟩ fun i d s hd ⟨c1, o41, ys, es, hy⟩ => by
      subst es
      obtain ⟨_, hi⟩ := range_at hd
      obtain ⟨c2, zs, e2, hz⟩ := bigF_ok (sc := sc) (o2 := o2) (c := c1) (o4 := some d) (o5 := o5) (xs := ys) (by omega)
      exact ⟨_, _, rfl, e2, c2, _, zs, rfl, by omega⟩
  rw [range_len] at h
  exact ⟨c', o4', ys, e, h⟩
theorem smallL_ok (hl : xs.length + 7 < sizeLine) (ha : a.natAbs < 2 ^ 64) (hm : m.natAbs < 2 ^ 64) : ∃ o4' m' ys, forS (range1I (a1 (k 7))) (nameG 4) smallF (stS0 sc (i_ a) o3 o4 (i_ m) xs) = .ok .next (stS0 sc (i_ a) o3 o4' (i_ m') ys) ∧ ys.length ≤ xs.length + 7 := by
  obtain ⟨s', e, o4', m', ys, rfl, h, _⟩ := forS_ok (w := range1I (a1 (k 7))) (g := nameG 4) (f := smallF) (xs := rangeL 0 7) (s0 := stS0 sc (i_ a) o3 o4 (i_ m) xs) (s := stS0 sc (i_ a) o3 o4 (i_ m) xs) (fun i s => ∃ o4 m ys, s = stS0 sc (i_ a) o3 o4 (i_ m) ys ∧ ys.length ≤ xs.length + i ∧ m.natAbs < 2 ^ 64)
    (by kernel_rfl) ⟨o4, m, xs, rfl, by omega, hm⟩ fun i d s hd ⟨o41, m1, ys, es, hy, hm1⟩ => by
      subst es
      obtain ⟨ed, hi⟩ := range_at hd
      subst ed
      obtain ⟨m2, v, hm2, e2⟩ := smallF_ok (sc := sc) (a := a) (o3 := o3) (t := 0 + (i : Nat)) (m := m1) (xs := ys) (by omega) ha (by omega) hm1
      exact ⟨_, _, rfl, e2, _, m2, _, rfl, by rw [List.length_append, List.length_singleton]; omega, hm2⟩
  rw [range_len] at h
  exact ⟨o4', m', ys, e, h⟩
theorem smallB_ok (hl : xs.length + 7 < sizeLine) (ha : a.natAbs < 2 ^ 64) (hc : c.natAbs < 2 ^ 64) : ∃ o4' o5' ys, smallB (stS0 sc (i_ a) (i_ c) o4 o5 xs) = .ok .next (stS0 sc (i_ a) (i_ c) o4' o5' ys) ∧ ys.length ≤ xs.length + 7 := by
  obtain ⟨o4', m', ys, e2, h⟩ := smallL_ok (sc := sc) (a := a) (o3 := i_ c) (o4 := o4) (m := (c * 40014 + a * 52774 + 11) % 2147483563) hl ha (by omega)
  refine ⟨o4', i_ m', ys, ?_, h⟩
  have e0 : bin modV (callV intV (a1 (bin addV (bin addV (bin mulV (varE 3) (k 40014)) (bin mulV (varE 2) (k 52774))) (k 11)))) (k 2147483563) (stS0 sc (i_ a) (i_ c) o4 o5 xs) = .ok (.int ((c * 40014 + a * 52774 + 11) % 2147483563)) (stS0 sc (i_ a) (i_ c) o4 o5 xs) :=
    bin_ok (call_ok (v := .int (c * 40014 + a * 52774 + 11)) (bin_ok (bin_ok (bin_ok (d := .int c) (e := .int 40014) rfl rfl (mul_ok (mulOk_of hc (by decide)))) (bin_ok (d := .int a) (e := .int 52774) rfl rfl (mul_ok (mulOk_of ha (by decide)))) rfl) (e := .int 11) rfl rfl) rfl) (e := .int 2147483563) rfl (mod_ok (by decide))
  have e1 : asgS (bin modV (callV intV (a1 (bin addV (bin addV (bin mulV (varE 3) (k 40014)) (bin mulV (varE 2) (k 52774))) (k 11)))) (k 2147483563)) (nameG 5) (stS0 sc (i_ a) (i_ c) o4 o5 xs) = .ok .next (stS0 sc (i_ a) (i_ c) o4 (i_ ((c * 40014 + a * 52774 + 11) % 2147483563)) xs) := by
    unfold asgS
    rw [e0]
    rfl
  unfold smallB seqS
  rw [e1]
  simp only
  rw [e2]
  rfl
theorem pow_ok {hp : List Cell} : powV (.int 10) (.int 18) hp = .val (.int ((10 : Int) ^ 18)) := by
  unfold powV
  exact if_pos (by decide +kernel)
theorem at_ok {ds : List D} {i : Nat} {d : D} (h : ds[i]? = some d) : L2.atI ds (0 + (i : Nat)) = some d := by
  have hi := (List.getElem?_eq_some_iff.mp h).1
  have e : L2.ixN ds.length (0 + (i : Nat)) = some i := by
    unfold L2.ixN
    simp
    omega
  unfold L2.atI
  rw [e]
  exact h
theorem streamF_ok {ns : List Int} {i : Nat} (hi : i < ns.length) (h63 : i < 63) (hl : xs.length + 56 < sizeLine) : ∃ o3' o4' o5' ys, streamF (stS0 (some (.scr (ns.map .int))) (i_ (0 + (i : Nat))) o3 o4 o5 xs) = .ok .next (stS0 (some (.scr (ns.map .int))) (i_ (0 + (i : Nat))) o3' o4' o5' ys) ∧ ys.length ≤ xs.length + 56 := by
  have hat : (ns.map D.int)[i]? = some (.int ns[i]) := by
    rw [List.getElem?_map, List.getElem?_eq_getElem hi]
    rfl
  have e1 : asgS (callV intV (a1 (bin ixV (varE 0) (varE 2)))) (nameG 3) (stS0 (some (.scr (ns.map .int))) (i_ (0 + (i : Nat))) o3 o4 o5 xs) = .ok .next (stS0 (some (.scr (ns.map .int))) (i_ (0 + (i : Nat))) (i_ ns[i]) o4 o5 xs) := by
    have e0 : callV intV (a1 (bin ixV (varE 0) (varE 2))) (stS0 (some (.scr (ns.map .int))) (i_ (0 + (i : Nat))) o3 o4 o5 xs) = .ok (.int ns[i]) (stS0 (some (.scr (ns.map .int))) (i_ (0 + (i : Nat))) o3 o4 o5 xs) := by
      refine call_ok (d := .int ns[i]) (bin_ok (d := .scr (ns.map .int)) (e := .int (0 + (i : Nat))) rfl rfl ?_) rfl
      show (match L2.atI (ns.map D.int) (0 + (i : Nat)) with
          | some x => VO.val x
          | none => .bad) = _
      rw [at_ok hat]
    unfold asgS
    rw [e0]
    rfl
  have neg : ∀ c : Int, ∃ c' : Int, 0 ≤ c' ∧ ifS (blT (bin (ordV fun i j => decide (i < j)) (varE 3) (k 0))) (seqS (asgS (bin subV (k 5) (varE 3)) (nameG 3)) nextS) nextS (stS0 (some (.scr (ns.map .int))) (i_ (0 + (i : Nat))) (i_ c) o4 o5 xs) = .ok .next (stS0 (some (.scr (ns.map .int))) (i_ (0 + (i : Nat))) (i_ c') o4 o5 xs) := fun c => by
    have et : blT (bin (ordV fun i j => decide (i < j)) (varE 3) (k 0)) (stS0 (some (.scr (ns.map .int))) (i_ (0 + (i : Nat))) (i_ c) o4 o5 xs) = .ok (decide (c < 0)) (stS0 (some (.scr (ns.map .int))) (i_ (0 + (i : Nat))) (i_ c) o4 o5 xs) := by rfl
    by_cases hc : c < 0
    · refine ⟨5 - c, by omega, ?_⟩
      unfold ifS
      rw [et]
      simp only [Out.bind_ok, hc, decide_true, if_true]
      rfl
    · refine ⟨c, by omega, ?_⟩
      unfold ifS
      rw [et]
      simp only [Out.bind_ok, hc, decide_false, Bool.false_eq_true, if_false]
      rfl
  obtain ⟨c, hc0, e2⟩ := neg ns[i]
  have et : blT (bin (ordV fun i j => decide (j ≤ i)) (varE 3) (bin powV (k 10) (k 18))) (stS0 (some (.scr (ns.map .int))) (i_ (0 + (i : Nat))) (i_ c) o4 o5 xs) = .ok (decide ((10 : Int) ^ 18 ≤ c)) (stS0 (some (.scr (ns.map .int))) (i_ (0 + (i : Nat))) (i_ c) o4 o5 xs) := by
    have ep : bin powV (k 10) (k 18) (stS0 (some (.scr (ns.map .int))) (i_ (0 + (i : Nat))) (i_ c) o4 o5 xs) = .ok (.int ((10 : Int) ^ 18)) (stS0 (some (.scr (ns.map .int))) (i_ (0 + (i : Nat))) (i_ c) o4 o5 xs) := bin_ok (d := .int 10) (e := .int 18) rfl rfl pow_ok
    unfold blT
    rw [bin_ok (f := ordV fun i j => decide (j ≤ i)) (a := varE 3) (b := bin powV (k 10) (k 18)) (s := stS0 (some (.scr (ns.map .int))) (i_ (0 + (i : Nat))) (i_ c) o4 o5 xs) (d := .int c) (e := .int ((10 : Int) ^ 18)) (v := .bl (decide ((10 : Int) ^ 18 ≤ c))) rfl ep rfl]
    rfl
  by_cases hb : (10 : Int) ^ 18 ≤ c
  · obtain ⟨c', o4', ys, e3, h⟩ := bigL_ok (sc := some (.scr (ns.map .int))) (o2 := i_ (0 + (i : Nat))) (c := c) (o4 := o4) (o5 := o5) hl
    refine ⟨i_ c', o4', o5, ys, ?_, h⟩
    unfold streamF seqS
    rw [e1]
    simp only
    unfold seqS at e2
    rw [e2]
    simp only [ifS]
    rw [et]
    simp only [Out.bind_ok, hb, decide_true, if_true]
    rw [e3]
    rfl
  · obtain ⟨o4', o5', ys, e3, h⟩ := smallB_ok (sc := some (.scr (ns.map .int))) (a := 0 + (i : Nat)) (c := c) (o4 := o4) (o5 := o5) (xs := xs) (by omega) (by omega) (by
      have : c < 10 ^ 18 := by omega
      omega)
    refine ⟨i_ c, o4', o5', ys, ?_, by omega⟩
    unfold streamF seqS
    rw [e1]
    simp only
    unfold seqS at e2
    rw [e2]
    simp only [ifS]
    rw [et]
    simp only [Out.bind_ok, hb, decide_false, Bool.false_eq_true, if_false]
    rw [e3]
    rfl
end
end Den
end

-- DenZ2
section
set_option maxHeartbeats 2000000
/-! Den: the stream of a script. -/
namespace Den
open PySem
section
variable {ns ys : List Int} {o2 o3 o4 o5 : Option D}
theorem z_p62 : (2 : Int) ^ 62 = ((2 ^ 62 : Nat) : Int) := (Int.natCast_pow 2 62).symm
theorem z_q62 : (64 : Nat) ≤ 2 ^ 62 := by decide
theorem z_r (j : Int) (h : 0 ≤ j ∧ j ≤ 63) : -(2 ^ 62) ≤ j ∧ j < 2 ^ 62 := by
  have e := z_p62
  have q := z_q62
  generalize (2 : Int) ^ 62 = x at e ⊢
  generalize (2 : Nat) ^ 62 = y at e q
  omega
theorem range1_ok {t : SemA} {s s' : S} {j : Int} (h : t s = .ok [.int j] s') (hj : 0 ≤ j ∧ j ≤ 63) : range1I t s = .ok (.vals (rangeL 0 j.toNat)) s' := by
  have q := z_r j hj
  have e : range1I t s = if -(2 ^ 62) ≤ j ∧ j < 2 ^ 62 then .ok (.vals (rangeL 0 j.toNat)) s' else .bad := by
    unfold range1I
    rw [h]
    exact rfl
  exact e.trans (if_pos q)
theorem z_e1 : asgS (lstE nilA) (nameG 1) ⟨[some (.scr (ns.map .int)), none, none, none, none, none], [], 0⟩ = .ok .next (stS0 (some (.scr (ns.map .int))) none none none none []) := by
  have e0 : lstE nilA ⟨[some (.scr (ns.map .int)), none, none, none, none, none], [], 0⟩ = .ok (.ref 0) ⟨[some (.scr (ns.map .int)), none, none, none, none, none], [.lst []], 0⟩ := by
    unfold lstE nilA
    simp only [Out.bind_ok]
    exact if_pos (Nat.zero_le _)
  unfold asgS
  rw [e0]
  rfl
theorem z_em (hn : ns.length ≤ 63) : callV minV (consA (callV lenV (a1 (varE 0))) (a1 (k 63))) (stS0 (some (.scr (ns.map .int))) none none none none []) = .ok (.int ns.length) (stS0 (some (.scr (ns.map .int))) none none none none []) := by
  have el : callV lenV (a1 (varE 0)) (stS0 (some (.scr (ns.map .int))) none none none none []) = .ok (.int (ns.map D.int).length) (stS0 (some (.scr (ns.map .int))) none none none none []) := call_ok (d := .scr (ns.map .int)) rfl rfl
  have ea : consA (callV lenV (a1 (varE 0))) (a1 (k 63)) (stS0 (some (.scr (ns.map .int))) none none none none []) = .ok [.int (ns.map D.int).length, .int 63] (stS0 (some (.scr (ns.map .int))) none none none none []) := by
    show (callV lenV (a1 (varE 0)) (stS0 (some (.scr (ns.map .int))) none none none none [])).bind _ = _
    rw [el]
    rfl
  show (consA (callV lenV (a1 (varE 0))) (a1 (k 63)) (stS0 (some (.scr (ns.map .int))) none none none none [])).bind _ = _
  rw [ea, List.length_map]
  show VO.on _ (.val (.int (if (63 : Int) < (ns.length : Int) then 63 else (ns.length : Int)))) = _
  rw [if_neg (by omega)]
  rfl
theorem z_hw (hn : ns.length ≤ 63) : range1I (a1 (callV minV (consA (callV lenV (a1 (varE 0))) (a1 (k 63))))) (stS0 (some (.scr (ns.map .int))) none none none none []) = .ok (.vals (rangeL 0 ns.length)) (stS0 (some (.scr (ns.map .int))) none none none none []) := by
  have ea : a1 (callV minV (consA (callV lenV (a1 (varE 0))) (a1 (k 63)))) (stS0 (some (.scr (ns.map .int))) none none none none []) = .ok [.int ns.length] (stS0 (some (.scr (ns.map .int))) none none none none []) := by
    show (callV minV (consA (callV lenV (a1 (varE 0))) (a1 (k 63))) (stS0 (some (.scr (ns.map .int))) none none none none [])).bind _ = _
    rw [z_em hn]
    rfl
  have q := range1_ok ea ⟨by omega, by omega⟩
  rw [Int.toNat_natCast] at q
  exact q
theorem z_e3 : dropS (mthL reverseM (varE 1) nilA) (stS0 (some (.scr (ns.map .int))) o2 o3 o4 o5 ys) = .ok .next (stS0 (some (.scr (ns.map .int))) o2 o3 o4 o5 ys.reverse) := by
  have er : (ys.map D.int).reverse = ys.reverse.map .int := by rw [List.map_reverse]
  show (Out.ok Fl.next ⟨_, [Cell.lst (ys.map D.int).reverse], 0⟩ : Out Fl) = _
  rw [er]
end
end Den
end

-- DenZ3
section
set_option maxHeartbeats 2000000
/-! Den: the stream of a script, whole; a draw from it. -/
namespace Den
open PySem
theorem stream_ok {ns : List Int} (hn : ns.length ≤ 63) : ∃ (zs : List Int) (env : List (Option D)), streamB ⟨[some (.scr (ns.map .int)), none, none, none, none, none], [], 0⟩ = .ok (.ret (.ref 0)) ⟨env, [.lst (zs.map .int)], 0⟩ := by
  obtain ⟨s', e2, o2, o3, o4, o5, ys, rfl, _⟩ := forS_ok (w := range1I (a1 (callV minV (consA (callV lenV (a1 (varE 0))) (a1 (k 63)))))) (g := nameG 2) (f := streamF) (xs := rangeL 0 ns.length) (s0 := stS0 (some (.scr (ns.map .int))) none none none none []) (s := stS0 (some (.scr (ns.map .int))) none none none none [])
    (fun i s => ∃ o2 o3 o4 o5 ys, s = stS0 (some (.scr (ns.map .int))) o2 o3 o4 o5 ys ∧ ys.length ≤ 56 * i) (z_hw hn) ⟨none, none, none, none, [], rfl, by simp⟩ fun i d s hd ⟨o2, o3, o4, o5, ys, es, hy⟩ => by
      subst es
      obtain ⟨ed, hi⟩ := range_at hd
      subst ed
      obtain ⟨o3', o4', o5', zs, e, hz⟩ := streamF_ok (o3 := o3) (o4 := o4) (o5 := o5) (xs := ys) hi (by omega) (by rw [sizeLine_eq]; omega)
      exact ⟨_, _, rfl, e, _, o3', o4', o5', zs, rfl, by omega⟩
  refine ⟨ys.reverse, [some (.scr (ns.map .int)), some (.ref 0), o2, o3, o4, o5], ?_⟩
  unfold streamB seqS
  rw [z_e1]
  simp only
  rw [e2]
  simp only
  rw [z_e3]
  rfl
end Den
end

-- DenSim
section
set_option maxHeartbeats 2000000
/-! Den: bodies as rows of statements; steps. -/
namespace Den
open PySem PySem.Spec
def runs : List SemS → SemS
  | [] => nextS
  | f :: r => seqS f (runs r)
theorem seq_step {f g : SemS} {s s' : S} (h : f s = .ok .next s') : seqS f g s = g s' := by
  unfold seqS
  rw [h]
theorem runs_step {f : SemS} {r : List SemS} {s s' : S} (h : f s = .ok .next s') : runs (f :: r) s = runs r s' := seq_step h
theorem runs_end {f : SemS} {r : List SemS} {s s' : S} {d : D} (h : f s = .ok (.ret d) s') : runs (f :: r) s = .ok (.ret d) s' := by
  show seqS f (runs r) s = _
  unfold seqS
  rw [h]
theorem runs_append {a b : List SemS} {s s' : S} : runs a s = .ok .next s' → runs (a ++ b) s = runs b s' := by
  induction a generalizing s with
  | nil =>
    intro h
    have e : s = s' := by cases h; rfl
    rw [e]
    rfl
  | cons f r ih =>
    intro h
    show seqS f (runs (r ++ b)) s = _
    have h' : (match f s with
      | .ok .next s => runs r s
      | o => o) = .ok .next s' := h
    show (match f s with
      | .ok .next s => runs (r ++ b) s
      | o => o) = _
    generalize f s = o at h' ⊢
    split at h'
    · exact ih h'
    · rename_i hn
      subst h'
      exact absurd rfl (hn s')
/-- where a row of statements ends that goes through -/
def Out.st (s0 : S) : Out Fl → S
  | .ok _ s => s
  | _ => s0
theorem eqv_int {a b : Int} : PyData.eqv (.int a) (.int b) = decide (a = b) := by
  simp only [PyData.eqv]
  exact rfl
theorem eqV_int {neg : Bool} {a b : Int} {hp : List Cell} : eqV neg (.int a) (.int b) hp = .val (.bl (if neg then !decide (a = b) else decide (a = b))) := by
  show (if (SeqAt.shaped (.int a) && SeqAt.shaped (.int b)) = true then VO.val (.bl (if neg then !PyData.eqv (.int a) (.int b) else PyData.eqv (.int a) (.int b))) else .bad) = _
  rw [eqv_int, if_pos (by rfl)]
/-! ### a draw -/
def drawV (zs : List Int) (m : Int) : Int := match zs.getLast? with
  | none => 0
  | some z => z % m
def takeB : List SemS := [ifS (blT (bin (eqV false) (callV lenV (consA (varE 0) nilA)) (conE (.int 0)))) (runs [retS (conE (.int 0))]) (runs []),
  retS (bin modV (callV intV (consA (mthL popM (varE 0) nilA) nilA)) (varE 1))]
theorem drawV_lt {zs : List Int} {m : Int} (h : 0 < m) : 0 ≤ drawV zs m ∧ drawV zs m < m := by
  unfold drawV
  split
  · omega
  · exact ⟨Int.emod_nonneg _ (by omega), Int.emod_lt_of_pos _ h⟩
theorem take_ok {zs : List Int} {m : Int} {hp : List Cell} {i b : Nat} (hm : 0 < m) (hi : hp[i]? = some (.lst (zs.map .int))) :
    runs takeB ⟨[some (.ref i), some (.int m)], hp, b⟩ = .ok (.ret (.int (drawV zs m))) ⟨[some (.ref i), some (.int m)], hp.set i (.lst (zs.dropLast.map .int)), b⟩ := by
  have el : callV lenV (consA (varE 0) nilA) ⟨[some (.ref i), some (.int m)], hp, b⟩ = .ok (.int zs.length) ⟨[some (.ref i), some (.int m)], hp, b⟩ := by
    refine call_ok (d := .ref i) rfl ?_
    show lenV [.ref i] hp = _
    unfold lenV lstOf' lstOf
    simp only [hi, List.length_map]
  have et : blT (bin (eqV false) (callV lenV (consA (varE 0) nilA)) (conE (.int 0))) ⟨[some (.ref i), some (.int m)], hp, b⟩ = .ok (decide ((zs.length : Int) = 0)) ⟨[some (.ref i), some (.int m)], hp, b⟩ := by
    unfold blT
    rw [bin_ok (b := conE (.int 0)) (d := .int zs.length) (e := .int 0) el rfl eqV_int]
    rfl
  by_cases hz : zs = []
  · subst hz
    have ei : hp.set i (.lst ((([] : List Int).dropLast).map .int)) = hp := by
      obtain ⟨h1, h2⟩ := List.getElem?_eq_some_iff.mp hi
      have : hp[i] = .lst ((([] : List Int).dropLast).map .int) := h2
      rw [← this, List.set_getElem_self]
    rw [ei]
    refine runs_end ?_
    unfold ifS
    rw [et]
    rfl
  · have hl : ¬ ((zs.length : Int) = 0) := by
      have := List.length_pos_iff.mpr hz
      omega
    refine (runs_step (s' := ⟨[some (.ref i), some (.int m)], hp, b⟩) ?_).trans (runs_end ?_)
    · unfold ifS
      rw [et]
      simp only [Out.bind_ok, hl, decide_false, Bool.false_eq_true, if_false]
      rfl
    · have eg : zs.getLast? = some (zs.getLast hz) := List.getLast?_eq_some_getLast hz
      have ep : mthL popM (varE 0) nilA ⟨[some (.ref i), some (.int m)], hp, b⟩ = .ok (.int (zs.getLast hz)) ⟨[some (.ref i), some (.int m)], hp.set i (.lst (zs.dropLast.map .int)), b⟩ := by
        have e1 : isLst (.ref i) hp = true := by
          unfold isLst lstOf' lstOf
          simp only [hi]
          rfl
        have ex : (zs.map D.int)[(zs.map D.int).length - 1]? = some (.int (zs.getLast hz)) := by
          rw [← List.getLast?_eq_getElem?, List.getLast?_map, eg]
          rfl
        have e2 : popM (.ref i) [] hp b = some (.int (zs.getLast hz), hp.set i (.lst (zs.dropLast.map .int))) := by
          unfold popM cellOfL
          simp only [hi, ex]
          rw [List.map_dropLast]
        show (mthL popM (varE 0) nilA ⟨[some (.ref i), some (.int m)], hp, b⟩) = _
        unfold mthL
        have ev : varE 0 ⟨[some (.ref i), some (.int m)], hp, b⟩ = .ok (.ref i) ⟨[some (.ref i), some (.int m)], hp, b⟩ := rfl
        rw [ev]
        simp only [Out.bind_ok, nilA]
        rw [if_pos e1, e2]
      have e3 : callV intV (consA (mthL popM (varE 0) nilA) nilA) ⟨[some (.ref i), some (.int m)], hp, b⟩ = .ok (.int (zs.getLast hz)) ⟨[some (.ref i), some (.int m)], hp.set i (.lst (zs.dropLast.map .int)), b⟩ := by
        unfold callV consA
        rw [ep]
        rfl
      show (bin modV (callV intV (consA (mthL popM (varE 0) nilA) nilA)) (varE 1) _).bind _ = _
      unfold bin
      rw [e3]
      have ev : varE 1 ⟨[some (.ref i), some (.int m)], hp.set i (.lst (zs.dropLast.map .int)), b⟩ = .ok (.int m) ⟨[some (.ref i), some (.int m)], hp.set i (.lst (zs.dropLast.map .int)), b⟩ := rfl
      simp only [Out.bind_ok]
      rw [ev]
      simp only [Out.bind_ok]
      rw [mod_ok hm]
      unfold drawV
      rw [eg]
      rfl
end Den
end

-- DenSy
section
set_option maxHeartbeats 2000000
/-! Den: steps as equations, to evaluate bodies by rewriting. -/
namespace Den
open PySem PySem.Spec
section
variable {C : Calls} {p : Px} {a b c : SemE} {t : SemA} {q : SemT} {f g : SemS} {s : S} {e : List (Option D)} {h : List Cell} {n i : Nat} {d : D}
theorem y_nil : runs [] s = .ok .next s := rfl
theorem y_cons {r : List SemS} : runs (f :: r) s = match f s with
  | .ok .next s => runs r s
  | o => o := rfl
theorem y_asg {w : SemG} : asgS a w s = (a s).bind fun d s => (w d s).bind fun _ s => .ok .next s := rfl
theorem y_name : nameG i d ⟨e, h, n⟩ = .ok () ⟨e.set i (some d), h, n⟩ := rfl
theorem y_ret : retS a s = (a s).bind fun d s => .ok (.ret d) s := rfl
theorem y_drop : dropS a s = (a s).bind fun _ s => .ok .next s := rfl
theorem y_if : ifS q f g s = (q s).bind fun b s => if b = true then f s else g s := rfl
theorem y_bl : blT a s = (a s).bind fun d s => match d with
  | .bl b => .ok b s
  | _ => .bad := rfl
theorem y_tru {w : D → List Cell → Option Bool} : truE w a s = (a s).bind fun d s => match w d s.hp with
  | some b => .ok b s
  | none => .bad := rfl
theorem y_not : notT q s = (q s).bind fun c s => .ok (!c) s := rfl
theorem y_and {r : SemT} : andT q r s = (q s).bind fun c s => if c = true then r s else .ok false s := rfl
theorem y_or {r : SemT} : orT q r s = (q s).bind fun c s => if c = true then .ok true s else r s := rfl
theorem y_andE : andE a b s = (a s).bind fun d s => match d with
  | .bl c => if c = true then b s else .ok (.bl false) s
  | _ => .bad := by
  unfold andE
  congr 1
  funext d s
  cases d with
  | bl c => cases c <;> rfl
  | _ => rfl
theorem y_orE : orE a b s = (a s).bind fun d s => match d with
  | .bl c => if c = true then .ok (.bl true) s else b s
  | _ => .bad := by
  unfold orE
  congr 1
  funext d s
  cases d with
  | bl c => cases c <;> rfl
  | _ => rfl
theorem y_notE : notE a s = (a s).bind fun d s => match d with
  | .bl c => .ok (.bl (!c)) s
  | _ => .bad := rfl
theorem y_con : conE d s = .ok d s := rfl
theorem y_var : varE i ⟨e, h, n⟩ = match e[i]? with
  | some (some d) => .ok d ⟨e, h, n⟩
  | _ => .bad := rfl
theorem y_bin {w : V2} : bin w a b s = (a s).bind fun d s => (b s).bind fun e s => (w d e s.hp).on s := rfl
theorem y_un {w : V1} : un w a s = (a s).bind fun d s => (w d s.hp).on s := rfl
theorem y_two {w : D → D → S → Out D} : two w a b s = (a s).bind fun x s => (b s).bind fun y s => w x y s := rfl
theorem y_nilA : nilA s = .ok [] s := rfl
theorem y_consA : consA a t s = (a s).bind fun d s => (t s).bind fun ds s => .ok (d :: ds) s := rfl
theorem y_call {dds : List D} : callE C i dds t s = (t s).bind fun xs s => (C i none (xs ++ dds) s.hp).on s := rfl
theorem y_make {k : Nat} {dds : List D} : makeE C i k dds t s = (t s).bind fun xs s => (C i (some k) (xs ++ dds) s.hp).on s := rfl
theorem y_stat : smE C i t s = (t s).bind fun xs s => (C i none xs s.hp).on s := rfl
theorem y_callV {w : VA} : callV w t s = (t s).bind fun xs s => (w xs s.hp).on s := rfl
theorem y_callG {w : VG} : callG w t s = (t s).bind fun xs s => match w xs s.hp with
  | some (d, hp) => .ok d { s with hp := hp }
  | none => .bad := rfl
theorem y_neg {tn : Nat → Option Nat} {w : V1} : negE C tn w a s = (a s).bind fun x s => negC C tn w x s := rfl
theorem y_tup : tupE t s = (t s).bind fun xs s => if xs.length ≤ sizeLine then .ok (.tup xs) s else .bad := rfl
theorem y_lst : lstE t s = (t s).bind fun xs s => if xs.length ≤ sizeLine then .ok (.ref s.hp.length) { s with hp := s.hp ++ [.lst xs] } else .bad := rfl
theorem y_ifE : ifE q a b s = (q s).bind fun z s => if z = true then a s else b s := rfl
theorem y_raise {k : Nat} {fs : List Nat} : raiseS k fs t s = (t s).bind fun xs s => if xs.length = fs.length then .exn k fs.reverse xs.reverse s else .bad := rfl
theorem y_val : (VO.val d).on s = .ok d s := rfl
theorem y_new {c : Cell} : (VO.new c).on s = .ok (.ref s.hp.length) { s with hp := s.hp ++ [c] } := rfl
theorem y_on {hp : List Cell} : (OutC.ok d hp).on s = .ok d { s with hp := hp } := rfl
theorem y_onx {k : Nat} {fs : List Nat} {xs : List D} {hp : List Cell} : (OutC.exn k fs xs hp).on s = .exn k fs xs { s with hp := hp } := rfl
theorem y_mth {tb : Nat → Option Nat} {nf : Nat} : mthE C tb nf a t s = (a s).bind fun d s => match insOf d s.hp with
  | some (c, fs, _) => match tb c with
    | some i => if (fs.all fun i => decide (i < nf)) = true then (t s).bind fun xs s => (C i none (d :: xs) s.hp).on s else .bad
    | none => .bad
  | none => .bad := rfl
theorem y_fmt : fmtE a s = (a s).bind fun d s => match d with
  | .str y => if y.length ≤ sizeLine then .ok (.str y) s else .bad
  | .int i => if i.natAbs.log2 < 1920 then .ok (.str (toString i)) s else .bad
  | _ => .bad := rfl
theorem y_bits : bitsE a s = (a s).bind fun d s => match d with
  | .int i => .ok (.int (Builtin.Int.intBits i : Nat)) s
  | _ => .bad := rfl
theorem y_tupG {w : SemGs} {xs : List D} : tupG n w (.tup xs) s = if xs.length = n then w xs s else .bad := rfl
theorem y_consG {u : SemG} {w : SemGs} {ds : List D} : consG u w (d :: ds) s = (u d s).bind fun _ s => w ds s := rfl
theorem y_nilG : nilG [] s = .ok () s := rfl
theorem y_mthL {w : VM} : mthL w a t s = (a s).bind fun d s => if isLst d s.hp = true then (t s).bind fun ds s => match w d ds s.hp s.base with
  | some (v, hp) => .ok v { s with hp := hp }
  | none => .bad else .bad := rfl
theorem v_add {i j : Int} : addV (.int i) (.int j) h = .val (.int (i + j)) := rfl
theorem v_sub {i j : Int} : subV (.int i) (.int j) h = .val (.int (i - j)) := rfl
theorem v_neg {i : Int} : negV (.int i) h = .val (.int (-i)) := rfl
theorem v_lt {i j : Int} : ltV (.int i) (.int j) h = .val (.bl (decide (i < j))) := rfl
theorem v_le {i j : Int} : leV (.int i) (.int j) h = .val (.bl (decide (i ≤ j))) := rfl
theorem v_gt {i j : Int} : gtV (.int i) (.int j) h = .val (.bl (decide (j < i))) := rfl
theorem v_ge {i j : Int} : geV (.int i) (.int j) h = .val (.bl (decide (j ≤ i))) := rfl
theorem v_mul {i j : Int} (q : mulOk i j = true) : mulV (.int i) (.int j) h = .val (.int (i * j)) := if_pos q
theorem v_div {i j : Int} (q : divOk j = true) : fdivV (.int i) (.int j) h = .val (.int (i / j)) := if_pos q
theorem v_divn {i j : Int} (q : negOk j = true) : fdivV (.int i) (.int j) h = .val (.int (i.fdiv j)) := by
  have q' : j < 0 ∧ j.natAbs.log2 < 9000 := of_decide_eq_true q
  have n : ¬ divOk j = true := fun z => by
    have z' : 0 < j ∧ j.natAbs.log2 < 9000 := of_decide_eq_true z
    omega
  show (if divOk j then _ else if negOk j then _ else _) = _
  rw [if_neg n, if_pos q]
theorem v_mod {i j : Int} (q : 0 < j) : modV (.int i) (.int j) h = .val (.int (i % j)) := if_pos q
theorem v_tru {c : Bool} : truth (.bl c) h = some c := rfl
theorem v_gcd {i j : Int} : gcdV [.int i, .int j] h = .val (.int (Int.gcd i j : Nat)) := rfl
theorem set0 {α : Type} {x y : α} {l : List α} : (x :: l).set 0 y = y :: l := rfl
theorem set1 {α : Type} {x y : α} {l : List α} {i : Nat} : (x :: l).set (i + 1) y = x :: l.set i y := rfl
theorem v_eqC {te : Nat → Option Nat} {w : V2} {i : Int} {y : D} : eqC C te w (.int i) y s = (w (.int i) y s.hp).on s := rfl
theorem v_opC {tl tr : Nat → Option Nat} {w : V2} {i j : Int} : opC C tl tr w (.int i) (.int j) s = (w (.int i) (.int j) s.hp).on s := rfl
theorem v_negC {tn : Nat → Option Nat} {w : V1} {i : Int} : negC C tn w (.int i) s = (w (.int i) s.hp).on s := rfl
theorem v_neC {te : Nat → Option Nat} {i j : Int} : neC C te (.int i) (.int j) s = .ok (.bl (!decide (i = j))) s := by
  unfold neC
  rw [eqV_int]
  rfl
end
/-! ### what leaves a call -/
mutual
theorem fz_pure {get : Nat → Option D} : ∀ {d : D}, d.noRef = true → fz get d = some d
  | .non, _ => rfl
  | .bl b, _ => rfl
  | .int i, _ => rfl
  | .str x, _ => rfl
  | .cls c, _ => rfl
  | .ty c, _ => rfl
  | .tup xs, h => by
    have e := fzs_pure (get := get) (xs := xs) (by simpa [D.noRef] using h)
    simp only [fz, e]
  | .lst xs, h => by
    have e := fzs_pure (get := get) (xs := xs) (by simpa [D.noRef] using h)
    simp only [fz, e]
  | .scr xs, h => by
    have e := fzs_pure (get := get) (xs := xs) (by simpa [D.noRef] using h)
    simp only [fz, e]
  | .dct ks xs, h => by
    have h2 : D.noRefs ks = true ∧ D.noRefs xs = true := by simpa [D.noRef] using h
    have e := fzs_pure (get := get) (xs := xs) h2.2
    simp only [fz, e]
  | .ins c fs xs, h => by
    have e := fzs_pure (get := get) (xs := xs) (by simpa [D.noRef] using h)
    simp only [fz, e]
  | .exc c fs xs, h => by
    have e := fzs_pure (get := get) (xs := xs) (by simpa [D.noRef] using h)
    simp only [fz, e]
  | .ref k, h => by simp [D.noRef] at h
theorem fzs_pure {get : Nat → Option D} : ∀ {xs : List D}, D.noRefs xs = true → fzs get xs = some xs
  | [], _ => rfl
  | x :: xs, h => by
    have h2 : x.noRef = true ∧ D.noRefs xs = true := by simpa [D.noRefs] using h
    simp only [fzs, fz_pure h2.1, fzs_pure h2.2]
end
section
variable {s : S} {hp : List Cell} {e : List (Option D)} {n : Nat} {d : D}
theorem lv (h : d.noRef = true) : leave hp.length (.ok (.ret d) ⟨e, hp, n⟩) = .ok d hp := by
  show (match freeze hp hp.length d with
    | some d' => OutC.ok d' (hp.take hp.length)
    | none => .bad) = _
  unfold freeze
  rw [fz_pure h]
  simp only [List.take_length]
theorem lvx {c : Nat} {fs : List Nat} {xs : List D} (h : D.noRefs xs = true) : leave hp.length (.exn c fs xs ⟨e, hp, n⟩) = .exn c fs xs hp := by
  show (match freezes hp hp.length xs with
    | some xs' => OutC.exn c fs xs' (hp.take hp.length)
    | none => .bad) = _
  unfold freezes
  rw [fzs_pure h]
  simp only [List.take_length]
theorem lvn : leave hp.length (.ok .next ⟨e, hp, n⟩) = .ok .non hp := by
  show OutC.ok D.non (hp.take hp.length) = _
  rw [List.take_length]
theorem bound_log {i : Int} {k m : Nat} (h : i.natAbs < 2 ^ k) (hk : 0 < k) (hm : k ≤ m) : i.natAbs.log2 < m := Nat.lt_of_lt_of_le (log_lt h hk) hm
theorem mulOk_b {i j : Int} {k m : Nat} (h1 : i.natAbs < 2 ^ k) (h2 : j.natAbs < 2 ^ m) (hk : 0 < k) (hm : 0 < m) (h : k + m ≤ 1000000) : mulOk i j = true := by
  unfold mulOk
  have a := log_lt h1 hk
  have b := log_lt h2 hm
  exact decide_eq_true (by omega)
theorem divOk_b {j : Int} {k : Nat} (h0 : 0 < j) (h : j.natAbs < 2 ^ k) (hk : 0 < k) (hm : k ≤ 9000) : divOk j = true := by
  unfold divOk
  have a := log_lt h hk
  exact decide_eq_true ⟨h0, by omega⟩
theorem negOk_b {j : Int} {k : Nat} (h0 : j < 0) (h : j.natAbs < 2 ^ k) (hk : 0 < k) (hm : k ≤ 9000) : negOk j = true := by
  unfold negOk
  have a := log_lt h hk
  exact decide_eq_true ⟨h0, by omega⟩
theorem mul_b {i j : Int} {k m : Nat} (h1 : i.natAbs < 2 ^ k) (h2 : j.natAbs < 2 ^ m) : (i * j).natAbs < 2 ^ (k + m) := by
  rw [Int.natAbs_mul, Nat.pow_add]
  exact Nat.mul_lt_mul'' h1 h2
theorem call_none {fns : List Fn} {k i : Nat} {f : Fn} {args : List D} (h : fns[i]? = some f) (hl : args.length = f.params) (hk : f.keep = false) : callK fns (k + 1) i none args hp = leave hp.length (f.body (callK fns k) ⟨startEnv f args, hp, hp.length⟩) := by
  show (match fns[i]? with
    | some f => f.run (callK fns k) args hp
    | none => .bad) = _
  rw [h]
  show Fn.run f _ _ _ = _
  unfold Fn.run
  rw [if_pos hl, hk, if_neg Bool.false_ne_true]
theorem call_keep {fns : List Fn} {k i : Nat} {f : Fn} {args : List D} (h : fns[i]? = some f) (hl : args.length = f.params) (hk : f.keep = true) : callK fns (k + 1) i none args hp = leaveKeep (f.body (callK fns k) ⟨startEnv f args, hp, hp.length⟩) := by
  show (match fns[i]? with
    | some f => f.run (callK fns k) args hp
    | none => .bad) = _
  rw [h]
  show Fn.run f _ _ _ = _
  unfold Fn.run
  rw [if_pos hl, hk, if_pos rfl]
theorem call_make {fns : List Fn} {k i c : Nat} {f : Fn} {args : List D} (h : fns[i]? = some f) (hl : args.length + 1 = f.params) : callK fns (k + 1) i (some c) args hp = leaveMk hp.length (f.body (callK fns k) ⟨startEnv f (.ref hp.length :: args), hp ++ [.ins c [] []], hp.length⟩) := by
  show (match fns[i]? with
    | some f => f.make (callK fns k) c args hp
    | none => .bad) = _
  rw [h]
  show Fn.make f _ _ _ _ = _
  unfold Fn.make
  rw [if_pos hl]
end
end Den
end

-- DenSl
section
set_option maxHeartbeats 2000000
/-! Den: loops over what stands fast, comprehensions whose elements change nothing. -/
namespace Den
open PySem
theorem forL_it {it : ItD} {g : SemG} {f : SemS} {xs : List D} (I : Nat → S → Prop) (hit : ∀ i s, I i s → it.at i s = some xs[i]?) (h : ∀ i d s, xs[i]? = some d → I i s → ∃ s1 s2, g d s = .ok () s1 ∧ f s1 = .ok .next s2 ∧ I (i + 1) s2) :
    ∀ (k i : Nat) (s : S), I i s → i ≤ xs.length → xs.length ≤ i + k → ∃ s', forL it g f k i s = .ok .next s' ∧ I xs.length s'
  | 0, i, s, hi, h1, h2 => by
    have e : i = xs.length := by omega
    subst e
    refine ⟨s, ?_, hi⟩
    unfold forL
    rw [hit _ _ hi, List.getElem?_eq_none (Nat.le_refl _)]
  | k + 1, i, s, hi, h1, h2 => by
    by_cases hl : i < xs.length
    · obtain ⟨s1, s2, e1, e2, hi2⟩ := h i xs[i] s (List.getElem?_eq_getElem hl) hi
      obtain ⟨s', e3, hi3⟩ := forL_it I hit h k (i + 1) s2 hi2 hl (by omega)
      refine ⟨s', ?_, hi3⟩
      unfold forL
      rw [hit _ _ hi, List.getElem?_eq_getElem hl]
      simp only [e1, Out.bind_ok, e2]
      exact e3
    · have e : i = xs.length := by omega
      subst e
      refine ⟨s, ?_, hi⟩
      unfold forL
      rw [hit _ _ hi, List.getElem?_eq_none (Nat.le_refl _)]
theorem forS_it {w : SemI} {g : SemG} {f : SemS} {it : ItD} {xs : List D} {s0 s : S} (I : Nat → S → Prop) (hw : w s0 = .ok it s) (hlen : it.len s = xs.length) (h0 : I 0 s) (hit : ∀ i s, I i s → it.at i s = some xs[i]?) (h : ∀ i d s, xs[i]? = some d → I i s → ∃ s1 s2, g d s = .ok () s1 ∧ f s1 = .ok .next s2 ∧ I (i + 1) s2) :
    ∃ s', forS w g f s0 = .ok .next s' ∧ I xs.length s' := by
  obtain ⟨s', e, hi⟩ := forL_it I hit h xs.length 0 s h0 (Nat.zero_le _) (by omega)
  refine ⟨s', ?_, hi⟩
  unfold forS
  rw [hw]
  show forL it g f (it.len s) 0 s = _
  rw [hlen]
  exact e
section
variable {it : ItD} {g : Tgt} {q : SemT} {e : SemE} {own : List Nat} {env : List (Option D)} {base : Nat} {h0 : List Cell} {xs : List D} {p : D → Bool} {φ : D → D}
/-- what a turn of a comprehension does with an item: nothing but its element -/
def Turns (g : Tgt) (q : SemT) (e : SemE) (env : List (Option D)) (base : Nat) (h0 : List Cell) (p : D → Bool) (φ : D → D) (d : D) : Prop := ∃ env', g.put d env = some env' ∧ ∀ acc : List D, ∃ env2, q ⟨env', h0 ++ [.lst acc], base⟩ = .ok (p d) ⟨env2, h0 ++ [.lst acc], base⟩ ∧
  (p d = true → ∃ env3, e ⟨env2, h0 ++ [.lst acc], base⟩ = .ok (φ d) ⟨env3, h0 ++ [.lst acc], base⟩)
theorem set_last' {α : Type} {l : List α} {x y : α} : (l ++ [x]).set l.length y = l ++ [y] := by
  rw [List.set_append_right _ _ (Nat.le_refl _), Nat.sub_self]
  rfl
theorem lcL_ok (hit : ∀ i e' acc, it.at i ⟨e', h0 ++ [.lst acc], base⟩ = some xs[i]?) (hb : base ≤ h0.length) (ht : ∀ d ∈ xs, Turns g q e env base h0 p φ d) : ∀ (k i : Nat) (acc : List D), i ≤ xs.length → xs.length ≤ i + k → acc.length + (xs.length - i) ≤ sizeLine →
    lcL it g (testT q (eltT e h0.length base) base) env base k i (h0 ++ [.lst acc]) = some (h0 ++ [.lst (acc ++ ((xs.drop i).filter p).map φ)])
  | k, i, acc, h1, h2, h3 => by
    by_cases hl : i < xs.length
    · obtain ⟨k', rfl⟩ : ∃ k', k = k' + 1 := ⟨k - 1, by omega⟩
      obtain ⟨env', e1, e2⟩ := ht xs[i] (List.getElem_mem hl)
      obtain ⟨env2, e3, e4⟩ := e2 acc
      have ed : xs.drop i = xs[i] :: xs.drop (i + 1) := List.drop_eq_getElem_cons hl
      unfold lcL
      rw [hit, List.getElem?_eq_getElem hl]
      simp only [e1]
      unfold testT
      rw [e3]
      by_cases hp : p xs[i] = true
      · obtain ⟨env3, e5⟩ := e4 hp
        have et : eltT e h0.length base env2 (h0 ++ [.lst acc]) = some (h0 ++ [.lst (acc ++ [φ xs[i]])]) := by
          unfold eltT
          rw [e5]
          simp only [List.getElem?_concat_length]
          rw [if_pos (by rw [decide_eq_true hb, decide_eq_true (show acc.length < sizeLine by omega)]; rfl), set_last']
        simp only [hp, if_true, et]
        have ih := lcL_ok hit hb ht k' (i + 1) (acc ++ [φ xs[i]]) hl (by omega) (by rw [List.length_append, List.length_singleton]; omega)
        refine ih.trans ?_
        rw [ed, List.filter_cons, if_pos hp, List.map_cons, List.append_assoc]
        rfl
      · simp only [hp, if_false, Bool.false_eq_true]
        have ih := lcL_ok hit hb ht k' (i + 1) acc hl (by omega) (by omega)
        refine ih.trans ?_
        rw [ed, List.filter_cons, if_neg hp]
    · have ei : i = xs.length := by omega
      subst ei
      unfold lcL
      rw [hit, List.getElem?_eq_none (Nat.le_refl _), List.drop_length]
      simp
  termination_by k => k
/-- [e for g in w if q], all that it does -/
theorem lc_ok {w : SemI} {s : S} (hw : w s = .ok it s) (hlen : it.len s = xs.length) (hit : ∀ i e' acc, it.at i ⟨e', s.hp ++ [.lst acc], s.base⟩ = some xs[i]?) (hb : s.base ≤ s.hp.length) (hz : xs.length ≤ sizeLine) (ht : ∀ d ∈ xs, Turns g q e (wipeE s.env own) s.base s.hp p φ d) :
    lcE w g q e own s = .ok (.ref s.hp.length) ⟨s.env, s.hp ++ [.lst ((xs.filter p).map φ)], s.base⟩ := by
  have h := lcL_ok (it := it) (g := g) (q := q) (e := e) (env := wipeE s.env own) hit hb ht xs.length 0 [] (Nat.zero_le _) (by omega) (by simpa using hz)
  unfold lcE
  rw [hw]
  simp only [Out.bind_ok, hlen]
  rw [h]
  simp only [List.drop_zero, List.nil_append]
theorem vals_at {i : Nat} {s : S} : (ItD.vals xs).at i s = some xs[i]? := rfl
theorem cell_at {n i : Nat} {s : S} (h : s.hp[n]? = some (.lst xs)) : (ItD.cell n).at i s = some xs[i]? := by
  unfold ItD.at
  simp only [h]
theorem cell_len {n : Nat} {s : S} (h : s.hp[n]? = some (.lst xs)) : (ItD.cell n).len s = xs.length := by
  unfold ItD.len
  simp only [h]
theorem get_app {α : Type} {l r : List α} {x : α} {n : Nat} (h : l[n]? = some x) : (l ++ r)[n]? = some x := by
  rw [List.getElem?_append_left (List.getElem?_eq_some_iff.mp h).1]
  exact h
end
theorem lv' {hp hp' : List Cell} {e : List (Option D)} {n : Nat} {d : D} (h : d.noRef = true) (ht : hp'.take hp.length = hp) : leave hp.length (.ok (.ret d) ⟨e, hp', n⟩) = .ok d hp := by
  show (match freeze hp' hp.length d with
    | some d' => OutC.ok d' (hp'.take hp.length)
    | none => .bad) = _
  unfold freeze
  rw [fz_pure h]
  simp only [ht]
end Den
end

-- DenStr
section
set_option maxHeartbeats 2000000
/-! Den: the stream of a script, where the operators may be an own class's. -/
namespace Den
open PySem
/-- what is asked of the operators: on numbers they are the numbers' own -/
structure Ops (ad sb ml : SemE → SemE → SemE) : Prop where
  had : ∀ {a b : SemE} {s : S} {i j : Int}, a s = .ok (.int i) s → b s = .ok (.int j) s → ad a b s = .ok (.int (i + j)) s
  hsb : ∀ {a b : SemE} {s : S} {i j : Int}, a s = .ok (.int i) s → b s = .ok (.int j) s → sb a b s = .ok (.int (i - j)) s
  hml : ∀ {a b : SemE} {s : S} {i j : Int}, a s = .ok (.int i) s → b s = .ok (.int j) s → mulOk i j = true → ml a b s = .ok (.int (i * j)) s
theorem ops_own {C : Calls} {a1 a2 s1 s2 m1 m2 : Nat → Option Nat} : Ops (two (opC C a1 a2 addV)) (two (opC C s1 s2 subV)) (two (opC C m1 m2 mulV)) where
  had h1 h2 := by
    rw [y_two, h1]
    simp only [Out.bind_ok]
    rw [h2]
    simp only [Out.bind_ok]
    rw [v_opC, v_add]
    rfl
  hsb h1 h2 := by
    rw [y_two, h1]
    simp only [Out.bind_ok]
    rw [h2]
    simp only [Out.bind_ok]
    rw [v_opC, v_sub]
    rfl
  hml h1 h2 h := by
    rw [y_two, h1]
    simp only [Out.bind_ok]
    rw [h2]
    simp only [Out.bind_ok]
    rw [v_opC, v_mul h]
    rfl
def smallFO (ad sb ml : SemE → SemE → SemE) : SemS := seqS (asgS (bin modV (callV intV (a1 (ad (ad (ad (ml (varE 5) (varE 5)) (ml (varE 4) (k 69069))) (ml (varE 2) (k 13))) (k 3)))) (k 2147483399)) (nameG 5))
  (seqS (putS (bin modV (callV intV (a1 (bin fdivV (varE 5) (k 16)))) (k 5040))) nextS)
def smallBO (ad sb ml : SemE → SemE → SemE) : SemS := seqS (asgS (bin modV (callV intV (a1 (ad (ad (ml (varE 3) (k 40014)) (ml (varE 2) (k 52774))) (k 11)))) (k 2147483563)) (nameG 5)) (seqS (forS (range1I (a1 (k 7))) (nameG 4) (smallFO ad sb ml)) nextS)
def streamFO (ad sb ml : SemE → SemE → SemE) : SemS := seqS (asgS (callV intV (a1 (bin ixV (varE 0) (varE 2)))) (nameG 3)) (seqS (ifS (blT (bin (ordV fun i j => decide (i < j)) (varE 3) (k 0))) (seqS (asgS (sb (k 5) (varE 3)) (nameG 3)) nextS) nextS)
  (seqS (ifS (blT (bin (ordV fun i j => decide (j ≤ i)) (varE 3) (bin powV (k 10) (k 18)))) (seqS (forS (range1I (a1 (k 56))) (nameG 4) bigF) nextS) (smallBO ad sb ml)) nextS))
def streamBO (ad sb ml : SemE → SemE → SemE) : SemS := seqS (asgS (lstE nilA) (nameG 1)) (seqS (forS (range1I (a1 (callV minV (consA (callV lenV (a1 (varE 0))) (a1 (k 63)))))) (nameG 2) (streamFO ad sb ml)) (seqS (dropS (mthL reverseM (varE 1) nilA)) (seqS (retS (varE 1)) nextS)))
section
variable {ad sb ml : SemE → SemE → SemE} (O : Ops ad sb ml) {sc : Option D} {a c t m : Int} {o2 o3 o4 o5 : Option D} {xs : List Int}
include O
theorem smallFO_ok (hl : xs.length < sizeLine) (ha : a.natAbs < 2 ^ 64) (ht : t.natAbs < 2 ^ 64) (hm : m.natAbs < 2 ^ 64) : ∃ m' v, m'.natAbs < 2 ^ 64 ∧ (smallFO ad sb ml) (stS0 sc (i_ a) o3 (i_ t) (i_ m) xs) = .ok .next (stS0 sc (i_ a) o3 (i_ t) (i_ m') (xs ++ [v])) := by
  refine ⟨(m * m + t * 69069 + a * 13 + 3) % 2147483399, (m * m + t * 69069 + a * 13 + 3) % 2147483399 / 16 % 5040, by omega, ?_⟩
  have e0 : bin modV (callV intV (a1 (ad (ad (ad (ml (varE 5) (varE 5)) (ml (varE 4) (k 69069))) (ml (varE 2) (k 13))) (k 3)))) (k 2147483399) (stS0 sc (i_ a) o3 (i_ t) (i_ m) xs) =
      .ok (.int ((m * m + t * 69069 + a * 13 + 3) % 2147483399)) (stS0 sc (i_ a) o3 (i_ t) (i_ m) xs) :=
    bin_ok (call_ok (v := .int (m * m + t * 69069 + a * 13 + 3)) (O.had (O.had (O.had (O.hml (i := m) (j := m) rfl rfl (mulOk_of hm hm)) (O.hml (i := t) (j := 69069) rfl rfl (mulOk_of ht (by decide)))) (O.hml (i := a) (j := 13) rfl rfl (mulOk_of ha (by decide)))) (j := 3) rfl) rfl) (e := .int 2147483399) rfl (mod_ok (by decide))
  have e1 : asgS (bin modV (callV intV (a1 (ad (ad (ad (ml (varE 5) (varE 5)) (ml (varE 4) (k 69069))) (ml (varE 2) (k 13))) (k 3)))) (k 2147483399)) (nameG 5) (stS0 sc (i_ a) o3 (i_ t) (i_ m) xs) =
      .ok .next (stS0 sc (i_ a) o3 (i_ t) (i_ ((m * m + t * 69069 + a * 13 + 3) % 2147483399)) xs) := by
    unfold asgS
    rw [e0]
    rfl
  have e2 := putS_ok (xs := xs) (env := [sc, some (.ref 0), i_ a, o3, i_ t, i_ ((m * m + t * 69069 + a * 13 + 3) % 2147483399)]) (v := (m * m + t * 69069 + a * 13 + 3) % 2147483399 / 16 % 5040) (e := bin modV (callV intV (a1 (bin fdivV (varE 5) (k 16)))) (k 5040)) rfl (by kernel_rfl) hl
  unfold smallFO seqS
  rw [e1]
  simp only
  rw [e2]
  rfl
theorem smallLO_ok (hl : xs.length + 7 < sizeLine) (ha : a.natAbs < 2 ^ 64) (hm : m.natAbs < 2 ^ 64) : ∃ o4' m' ys, forS (range1I (a1 (k 7))) (nameG 4) (smallFO ad sb ml) (stS0 sc (i_ a) o3 o4 (i_ m) xs) = .ok .next (stS0 sc (i_ a) o3 o4' (i_ m') ys) ∧ ys.length ≤ xs.length + 7 := by
  obtain ⟨s', e, o4', m', ys, rfl, h, _⟩ := forS_ok (w := range1I (a1 (k 7))) (g := nameG 4) (f := (smallFO ad sb ml)) (xs := rangeL 0 7) (s0 := stS0 sc (i_ a) o3 o4 (i_ m) xs) (s := stS0 sc (i_ a) o3 o4 (i_ m) xs) (fun i s => ∃ o4 m ys, s = stS0 sc (i_ a) o3 o4 (i_ m) ys ∧ ys.length ≤ xs.length + i ∧ m.natAbs < 2 ^ 64)
    (by kernel_rfl) ⟨o4, m, xs, rfl, by omega, hm⟩ fun i d s hd ⟨o41, m1, ys, es, hy, hm1⟩ => by
      subst es
      obtain ⟨ed, hi⟩ := range_at hd
      subst ed
      obtain ⟨m2, v, hm2, e2⟩ := smallFO_ok O (sc := sc) (a := a) (o3 := o3) (t := 0 + (i : Nat)) (m := m1) (xs := ys) (by omega) ha (by omega) hm1
      exact ⟨_, _, rfl, e2, _, m2, _, rfl, by rw [List.length_append, List.length_singleton]; omega, hm2⟩
  rw [range_len] at h
  exact ⟨o4', m', ys, e, h⟩
theorem smallBO_ok (hl : xs.length + 7 < sizeLine) (ha : a.natAbs < 2 ^ 64) (hc : c.natAbs < 2 ^ 64) : ∃ o4' o5' ys, (smallBO ad sb ml) (stS0 sc (i_ a) (i_ c) o4 o5 xs) = .ok .next (stS0 sc (i_ a) (i_ c) o4' o5' ys) ∧ ys.length ≤ xs.length + 7 := by
  obtain ⟨o4', m', ys, e2, h⟩ := smallLO_ok O (sc := sc) (a := a) (o3 := i_ c) (o4 := o4) (m := (c * 40014 + a * 52774 + 11) % 2147483563) hl ha (by omega)
  refine ⟨o4', i_ m', ys, ?_, h⟩
  have e0 : bin modV (callV intV (a1 (ad (ad (ml (varE 3) (k 40014)) (ml (varE 2) (k 52774))) (k 11)))) (k 2147483563) (stS0 sc (i_ a) (i_ c) o4 o5 xs) = .ok (.int ((c * 40014 + a * 52774 + 11) % 2147483563)) (stS0 sc (i_ a) (i_ c) o4 o5 xs) :=
    bin_ok (call_ok (v := .int (c * 40014 + a * 52774 + 11)) (O.had (O.had (O.hml (i := c) (j := 40014) rfl rfl (mulOk_of hc (by decide))) (O.hml (i := a) (j := 52774) rfl rfl (mulOk_of ha (by decide)))) (j := 11) rfl) rfl) (e := .int 2147483563) rfl (mod_ok (by decide))
  have e1 : asgS (bin modV (callV intV (a1 (ad (ad (ml (varE 3) (k 40014)) (ml (varE 2) (k 52774))) (k 11)))) (k 2147483563)) (nameG 5) (stS0 sc (i_ a) (i_ c) o4 o5 xs) = .ok .next (stS0 sc (i_ a) (i_ c) o4 (i_ ((c * 40014 + a * 52774 + 11) % 2147483563)) xs) := by
    unfold asgS
    rw [e0]
    rfl
  unfold smallBO seqS
  rw [e1]
  simp only
  rw [e2]
  rfl
theorem streamFO_ok {ns : List Int} {i : Nat} (hi : i < ns.length) (h63 : i < 63) (hl : xs.length + 56 < sizeLine) : ∃ o3' o4' o5' ys, (streamFO ad sb ml) (stS0 (some (.scr (ns.map .int))) (i_ (0 + (i : Nat))) o3 o4 o5 xs) = .ok .next (stS0 (some (.scr (ns.map .int))) (i_ (0 + (i : Nat))) o3' o4' o5' ys) ∧ ys.length ≤ xs.length + 56 := by
  have hat : (ns.map D.int)[i]? = some (.int ns[i]) := by
    rw [List.getElem?_map, List.getElem?_eq_getElem hi]
    rfl
  have e1 : asgS (callV intV (a1 (bin ixV (varE 0) (varE 2)))) (nameG 3) (stS0 (some (.scr (ns.map .int))) (i_ (0 + (i : Nat))) o3 o4 o5 xs) = .ok .next (stS0 (some (.scr (ns.map .int))) (i_ (0 + (i : Nat))) (i_ ns[i]) o4 o5 xs) := by
    have e0 : callV intV (a1 (bin ixV (varE 0) (varE 2))) (stS0 (some (.scr (ns.map .int))) (i_ (0 + (i : Nat))) o3 o4 o5 xs) = .ok (.int ns[i]) (stS0 (some (.scr (ns.map .int))) (i_ (0 + (i : Nat))) o3 o4 o5 xs) := by
      refine call_ok (d := .int ns[i]) (bin_ok (d := .scr (ns.map .int)) (e := .int (0 + (i : Nat))) rfl rfl ?_) rfl
      show (match L2.atI (ns.map D.int) (0 + (i : Nat)) with
          | some x => VO.val x
          | none => .bad) = _
      rw [at_ok hat]
    unfold asgS
    rw [e0]
    rfl
  have neg : ∀ c : Int, ∃ c' : Int, 0 ≤ c' ∧ ifS (blT (bin (ordV fun i j => decide (i < j)) (varE 3) (k 0))) (seqS (asgS (sb (k 5) (varE 3)) (nameG 3)) nextS) nextS (stS0 (some (.scr (ns.map .int))) (i_ (0 + (i : Nat))) (i_ c) o4 o5 xs) = .ok .next (stS0 (some (.scr (ns.map .int))) (i_ (0 + (i : Nat))) (i_ c') o4 o5 xs) := fun c => by
    have et : blT (bin (ordV fun i j => decide (i < j)) (varE 3) (k 0)) (stS0 (some (.scr (ns.map .int))) (i_ (0 + (i : Nat))) (i_ c) o4 o5 xs) = .ok (decide (c < 0)) (stS0 (some (.scr (ns.map .int))) (i_ (0 + (i : Nat))) (i_ c) o4 o5 xs) := by rfl
    by_cases hc : c < 0
    · refine ⟨5 - c, by omega, ?_⟩
      unfold ifS
      rw [et]
      simp only [Out.bind_ok, hc, decide_true, if_true]
      unfold seqS asgS
      rw [O.hsb (a := k 5) (b := varE 3) (s := stS0 (some (.scr (ns.map .int))) (i_ (0 + (i : Nat))) (i_ c) o4 o5 xs) (i := 5) (j := c) rfl rfl]
      rfl
    · refine ⟨c, by omega, ?_⟩
      unfold ifS
      rw [et]
      simp only [Out.bind_ok, hc, decide_false, Bool.false_eq_true, if_false]
      rfl
  obtain ⟨c, hc0, e2⟩ := neg ns[i]
  have et : blT (bin (ordV fun i j => decide (j ≤ i)) (varE 3) (bin powV (k 10) (k 18))) (stS0 (some (.scr (ns.map .int))) (i_ (0 + (i : Nat))) (i_ c) o4 o5 xs) = .ok (decide ((10 : Int) ^ 18 ≤ c)) (stS0 (some (.scr (ns.map .int))) (i_ (0 + (i : Nat))) (i_ c) o4 o5 xs) := by
    have ep : bin powV (k 10) (k 18) (stS0 (some (.scr (ns.map .int))) (i_ (0 + (i : Nat))) (i_ c) o4 o5 xs) = .ok (.int ((10 : Int) ^ 18)) (stS0 (some (.scr (ns.map .int))) (i_ (0 + (i : Nat))) (i_ c) o4 o5 xs) := bin_ok (d := .int 10) (e := .int 18) rfl rfl pow_ok
    unfold blT
    rw [bin_ok (f := ordV fun i j => decide (j ≤ i)) (a := varE 3) (b := bin powV (k 10) (k 18)) (s := stS0 (some (.scr (ns.map .int))) (i_ (0 + (i : Nat))) (i_ c) o4 o5 xs) (d := .int c) (e := .int ((10 : Int) ^ 18)) (v := .bl (decide ((10 : Int) ^ 18 ≤ c))) rfl ep rfl]
    rfl
  by_cases hb : (10 : Int) ^ 18 ≤ c
  · obtain ⟨c', o4', ys, e3, h⟩ := bigL_ok (sc := some (.scr (ns.map .int))) (o2 := i_ (0 + (i : Nat))) (c := c) (o4 := o4) (o5 := o5) hl
    refine ⟨i_ c', o4', o5, ys, ?_, h⟩
    unfold streamFO seqS
    rw [e1]
    simp only
    unfold seqS at e2
    rw [e2]
    simp only [ifS]
    rw [et]
    simp only [Out.bind_ok, hb, decide_true, if_true]
    rw [e3]
    rfl
  · obtain ⟨o4', o5', ys, e3, h⟩ := smallBO_ok O (sc := some (.scr (ns.map .int))) (a := 0 + (i : Nat)) (c := c) (o4 := o4) (o5 := o5) (xs := xs) (by omega) (by omega) (by
      have : c < 10 ^ 18 := by omega
      omega)
    refine ⟨i_ c, o4', o5', ys, ?_, by omega⟩
    unfold streamFO seqS
    rw [e1]
    simp only
    unfold seqS at e2
    rw [e2]
    simp only [ifS]
    rw [et]
    simp only [Out.bind_ok, hb, decide_false, Bool.false_eq_true, if_false]
    rw [e3]
    rfl
theorem streamO_ok {ns : List Int} (hn : ns.length ≤ 63) : ∃ (zs : List Int) (env : List (Option D)), (streamBO ad sb ml) ⟨[some (.scr (ns.map .int)), none, none, none, none, none], [], 0⟩ = .ok (.ret (.ref 0)) ⟨env, [.lst (zs.map .int)], 0⟩ := by
  obtain ⟨s', e2, o2, o3, o4, o5, ys, rfl, _⟩ := forS_ok (w := range1I (a1 (callV minV (consA (callV lenV (a1 (varE 0))) (a1 (k 63)))))) (g := nameG 2) (f := (streamFO ad sb ml)) (xs := rangeL 0 ns.length) (s0 := stS0 (some (.scr (ns.map .int))) none none none none []) (s := stS0 (some (.scr (ns.map .int))) none none none none [])
    (fun i s => ∃ o2 o3 o4 o5 ys, s = stS0 (some (.scr (ns.map .int))) o2 o3 o4 o5 ys ∧ ys.length ≤ 56 * i) (z_hw hn) ⟨none, none, none, none, [], rfl, by simp⟩ fun i d s hd ⟨o2, o3, o4, o5, ys, es, hy⟩ => by
      subst es
      obtain ⟨ed, hi⟩ := range_at hd
      subst ed
      obtain ⟨o3', o4', o5', zs, e, hz⟩ := streamFO_ok O (o3 := o3) (o4 := o4) (o5 := o5) (xs := ys) hi (by omega) (by rw [sizeLine_eq]; omega)
      exact ⟨_, _, rfl, e, _, o3', o4', o5', zs, rfl, by omega⟩
  refine ⟨ys.reverse, [some (.scr (ns.map .int)), some (.ref 0), o2, o3, o4, o5], ?_⟩
  unfold streamBO seqS
  rw [z_e1]
  simp only
  rw [e2]
  simp only
  rw [z_e3]
  rfl
end
end Den
end

-- H78
section
set_option maxHeartbeats 0
namespace Law
open PySem PySem.Spec PyProof.Rows L2 Den
def top (i : Nat) : Stmt := PySem.Challenge.pw_steprows_k78_exact_fractions.main.body.getD i (.Pass ⟨0, 0, 0, 0⟩)
def clsB : Stmt → List Stmt
  | .ClassDef (body := b) .. => b
  | _ => []
def mem (i j : Nat) : Stmt := (clsB (top i)).getD j (.Pass ⟨0, 0, 0, 0⟩)
def r0 : Den.Row := ⟨(("is_int" : Str), none), ("is_int" : Str), ("is_int" : Str), defArgs (top 6), defBody (top 6), defScope (top 6), [("thing" : Str)], [("thing" : Str)], [(("isinstance" : Str), Gk.blt 13), (("int" : Str), Gk.blt 7), (("bool" : Str), Gk.blt 8)], [], [], false, none⟩
def r1 : Den.Row := ⟨(("is_ratio" : Str), none), ("is_ratio" : Str), ("is_ratio" : Str), defArgs (top 7), defBody (top 7), defScope (top 7), [("thing" : Str)], [("thing" : Str)], [(("isinstance" : Str), Gk.blt 13), (("Ratio" : Str), Gk.cls 0), (("is_int" : Str), Gk.fn 0)], [], [], false, none⟩
def r2 : Den.Row := ⟨(("ratio_of" : Str), none), ("ratio_of" : Str), ("ratio_of" : Str), defArgs (top 9), defBody (top 9), defScope (top 9), [("thing" : Str)], [("thing" : Str)], [(("isinstance" : Str), Gk.blt 13), (("Ratio" : Str), Gk.cls 0), (("is_int" : Str), Gk.fn 0), (("BadNumber" : Str), Gk.cls 2)], [], [], false, none⟩
def r3 : Den.Row := ⟨(("whole" : Str), none), ("whole" : Str), ("whole" : Str), defArgs (top 10), defBody (top 10), defScope (top 10), [("row" : Str), ("ratios" : Str), ("bottom" : Str), ("one" : Str), ("tops" : Str), ("shared" : Str), ("top" : Str), ("thing" : Str)], [("row" : Str)], [(("tuple" : Str), Gk.blt 11), (("ratio_of" : Str), Gk.fn 2), (("gcd" : Str), Gk.imp 0)], [], [], false, none⟩
def r4 : Den.Row := ⟨(("_law_stream" : Str), none), ("_law_stream" : Str), ("_law_stream" : Str), defArgs (top 12), defBody (top 12), defScope (top 12), [("_law_script" : Str), ("_law_row" : Str), ("_law_at" : Str), ("_law_cell" : Str), ("_law_turn" : Str), ("_law_mix" : Str)], [("_law_script" : Str)], [(("range" : Str), Gk.blt 14), (("min" : Str), Gk.blt 3), (("int" : Str), Gk.blt 7), (("len" : Str), Gk.blt 0)], [], [], true, none⟩
def r5 : Den.Row := ⟨(("_law_take" : Str), none), ("_law_take" : Str), ("_law_take" : Str), defArgs (top 13), defBody (top 13), defScope (top 13), [("_law_stream_here" : Str), ("_law_many" : Str)], [("_law_stream_here" : Str), ("_law_many" : Str)], [(("len" : Str), Gk.blt 0), (("int" : Str), Gk.blt 7)], [], [], false, none⟩
def r6 : Den.Row := ⟨(("_law_int" : Str), none), ("_law_int" : Str), ("_law_int" : Str), defArgs (top 14), defBody (top 14), defScope (top 14), [("_law_value" : Str)], [("_law_value" : Str)], [(("isinstance" : Str), Gk.blt 13), (("int" : Str), Gk.blt 7), (("bool" : Str), Gk.blt 8)], [], [], false, none⟩
def r7 : Den.Row := ⟨(("_law_divisor" : Str), none), ("_law_divisor" : Str), ("_law_divisor" : Str), defArgs (top 15), defBody (top 15), defScope (top 15), [("_law_one" : Str), ("_law_other" : Str), ("_law_turn" : Str), ("_law_rest" : Str)], [("_law_one" : Str), ("_law_other" : Str)], [(("abs" : Str), Gk.blt 1), (("range" : Str), Gk.blt 14), (("int" : Str), Gk.blt 7)], [], [], false, none⟩
def r8 : Den.Row := ⟨(("_law_low" : Str), none), ("_law_low" : Str), ("_law_low" : Str), defArgs (top 16), defBody (top 16), defScope (top 16), [("_law_top" : Str), ("_law_bottom" : Str), ("_law_shared" : Str)], [("_law_top" : Str), ("_law_bottom" : Str)], [(("_law_divisor" : Str), Gk.fn 7)], [], [], false, none⟩
def r9 : Den.Row := ⟨(("_law_add" : Str), none), ("_law_add" : Str), ("_law_add" : Str), defArgs (top 17), defBody (top 17), defScope (top 17), [("_law_one" : Str), ("_law_other" : Str)], [("_law_one" : Str), ("_law_other" : Str)], [(("_law_low" : Str), Gk.fn 8)], [], [], false, none⟩
def r10 : Den.Row := ⟨(("_law_minus" : Str), none), ("_law_minus" : Str), ("_law_minus" : Str), defArgs (top 18), defBody (top 18), defScope (top 18), [("_law_one" : Str), ("_law_other" : Str)], [("_law_one" : Str), ("_law_other" : Str)], [(("_law_low" : Str), Gk.fn 8)], [], [], false, none⟩
def r11 : Den.Row := ⟨(("_law_times" : Str), none), ("_law_times" : Str), ("_law_times" : Str), defArgs (top 19), defBody (top 19), defScope (top 19), [("_law_one" : Str), ("_law_other" : Str)], [("_law_one" : Str), ("_law_other" : Str)], [(("_law_low" : Str), Gk.fn 8)], [], [], false, none⟩
def r12 : Den.Row := ⟨(("_law_by" : Str), none), ("_law_by" : Str), ("_law_by" : Str), defArgs (top 20), defBody (top 20), defScope (top 20), [("_law_one" : Str), ("_law_other" : Str)], [("_law_one" : Str), ("_law_other" : Str)], [(("_law_low" : Str), Gk.fn 8)], [], [], false, none⟩
def r13 : Den.Row := ⟨(("_law_pair" : Str), none), ("_law_pair" : Str), ("_law_pair" : Str), defArgs (top 21), defBody (top 21), defScope (top 21), [("_law_value" : Str)], [("_law_value" : Str)], [(("isinstance" : Str), Gk.blt 13), (("Ratio" : Str), Gk.cls 0), (("_law_int" : Str), Gk.fn 6), (("_law_divisor" : Str), Gk.fn 7)], [], [], false, none⟩
def r14 : Den.Row := ⟨(("_law_whole" : Str), none), ("_law_whole" : Str), ("_law_whole" : Str), defArgs (top 22), defBody (top 22), defScope (top 22), [("_law_row" : Str), ("_law_common" : Str), ("_law_pair_here" : Str), ("_law_tops" : Str), ("_law_shared" : Str), ("_law_top" : Str)], [("_law_row" : Str)], [(("_law_divisor" : Str), Gk.fn 7)], [], [], false, none⟩
def r15 : Den.Row := ⟨(("_law_drawn" : Str), none), ("_law_drawn" : Str), ("_law_drawn" : Str), defArgs (top 23), defBody (top 23), defScope (top 23), [("_law_stream_here" : Str), ("_law_tops" : Str), ("_law_bottoms" : Str)], [("_law_stream_here" : Str)], [(("_law_take" : Str), Gk.fn 5)], [], [], false, none⟩
def r16 : Den.Row := ⟨(("_law_told" : Str), none), ("_law_told" : Str), ("_law_told" : Str), defArgs (top 24), defBody (top 24), defScope (top 24), [("_law_things" : Str), ("_law_door" : Str), ("_law_told_here" : Str), ("error" : Str)], [("_law_things" : Str), ("_law_door" : Str)], [(("BadNumber" : Str), Gk.cls 2), (("StepError" : Str), Gk.cls 1), (("_law_pair" : Str), Gk.fn 13), (("isinstance" : Str), Gk.blt 13), (("BadTable" : Str), Gk.cls 3), (("Ratio" : Str), Gk.cls 0), (("ratio_of" : Str), Gk.fn 2)], [], [], false, none⟩
def r17 : Den.Row := ⟨(("_law_power" : Str), none), ("_law_power" : Str), ("_law_power" : Str), defArgs (top 25), defBody (top 25), defScope (top 25), [("_law_pair_here" : Str), ("_law_number" : Str), ("_law_top" : Str), ("_law_bottom" : Str), ("_law_turn" : Str)], [("_law_pair_here" : Str), ("_law_number" : Str)], [(("range" : Str), Gk.blt 14), (("abs" : Str), Gk.blt 1)], [], [], false, none⟩
def r18 : Den.Row := ⟨(("_law_signs_good" : Str), none), ("_law_signs_good" : Str), ("_law_signs_good" : Str), defArgs (top 26), defBody (top 26), defScope (top 26), [("_law_one" : Str), ("_law_left" : Str), ("_law_other" : Str), ("_law_right" : Str), ("_law_number" : Str), ("_law_pair_here" : Str), ("_law_due" : Str), ("_law_row" : Str), ("_law_text" : Str)], [("_law_one" : Str), ("_law_left" : Str), ("_law_other" : Str), ("_law_right" : Str), ("_law_number" : Str)], [(("str" : Str), Gk.blt 9), (("_law_add" : Str), Gk.fn 9), (("_law_minus" : Str), Gk.fn 10), (("_law_pair" : Str), Gk.fn 13), (("bool" : Str), Gk.blt 8), (("_law_times" : Str), Gk.fn 11), (("Ratio" : Str), Gk.cls 0), (("isinstance" : Str), Gk.blt 13)], [], [], false, none⟩
def r19 : Den.Row := ⟨(("_law_methods_good" : Str), none), ("_law_methods_good" : Str), ("_law_methods_good" : Str), defArgs (top 27), defBody (top 27), defScope (top 27), [("_law_one" : Str), ("_law_left" : Str), ("_law_other" : Str), ("_law_right" : Str), ("_law_number" : Str), ("_law_asked" : Str), ("_law_bad" : Str), ("_law_row" : Str)], [("_law_one" : Str), ("_law_left" : Str), ("_law_other" : Str), ("_law_right" : Str), ("_law_number" : Str)], [(("Ratio" : Str), Gk.cls 0), (("_law_told" : Str), Gk.fn 16), (("_law_power" : Str), Gk.fn 17), (("_law_by" : Str), Gk.fn 12)], [], [], false, none⟩
def r20 : Den.Row := ⟨(("_law_made_good" : Str), none), ("_law_made_good" : Str), ("_law_made_good" : Str), defArgs (top 28), defBody (top 28), defScope (top 28), [("_law_top" : Str), ("_law_bottom" : Str), ("_law_due" : Str), ("_law_door" : Str), ("_law_bad" : Str)], [("_law_top" : Str), ("_law_bottom" : Str)], [(("_law_low" : Str), Gk.fn 8), (("range" : Str), Gk.blt 14), (("_law_pair" : Str), Gk.fn 13), (("_law_told" : Str), Gk.fn 16), (("Ratio" : Str), Gk.cls 0)], [], [], false, none⟩
def r21 : Den.Row := ⟨(("_law_whole_good" : Str), none), ("_law_whole_good" : Str), ("_law_whole_good" : Str), defArgs (top 29), defBody (top 29), defScope (top 29), [("_law_stream_here" : Str), ("_law_one" : Str), ("_law_left" : Str), ("_law_row" : Str), ("_law_pairs" : Str), ("_law_turn" : Str), ("_law_kept" : Str), ("_law_found" : Str), ("_law_top" : Str), ("_law_bottom" : Str), ("_law_part" : Str)], [("_law_stream_here" : Str), ("_law_one" : Str), ("_law_left" : Str)], [(("range" : Str), Gk.blt 14), (("list" : Str), Gk.blt 10), (("whole" : Str), Gk.fn 3), (("_law_take" : Str), Gk.fn 5), (("_law_drawn" : Str), Gk.fn 15), (("_law_low" : Str), Gk.fn 8), (("Ratio" : Str), Gk.cls 0), (("isinstance" : Str), Gk.blt 13), (("tuple" : Str), Gk.blt 11), (("len" : Str), Gk.blt 0), (("_law_whole" : Str), Gk.fn 14), (("_law_int" : Str), Gk.fn 6)], [], [], false, none⟩
def r22 : Den.Row := ⟨(("law" : Str), none), ("law" : Str), ("law" : Str), defArgs (top 30), defBody (top 30), defScope (top 30), [("_law_script" : Str), ("_law_stream_here" : Str), ("_law_left" : Str), ("_law_right" : Str), ("_law_one" : Str), ("_law_other" : Str), ("_law_number" : Str), ("_law_top" : Str), ("_law_bottom" : Str), ("_law_above" : Str), ("_law_below" : Str)], [("_law_script" : Str)], [(("_law_stream" : Str), Gk.fn 4), (("_law_drawn" : Str), Gk.fn 15), (("_law_low" : Str), Gk.fn 8), (("Ratio" : Str), Gk.cls 0), (("_law_take" : Str), Gk.fn 5), (("_law_methods_good" : Str), Gk.fn 19), (("_law_whole_good" : Str), Gk.fn 21), (("_law_made_good" : Str), Gk.fn 20), (("_law_signs_good" : Str), Gk.fn 18)], [], [], false, none⟩
def r23 : Den.Row := ⟨(("Ratio" : Str), some ("__init__" : Str)), ("__init__" : Str), ("Ratio.__init__" : Str), defArgs (mem 8 0), defBody (mem 8 0), defScope (mem 8 0), [("self" : Str), ("top" : Str), ("bottom" : Str)], [("self" : Str), ("top" : Str), ("bottom" : Str)], [(("Ratio" : Str), Gk.cls 0)], [.int 1], [.int 1], false, none⟩
def r24 : Den.Row := ⟨(("Ratio" : Str), some ("lowest" : Str)), ("lowest" : Str), ("Ratio.lowest" : Str), defArgs (mem 8 1), defBody (mem 8 1), defScope (mem 8 1), [("top" : Str), ("bottom" : Str), ("shared" : Str)], [("top" : Str), ("bottom" : Str)], [(("gcd" : Str), Gk.imp 0), (("is_int" : Str), Gk.fn 0), (("BadNumber" : Str), Gk.cls 2)], [], [], false, some "staticmethod"⟩
def r25 : Den.Row := ⟨(("Ratio" : Str), some ("__add__" : Str)), ("__add__" : Str), ("Ratio.__add__" : Str), defArgs (mem 8 2), defBody (mem 8 2), defScope (mem 8 2), [("self" : Str), ("other" : Str), ("more" : Str)], [("self" : Str), ("other" : Str)], [(("ratio_of" : Str), Gk.fn 2), (("Ratio" : Str), Gk.cls 0), (("is_ratio" : Str), Gk.fn 1)], [], [], false, none⟩
def r26 : Den.Row := ⟨(("Ratio" : Str), some ("__radd__" : Str)), ("__radd__" : Str), ("Ratio.__radd__" : Str), defArgs (mem 8 3), defBody (mem 8 3), defScope (mem 8 3), [("self" : Str), ("other" : Str)], [("self" : Str), ("other" : Str)], [], [], [], false, none⟩
def r27 : Den.Row := ⟨(("Ratio" : Str), some ("__sub__" : Str)), ("__sub__" : Str), ("Ratio.__sub__" : Str), defArgs (mem 8 4), defBody (mem 8 4), defScope (mem 8 4), [("self" : Str), ("other" : Str)], [("self" : Str), ("other" : Str)], [(("is_ratio" : Str), Gk.fn 1), (("ratio_of" : Str), Gk.fn 2)], [], [], false, none⟩
def r28 : Den.Row := ⟨(("Ratio" : Str), some ("__rsub__" : Str)), ("__rsub__" : Str), ("Ratio.__rsub__" : Str), defArgs (mem 8 5), defBody (mem 8 5), defScope (mem 8 5), [("self" : Str), ("other" : Str)], [("self" : Str), ("other" : Str)], [], [], [], false, none⟩
def r29 : Den.Row := ⟨(("Ratio" : Str), some ("__mul__" : Str)), ("__mul__" : Str), ("Ratio.__mul__" : Str), defArgs (mem 8 6), defBody (mem 8 6), defScope (mem 8 6), [("self" : Str), ("other" : Str), ("factor" : Str)], [("self" : Str), ("other" : Str)], [(("ratio_of" : Str), Gk.fn 2), (("Ratio" : Str), Gk.cls 0), (("is_ratio" : Str), Gk.fn 1)], [], [], false, none⟩
def r30 : Den.Row := ⟨(("Ratio" : Str), some ("__rmul__" : Str)), ("__rmul__" : Str), ("Ratio.__rmul__" : Str), defArgs (mem 8 7), defBody (mem 8 7), defScope (mem 8 7), [("self" : Str), ("other" : Str)], [("self" : Str), ("other" : Str)], [], [], [], false, none⟩
def r31 : Den.Row := ⟨(("Ratio" : Str), some ("__neg__" : Str)), ("__neg__" : Str), ("Ratio.__neg__" : Str), defArgs (mem 8 8), defBody (mem 8 8), defScope (mem 8 8), [("self" : Str)], [("self" : Str)], [(("Ratio" : Str), Gk.cls 0)], [], [], false, none⟩
def r32 : Den.Row := ⟨(("Ratio" : Str), some ("__eq__" : Str)), ("__eq__" : Str), ("Ratio.__eq__" : Str), defArgs (mem 8 9), defBody (mem 8 9), defScope (mem 8 9), [("self" : Str), ("other" : Str)], [("self" : Str), ("other" : Str)], [(("isinstance" : Str), Gk.blt 13), (("Ratio" : Str), Gk.cls 0), (("is_int" : Str), Gk.fn 0)], [], [], false, none⟩
def r33 : Den.Row := ⟨(("Ratio" : Str), some ("__bool__" : Str)), ("__bool__" : Str), ("Ratio.__bool__" : Str), defArgs (mem 8 10), defBody (mem 8 10), defScope (mem 8 10), [("self" : Str)], [("self" : Str)], [(("bool" : Str), Gk.blt 8)], [], [], false, none⟩
def r34 : Den.Row := ⟨(("Ratio" : Str), some ("over" : Str)), ("over" : Str), ("Ratio.over" : Str), defArgs (mem 8 11), defBody (mem 8 11), defScope (mem 8 11), [("self" : Str), ("other" : Str)], [("self" : Str), ("other" : Str)], [(("BadNumber" : Str), Gk.cls 2), (("is_ratio" : Str), Gk.fn 1), (("ratio_of" : Str), Gk.fn 2)], [], [], false, none⟩
def r35 : Den.Row := ⟨(("Ratio" : Str), some ("inverse" : Str)), ("inverse" : Str), ("Ratio.inverse" : Str), defArgs (mem 8 12), defBody (mem 8 12), defScope (mem 8 12), [("self" : Str)], [("self" : Str)], [(("Ratio" : Str), Gk.cls 0), (("BadNumber" : Str), Gk.cls 2)], [], [], false, none⟩
def r36 : Den.Row := ⟨(("Ratio" : Str), some ("to_power" : Str)), ("to_power" : Str), ("Ratio.to_power" : Str), defArgs (mem 8 13), defBody (mem 8 13), defScope (mem 8 13), [("self" : Str), ("number" : Str), ("base" : Str), ("power" : Str), ("_" : Str)], [("self" : Str), ("number" : Str)], [(("Ratio" : Str), Gk.cls 0), (("range" : Str), Gk.blt 14), (("BadNumber" : Str), Gk.cls 2), (("abs" : Str), Gk.blt 1), (("is_int" : Str), Gk.fn 0)], [], [], false, none⟩
def r37 : Den.Row := ⟨(("Ratio" : Str), some ("told" : Str)), ("told" : Str), ("Ratio.told" : Str), defArgs (mem 8 14), defBody (mem 8 14), defScope (mem 8 14), [("self" : Str)], [("self" : Str)], [(("str" : Str), Gk.blt 9)], [], [], false, none⟩
def i2 : IRow := ⟨2, (("BadNumber" : Str), some "__init__"), ("BadNumber.__init__" : Str), defArgs (mem 3 0), defBody (mem 3 0), defScope (mem 3 0), [("self" : Str), ("name" : Str)]⟩
def i3 : IRow := ⟨3, (("BadTable" : Str), some "__init__"), ("BadTable.__init__" : Str), defArgs (mem 4 0), defBody (mem 4 0), defScope (mem 4 0), [("self" : Str), ("place" : Str)]⟩
def tb : Tb where
  cls := [("Ratio" : Str), ("StepError" : Str), ("BadNumber" : Str), ("BadTable" : Str)]
  ncls := 1
  E := (1, 4)
  subs := [[true, false, false, false], [false, true, false, false], [false, true, true, false], [false, true, false, true]]
  flds := [("name" : Str), ("place" : Str), ("top" : Str), ("bottom" : Str)]
  noats := [[true, true, true, true]]
  inis := [(0, 23)]
  excs := [(1, []), (2, [0]), (3, [1])]
  meths := [(("over" : Str), [(0, 34)]), (("inverse" : Str), [(0, 35)]), (("to_power" : Str), [(0, 36)]), (("told" : Str), [(0, 37)])]
  props := []
  stats := [(0, ("lowest" : Str), 24)]
  owns := [(("__add__" : Str), [(0, 25)]), (("__radd__" : Str), [(0, 26)]), (("__sub__" : Str), [(0, 27)]), (("__rsub__" : Str), [(0, 28)]), (("__mul__" : Str), [(0, 29)]), (("__rmul__" : Str), [(0, 30)]), (("__neg__" : Str), [(0, 31)]), (("__eq__" : Str), [(0, 32)]), (("__bool__" : Str), [(0, 33)])]
  glo := [(("isinstance" : Str), Gk.blt 13), (("int" : Str), Gk.blt 7), (("bool" : Str), Gk.blt 8), (("Ratio" : Str), Gk.cls 0), (("is_int" : Str), Gk.fn 0), (("BadNumber" : Str), Gk.cls 2), (("tuple" : Str), Gk.blt 11), (("ratio_of" : Str), Gk.fn 2), (("gcd" : Str), Gk.imp 0), (("range" : Str), Gk.blt 14), (("min" : Str), Gk.blt 3), (("len" : Str), Gk.blt 0), (("abs" : Str), Gk.blt 1), (("_law_divisor" : Str), Gk.fn 7), (("_law_low" : Str), Gk.fn 8), (("_law_int" : Str), Gk.fn 6), (("_law_take" : Str), Gk.fn 5), (("StepError" : Str), Gk.cls 1), (("_law_pair" : Str), Gk.fn 13), (("BadTable" : Str), Gk.cls 3), (("str" : Str), Gk.blt 9), (("_law_add" : Str), Gk.fn 9), (("_law_minus" : Str), Gk.fn 10), (("_law_times" : Str), Gk.fn 11), (("_law_told" : Str), Gk.fn 16), (("_law_power" : Str), Gk.fn 17), (("_law_by" : Str), Gk.fn 12), (("list" : Str), Gk.blt 10), (("whole" : Str), Gk.fn 3), (("_law_drawn" : Str), Gk.fn 15), (("_law_whole" : Str), Gk.fn 14), (("_law_stream" : Str), Gk.fn 4), (("_law_methods_good" : Str), Gk.fn 19), (("_law_whole_good" : Str), Gk.fn 21), (("_law_made_good" : Str), Gk.fn 20), (("_law_signs_good" : Str), Gk.fn 18), (("is_ratio" : Str), Gk.fn 1), (("law" : Str), Gk.fn 22)]
  rows := [r0, r1, r2, r3, r4, r5, r6, r7, r8, r9, r10, r11, r12, r13, r14, r15, r16, r17, r18, r19, r20, r21, r22, r23, r24, r25, r26, r27, r28, r29, r30, r31, r32, r33, r34, r35, r36, r37]
  fuel := 1000000
def irs : List IRow := [i2, i3]
def loose : List Str := [("StepError" : Str), ("BadNumber" : Str), ("BadTable" : Str), ("is_int" : Str), ("is_ratio" : Str), ("Ratio" : Str), ("ratio_of" : Str), ("whole" : Str), ("_law_stream" : Str), ("_law_take" : Str), ("_law_int" : Str), ("_law_divisor" : Str), ("_law_low" : Str), ("_law_add" : Str), ("_law_minus" : Str), ("_law_times" : Str), ("_law_by" : Str), ("_law_pair" : Str), ("_law_whole" : Str), ("_law_drawn" : Str), ("_law_told" : Str), ("_law_power" : Str), ("_law_signs_good" : Str), ("_law_methods_good" : Str), ("_law_made_good" : Str), ("_law_whole_good" : Str)]
abbrev Rr : PySem.W.OpenRow := PySem.W.OpenLaw.row PySem.Challenge.rw_steprows_k78_exact_fractions
abbrev hk : PySem.W.Hook := hookT 6 tb irs
def ob (s : PySem.W.SharedT) : AlT := obsTG 6 tb irs (HandSHeadRun.getT s)
theorem ob_eq (s : PySem.W.SharedT) : ob s = hk.obs s.abs := obsTG_eq (HandSHeadRun.getT_eq s)
theorem run (w : World) : HandSHeadRun.RunEqI Rr (PySem.W.view Rr.prog [0, 30]) hk ob 40000 loose w := by
  unfold HandSHeadRun.RunEqI
  kernel_rfl
theorem ro0 {K : PySem.W.Frag} : RowOk tb K r0 := rowOk_of ⟨rfl, rfl, rfl, by decide +kernel, rfl, by decide +kernel, by decide +kernel⟩ (by decide +kernel) rfl fun F => F.bindsN fun _ _ _ _ _ _ us hl => match us, hl with | [_], _ => rfl
theorem ro1 {K : PySem.W.Frag} : RowOk tb K r1 := rowOk_of ⟨rfl, rfl, rfl, by decide +kernel, rfl, by decide +kernel, by decide +kernel⟩ (by decide +kernel) rfl fun F => F.bindsN fun _ _ _ _ _ _ us hl => match us, hl with | [_], _ => rfl
theorem ro2 {K : PySem.W.Frag} : RowOk tb K r2 := rowOk_of ⟨rfl, rfl, rfl, by decide +kernel, rfl, by decide +kernel, by decide +kernel⟩ (by decide +kernel) rfl fun F => F.bindsN fun _ _ _ _ _ _ us hl => match us, hl with | [_], _ => rfl
theorem ro3 {K : PySem.W.Frag} : RowOk tb K r3 := rowOk_of ⟨rfl, rfl, rfl, by decide +kernel, rfl, by decide +kernel, by decide +kernel⟩ (by decide +kernel) rfl fun F => F.bindsN fun _ _ _ _ _ _ us hl => match us, hl with | [_], _ => rfl
theorem ro4 {K : PySem.W.Frag} : RowOk tb K r4 := rowOk_of ⟨rfl, rfl, rfl, by decide +kernel, rfl, by decide +kernel, by decide +kernel⟩ (by decide +kernel) rfl fun F => F.bindsN fun _ _ _ _ _ _ us hl => match us, hl with | [_], _ => rfl
theorem ro5 {K : PySem.W.Frag} : RowOk tb K r5 := rowOk_of ⟨rfl, rfl, rfl, by decide +kernel, rfl, by decide +kernel, by decide +kernel⟩ (by decide +kernel) rfl fun F => F.bindsN fun _ _ _ _ _ _ us hl => match us, hl with | [_, _], _ => rfl
theorem ro6 {K : PySem.W.Frag} : RowOk tb K r6 := rowOk_of ⟨rfl, rfl, rfl, by decide +kernel, rfl, by decide +kernel, by decide +kernel⟩ (by decide +kernel) rfl fun F => F.bindsN fun _ _ _ _ _ _ us hl => match us, hl with | [_], _ => rfl
theorem ro7 {K : PySem.W.Frag} : RowOk tb K r7 := rowOk_of ⟨rfl, rfl, rfl, by decide +kernel, rfl, by decide +kernel, by decide +kernel⟩ (by decide +kernel) rfl fun F => F.bindsN fun _ _ _ _ _ _ us hl => match us, hl with | [_, _], _ => rfl
theorem ro8 {K : PySem.W.Frag} : RowOk tb K r8 := rowOk_of ⟨rfl, rfl, rfl, by decide +kernel, rfl, by decide +kernel, by decide +kernel⟩ (by decide +kernel) rfl fun F => F.bindsN fun _ _ _ _ _ _ us hl => match us, hl with | [_, _], _ => rfl
theorem ro9 {K : PySem.W.Frag} : RowOk tb K r9 := rowOk_of ⟨rfl, rfl, rfl, by decide +kernel, rfl, by decide +kernel, by decide +kernel⟩ (by decide +kernel) rfl fun F => F.bindsN fun _ _ _ _ _ _ us hl => match us, hl with | [_, _], _ => rfl
theorem ro10 {K : PySem.W.Frag} : RowOk tb K r10 := rowOk_of ⟨rfl, rfl, rfl, by decide +kernel, rfl, by decide +kernel, by decide +kernel⟩ (by decide +kernel) rfl fun F => F.bindsN fun _ _ _ _ _ _ us hl => match us, hl with | [_, _], _ => rfl
theorem ro11 {K : PySem.W.Frag} : RowOk tb K r11 := rowOk_of ⟨rfl, rfl, rfl, by decide +kernel, rfl, by decide +kernel, by decide +kernel⟩ (by decide +kernel) rfl fun F => F.bindsN fun _ _ _ _ _ _ us hl => match us, hl with | [_, _], _ => rfl
theorem ro12 {K : PySem.W.Frag} : RowOk tb K r12 := rowOk_of ⟨rfl, rfl, rfl, by decide +kernel, rfl, by decide +kernel, by decide +kernel⟩ (by decide +kernel) rfl fun F => F.bindsN fun _ _ _ _ _ _ us hl => match us, hl with | [_, _], _ => rfl
theorem ro13 {K : PySem.W.Frag} : RowOk tb K r13 := rowOk_of ⟨rfl, rfl, rfl, by decide +kernel, rfl, by decide +kernel, by decide +kernel⟩ (by decide +kernel) rfl fun F => F.bindsN fun _ _ _ _ _ _ us hl => match us, hl with | [_], _ => rfl
theorem ro14 {K : PySem.W.Frag} : RowOk tb K r14 := rowOk_of ⟨rfl, rfl, rfl, by decide +kernel, rfl, by decide +kernel, by decide +kernel⟩ (by decide +kernel) rfl fun F => F.bindsN fun _ _ _ _ _ _ us hl => match us, hl with | [_], _ => rfl
theorem ro15 {K : PySem.W.Frag} : RowOk tb K r15 := rowOk_of ⟨rfl, rfl, rfl, by decide +kernel, rfl, by decide +kernel, by decide +kernel⟩ (by decide +kernel) rfl fun F => F.bindsN fun _ _ _ _ _ _ us hl => match us, hl with | [_], _ => rfl
theorem ro16 {K : PySem.W.Frag} : RowOk tb K r16 := rowOk_of ⟨rfl, rfl, rfl, by decide +kernel, rfl, by decide +kernel, by decide +kernel⟩ (by decide +kernel) rfl fun F => F.bindsN fun _ _ _ _ _ _ us hl => match us, hl with | [_, _], _ => rfl
theorem ro17 {K : PySem.W.Frag} : RowOk tb K r17 := rowOk_of ⟨rfl, rfl, rfl, by decide +kernel, rfl, by decide +kernel, by decide +kernel⟩ (by decide +kernel) rfl fun F => F.bindsN fun _ _ _ _ _ _ us hl => match us, hl with | [_, _], _ => rfl
theorem ro18 {K : PySem.W.Frag} : RowOk tb K r18 := rowOk_of ⟨rfl, rfl, rfl, by decide +kernel, rfl, by decide +kernel, by decide +kernel⟩ (by decide +kernel) rfl fun F => F.bindsN fun _ _ _ _ _ _ us hl => match us, hl with | [_, _, _, _, _], _ => rfl
theorem ro19 {K : PySem.W.Frag} : RowOk tb K r19 := rowOk_of ⟨rfl, rfl, rfl, by decide +kernel, rfl, by decide +kernel, by decide +kernel⟩ (by decide +kernel) rfl fun F => F.bindsN fun _ _ _ _ _ _ us hl => match us, hl with | [_, _, _, _, _], _ => rfl
theorem ro20 {K : PySem.W.Frag} : RowOk tb K r20 := rowOk_of ⟨rfl, rfl, rfl, by decide +kernel, rfl, by decide +kernel, by decide +kernel⟩ (by decide +kernel) rfl fun F => F.bindsN fun _ _ _ _ _ _ us hl => match us, hl with | [_, _], _ => rfl
theorem ro21 {K : PySem.W.Frag} : RowOk tb K r21 := rowOk_of ⟨rfl, rfl, rfl, by decide +kernel, rfl, by decide +kernel, by decide +kernel⟩ (by decide +kernel) rfl fun F => F.bindsN fun _ _ _ _ _ _ us hl => match us, hl with | [_, _, _], _ => rfl
theorem ro22 {K : PySem.W.Frag} : RowOk tb K r22 := rowOk_of ⟨rfl, rfl, rfl, by decide +kernel, rfl, by decide +kernel, by decide +kernel⟩ (by decide +kernel) rfl fun F => F.bindsN fun _ _ _ _ _ _ us hl => match us, hl with | [_], _ => rfl
theorem ro23 {K : PySem.W.Frag} : RowOk tb K r23 := rowOk_d ⟨rfl, rfl, rfl, by decide +kernel, rfl, by decide +kernel, by decide +kernel⟩ (by decide +kernel) rfl fun {fd} F j hj => by
  have hj' : j ≤ 1 := hj
  match j, hj' with
  | 0, _ => exact F.binds1 2 0 (List.cons_ne_nil _ _) rfl fun _ _ _ _ _ _ _ us its hl hi => match us, its, hl, hi with | [_, _], [_], _, _ => ⟨_, rfl, rfl⟩
  | 1, _ => exact F.binds1 3 1 (List.cons_ne_nil _ _) rfl fun _ _ _ _ _ _ _ us its hl hi => match us, its, hl, hi with | [_, _, _], [_], _, _ => ⟨_, rfl, rfl⟩
theorem ro24 {K : PySem.W.Frag} : RowOk tb K r24 := rowOk_of ⟨rfl, rfl, rfl, by decide +kernel, rfl, by decide +kernel, by decide +kernel⟩ (by decide +kernel) rfl fun F => F.bindsN fun _ _ _ _ _ _ us hl => match us, hl with | [_, _], _ => rfl
theorem ro25 {K : PySem.W.Frag} : RowOk tb K r25 := rowOk_of ⟨rfl, rfl, rfl, by decide +kernel, rfl, by decide +kernel, by decide +kernel⟩ (by decide +kernel) rfl fun F => F.bindsN fun _ _ _ _ _ _ us hl => match us, hl with | [_, _], _ => rfl
theorem ro26 {K : PySem.W.Frag} : RowOk tb K r26 := rowOk_of ⟨rfl, rfl, rfl, by decide +kernel, rfl, by decide +kernel, by decide +kernel⟩ (by decide +kernel) rfl fun F => F.bindsN fun _ _ _ _ _ _ us hl => match us, hl with | [_, _], _ => rfl
theorem ro27 {K : PySem.W.Frag} : RowOk tb K r27 := rowOk_of ⟨rfl, rfl, rfl, by decide +kernel, rfl, by decide +kernel, by decide +kernel⟩ (by decide +kernel) rfl fun F => F.bindsN fun _ _ _ _ _ _ us hl => match us, hl with | [_, _], _ => rfl
theorem ro28 {K : PySem.W.Frag} : RowOk tb K r28 := rowOk_of ⟨rfl, rfl, rfl, by decide +kernel, rfl, by decide +kernel, by decide +kernel⟩ (by decide +kernel) rfl fun F => F.bindsN fun _ _ _ _ _ _ us hl => match us, hl with | [_, _], _ => rfl
theorem ro29 {K : PySem.W.Frag} : RowOk tb K r29 := rowOk_of ⟨rfl, rfl, rfl, by decide +kernel, rfl, by decide +kernel, by decide +kernel⟩ (by decide +kernel) rfl fun F => F.bindsN fun _ _ _ _ _ _ us hl => match us, hl with | [_, _], _ => rfl
theorem ro30 {K : PySem.W.Frag} : RowOk tb K r30 := rowOk_of ⟨rfl, rfl, rfl, by decide +kernel, rfl, by decide +kernel, by decide +kernel⟩ (by decide +kernel) rfl fun F => F.bindsN fun _ _ _ _ _ _ us hl => match us, hl with | [_, _], _ => rfl
theorem ro31 {K : PySem.W.Frag} : RowOk tb K r31 := rowOk_of ⟨rfl, rfl, rfl, by decide +kernel, rfl, by decide +kernel, by decide +kernel⟩ (by decide +kernel) rfl fun F => F.bindsN fun _ _ _ _ _ _ us hl => match us, hl with | [_], _ => rfl
theorem ro32 {K : PySem.W.Frag} : RowOk tb K r32 := rowOk_of ⟨rfl, rfl, rfl, by decide +kernel, rfl, by decide +kernel, by decide +kernel⟩ (by decide +kernel) rfl fun F => F.bindsN fun _ _ _ _ _ _ us hl => match us, hl with | [_, _], _ => rfl
theorem ro33 {K : PySem.W.Frag} : RowOk tb K r33 := rowOk_of ⟨rfl, rfl, rfl, by decide +kernel, rfl, by decide +kernel, by decide +kernel⟩ (by decide +kernel) rfl fun F => F.bindsN fun _ _ _ _ _ _ us hl => match us, hl with | [_], _ => rfl
theorem ro34 {K : PySem.W.Frag} : RowOk tb K r34 := rowOk_of ⟨rfl, rfl, rfl, by decide +kernel, rfl, by decide +kernel, by decide +kernel⟩ (by decide +kernel) rfl fun F => F.bindsN fun _ _ _ _ _ _ us hl => match us, hl with | [_, _], _ => rfl
theorem ro35 {K : PySem.W.Frag} : RowOk tb K r35 := rowOk_of ⟨rfl, rfl, rfl, by decide +kernel, rfl, by decide +kernel, by decide +kernel⟩ (by decide +kernel) rfl fun F => F.bindsN fun _ _ _ _ _ _ us hl => match us, hl with | [_], _ => rfl
theorem ro36 {K : PySem.W.Frag} : RowOk tb K r36 := rowOk_of ⟨rfl, rfl, rfl, by decide +kernel, rfl, by decide +kernel, by decide +kernel⟩ (by decide +kernel) rfl fun F => F.bindsN fun _ _ _ _ _ _ us hl => match us, hl with | [_, _], _ => rfl
theorem ro37 {K : PySem.W.Frag} : RowOk tb K r37 := rowOk_of ⟨rfl, rfl, rfl, by decide +kernel, rfl, by decide +kernel, by decide +kernel⟩ (by decide +kernel) rfl fun F => F.bindsN fun _ _ _ _ _ _ us hl => match us, hl with | [_], _ => rfl
theorem rows_ok {K : PySem.W.Frag} : ∀ r ∈ tb.rows, RowOk tb K r := by
  intro r hr
  have h : r ∈ [r0, r1, r2, r3, r4, r5, r6, r7, r8, r9, r10, r11, r12, r13, r14, r15, r16, r17, r18, r19, r20, r21, r22, r23, r24, r25, r26, r27, r28, r29, r30, r31, r32, r33, r34, r35, r36, r37] := hr
  simp only [List.mem_cons, List.not_mem_nil, or_false] at h
  rcases h with rfl | rfl | rfl | rfl | rfl | rfl | rfl | rfl | rfl | rfl | rfl | rfl | rfl | rfl | rfl | rfl | rfl | rfl | rfl | rfl | rfl | rfl | rfl | rfl | rfl | rfl | rfl | rfl | rfl | rfl | rfl | rfl | rfl | rfl | rfl | rfl | rfl | rfl
  · exact ro0
  · exact ro1
  · exact ro2
  · exact ro3
  · exact ro4
  · exact ro5
  · exact ro6
  · exact ro7
  · exact ro8
  · exact ro9
  · exact ro10
  · exact ro11
  · exact ro12
  · exact ro13
  · exact ro14
  · exact ro15
  · exact ro16
  · exact ro17
  · exact ro18
  · exact ro19
  · exact ro20
  · exact ro21
  · exact ro22
  · exact ro23
  · exact ro24
  · exact ro25
  · exact ro26
  · exact ro27
  · exact ro28
  · exact ro29
  · exact ro30
  · exact ro31
  · exact ro32
  · exact ro33
  · exact ro34
  · exact ro35
  · exact ro36
  · exact ro37
theorem io2 {P : Program} {w : World} {K : PySem.W.Frag} {mg : Str → Option Value} {base : Heap} : IRowOk P w tb K mg base i2 := ⟨fun F fs e => by
  have e2 : fs = [0] := (Option.some.inj ((show tb.excs.lookup 2 = some [0] from by decide +kernel).symm.trans e)).symm
  subst e2
  exact ⟨init1_ok F ⟨rfl, rfl, rfl, by decide +kernel, rfl, by decide +kernel, by decide +kernel⟩ (.inl (by decide +kernel)) (.inl (by decide +kernel)) ⟨by decide +kernel, by decide +kernel⟩ ⟨by decide +kernel, by decide +kernel⟩, F.bindsN fun _ _ _ _ _ _ us hl => match us, hl with | [_, _], _ => rfl⟩⟩
theorem io3 {P : Program} {w : World} {K : PySem.W.Frag} {mg : Str → Option Value} {base : Heap} : IRowOk P w tb K mg base i3 := ⟨fun F fs e => by
  have e2 : fs = [1] := (Option.some.inj ((show tb.excs.lookup 3 = some [1] from by decide +kernel).symm.trans e)).symm
  subst e2
  exact ⟨init1_ok F ⟨rfl, rfl, rfl, by decide +kernel, rfl, by decide +kernel, by decide +kernel⟩ (.inl (by decide +kernel)) (.inl (by decide +kernel)) ⟨by decide +kernel, by decide +kernel⟩ ⟨by decide +kernel, by decide +kernel⟩, F.bindsN fun _ _ _ _ _ _ us hl => match us, hl with | [_, _], _ => rfl⟩⟩
theorem irows_ok {P : Program} {w : World} {K : PySem.W.Frag} {mg : Str → Option Value} {base : Heap} : ∀ r ∈ irs, IRowOk P w tb K mg base r := by
  intro r hr
  have h : r ∈ [i2, i3] := hr
  simp only [List.mem_cons, List.not_mem_nil, or_false] at h
  rcases h with rfl | rfl
  · exact io2
  · exact io3
def depth : Nat := 30
/-- the law's own word, in Den -/
def Says (K : PySem.W.Frag) : Prop := ∀ ns : List Int, ns.length ≤ 63 → ∃ hp, callK (tb.fns K) depth 22 none [.scr (ns.map .int)] [] = .ok (.bl true) hp
theorem facts {P : Program} {w : World} {K : PySem.W.Frag} {h : Heap} {mg : Str → Option Value} {f : Addr} (X : K.In h) (G : h.Ns mainGlobals mg) (hfa : mg ("law" : Str) = some (.ref f)) (c : SaysT tb irs K) :
    ∃ fd : FuncData, (∀ (s : Shared) (v : Value), BindsTo s fd ⟨[v], []⟩ [("_law_script", v)]) ∧ ∀ base : Heap, K.In base → base.Ns mainGlobals mg → FnOk P w K mg base CX0 (5 * depth + 1) f fd ["_law_script"] (fun vs H Q _ => spF (tb.px K) (callK (tb.fns K) depth) 22 1 vs H Q fun _ _ _ => False) := by
  obtain ⟨c1, c2, c3⟩ := c.ck
  have ro : RowOk tb K r22 := ro22
  obtain ⟨fd, F⟩ := c.def_ (d := Den.Row.defD r22) (List.mem_append.mpr (.inl (List.mem_map.mpr ⟨r22, by simp [tb], rfl⟩)))
  have c1' := c1
  unfold Tb.ck at c1'
  have ha : mg ("law" : Str) = some (.ref (r22.ad K)) := by
    have k1 := (Bool.and_eq_true_iff.mp c1').1
    have q := List.all_eq_true.mp k1 ("law", Gk.fn 22) (lookup_mem (by decide +kernel))
    exact PySem.W.mg_of X G (of_decide_eq_true (Bool.and_eq_true_iff.mp q).2)
  have e := hfa.symm.trans ha
  cases e
  have b := FunD.bindsA (ps := ["_law_script"]) F fun _ _ _ _ _ _ us hl => match us, hl with | [_], _ => rfl
  exact ⟨fd, fun s v => b s [v] rfl, fun base _ _ => fn_cx0 (law_of (stat_says (base := base) X G c rfl rows_ok (by decide +kernel) irows_ok) (i := 22) (r := r22) rfl ro F 29)⟩
theorem spec {P : Program} {w : World} (says : ∀ K, Says K) {K : PySem.W.Frag} {H : Hp} {a : Addr} {ns : List Int} (hl : ns.length ≤ 63) (hS : SqL K H a (ns.map V.int)) : spF (tb.px K) (callK (tb.fns K) depth) 22 1 [.ref a] H (fun v _ => v = .bl true) fun _ _ _ => False := law_sp (says K) hl hS
end Law
end

-- B78
section
set_option maxHeartbeats 0
namespace Law
open PySem PySem.Spec PyProof.Rows L2 Den
def ow (m : Str) : Nat → Option Nat := tb.pg.ow m
/-- is_int -/
noncomputable def L0 (K : PySem.W.Frag) (C : Calls) : List SemS :=
 [(retS (andE (callV (isaX (tb.px K) tb.E) (consA (varE 0) (consA (conE (.ty 2)) nilA))) (notE (callV (isaX (tb.px K) tb.E) (consA (varE 0) (consA (conE (.ty 1)) nilA))))))]
noncomputable def B0 (K : PySem.W.Frag) (C : Calls) : SemS := runs (L0 K C)
theorem bd0 (K : PySem.W.Frag) (C : Calls) : (tb.fn K r0).body C = B0 K C := by kernel_rfl
theorem fq0 (K : PySem.W.Frag) : tb.fn K r0 = ⟨1, 1, false, B0 K⟩ := by
  show (⟨_, _, _, (tb.fn K r0).body⟩ : Fn) = _
  rw [show (tb.fn K r0).body = B0 K from funext (bd0 K)]
  rfl
/-- is_ratio -/
noncomputable def L1 (K : PySem.W.Frag) (C : Calls) : List SemS :=
 [(retS (orE (callV (isaX (tb.px K) tb.E) (consA (varE 0) (consA (conE (.cls 0)) nilA))) (callE C 0 [] (consA (varE 0) nilA))))]
noncomputable def B1 (K : PySem.W.Frag) (C : Calls) : SemS := runs (L1 K C)
theorem bd1 (K : PySem.W.Frag) (C : Calls) : (tb.fn K r1).body C = B1 K C := by kernel_rfl
theorem fq1 (K : PySem.W.Frag) : tb.fn K r1 = ⟨1, 1, false, B1 K⟩ := by
  show (⟨_, _, _, (tb.fn K r1).body⟩ : Fn) = _
  rw [show (tb.fn K r1).body = B1 K from funext (bd1 K)]
  rfl
/-- ratio_of -/
noncomputable def L2 (K : PySem.W.Frag) (C : Calls) : List SemS :=
 [(ifS (truE truth (callV (isaX (tb.px K) tb.E) (consA (varE 0) (consA (conE (.cls 0)) nilA)))) (runs [(retS (varE 0))]) (runs [])),
 (ifS (notT (truE truth (callE C 0 [] (consA (varE 0) nilA)))) (runs [(raiseS 2 [0] (consA (conE (.str ("thing" : Str))) nilA))]) (runs [])),
 (retS (makeE C 23 0 [.int 1] (consA (varE 0) nilA)))]
noncomputable def B2 (K : PySem.W.Frag) (C : Calls) : SemS := runs (L2 K C)
theorem bd2 (K : PySem.W.Frag) (C : Calls) : (tb.fn K r2).body C = B2 K C := by kernel_rfl
theorem fq2 (K : PySem.W.Frag) : tb.fn K r2 = ⟨1, 1, false, B2 K⟩ := by
  show (⟨_, _, _, (tb.fn K r2).body⟩ : Fn) = _
  rw [show (tb.fn K r2).body = B2 K from funext (bd2 K)]
  rfl
/-- whole -/
noncomputable def L3 (K : PySem.W.Frag) (C : Calls) : List SemS :=
 [(asgS (lcE (seqI (varE 0)) (.one 7) yesT (callE C 2 [] (consA (varE 7) nilA)) [7]) (nameG 1)),
 (asgS (conE (.int 1)) (nameG 2)),
 (forS (seqI (varE 1)) (nameG 3) (runs [(asgS (bin fdivV (two (opC C (ow "__mul__") (ow "__rmul__") mulV) (varE 2) (fldX (tb.px K) tb.E tb.noatF 4 3 (varE 3))) (callV gcdV (consA (varE 2) (consA (fldX (tb.px K) tb.E tb.noatF 4 3 (varE 3)) nilA)))) (nameG 2))])),
 (asgS (lcE (seqI (varE 1)) (.one 3) yesT (two (opC C (ow "__mul__") (ow "__rmul__") mulV) (fldX (tb.px K) tb.E tb.noatF 4 2 (varE 3)) (bin fdivV (varE 2) (fldX (tb.px K) tb.E tb.noatF 4 3 (varE 3)))) [3]) (nameG 4)),
 (asgS (conE (.int 0)) (nameG 5)),
 (forS (seqI (varE 4)) (nameG 6) (runs [(asgS (callV gcdV (consA (varE 5) (consA (varE 6) nilA))) (nameG 5))])),
 (ifS (blT (two (eqC C (ow "__eq__") (eqV false)) (varE 5) (conE (.int 0)))) (runs [(retS (callV tupleV (consA (varE 4) nilA)))]) (runs [])),
 (retS (callV tupleV (consA (lcE (seqI (varE 4)) (.one 6) yesT (bin fdivV (varE 6) (varE 5)) [6]) nilA)))]
noncomputable def B3 (K : PySem.W.Frag) (C : Calls) : SemS := runs (L3 K C)
theorem bd3 (K : PySem.W.Frag) (C : Calls) : (tb.fn K r3).body C = B3 K C := by kernel_rfl
theorem fq3 (K : PySem.W.Frag) : tb.fn K r3 = ⟨8, 1, false, B3 K⟩ := by
  show (⟨_, _, _, (tb.fn K r3).body⟩ : Fn) = _
  rw [show (tb.fn K r3).body = B3 K from funext (bd3 K)]
  rfl
/-- _law_stream -/
noncomputable def L4 (K : PySem.W.Frag) (C : Calls) : List SemS :=
 [(asgS (lstE nilA) (nameG 1)),
 (forS (range1I (consA (callV minV (consA (callV lenV (consA (varE 0) nilA)) (consA (conE (.int 63)) nilA))) nilA)) (nameG 2) (runs [(asgS (callV intV (consA (bin ixV (varE 0) (varE 2)) nilA)) (nameG 3)),
 (ifS (blT (bin ltV (varE 3) (conE (.int 0)))) (runs [(asgS (two (opC C (ow "__sub__") (ow "__rsub__") subV) (conE (.int 5)) (varE 3)) (nameG 3))]) (runs [])),
 (ifS (blT (bin geV (varE 3) (bin powV (conE (.int 10)) (conE (.int 18))))) (runs [(forS (range1I (consA (conE (.int 56)) nilA)) (nameG 4) (runs [(ifS (blT (bin gtV (varE 3) (conE (.int 0)))) (runs [(dropS (mthL appendM (varE 1) (consA (bin modV (callV intV (consA (varE 3) nilA)) (conE (.int 24))) nilA))),
 (asgS (bin fdivV (varE 3) (conE (.int 24))) (nameG 3))]) (runs []))]))]) (runs [(asgS (bin modV (callV intV (consA (two (opC C (ow "__add__") (ow "__radd__") addV) (two (opC C (ow "__add__") (ow "__radd__") addV) (two (opC C (ow "__mul__") (ow "__rmul__") mulV) (varE 3) (conE (.int 40014))) (two (opC C (ow "__mul__") (ow "__rmul__") mulV) (varE 2) (conE (.int 52774)))) (conE (.int 11))) nilA)) (conE (.int 2147483563))) (nameG 5)),
 (forS (range1I (consA (conE (.int 7)) nilA)) (nameG 4) (runs [(asgS (bin modV (callV intV (consA (two (opC C (ow "__add__") (ow "__radd__") addV) (two (opC C (ow "__add__") (ow "__radd__") addV) (two (opC C (ow "__add__") (ow "__radd__") addV) (two (opC C (ow "__mul__") (ow "__rmul__") mulV) (varE 5) (varE 5)) (two (opC C (ow "__mul__") (ow "__rmul__") mulV) (varE 4) (conE (.int 69069)))) (two (opC C (ow "__mul__") (ow "__rmul__") mulV) (varE 2) (conE (.int 13)))) (conE (.int 3))) nilA)) (conE (.int 2147483399))) (nameG 5)),
 (dropS (mthL appendM (varE 1) (consA (bin modV (callV intV (consA (bin fdivV (varE 5) (conE (.int 16))) nilA)) (conE (.int 5040))) nilA)))]))]))])),
 (dropS (mthL reverseM (varE 1) nilA)),
 (retS (varE 1))]
noncomputable def B4 (K : PySem.W.Frag) (C : Calls) : SemS := runs (L4 K C)
theorem bd4 (K : PySem.W.Frag) (C : Calls) : (tb.fn K r4).body C = B4 K C := by kernel_rfl
theorem fq4 (K : PySem.W.Frag) : tb.fn K r4 = ⟨6, 1, true, B4 K⟩ := by
  show (⟨_, _, _, (tb.fn K r4).body⟩ : Fn) = _
  rw [show (tb.fn K r4).body = B4 K from funext (bd4 K)]
  rfl
/-- _law_take -/
noncomputable def L5 (K : PySem.W.Frag) (C : Calls) : List SemS :=
 [(ifS (blT (two (eqC C (ow "__eq__") (eqV false)) (callV lenV (consA (varE 0) nilA)) (conE (.int 0)))) (runs [(retS (conE (.int 0)))]) (runs [])),
 (retS (bin modV (callV intV (consA (mthL popM (varE 0) nilA) nilA)) (varE 1)))]
noncomputable def B5 (K : PySem.W.Frag) (C : Calls) : SemS := runs (L5 K C)
theorem bd5 (K : PySem.W.Frag) (C : Calls) : (tb.fn K r5).body C = B5 K C := by kernel_rfl
theorem fq5 (K : PySem.W.Frag) : tb.fn K r5 = ⟨2, 2, false, B5 K⟩ := by
  show (⟨_, _, _, (tb.fn K r5).body⟩ : Fn) = _
  rw [show (tb.fn K r5).body = B5 K from funext (bd5 K)]
  rfl
/-- _law_int -/
noncomputable def L6 (K : PySem.W.Frag) (C : Calls) : List SemS :=
 [(retS (andE (callV (isaX (tb.px K) tb.E) (consA (varE 0) (consA (conE (.ty 2)) nilA))) (notE (callV (isaX (tb.px K) tb.E) (consA (varE 0) (consA (conE (.ty 1)) nilA))))))]
noncomputable def B6 (K : PySem.W.Frag) (C : Calls) : SemS := runs (L6 K C)
theorem bd6 (K : PySem.W.Frag) (C : Calls) : (tb.fn K r6).body C = B6 K C := by kernel_rfl
theorem fq6 (K : PySem.W.Frag) : tb.fn K r6 = ⟨1, 1, false, B6 K⟩ := by
  show (⟨_, _, _, (tb.fn K r6).body⟩ : Fn) = _
  rw [show (tb.fn K r6).body = B6 K from funext (bd6 K)]
  rfl
/-- _law_divisor -/
noncomputable def L7 (K : PySem.W.Frag) (C : Calls) : List SemS :=
 [(asgS (callV absV (consA (varE 0) nilA)) (nameG 0)),
 (asgS (callV absV (consA (varE 1) nilA)) (nameG 1)),
 (forS (range1I (consA (two (opC C (ow "__add__") (ow "__radd__") addV) (two (opC C (ow "__mul__") (ow "__rmul__") mulV) (conE (.int 2)) (bitsE (varE 1))) (conE (.int 2))) nilA)) (nameG 2) (runs [(ifS (blT (bin gtV (varE 1) (conE (.int 0)))) (runs [(asgS (bin modV (callV intV (consA (varE 0) nilA)) (varE 1)) (nameG 3)),
 (asgS (varE 1) (nameG 0)),
 (asgS (varE 3) (nameG 1))]) (runs []))])),
 (retS (varE 0))]
noncomputable def B7 (K : PySem.W.Frag) (C : Calls) : SemS := runs (L7 K C)
theorem bd7 (K : PySem.W.Frag) (C : Calls) : (tb.fn K r7).body C = B7 K C := by kernel_rfl
theorem fq7 (K : PySem.W.Frag) : tb.fn K r7 = ⟨4, 2, false, B7 K⟩ := by
  show (⟨_, _, _, (tb.fn K r7).body⟩ : Fn) = _
  rw [show (tb.fn K r7).body = B7 K from funext (bd7 K)]
  rfl
/-- _law_low -/
noncomputable def L8 (K : PySem.W.Frag) (C : Calls) : List SemS :=
 [(ifS (blT (bin ltV (varE 1) (conE (.int 0)))) (runs [(asgS (negE C (ow "__neg__") negV (varE 0)) (nameG 0)),
 (asgS (negE C (ow "__neg__") negV (varE 1)) (nameG 1))]) (runs [])),
 (asgS (callE C 7 [] (consA (varE 0) (consA (varE 1) nilA))) (nameG 2)),
 (retS (tupE (consA (bin fdivV (varE 0) (varE 2)) (consA (bin fdivV (varE 1) (varE 2)) nilA))))]
noncomputable def B8 (K : PySem.W.Frag) (C : Calls) : SemS := runs (L8 K C)
theorem bd8 (K : PySem.W.Frag) (C : Calls) : (tb.fn K r8).body C = B8 K C := by kernel_rfl
theorem fq8 (K : PySem.W.Frag) : tb.fn K r8 = ⟨3, 2, false, B8 K⟩ := by
  show (⟨_, _, _, (tb.fn K r8).body⟩ : Fn) = _
  rw [show (tb.fn K r8).body = B8 K from funext (bd8 K)]
  rfl
/-- _law_add -/
noncomputable def L9 (K : PySem.W.Frag) (C : Calls) : List SemS :=
 [(retS (callE C 8 [] (consA (two (opC C (ow "__add__") (ow "__radd__") addV) (two (opC C (ow "__mul__") (ow "__rmul__") mulV) (bin ixV (varE 0) (conE (.int 0))) (bin ixV (varE 1) (conE (.int 1)))) (two (opC C (ow "__mul__") (ow "__rmul__") mulV) (bin ixV (varE 1) (conE (.int 0))) (bin ixV (varE 0) (conE (.int 1))))) (consA (two (opC C (ow "__mul__") (ow "__rmul__") mulV) (bin ixV (varE 0) (conE (.int 1))) (bin ixV (varE 1) (conE (.int 1)))) nilA))))]
noncomputable def B9 (K : PySem.W.Frag) (C : Calls) : SemS := runs (L9 K C)
theorem bd9 (K : PySem.W.Frag) (C : Calls) : (tb.fn K r9).body C = B9 K C := by kernel_rfl
theorem fq9 (K : PySem.W.Frag) : tb.fn K r9 = ⟨2, 2, false, B9 K⟩ := by
  show (⟨_, _, _, (tb.fn K r9).body⟩ : Fn) = _
  rw [show (tb.fn K r9).body = B9 K from funext (bd9 K)]
  rfl
/-- _law_minus -/
noncomputable def L10 (K : PySem.W.Frag) (C : Calls) : List SemS :=
 [(retS (callE C 8 [] (consA (two (opC C (ow "__sub__") (ow "__rsub__") subV) (two (opC C (ow "__mul__") (ow "__rmul__") mulV) (bin ixV (varE 0) (conE (.int 0))) (bin ixV (varE 1) (conE (.int 1)))) (two (opC C (ow "__mul__") (ow "__rmul__") mulV) (bin ixV (varE 1) (conE (.int 0))) (bin ixV (varE 0) (conE (.int 1))))) (consA (two (opC C (ow "__mul__") (ow "__rmul__") mulV) (bin ixV (varE 0) (conE (.int 1))) (bin ixV (varE 1) (conE (.int 1)))) nilA))))]
noncomputable def B10 (K : PySem.W.Frag) (C : Calls) : SemS := runs (L10 K C)
theorem bd10 (K : PySem.W.Frag) (C : Calls) : (tb.fn K r10).body C = B10 K C := by kernel_rfl
theorem fq10 (K : PySem.W.Frag) : tb.fn K r10 = ⟨2, 2, false, B10 K⟩ := by
  show (⟨_, _, _, (tb.fn K r10).body⟩ : Fn) = _
  rw [show (tb.fn K r10).body = B10 K from funext (bd10 K)]
  rfl
/-- _law_times -/
noncomputable def L11 (K : PySem.W.Frag) (C : Calls) : List SemS :=
 [(retS (callE C 8 [] (consA (two (opC C (ow "__mul__") (ow "__rmul__") mulV) (bin ixV (varE 0) (conE (.int 0))) (bin ixV (varE 1) (conE (.int 0)))) (consA (two (opC C (ow "__mul__") (ow "__rmul__") mulV) (bin ixV (varE 0) (conE (.int 1))) (bin ixV (varE 1) (conE (.int 1)))) nilA))))]
noncomputable def B11 (K : PySem.W.Frag) (C : Calls) : SemS := runs (L11 K C)
theorem bd11 (K : PySem.W.Frag) (C : Calls) : (tb.fn K r11).body C = B11 K C := by kernel_rfl
theorem fq11 (K : PySem.W.Frag) : tb.fn K r11 = ⟨2, 2, false, B11 K⟩ := by
  show (⟨_, _, _, (tb.fn K r11).body⟩ : Fn) = _
  rw [show (tb.fn K r11).body = B11 K from funext (bd11 K)]
  rfl
/-- _law_by -/
noncomputable def L12 (K : PySem.W.Frag) (C : Calls) : List SemS :=
 [(retS (callE C 8 [] (consA (two (opC C (ow "__mul__") (ow "__rmul__") mulV) (bin ixV (varE 0) (conE (.int 0))) (bin ixV (varE 1) (conE (.int 1)))) (consA (two (opC C (ow "__mul__") (ow "__rmul__") mulV) (bin ixV (varE 0) (conE (.int 1))) (bin ixV (varE 1) (conE (.int 0)))) nilA))))]
noncomputable def B12 (K : PySem.W.Frag) (C : Calls) : SemS := runs (L12 K C)
theorem bd12 (K : PySem.W.Frag) (C : Calls) : (tb.fn K r12).body C = B12 K C := by kernel_rfl
theorem fq12 (K : PySem.W.Frag) : tb.fn K r12 = ⟨2, 2, false, B12 K⟩ := by
  show (⟨_, _, _, (tb.fn K r12).body⟩ : Fn) = _
  rw [show (tb.fn K r12).body = B12 K from funext (bd12 K)]
  rfl
/-- _law_pair -/
noncomputable def L13 (K : PySem.W.Frag) (C : Calls) : List SemS :=
 [(ifS (notT (truE truth (callV (isaX (tb.px K) tb.E) (consA (varE 0) (consA (conE (.cls 0)) nilA))))) (runs [(retS (conE .non))]) (runs [])),
 (ifS (orT (notT (truE truth (callE C 6 [] (consA (fldX (tb.px K) tb.E tb.noatF 4 2 (varE 0)) nilA)))) (notT (truE truth (callE C 6 [] (consA (fldX (tb.px K) tb.E tb.noatF 4 3 (varE 0)) nilA))))) (runs [(retS (conE .non))]) (runs [])),
 (ifS (orT (blT (bin ltV (fldX (tb.px K) tb.E tb.noatF 4 3 (varE 0)) (conE (.int 1)))) (blT (two (neC C (ow "__eq__")) (callE C 7 [] (consA (fldX (tb.px K) tb.E tb.noatF 4 2 (varE 0)) (consA (fldX (tb.px K) tb.E tb.noatF 4 3 (varE 0)) nilA))) (conE (.int 1))))) (runs [(retS (conE .non))]) (runs [])),
 (retS (tupE (consA (fldX (tb.px K) tb.E tb.noatF 4 2 (varE 0)) (consA (fldX (tb.px K) tb.E tb.noatF 4 3 (varE 0)) nilA))))]
noncomputable def B13 (K : PySem.W.Frag) (C : Calls) : SemS := runs (L13 K C)
theorem bd13 (K : PySem.W.Frag) (C : Calls) : (tb.fn K r13).body C = B13 K C := by kernel_rfl
theorem fq13 (K : PySem.W.Frag) : tb.fn K r13 = ⟨1, 1, false, B13 K⟩ := by
  show (⟨_, _, _, (tb.fn K r13).body⟩ : Fn) = _
  rw [show (tb.fn K r13).body = B13 K from funext (bd13 K)]
  rfl
/-- _law_whole -/
noncomputable def L14 (K : PySem.W.Frag) (C : Calls) : List SemS :=
 [(asgS (conE (.int 1)) (nameG 1)),
 (forS (seqI (varE 0)) (nameG 2) (runs [(asgS (bin fdivV (two (opC C (ow "__mul__") (ow "__rmul__") mulV) (varE 1) (bin ixV (varE 2) (conE (.int 1)))) (callE C 7 [] (consA (varE 1) (consA (bin ixV (varE 2) (conE (.int 1))) nilA)))) (nameG 1))])),
 (asgS (lcE (seqI (varE 0)) (.one 2) yesT (two (opC C (ow "__mul__") (ow "__rmul__") mulV) (bin ixV (varE 2) (conE (.int 0))) (bin fdivV (varE 1) (bin ixV (varE 2) (conE (.int 1))))) [2]) (nameG 3)),
 (asgS (conE (.int 0)) (nameG 4)),
 (forS (seqI (varE 3)) (nameG 5) (runs [(asgS (callE C 7 [] (consA (varE 4) (consA (varE 5) nilA))) (nameG 4))])),
 (ifS (blT (two (eqC C (ow "__eq__") (eqV false)) (varE 4) (conE (.int 0)))) (runs [(retS (varE 3))]) (runs [])),
 (retS (lcE (seqI (varE 3)) (.one 5) yesT (bin fdivV (varE 5) (varE 4)) [5]))]
noncomputable def B14 (K : PySem.W.Frag) (C : Calls) : SemS := runs (L14 K C)
theorem bd14 (K : PySem.W.Frag) (C : Calls) : (tb.fn K r14).body C = B14 K C := by kernel_rfl
theorem fq14 (K : PySem.W.Frag) : tb.fn K r14 = ⟨6, 1, false, B14 K⟩ := by
  show (⟨_, _, _, (tb.fn K r14).body⟩ : Fn) = _
  rw [show (tb.fn K r14).body = B14 K from funext (bd14 K)]
  rfl
/-- _law_drawn -/
noncomputable def L15 (K : PySem.W.Frag) (C : Calls) : List SemS :=
 [(asgS (lstE (consA (conE (.int 1)) (consA (conE (.int 0)) (consA (negE C (ow "__neg__") negV (conE (.int 1))) (consA (conE (.int 2)) (consA (negE C (ow "__neg__") negV (conE (.int 6))) (consA (conE (.int 12)) (consA (conE (.int 999999999999)) (consA (negE C (ow "__neg__") negV (conE (.int 999999999999))) (consA (conE (.int 35)) (consA (negE C (ow "__neg__") negV (conE (.int 4))) (consA (conE (.int 9)) (consA (conE (.int 100)) nilA))))))))))))) (nameG 1)),
 (asgS (lstE (consA (conE (.int 1)) (consA (negE C (ow "__neg__") negV (conE (.int 1))) (consA (conE (.int 2)) (consA (negE C (ow "__neg__") negV (conE (.int 3))) (consA (conE (.int 4)) (consA (conE (.int 6)) (consA (negE C (ow "__neg__") negV (conE (.int 12))) (consA (conE (.int 999999999989)) (consA (conE (.int 5)) (consA (negE C (ow "__neg__") negV (conE (.int 7))) (consA (conE (.int 10)) (consA (negE C (ow "__neg__") negV (conE (.int 999999999989))) nilA))))))))))))) (nameG 2)),
 (retS (tupE (consA (bin ixV (varE 1) (callE C 5 [] (consA (varE 0) (consA (conE (.int 12)) nilA)))) (consA (bin ixV (varE 2) (callE C 5 [] (consA (varE 0) (consA (conE (.int 12)) nilA)))) nilA))))]
noncomputable def B15 (K : PySem.W.Frag) (C : Calls) : SemS := runs (L15 K C)
theorem bd15 (K : PySem.W.Frag) (C : Calls) : (tb.fn K r15).body C = B15 K C := by kernel_rfl
theorem fq15 (K : PySem.W.Frag) : tb.fn K r15 = ⟨3, 1, false, B15 K⟩ := by
  show (⟨_, _, _, (tb.fn K r15).body⟩ : Fn) = _
  rw [show (tb.fn K r15).body = B15 K from funext (bd15 K)]
  rfl
/-- _law_told -/
noncomputable def L16 (K : PySem.W.Frag) (C : Calls) : List SemS :=
 [(asgS (conE .non) (nameG 2)),
 (tryS tb.E tb.subF (runs [(ifS (blT (two (eqC C (ow "__eq__") (eqV false)) (varE 1) (conE (.int 0)))) (runs [(asgS (tupE (consA (conE (.str ("made" : Str))) (consA (callE C 13 [] (consA (makeE C 23 0 [] (consA (bin ixV (varE 0) (conE (.int 0))) (consA (bin ixV (varE 0) (conE (.int 1))) nilA))) nilA)) nilA))) (nameG 2))]) (runs [(ifS (blT (two (eqC C (ow "__eq__") (eqV false)) (varE 1) (conE (.int 1)))) (runs [(asgS (tupE (consA (conE (.str ("made" : Str))) (consA (smE C 24 (consA (bin ixV (varE 0) (conE (.int 0))) (consA (bin ixV (varE 0) (conE (.int 1))) nilA))) nilA))) (nameG 2))]) (runs [(ifS (blT (two (eqC C (ow "__eq__") (eqV false)) (varE 1) (conE (.int 2)))) (runs [(asgS (tupE (consA (conE (.str ("made" : Str))) (consA (callE C 13 [] (consA (mthE C (fun c => List.lookup c [(0, 34)]) 4 (bin ixV (varE 0) (conE (.int 0))) (consA (bin ixV (varE 0) (conE (.int 1))) nilA)) nilA)) nilA))) (nameG 2))]) (runs [(ifS (blT (two (eqC C (ow "__eq__") (eqV false)) (varE 1) (conE (.int 3)))) (runs [(asgS (tupE (consA (conE (.str ("made" : Str))) (consA (callE C 13 [] (consA (mthE C (fun c => List.lookup c [(0, 35)]) 4 (bin ixV (varE 0) (conE (.int 0))) nilA) nilA)) nilA))) (nameG 2))]) (runs [(ifS (blT (two (eqC C (ow "__eq__") (eqV false)) (varE 1) (conE (.int 4)))) (runs [(asgS (tupE (consA (conE (.str ("made" : Str))) (consA (callE C 13 [] (consA (mthE C (fun c => List.lookup c [(0, 36)]) 4 (bin ixV (varE 0) (conE (.int 0))) (consA (bin ixV (varE 0) (conE (.int 1))) nilA)) nilA)) nilA))) (nameG 2))]) (runs [(asgS (tupE (consA (conE (.str ("made" : Str))) (consA (callE C 13 [] (consA (callE C 2 [] (consA (bin ixV (varE 0) (conE (.int 0))) nilA)) nilA)) nilA))) (nameG 2))]))]))]))]))]))]) [⟨2, some 3, fun ec fs xs => (seqS (asgS (tupE (consA (conE (.str ("number" : Str))) (consA (errFldE tb.E 4 ec fs xs 0) (consA (errIsE tb.E tb.subF ec 3) nilA)))) (nameG 2)) nextS)⟩, ⟨1, none, fun ec fs xs => (seqS (asgS (tupE (consA (conE (.str ("other" : Str))) (consA (conE (.int 0)) nilA))) (nameG 2)) nextS)⟩]),
 (retS (varE 2))]
noncomputable def B16 (K : PySem.W.Frag) (C : Calls) : SemS := runs (L16 K C)
theorem bd16 (K : PySem.W.Frag) (C : Calls) : (tb.fn K r16).body C = B16 K C := by kernel_rfl
theorem fq16 (K : PySem.W.Frag) : tb.fn K r16 = ⟨4, 2, false, B16 K⟩ := by
  show (⟨_, _, _, (tb.fn K r16).body⟩ : Fn) = _
  rw [show (tb.fn K r16).body = B16 K from funext (bd16 K)]
  rfl
/-- _law_power -/
noncomputable def L17 (K : PySem.W.Frag) (C : Calls) : List SemS :=
 [(asgS (conE (.int 1)) (nameG 2)),
 (asgS (conE (.int 1)) (nameG 3)),
 (forS (range1I (consA (callV absV (consA (varE 1) nilA)) nilA)) (nameG 4) (runs [(asgS (two (opC C (ow "__mul__") (ow "__rmul__") mulV) (varE 2) (bin ixV (varE 0) (conE (.int 0)))) (nameG 2)),
 (asgS (two (opC C (ow "__mul__") (ow "__rmul__") mulV) (varE 3) (bin ixV (varE 0) (conE (.int 1)))) (nameG 3))])),
 (ifS (blT (bin geV (varE 1) (conE (.int 0)))) (runs [(retS (tupE (consA (varE 2) (consA (varE 3) nilA))))]) (runs [])),
 (ifS (blT (bin ltV (varE 2) (conE (.int 0)))) (runs [(retS (tupE (consA (negE C (ow "__neg__") negV (varE 3)) (consA (negE C (ow "__neg__") negV (varE 2)) nilA))))]) (runs [])),
 (retS (tupE (consA (varE 3) (consA (varE 2) nilA))))]
noncomputable def B17 (K : PySem.W.Frag) (C : Calls) : SemS := runs (L17 K C)
theorem bd17 (K : PySem.W.Frag) (C : Calls) : (tb.fn K r17).body C = B17 K C := by kernel_rfl
theorem fq17 (K : PySem.W.Frag) : tb.fn K r17 = ⟨5, 2, false, B17 K⟩ := by
  show (⟨_, _, _, (tb.fn K r17).body⟩ : Fn) = _
  rw [show (tb.fn K r17).body = B17 K from funext (bd17 K)]
  rfl
/-- _law_signs_good -/
noncomputable def L18 (K : PySem.W.Frag) (C : Calls) : List SemS :=
 [(asgS (tupE (consA (varE 4) (consA (conE (.int 1)) nilA))) (nameG 5)),
 (asgS (lstE (consA (tupE (consA (two (opC C (ow "__add__") (ow "__radd__") addV) (varE 0) (varE 2)) (consA (callE C 9 [] (consA (varE 1) (consA (varE 3) nilA))) nilA))) (consA (tupE (consA (two (opC C (ow "__sub__") (ow "__rsub__") subV) (varE 0) (varE 2)) (consA (callE C 10 [] (consA (varE 1) (consA (varE 3) nilA))) nilA))) nilA))) (nameG 6)),
 (asgS (two (opC C (ow "__add__") (ow "__radd__") addV) (varE 6) (lstE (consA (tupE (consA (two (opC C (ow "__mul__") (ow "__rmul__") mulV) (varE 0) (varE 2)) (consA (callE C 11 [] (consA (varE 1) (consA (varE 3) nilA))) nilA))) (consA (tupE (consA (negE C (ow "__neg__") negV (varE 0)) (consA (tupE (consA (negE C (ow "__neg__") negV (bin ixV (varE 1) (conE (.int 0)))) (consA (bin ixV (varE 1) (conE (.int 1))) nilA))) nilA))) nilA)))) (nameG 6)),
 (asgS (two (opC C (ow "__add__") (ow "__radd__") addV) (varE 6) (lstE (consA (tupE (consA (two (opC C (ow "__add__") (ow "__radd__") addV) (varE 0) (varE 4)) (consA (callE C 9 [] (consA (varE 1) (consA (varE 5) nilA))) nilA))) (consA (tupE (consA (two (opC C (ow "__add__") (ow "__radd__") addV) (varE 4) (varE 0)) (consA (callE C 9 [] (consA (varE 1) (consA (varE 5) nilA))) nilA))) nilA)))) (nameG 6)),
 (asgS (two (opC C (ow "__add__") (ow "__radd__") addV) (varE 6) (lstE (consA (tupE (consA (two (opC C (ow "__sub__") (ow "__rsub__") subV) (varE 0) (varE 4)) (consA (callE C 10 [] (consA (varE 1) (consA (varE 5) nilA))) nilA))) (consA (tupE (consA (two (opC C (ow "__sub__") (ow "__rsub__") subV) (varE 4) (varE 0)) (consA (callE C 10 [] (consA (varE 5) (consA (varE 1) nilA))) nilA))) nilA)))) (nameG 6)),
 (asgS (two (opC C (ow "__add__") (ow "__radd__") addV) (varE 6) (lstE (consA (tupE (consA (two (opC C (ow "__mul__") (ow "__rmul__") mulV) (varE 0) (varE 4)) (consA (callE C 11 [] (consA (varE 1) (consA (varE 5) nilA))) nilA))) (consA (tupE (consA (two (opC C (ow "__mul__") (ow "__rmul__") mulV) (varE 4) (varE 0)) (consA (callE C 11 [] (consA (varE 1) (consA (varE 5) nilA))) nilA))) nilA)))) (nameG 6)),
 (forS (seqI (varE 6)) (nameG 7) (runs [(ifS (blT (two (neC C (ow "__eq__")) (callE C 13 [] (consA (bin ixV (varE 7) (conE (.int 0))) nilA)) (bin ixV (varE 7) (conE (.int 1))))) (runs [(retS (conE (.bl false)))]) (runs []))])),
 (forS (seqI (lstE (consA (tupE (consA (two (eqC C (ow "__eq__") (eqV false)) (varE 0) (varE 2)) (consA (two (eqC C (ow "__eq__") (eqV false)) (varE 1) (varE 3)) nilA))) (consA (tupE (consA (two (eqC C (ow "__eq__") (eqV false)) (varE 0) (varE 4)) (consA (two (eqC C (ow "__eq__") (eqV false)) (varE 1) (varE 5)) nilA))) (consA (tupE (consA (two (eqC C (ow "__eq__") (eqV false)) (varE 0) (makeE C 23 0 [.int 1] (consA (varE 4) nilA))) (consA (two (eqC C (ow "__eq__") (eqV false)) (varE 1) (varE 5)) nilA))) nilA))))) (nameG 7) (runs [(ifS (orT (notT (truE truth (callV (isaX (tb.px K) tb.E) (consA (bin ixV (varE 7) (conE (.int 0))) (consA (conE (.ty 1)) nilA))))) (blT (two (neC C (ow "__eq__")) (bin ixV (varE 7) (conE (.int 0))) (bin ixV (varE 7) (conE (.int 1)))))) (runs [(retS (conE (.bl false)))]) (runs []))])),
 (ifS (orT (blT (two (eqC C (ow "__eq__") (eqV false)) (varE 0) (conE .non))) (orT (blT (two (eqC C (ow "__eq__") (eqV false)) (varE 0) (varE 1))) (blT (two (neC C (ow "__eq__")) (callG (boolG C (ow "__bool__")) (consA (varE 0) nilA)) (two (neC C (ow "__eq__")) (bin ixV (varE 1) (conE (.int 0))) (conE (.int 0))))))) (runs [(retS (conE (.bl false)))]) (runs [])),
 (asgS (callV strV (consA (bin ixV (varE 1) (conE (.int 0))) nilA)) (nameG 8)),
 (ifS (blT (bin gtV (bin ixV (varE 1) (conE (.int 1))) (conE (.int 1)))) (runs [(asgS (two (opC C (ow "__add__") (ow "__radd__") addV) (two (opC C (ow "__add__") (ow "__radd__") addV) (varE 8) (conE (.str ("/" : Str)))) (callV strV (consA (bin ixV (varE 1) (conE (.int 1))) nilA))) (nameG 8))]) (runs [])),
 (retS (two (eqC C (ow "__eq__") (eqV false)) (mthE C (fun c => List.lookup c [(0, 37)]) 4 (varE 0) nilA) (varE 8)))]
noncomputable def B18 (K : PySem.W.Frag) (C : Calls) : SemS := runs (L18 K C)
theorem bd18 (K : PySem.W.Frag) (C : Calls) : (tb.fn K r18).body C = B18 K C := by kernel_rfl
theorem fq18 (K : PySem.W.Frag) : tb.fn K r18 = ⟨9, 5, false, B18 K⟩ := by
  show (⟨_, _, _, (tb.fn K r18).body⟩ : Fn) = _
  rw [show (tb.fn K r18).body = B18 K from funext (bd18 K)]
  rfl
/-- _law_methods_good -/
noncomputable def L19 (K : PySem.W.Frag) (C : Calls) : List SemS :=
 [(asgS (lstE (consA (tupE (consA (tupE (consA (varE 0) (consA (varE 4) nilA))) (consA (conE (.int 4)) (consA (tupE (consA (conE (.str ("made" : Str))) (consA (callE C 17 [] (consA (varE 1) (consA (varE 4) nilA))) nilA))) nilA)))) nilA)) (nameG 5)),
 (ifS (andT (blT (bin ltV (varE 4) (conE (.int 0)))) (blT (two (eqC C (ow "__eq__") (eqV false)) (bin ixV (varE 1) (conE (.int 0))) (conE (.int 0))))) (runs [(asgS (lstE (consA (tupE (consA (tupE (consA (varE 0) (consA (varE 4) nilA))) (consA (conE (.int 4)) (consA (tupE (consA (conE (.str ("number" : Str))) (consA (conE (.str ("number" : Str))) (consA (conE (.bl false)) nilA)))) nilA)))) nilA)) (nameG 5))]) (runs [])),
 (ifS (blT (two (eqC C (ow "__eq__") (eqV false)) (bin ixV (varE 1) (conE (.int 0))) (conE (.int 0)))) (runs [(dropS (mthL appendM (varE 5) (consA (tupE (consA (tupE (consA (varE 0) (consA (conE (.int 0)) nilA))) (consA (conE (.int 3)) (consA (tupE (consA (conE (.str ("number" : Str))) (consA (conE (.str ("top" : Str))) (consA (conE (.bl false)) nilA)))) nilA)))) nilA)))]) (runs [(dropS (mthL appendM (varE 5) (consA (tupE (consA (tupE (consA (varE 0) (consA (conE (.int 0)) nilA))) (consA (conE (.int 3)) (consA (tupE (consA (conE (.str ("made" : Str))) (consA (callE C 12 [] (consA (tupE (consA (conE (.int 1)) (consA (conE (.int 1)) nilA))) (consA (varE 1) nilA))) nilA))) nilA)))) nilA)))])),
 (ifS (blT (two (eqC C (ow "__eq__") (eqV false)) (bin ixV (varE 3) (conE (.int 0))) (conE (.int 0)))) (runs [(dropS (mthL appendM (varE 5) (consA (tupE (consA (tupE (consA (varE 0) (consA (varE 2) nilA))) (consA (conE (.int 2)) (consA (tupE (consA (conE (.str ("number" : Str))) (consA (conE (.str ("other" : Str))) (consA (conE (.bl false)) nilA)))) nilA)))) nilA)))]) (runs [(dropS (mthL appendM (varE 5) (consA (tupE (consA (tupE (consA (varE 0) (consA (varE 2) nilA))) (consA (conE (.int 2)) (consA (tupE (consA (conE (.str ("made" : Str))) (consA (callE C 12 [] (consA (varE 1) (consA (varE 3) nilA))) nilA))) nilA)))) nilA)))])),
 (forS (seqI (lstE (consA (conE (.int 41)) (consA (negE C (ow "__neg__") negV (conE (.int 41))) (consA (conE .non) (consA (makeE C 23 0 [.int 1] (consA (conE (.int 2)) nilA)) nilA)))))) (nameG 6) (runs [(dropS (mthL appendM (varE 5) (consA (tupE (consA (tupE (consA (varE 0) (consA (varE 6) nilA))) (consA (conE (.int 4)) (consA (tupE (consA (conE (.str ("number" : Str))) (consA (conE (.str ("number" : Str))) (consA (conE (.bl false)) nilA)))) nilA)))) nilA)))])),
 (forS (seqI (lstE (consA (conE (.int 0)) (consA (conE .non) (consA (conE (.str ("2" : Str))) nilA))))) (nameG 6) (runs [(dropS (mthL appendM (varE 5) (consA (tupE (consA (tupE (consA (varE 0) (consA (varE 6) nilA))) (consA (conE (.int 2)) (consA (tupE (consA (conE (.str ("number" : Str))) (consA (conE (.str ("other" : Str))) (consA (conE (.bl false)) nilA)))) nilA)))) nilA)))])),
 (dropS (mthL appendM (varE 5) (consA (tupE (consA (tupE (consA (varE 0) (consA (negE C (ow "__neg__") negV (conE (.int 3))) nilA))) (consA (conE (.int 2)) (consA (tupE (consA (conE (.str ("made" : Str))) (consA (callE C 12 [] (consA (varE 1) (consA (tupE (consA (negE C (ow "__neg__") negV (conE (.int 3))) (consA (conE (.int 1)) nilA))) nilA))) nilA))) nilA)))) nilA))),
 (dropS (mthL appendM (varE 5) (consA (tupE (consA (tupE (consA (varE 0) nilA)) (consA (conE (.int 5)) (consA (tupE (consA (conE (.str ("made" : Str))) (consA (varE 1) nilA))) nilA)))) nilA))),
 (dropS (mthL appendM (varE 5) (consA (tupE (consA (tupE (consA (negE C (ow "__neg__") negV (conE (.int 7))) nilA)) (consA (conE (.int 5)) (consA (tupE (consA (conE (.str ("made" : Str))) (consA (tupE (consA (negE C (ow "__neg__") negV (conE (.int 7))) (consA (conE (.int 1)) nilA))) nilA))) nilA)))) nilA))),
 (forS (seqI (lstE (consA (conE .non) (consA (conE (.str ("1" : Str))) nilA)))) (nameG 6) (runs [(dropS (mthL appendM (varE 5) (consA (tupE (consA (tupE (consA (varE 6) nilA)) (consA (conE (.int 5)) (consA (tupE (consA (conE (.str ("number" : Str))) (consA (conE (.str ("thing" : Str))) (consA (conE (.bl false)) nilA)))) nilA)))) nilA)))])),
 (forS (seqI (varE 5)) (nameG 7) (runs [(ifS (blT (two (neC C (ow "__eq__")) (callE C 16 [] (consA (bin ixV (varE 7) (conE (.int 0))) (consA (bin ixV (varE 7) (conE (.int 1))) nilA))) (bin ixV (varE 7) (conE (.int 2))))) (runs [(retS (conE (.bl false)))]) (runs []))])),
 (retS (conE (.bl true)))]
noncomputable def B19 (K : PySem.W.Frag) (C : Calls) : SemS := runs (L19 K C)
theorem bd19 (K : PySem.W.Frag) (C : Calls) : (tb.fn K r19).body C = B19 K C := by kernel_rfl
theorem fq19 (K : PySem.W.Frag) : tb.fn K r19 = ⟨8, 5, false, B19 K⟩ := by
  show (⟨_, _, _, (tb.fn K r19).body⟩ : Fn) = _
  rw [show (tb.fn K r19).body = B19 K from funext (bd19 K)]
  rfl
/-- _law_made_good -/
noncomputable def L20 (K : PySem.W.Frag) (C : Calls) : List SemS :=
 [(asgS (callE C 8 [] (consA (varE 0) (consA (varE 1) nilA))) (nameG 2)),
 (ifS (orT (blT (two (neC C (ow "__eq__")) (callE C 16 [] (consA (tupE (consA (varE 0) (consA (varE 1) nilA))) (consA (conE (.int 0)) nilA))) (tupE (consA (conE (.str ("made" : Str))) (consA (varE 2) nilA))))) (blT (two (neC C (ow "__eq__")) (callE C 16 [] (consA (tupE (consA (varE 0) (consA (varE 1) nilA))) (consA (conE (.int 1)) nilA))) (tupE (consA (conE (.str ("made" : Str))) (consA (varE 2) nilA)))))) (runs [(retS (conE (.bl false)))]) (runs [])),
 (forS (range1I (consA (conE (.int 2)) nilA)) (nameG 3) (runs [(forS (seqI (lstE (consA (tupE (consA (conE .non) (consA (conE (.int 0)) nilA))) (consA (tupE (consA (makeE C 23 0 [.int 1] (consA (conE (.int 1)) nilA)) (consA (conE (.int 2)) nilA))) (consA (tupE (consA (conE (.str ("1" : Str))) (consA (conE .non) nilA))) nilA))))) (nameG 4) (runs [(ifS (blT (two (neC C (ow "__eq__")) (callE C 16 [] (consA (varE 4) (consA (varE 3) nilA))) (tupE (consA (conE (.str ("number" : Str))) (consA (conE (.str ("top" : Str))) (consA (conE (.bl false)) nilA)))))) (runs [(retS (conE (.bl false)))]) (runs []))])),
 (forS (seqI (lstE (consA (conE (.int 0)) (consA (conE .non) (consA (makeE C 23 0 [.int 1] (consA (conE (.int 2)) nilA)) nilA))))) (nameG 4) (runs [(ifS (blT (two (neC C (ow "__eq__")) (callE C 16 [] (consA (tupE (consA (varE 0) (consA (varE 4) nilA))) (consA (varE 3) nilA))) (tupE (consA (conE (.str ("number" : Str))) (consA (conE (.str ("bottom" : Str))) (consA (conE (.bl false)) nilA)))))) (runs [(retS (conE (.bl false)))]) (runs []))]))])),
 (retS (two (eqC C (ow "__eq__") (eqV false)) (callE C 13 [] (consA (makeE C 23 0 [.int 1] (consA (varE 0) nilA)) nilA)) (tupE (consA (varE 0) (consA (conE (.int 1)) nilA)))))]
noncomputable def B20 (K : PySem.W.Frag) (C : Calls) : SemS := runs (L20 K C)
theorem bd20 (K : PySem.W.Frag) (C : Calls) : (tb.fn K r20).body C = B20 K C := by kernel_rfl
theorem fq20 (K : PySem.W.Frag) : tb.fn K r20 = ⟨5, 2, false, B20 K⟩ := by
  show (⟨_, _, _, (tb.fn K r20).body⟩ : Fn) = _
  rw [show (tb.fn K r20).body = B20 K from funext (bd20 K)]
  rfl
/-- _law_whole_good -/
noncomputable def L21 (K : PySem.W.Frag) (C : Calls) : List SemS :=
 [(asgS (lstE nilA) (nameG 3)),
 (asgS (lstE nilA) (nameG 4)),
 (forS (range1I (consA (callE C 5 [] (consA (varE 0) (consA (conE (.int 6)) nilA))) nilA)) (nameG 5) (runs [(asgS (callE C 15 [] (consA (varE 0) nilA)) (tupG 2 (consG (nameG 8) (consG (nameG 9) nilG)))),
 (dropS (mthL appendM (varE 4) (consA (callE C 8 [] (consA (varE 8) (consA (varE 9) nilA))) nilA))),
 (dropS (mthL appendM (varE 3) (consA (makeE C 23 0 [] (consA (varE 8) (consA (varE 9) nilA))) nilA))),
 (ifS (blT (two (eqC C (ow "__eq__") (eqV false)) (varE 9) (conE (.int 1)))) (runs [(asgS (varE 8) (subG (varE 3) (two (opC C (ow "__sub__") (ow "__rsub__") subV) (callV lenV (consA (varE 3) nilA)) (conE (.int 1)))))]) (runs []))])),
 (dropS (mthL appendM (varE 3) (consA (varE 1) nilA))),
 (dropS (mthL appendM (varE 4) (consA (varE 2) nilA))),
 (asgS (callV listV (consA (varE 3) nilA)) (nameG 6)),
 (asgS (callE C 3 [] (consA (varE 3) nilA)) (nameG 7)),
 (ifS (orT (notT (truE truth (callV (isaX (tb.px K) tb.E) (consA (varE 7) (consA (conE (.ty 5)) nilA))))) (blT (bin gtV (callV lenV (consA (lcE (seqI (varE 7)) (.one 10) (notT (truE truth (callE C 6 [] (consA (varE 10) nilA)))) (varE 10) [10]) nilA)) (conE (.int 0))))) (runs [(retS (conE (.bl false)))]) (runs [])),
 (ifS (orT (blT (two (neC C (ow "__eq__")) (varE 7) (callV tupleV (consA (callE C 14 [] (consA (varE 4) nilA)) nilA)))) (orT (blT (two (neC C (ow "__eq__")) (callE C 3 [] (consA (callV tupleV (consA (varE 3) nilA)) nilA)) (varE 7))) (blT (two (neC C (ow "__eq__")) (varE 3) (varE 6))))) (runs [(retS (conE (.bl false)))]) (runs [])),
 (retS (andE (two (eqC C (ow "__eq__") (eqV false)) (callE C 3 [] (consA (lstE (consA (conE (.int 0)) (consA (makeE C 23 0 [.int 1] (consA (conE (.int 0)) nilA)) (consA (conE (.int 0)) nilA)))) nilA)) (tupE (consA (conE (.int 0)) (consA (conE (.int 0)) (consA (conE (.int 0)) nilA))))) (two (eqC C (ow "__eq__") (eqV false)) (callE C 3 [] (consA (lstE (consA (negE C (ow "__neg__") negV (conE (.int 2))) (consA (conE (.int 4)) nilA))) nilA)) (tupE (consA (negE C (ow "__neg__") negV (conE (.int 1))) (consA (conE (.int 2)) nilA))))))]
noncomputable def B21 (K : PySem.W.Frag) (C : Calls) : SemS := runs (L21 K C)
theorem bd21 (K : PySem.W.Frag) (C : Calls) : (tb.fn K r21).body C = B21 K C := by kernel_rfl
theorem fq21 (K : PySem.W.Frag) : tb.fn K r21 = ⟨11, 3, false, B21 K⟩ := by
  show (⟨_, _, _, (tb.fn K r21).body⟩ : Fn) = _
  rw [show (tb.fn K r21).body = B21 K from funext (bd21 K)]
  rfl
/-- law -/
noncomputable def L22 (K : PySem.W.Frag) (C : Calls) : List SemS :=
 [(asgS (callE C 4 [] (consA (varE 0) nilA)) (nameG 1)),
 (asgS (callE C 15 [] (consA (varE 1) nilA)) (tupG 2 (consG (nameG 7) (consG (nameG 8) nilG)))),
 (asgS (callE C 15 [] (consA (varE 1) nilA)) (tupG 2 (consG (nameG 9) (consG (nameG 10) nilG)))),
 (asgS (callE C 8 [] (consA (varE 7) (consA (varE 8) nilA))) (nameG 2)),
 (asgS (callE C 8 [] (consA (varE 9) (consA (varE 10) nilA))) (nameG 3)),
 (asgS (makeE C 23 0 [] (consA (varE 7) (consA (varE 8) nilA))) (nameG 4)),
 (asgS (makeE C 23 0 [] (consA (varE 9) (consA (varE 10) nilA))) (nameG 5)),
 (asgS (bin ixV (lstE (consA (conE (.int 2)) (consA (conE (.int 0)) (consA (negE C (ow "__neg__") negV (conE (.int 1))) (consA (conE (.int 1)) (consA (negE C (ow "__neg__") negV (conE (.int 5))) (consA (conE (.int 7)) (consA (conE (.int 999999999999)) nilA)))))))) (callE C 5 [] (consA (varE 1) (consA (conE (.int 7)) nilA)))) (nameG 6)),
 (ifS (orT (notT (truE truth (callE C 20 [] (consA (varE 7) (consA (varE 8) nilA))))) (notT (truE truth (callE C 18 [] (consA (varE 4) (consA (varE 2) (consA (varE 5) (consA (varE 3) (consA (varE 6) nilA))))))))) (runs [(retS (conE (.bl false)))]) (runs [])),
 (asgS (bin ixV (lstE (consA (conE (.int 2)) (consA (conE (.int 0)) (consA (negE C (ow "__neg__") negV (conE (.int 1))) (consA (conE (.int 1)) (consA (negE C (ow "__neg__") negV (conE (.int 3))) (consA (conE (.int 40)) (consA (negE C (ow "__neg__") negV (conE (.int 40))) (consA (conE (.int 5)) (consA (negE C (ow "__neg__") negV (conE (.int 2))) nilA)))))))))) (callE C 5 [] (consA (varE 1) (consA (conE (.int 9)) nilA)))) (nameG 6)),
 (retS (andE (callE C 19 [] (consA (varE 4) (consA (varE 2) (consA (varE 5) (consA (varE 3) (consA (varE 6) nilA)))))) (callE C 21 [] (consA (varE 1) (consA (varE 4) (consA (varE 2) nilA))))))]
noncomputable def B22 (K : PySem.W.Frag) (C : Calls) : SemS := runs (L22 K C)
theorem bd22 (K : PySem.W.Frag) (C : Calls) : (tb.fn K r22).body C = B22 K C := by kernel_rfl
theorem fq22 (K : PySem.W.Frag) : tb.fn K r22 = ⟨11, 1, false, B22 K⟩ := by
  show (⟨_, _, _, (tb.fn K r22).body⟩ : Fn) = _
  rw [show (tb.fn K r22).body = B22 K from funext (bd22 K)]
  rfl
/-- Ratio.__init__ -/
noncomputable def L23 (K : PySem.W.Frag) (C : Calls) : List SemS :=
 [(asgS (smE C 24 (consA (varE 1) (consA (varE 2) nilA))) (tupG 2 (consG (fldG (tb.px K) tb.noatF 4 2 (varE 0)) (consG (fldG (tb.px K) tb.noatF 4 3 (varE 0)) nilG))))]
noncomputable def B23 (K : PySem.W.Frag) (C : Calls) : SemS := runs (L23 K C)
theorem bd23 (K : PySem.W.Frag) (C : Calls) : (tb.fn K r23).body C = B23 K C := by kernel_rfl
theorem fq23 (K : PySem.W.Frag) : tb.fn K r23 = ⟨3, 3, false, B23 K⟩ := by
  show (⟨_, _, _, (tb.fn K r23).body⟩ : Fn) = _
  rw [show (tb.fn K r23).body = B23 K from funext (bd23 K)]
  rfl
/-- Ratio.lowest -/
noncomputable def L24 (K : PySem.W.Frag) (C : Calls) : List SemS :=
 [(ifS (notT (truE truth (callE C 0 [] (consA (varE 0) nilA)))) (runs [(raiseS 2 [0] (consA (conE (.str ("top" : Str))) nilA))]) (runs [])),
 (ifS (orT (notT (truE truth (callE C 0 [] (consA (varE 1) nilA)))) (blT (two (eqC C (ow "__eq__") (eqV false)) (varE 1) (conE (.int 0))))) (runs [(raiseS 2 [0] (consA (conE (.str ("bottom" : Str))) nilA))]) (runs [])),
 (asgS (callV gcdV (consA (varE 0) (consA (varE 1) nilA))) (nameG 2)),
 (ifS (blT (bin ltV (varE 1) (conE (.int 0)))) (runs [(asgS (negE C (ow "__neg__") negV (varE 2)) (nameG 2))]) (runs [])),
 (retS (tupE (consA (bin fdivV (varE 0) (varE 2)) (consA (bin fdivV (varE 1) (varE 2)) nilA))))]
noncomputable def B24 (K : PySem.W.Frag) (C : Calls) : SemS := runs (L24 K C)
theorem bd24 (K : PySem.W.Frag) (C : Calls) : (tb.fn K r24).body C = B24 K C := by kernel_rfl
theorem fq24 (K : PySem.W.Frag) : tb.fn K r24 = ⟨3, 2, false, B24 K⟩ := by
  show (⟨_, _, _, (tb.fn K r24).body⟩ : Fn) = _
  rw [show (tb.fn K r24).body = B24 K from funext (bd24 K)]
  rfl
/-- Ratio.__add__ -/
noncomputable def L25 (K : PySem.W.Frag) (C : Calls) : List SemS :=
 [(ifS (notT (truE truth (callE C 1 [] (consA (varE 1) nilA)))) (runs [(retS badE)]) (runs [])),
 (asgS (callE C 2 [] (consA (varE 1) nilA)) (nameG 2)),
 (retS (makeE C 23 0 [] (consA (two (opC C (ow "__add__") (ow "__radd__") addV) (two (opC C (ow "__mul__") (ow "__rmul__") mulV) (fldX (tb.px K) tb.E tb.noatF 4 2 (varE 0)) (fldX (tb.px K) tb.E tb.noatF 4 3 (varE 2))) (two (opC C (ow "__mul__") (ow "__rmul__") mulV) (fldX (tb.px K) tb.E tb.noatF 4 2 (varE 2)) (fldX (tb.px K) tb.E tb.noatF 4 3 (varE 0)))) (consA (two (opC C (ow "__mul__") (ow "__rmul__") mulV) (fldX (tb.px K) tb.E tb.noatF 4 3 (varE 0)) (fldX (tb.px K) tb.E tb.noatF 4 3 (varE 2))) nilA))))]
noncomputable def B25 (K : PySem.W.Frag) (C : Calls) : SemS := runs (L25 K C)
theorem bd25 (K : PySem.W.Frag) (C : Calls) : (tb.fn K r25).body C = B25 K C := by kernel_rfl
theorem fq25 (K : PySem.W.Frag) : tb.fn K r25 = ⟨3, 2, false, B25 K⟩ := by
  show (⟨_, _, _, (tb.fn K r25).body⟩ : Fn) = _
  rw [show (tb.fn K r25).body = B25 K from funext (bd25 K)]
  rfl
/-- Ratio.__radd__ -/
noncomputable def L26 (K : PySem.W.Frag) (C : Calls) : List SemS :=
 [(retS (two (opC C (ow "__add__") (ow "__radd__") addV) (varE 0) (varE 1)))]
noncomputable def B26 (K : PySem.W.Frag) (C : Calls) : SemS := runs (L26 K C)
theorem bd26 (K : PySem.W.Frag) (C : Calls) : (tb.fn K r26).body C = B26 K C := by kernel_rfl
theorem fq26 (K : PySem.W.Frag) : tb.fn K r26 = ⟨2, 2, false, B26 K⟩ := by
  show (⟨_, _, _, (tb.fn K r26).body⟩ : Fn) = _
  rw [show (tb.fn K r26).body = B26 K from funext (bd26 K)]
  rfl
/-- Ratio.__sub__ -/
noncomputable def L27 (K : PySem.W.Frag) (C : Calls) : List SemS :=
 [(ifS (notT (truE truth (callE C 1 [] (consA (varE 1) nilA)))) (runs [(retS badE)]) (runs [])),
 (retS (two (opC C (ow "__add__") (ow "__radd__") addV) (varE 0) (negE C (ow "__neg__") negV (callE C 2 [] (consA (varE 1) nilA)))))]
noncomputable def B27 (K : PySem.W.Frag) (C : Calls) : SemS := runs (L27 K C)
theorem bd27 (K : PySem.W.Frag) (C : Calls) : (tb.fn K r27).body C = B27 K C := by kernel_rfl
theorem fq27 (K : PySem.W.Frag) : tb.fn K r27 = ⟨2, 2, false, B27 K⟩ := by
  show (⟨_, _, _, (tb.fn K r27).body⟩ : Fn) = _
  rw [show (tb.fn K r27).body = B27 K from funext (bd27 K)]
  rfl
/-- Ratio.__rsub__ -/
noncomputable def L28 (K : PySem.W.Frag) (C : Calls) : List SemS :=
 [(retS (two (opC C (ow "__add__") (ow "__radd__") addV) (negE C (ow "__neg__") negV (varE 0)) (varE 1)))]
noncomputable def B28 (K : PySem.W.Frag) (C : Calls) : SemS := runs (L28 K C)
theorem bd28 (K : PySem.W.Frag) (C : Calls) : (tb.fn K r28).body C = B28 K C := by kernel_rfl
theorem fq28 (K : PySem.W.Frag) : tb.fn K r28 = ⟨2, 2, false, B28 K⟩ := by
  show (⟨_, _, _, (tb.fn K r28).body⟩ : Fn) = _
  rw [show (tb.fn K r28).body = B28 K from funext (bd28 K)]
  rfl
/-- Ratio.__mul__ -/
noncomputable def L29 (K : PySem.W.Frag) (C : Calls) : List SemS :=
 [(ifS (notT (truE truth (callE C 1 [] (consA (varE 1) nilA)))) (runs [(retS badE)]) (runs [])),
 (asgS (callE C 2 [] (consA (varE 1) nilA)) (nameG 2)),
 (retS (makeE C 23 0 [] (consA (two (opC C (ow "__mul__") (ow "__rmul__") mulV) (fldX (tb.px K) tb.E tb.noatF 4 2 (varE 0)) (fldX (tb.px K) tb.E tb.noatF 4 2 (varE 2))) (consA (two (opC C (ow "__mul__") (ow "__rmul__") mulV) (fldX (tb.px K) tb.E tb.noatF 4 3 (varE 0)) (fldX (tb.px K) tb.E tb.noatF 4 3 (varE 2))) nilA))))]
noncomputable def B29 (K : PySem.W.Frag) (C : Calls) : SemS := runs (L29 K C)
theorem bd29 (K : PySem.W.Frag) (C : Calls) : (tb.fn K r29).body C = B29 K C := by kernel_rfl
theorem fq29 (K : PySem.W.Frag) : tb.fn K r29 = ⟨3, 2, false, B29 K⟩ := by
  show (⟨_, _, _, (tb.fn K r29).body⟩ : Fn) = _
  rw [show (tb.fn K r29).body = B29 K from funext (bd29 K)]
  rfl
/-- Ratio.__rmul__ -/
noncomputable def L30 (K : PySem.W.Frag) (C : Calls) : List SemS :=
 [(retS (two (opC C (ow "__mul__") (ow "__rmul__") mulV) (varE 0) (varE 1)))]
noncomputable def B30 (K : PySem.W.Frag) (C : Calls) : SemS := runs (L30 K C)
theorem bd30 (K : PySem.W.Frag) (C : Calls) : (tb.fn K r30).body C = B30 K C := by kernel_rfl
theorem fq30 (K : PySem.W.Frag) : tb.fn K r30 = ⟨2, 2, false, B30 K⟩ := by
  show (⟨_, _, _, (tb.fn K r30).body⟩ : Fn) = _
  rw [show (tb.fn K r30).body = B30 K from funext (bd30 K)]
  rfl
/-- Ratio.__neg__ -/
noncomputable def L31 (K : PySem.W.Frag) (C : Calls) : List SemS :=
 [(retS (makeE C 23 0 [] (consA (negE C (ow "__neg__") negV (fldX (tb.px K) tb.E tb.noatF 4 2 (varE 0))) (consA (fldX (tb.px K) tb.E tb.noatF 4 3 (varE 0)) nilA))))]
noncomputable def B31 (K : PySem.W.Frag) (C : Calls) : SemS := runs (L31 K C)
theorem bd31 (K : PySem.W.Frag) (C : Calls) : (tb.fn K r31).body C = B31 K C := by kernel_rfl
theorem fq31 (K : PySem.W.Frag) : tb.fn K r31 = ⟨1, 1, false, B31 K⟩ := by
  show (⟨_, _, _, (tb.fn K r31).body⟩ : Fn) = _
  rw [show (tb.fn K r31).body = B31 K from funext (bd31 K)]
  rfl
/-- Ratio.__eq__ -/
noncomputable def L32 (K : PySem.W.Frag) (C : Calls) : List SemS :=
 [(ifS (truE truth (callV (isaX (tb.px K) tb.E) (consA (varE 1) (consA (conE (.cls 0)) nilA)))) (runs [(retS (andE (two (eqC C (ow "__eq__") (eqV false)) (fldX (tb.px K) tb.E tb.noatF 4 2 (varE 0)) (fldX (tb.px K) tb.E tb.noatF 4 2 (varE 1))) (two (eqC C (ow "__eq__") (eqV false)) (fldX (tb.px K) tb.E tb.noatF 4 3 (varE 0)) (fldX (tb.px K) tb.E tb.noatF 4 3 (varE 1)))))]) (runs [])),
 (retS (andE (callE C 0 [] (consA (varE 1) nilA)) (andE (two (eqC C (ow "__eq__") (eqV false)) (fldX (tb.px K) tb.E tb.noatF 4 3 (varE 0)) (conE (.int 1))) (two (eqC C (ow "__eq__") (eqV false)) (fldX (tb.px K) tb.E tb.noatF 4 2 (varE 0)) (varE 1)))))]
noncomputable def B32 (K : PySem.W.Frag) (C : Calls) : SemS := runs (L32 K C)
theorem bd32 (K : PySem.W.Frag) (C : Calls) : (tb.fn K r32).body C = B32 K C := by kernel_rfl
theorem fq32 (K : PySem.W.Frag) : tb.fn K r32 = ⟨2, 2, false, B32 K⟩ := by
  show (⟨_, _, _, (tb.fn K r32).body⟩ : Fn) = _
  rw [show (tb.fn K r32).body = B32 K from funext (bd32 K)]
  rfl
/-- Ratio.__bool__ -/
noncomputable def L33 (K : PySem.W.Frag) (C : Calls) : List SemS :=
 [(retS (callG (boolG C (ow "__bool__")) (consA (two (neC C (ow "__eq__")) (fldX (tb.px K) tb.E tb.noatF 4 2 (varE 0)) (conE (.int 0))) nilA)))]
noncomputable def B33 (K : PySem.W.Frag) (C : Calls) : SemS := runs (L33 K C)
theorem bd33 (K : PySem.W.Frag) (C : Calls) : (tb.fn K r33).body C = B33 K C := by kernel_rfl
theorem fq33 (K : PySem.W.Frag) : tb.fn K r33 = ⟨1, 1, false, B33 K⟩ := by
  show (⟨_, _, _, (tb.fn K r33).body⟩ : Fn) = _
  rw [show (tb.fn K r33).body = B33 K from funext (bd33 K)]
  rfl
/-- Ratio.over -/
noncomputable def L34 (K : PySem.W.Frag) (C : Calls) : List SemS :=
 [(ifS (orT (notT (truE truth (callE C 1 [] (consA (varE 1) nilA)))) (blT (two (eqC C (ow "__eq__") (eqV false)) (varE 1) (conE (.int 0))))) (runs [(raiseS 2 [0] (consA (conE (.str ("other" : Str))) nilA))]) (runs [])),
 (retS (two (opC C (ow "__mul__") (ow "__rmul__") mulV) (varE 0) (mthE C (fun c => List.lookup c [(0, 35)]) 4 (callE C 2 [] (consA (varE 1) nilA)) nilA)))]
noncomputable def B34 (K : PySem.W.Frag) (C : Calls) : SemS := runs (L34 K C)
theorem bd34 (K : PySem.W.Frag) (C : Calls) : (tb.fn K r34).body C = B34 K C := by kernel_rfl
theorem fq34 (K : PySem.W.Frag) : tb.fn K r34 = ⟨2, 2, false, B34 K⟩ := by
  show (⟨_, _, _, (tb.fn K r34).body⟩ : Fn) = _
  rw [show (tb.fn K r34).body = B34 K from funext (bd34 K)]
  rfl
/-- Ratio.inverse -/
noncomputable def L35 (K : PySem.W.Frag) (C : Calls) : List SemS :=
 [(ifS (blT (two (eqC C (ow "__eq__") (eqV false)) (fldX (tb.px K) tb.E tb.noatF 4 2 (varE 0)) (conE (.int 0)))) (runs [(raiseS 2 [0] (consA (conE (.str ("top" : Str))) nilA))]) (runs [])),
 (retS (makeE C 23 0 [] (consA (fldX (tb.px K) tb.E tb.noatF 4 3 (varE 0)) (consA (fldX (tb.px K) tb.E tb.noatF 4 2 (varE 0)) nilA))))]
noncomputable def B35 (K : PySem.W.Frag) (C : Calls) : SemS := runs (L35 K C)
theorem bd35 (K : PySem.W.Frag) (C : Calls) : (tb.fn K r35).body C = B35 K C := by kernel_rfl
theorem fq35 (K : PySem.W.Frag) : tb.fn K r35 = ⟨1, 1, false, B35 K⟩ := by
  show (⟨_, _, _, (tb.fn K r35).body⟩ : Fn) = _
  rw [show (tb.fn K r35).body = B35 K from funext (bd35 K)]
  rfl
/-- Ratio.to_power -/
noncomputable def L36 (K : PySem.W.Frag) (C : Calls) : List SemS :=
 [(ifS (orT (notT (truE truth (callE C 0 [] (consA (varE 1) nilA)))) (orT (blT (bin ltV (varE 1) (negE C (ow "__neg__") negV (conE (.int 40))))) (blT (bin gtV (varE 1) (conE (.int 40)))))) (runs [(raiseS 2 [0] (consA (conE (.str ("number" : Str))) nilA))]) (runs [])),
 (ifS (andT (blT (bin ltV (varE 1) (conE (.int 0)))) (blT (two (eqC C (ow "__eq__") (eqV false)) (fldX (tb.px K) tb.E tb.noatF 4 2 (varE 0)) (conE (.int 0))))) (runs [(raiseS 2 [0] (consA (conE (.str ("number" : Str))) nilA))]) (runs [])),
 (asgS (varE 0) (nameG 2)),
 (ifS (blT (bin ltV (varE 1) (conE (.int 0)))) (runs [(asgS (mthE C (fun c => List.lookup c [(0, 35)]) 4 (varE 0) nilA) (nameG 2))]) (runs [])),
 (asgS (makeE C 23 0 [.int 1] (consA (conE (.int 1)) nilA)) (nameG 3)),
 (forS (range1I (consA (callV absV (consA (varE 1) nilA)) nilA)) (nameG 4) (runs [(asgS (two (opC C (ow "__mul__") (ow "__rmul__") mulV) (varE 3) (varE 2)) (nameG 3))])),
 (retS (varE 3))]
noncomputable def B36 (K : PySem.W.Frag) (C : Calls) : SemS := runs (L36 K C)
theorem bd36 (K : PySem.W.Frag) (C : Calls) : (tb.fn K r36).body C = B36 K C := by kernel_rfl
theorem fq36 (K : PySem.W.Frag) : tb.fn K r36 = ⟨5, 2, false, B36 K⟩ := by
  show (⟨_, _, _, (tb.fn K r36).body⟩ : Fn) = _
  rw [show (tb.fn K r36).body = B36 K from funext (bd36 K)]
  rfl
/-- Ratio.told -/
noncomputable def L37 (K : PySem.W.Frag) (C : Calls) : List SemS :=
 [(ifS (blT (two (eqC C (ow "__eq__") (eqV false)) (fldX (tb.px K) tb.E tb.noatF 4 3 (varE 0)) (conE (.int 1)))) (runs [(retS (callV strV (consA (fldX (tb.px K) tb.E tb.noatF 4 2 (varE 0)) nilA)))]) (runs [])),
 (retS (joinE [(fmtE (fldX (tb.px K) tb.E tb.noatF 4 2 (varE 0))), (conE (.str ("/" : Str))), (fmtE (fldX (tb.px K) tb.E tb.noatF 4 3 (varE 0)))]))]
noncomputable def B37 (K : PySem.W.Frag) (C : Calls) : SemS := runs (L37 K C)
theorem bd37 (K : PySem.W.Frag) (C : Calls) : (tb.fn K r37).body C = B37 K C := by kernel_rfl
theorem fq37 (K : PySem.W.Frag) : tb.fn K r37 = ⟨1, 1, false, B37 K⟩ := by
  show (⟨_, _, _, (tb.fn K r37).body⟩ : Fn) = _
  rw [show (tb.fn K r37).body = B37 K from funext (bd37 K)]
  rfl
noncomputable def pf (K : PySem.W.Frag) : List Fn := [⟨1, 1, false, B0 K⟩, ⟨1, 1, false, B1 K⟩, ⟨1, 1, false, B2 K⟩, ⟨8, 1, false, B3 K⟩, ⟨6, 1, true, B4 K⟩, ⟨2, 2, false, B5 K⟩, ⟨1, 1, false, B6 K⟩, ⟨4, 2, false, B7 K⟩, ⟨3, 2, false, B8 K⟩, ⟨2, 2, false, B9 K⟩, ⟨2, 2, false, B10 K⟩, ⟨2, 2, false, B11 K⟩, ⟨2, 2, false, B12 K⟩, ⟨1, 1, false, B13 K⟩, ⟨6, 1, false, B14 K⟩, ⟨3, 1, false, B15 K⟩, ⟨4, 2, false, B16 K⟩, ⟨5, 2, false, B17 K⟩, ⟨9, 5, false, B18 K⟩, ⟨8, 5, false, B19 K⟩, ⟨5, 2, false, B20 K⟩, ⟨11, 3, false, B21 K⟩, ⟨11, 1, false, B22 K⟩, ⟨3, 3, false, B23 K⟩, ⟨3, 2, false, B24 K⟩, ⟨3, 2, false, B25 K⟩, ⟨2, 2, false, B26 K⟩, ⟨2, 2, false, B27 K⟩, ⟨2, 2, false, B28 K⟩, ⟨3, 2, false, B29 K⟩, ⟨2, 2, false, B30 K⟩, ⟨1, 1, false, B31 K⟩, ⟨2, 2, false, B32 K⟩, ⟨1, 1, false, B33 K⟩, ⟨2, 2, false, B34 K⟩, ⟨1, 1, false, B35 K⟩, ⟨5, 2, false, B36 K⟩, ⟨1, 1, false, B37 K⟩]
theorem fns_eq (K : PySem.W.Frag) : tb.fns K = pf K := by
  show [tb.fn K r0, tb.fn K r1, tb.fn K r2, tb.fn K r3, tb.fn K r4, tb.fn K r5, tb.fn K r6, tb.fn K r7, tb.fn K r8, tb.fn K r9, tb.fn K r10, tb.fn K r11, tb.fn K r12, tb.fn K r13, tb.fn K r14, tb.fn K r15, tb.fn K r16, tb.fn K r17, tb.fn K r18, tb.fn K r19, tb.fn K r20, tb.fn K r21, tb.fn K r22, tb.fn K r23, tb.fn K r24, tb.fn K r25, tb.fn K r26, tb.fn K r27, tb.fn K r28, tb.fn K r29, tb.fn K r30, tb.fn K r31, tb.fn K r32, tb.fn K r33, tb.fn K r34, tb.fn K r35, tb.fn K r36, tb.fn K r37] = _
  rw [fq0, fq1, fq2, fq3, fq4, fq5, fq6, fq7, fq8, fq9, fq10, fq11, fq12, fq13, fq14, fq15, fq16, fq17, fq18, fq19, fq20, fq21, fq22, fq23, fq24, fq25, fq26, fq27, fq28, fq29, fq30, fq31, fq32, fq33, fq34, fq35, fq36, fq37]
  rfl
end Law
end

-- S78a
section
set_option maxHeartbeats 4000000
namespace Law
open PySem PySem.Spec Den
/-! ### numbers -/
/-- lowest terms, the bottom positive -/
def nm (t b : Int) : Int × Int := if b < 0 then (-(t / (Int.gcd t b : Nat)), -(b / (Int.gcd t b : Nat))) else (t / (Int.gcd t b : Nat), b / (Int.gcd t b : Nat))
theorem gcd_pos {t b : Int} (h : b ≠ 0) : 0 < Int.gcd t b := Int.gcd_pos_of_ne_zero_right _ h
theorem gcd_le {t b : Int} (h : b ≠ 0) : Int.gcd t b ≤ b.natAbs := Nat.le_of_dvd (by omega) (Nat.gcd_dvd_right _ _)
theorem gcd_dt {t b : Int} : ((Int.gcd t b : Nat) : Int) ∣ t := Int.gcd_dvd_left _ _
theorem gcd_db {t b : Int} : ((Int.gcd t b : Nat) : Int) ∣ b := Int.gcd_dvd_right _ _
theorem fdiv_neg_gcd {x : Int} {g : Nat} (h : (g : Int) ∣ x) : x.fdiv (-(g : Int)) = -(x / g) := by
  rw [Int.fdiv_eq_ediv_of_dvd (Int.neg_dvd.mpr h), Int.ediv_neg]
theorem nm_pos {t b : Int} (h : b ≠ 0) : 1 ≤ (nm t b).2 := by
  have g := gcd_pos (t := t) h
  obtain ⟨c, hc⟩ := gcd_db (t := t) (b := b)
  have e : b / (Int.gcd t b : Nat) = c := by
    conv => lhs; lhs; rw [hc]
    exact Int.mul_ediv_cancel_left _ (by omega)
  unfold nm
  split
  · rename_i hb
    show 1 ≤ -(b / (Int.gcd t b : Nat))
    rw [e]
    by_cases hz : 0 ≤ c
    · have := Int.mul_nonneg (show (0 : Int) ≤ (Int.gcd t b : Nat) by omega) hz
      omega
    · omega
  · show 1 ≤ b / (Int.gcd t b : Nat)
    rw [e]
    by_cases hz : c ≤ 0
    · have := Int.mul_nonneg (show (0 : Int) ≤ (Int.gcd t b : Nat) by omega) (show 0 ≤ -c by omega)
      rw [Int.mul_neg] at this
      omega
    · omega
theorem nm_gcd {t b : Int} (h : b ≠ 0) : Int.gcd (nm t b).1 (nm t b).2 = 1 := by
  have g := gcd_pos (t := t) h
  have e : Int.gcd (t / (Int.gcd t b : Nat)) (b / (Int.gcd t b : Nat)) = 1 := by
    rw [Int.gcd_ediv gcd_dt gcd_db, Int.natAbs_natCast, Nat.div_self g]
  unfold nm
  split
  · rw [Int.neg_gcd, Int.gcd_neg]
    exact e
  · exact e
theorem nm_one {t b : Int} (hb : 1 ≤ b) (h : Int.gcd t b = 1) : nm t b = (t, b) := by
  unfold nm
  rw [if_neg (by omega), h]
  simp
theorem nm_abs {t b : Int} (h : b ≠ 0) : (nm t b).1.natAbs ≤ t.natAbs ∧ (nm t b).2.natAbs ≤ b.natAbs := by
  have g := gcd_pos (t := t) h
  have e : ∀ x : Int, (x / (Int.gcd t b : Nat)).natAbs ≤ x.natAbs := fun x => Int.natAbs_ediv_le_natAbs _ _
  unfold nm
  split
  · exact ⟨by rw [Int.natAbs_neg]; exact e t, by rw [Int.natAbs_neg]; exact e b⟩
  · exact ⟨e t, e b⟩
end Law
end

-- S78b
section
set_option maxHeartbeats 4000000
namespace Law
open PySem PySem.Spec Den
/-- a ratio as it stands -/
abbrev rt (t b : Int) : D := .ins 0 [2, 3] [.int t, .int b]
/-- the error of a wrong number -/
abbrev bn (x : Str) (hp : List Cell) : OutC := .exn 2 [0] [.str x] hp
section
variable {K : PySem.W.Frag} {n : Nat} {hp : List Cell} {t b i j : Int} {s : S} {a : SemE} {x : D}
theorem fld_t : fldX (tb.px K) tb.E tb.noatF 4 2 a s = (a s).bind fun d s => fldX (tb.px K) tb.E tb.noatF 4 2 (conE d) s := rfl
theorem fld_b : fldX (tb.px K) tb.E tb.noatF 4 3 a s = (a s).bind fun d s => fldX (tb.px K) tb.E tb.noatF 4 3 (conE d) s := rfl
theorem fld_t1 : fldX (tb.px K) tb.E tb.noatF 4 2 (conE (rt t b)) s = .ok (.int t) s := rfl
theorem fld_b1 : fldX (tb.px K) tb.E tb.noatF 4 3 (conE (rt t b)) s = .ok (.int b) s := rfl
/-! is_int -/
/-- what the law ever asks is_int of -/
def plainD : D → Bool
  | .int _ => true
  | .non => true
  | .str _ => true
  | .ins 0 _ _ => true
  | .tup _ => true
  | _ => false
def isI : D → Bool
  | .int _ => true
  | _ => false
def isN : D → Bool
  | .ins _ _ _ => true
  | _ => false
theorem isa2 (h : plainD x = true) : isaX (tb.px K) tb.E [x, .ty 2] hp = .val (.bl (isI x)) ∧ isaX (tb.px K) tb.E [x, .ty 1] hp = .val (.bl false) ∧ isaX (tb.px K) tb.E [x, .cls 0] hp = .val (.bl (isN x)) := by
  unfold plainD at h
  split at h <;> first
    | (cases h; done)
    | exact ⟨rfl, rfl, rfl⟩
theorem c0 (h : plainD x = true) : callK (pf K) (n + 1) 0 none [x] hp = .ok (.bl (isI x)) hp := by
  show leave hp.length (runs (L0 K (callK (pf K) n)) ⟨[some x], hp, hp.length⟩) = _
  obtain ⟨e1, e2, _⟩ := isa2 (K := K) (hp := hp) h
  simp only [L0, y_nil, y_cons, y_asg, y_name, y_ret, y_drop, y_if, y_bl, y_tru, y_not, y_and, y_or, y_andE, y_orE, y_notE, y_con, y_var, y_bin, y_un, y_two, y_nilA, y_consA, y_call, y_make, y_stat, y_callV, y_callG, y_neg, y_tup, y_lst, y_ifE, y_raise, y_val, y_new, y_on, y_onx, y_mth, y_fmt, y_bits, y_tupG, y_consG, y_nilG, y_mthL, v_add, v_sub, v_neg, v_lt, v_le, v_gt, v_ge, v_tru, v_gcd, set0, set1, v_eqC, v_opC, v_negC, v_neC, Out.bind_ok, Out.bind_exn, List.getElem?_cons_zero, List.getElem?_cons_succ, List.append_nil, List.nil_append, List.cons_append, Bool.not_true, Bool.not_false, if_true, if_false, Bool.false_eq_true, Bool.true_eq_false, reduceCtorEq, List.take_length, eqV_int, List.length_cons, List.length_nil, e1, e2]
  cases isI x <;> exact lv rfl
theorem c0_int : callK (pf K) (n + 1) 0 none [.int i] hp = .ok (.bl true) hp := c0 rfl
/-! lowest -/
theorem c24 {k : Nat} (hb : b ≠ 0) (hk : b.natAbs < 2 ^ k) (h0 : 0 < k) (h9 : k ≤ 9000) : callK (pf K) (n + 2) 24 none [.int t, .int b] hp = .ok (.tup [.int (nm t b).1, .int (nm t b).2]) hp := by
  show leave hp.length (runs (L24 K (callK (pf K) (n + 1))) ⟨[some (.int t), some (.int b), none], hp, hp.length⟩) = _
  have g := gcd_pos (t := t) hb
  have gl : ((Int.gcd t b : Nat) : Int).natAbs < 2 ^ k := by
    have := gcd_le (t := t) hb
    rw [Int.natAbs_natCast]
    omega
  have gl2 : (-((Int.gcd t b : Nat) : Int)).natAbs < 2 ^ k := by rw [Int.natAbs_neg]; exact gl
  have eg : gcdV [.int t, .int b] hp = .val (.int (Int.gcd t b : Nat)) := rfl
  have two : (2 : Nat) ≤ sizeLine := by rw [sizeLine_eq]; decide
  simp only [L24, y_nil, y_cons, y_asg, y_name, y_ret, y_drop, y_if, y_bl, y_tru, y_not, y_and, y_or, y_andE, y_orE, y_notE, y_con, y_var, y_bin, y_un, y_two, y_nilA, y_consA, y_call, y_make, y_stat, y_callV, y_callG, y_neg, y_tup, y_lst, y_ifE, y_raise, y_val, y_new, y_on, y_onx, y_mth, y_fmt, y_bits, y_tupG, y_consG, y_nilG, y_mthL, v_add, v_sub, v_neg, v_lt, v_le, v_gt, v_ge, v_tru, v_gcd, set0, set1, v_eqC, v_opC, v_negC, v_neC, Out.bind_ok, Out.bind_exn, List.getElem?_cons_zero, List.getElem?_cons_succ, List.append_nil, List.nil_append, List.cons_append, Bool.not_true, Bool.not_false, if_true, if_false, Bool.false_eq_true, Bool.true_eq_false, reduceCtorEq, List.take_length, eqV_int, List.length_cons, List.length_nil, c0_int, hb, decide_false, eg]
  by_cases hz : b < 0
  · have dv : ∀ (i : Int) (h : List Cell), fdivV (.int i) (.int (-((Int.gcd t b : Nat) : Int))) h = .val (.int (i.fdiv (-((Int.gcd t b : Nat) : Int)))) := fun i h => v_divn (negOk_b (show -((Int.gcd t b : Nat) : Int) < 0 by omega) gl2 h0 h9)
    simp only [y_nil, y_cons, y_asg, y_name, y_ret, y_drop, y_if, y_bl, y_tru, y_not, y_and, y_or, y_andE, y_orE, y_notE, y_con, y_var, y_bin, y_un, y_two, y_nilA, y_consA, y_call, y_make, y_stat, y_callV, y_callG, y_neg, y_tup, y_lst, y_ifE, y_raise, y_val, y_new, y_on, y_onx, y_mth, y_fmt, y_bits, y_tupG, y_consG, y_nilG, y_mthL, v_add, v_sub, v_neg, v_lt, v_le, v_gt, v_ge, v_tru, v_gcd, set0, set1, v_eqC, v_opC, v_negC, v_neC, Out.bind_ok, Out.bind_exn, List.getElem?_cons_zero, List.getElem?_cons_succ, List.append_nil, List.nil_append, List.cons_append, Bool.not_true, Bool.not_false, if_true, if_false, Bool.false_eq_true, Bool.true_eq_false, reduceCtorEq, List.take_length, eqV_int, List.length_cons, List.length_nil, hz, decide_true, dv, two]
    unfold nm
    rw [if_pos hz, fdiv_neg_gcd gcd_dt, fdiv_neg_gcd gcd_db]
    exact lv rfl
  · have dv : ∀ (i : Int) (h : List Cell), fdivV (.int i) (.int ((Int.gcd t b : Nat) : Int)) h = .val (.int (i / ((Int.gcd t b : Nat) : Int))) := fun i h => v_div (divOk_b (show 0 < ((Int.gcd t b : Nat) : Int) by omega) gl h0 h9)
    simp only [y_nil, y_cons, y_asg, y_name, y_ret, y_drop, y_if, y_bl, y_tru, y_not, y_and, y_or, y_andE, y_orE, y_notE, y_con, y_var, y_bin, y_un, y_two, y_nilA, y_consA, y_call, y_make, y_stat, y_callV, y_callG, y_neg, y_tup, y_lst, y_ifE, y_raise, y_val, y_new, y_on, y_onx, y_mth, y_fmt, y_bits, y_tupG, y_consG, y_nilG, y_mthL, v_add, v_sub, v_neg, v_lt, v_le, v_gt, v_ge, v_tru, v_gcd, set0, set1, v_eqC, v_opC, v_negC, v_neC, Out.bind_ok, Out.bind_exn, List.getElem?_cons_zero, List.getElem?_cons_succ, List.append_nil, List.nil_append, List.cons_append, Bool.not_true, Bool.not_false, if_true, if_false, Bool.false_eq_true, Bool.true_eq_false, reduceCtorEq, List.take_length, eqV_int, List.length_cons, List.length_nil, hz, decide_false, dv, two]
    unfold nm
    rw [if_neg hz]
    exact lv rfl
theorem c24_top (h : plainD x = true) (hi : isI x = false) {y : D} : callK (pf K) (n + 2) 24 none [x, y] hp = bn "top" hp := by
  show leave hp.length (runs (L24 K (callK (pf K) (n + 1))) ⟨[some x, some y, none], hp, hp.length⟩) = _
  simp only [L24, y_nil, y_cons, y_asg, y_name, y_ret, y_drop, y_if, y_bl, y_tru, y_not, y_and, y_or, y_andE, y_orE, y_notE, y_con, y_var, y_bin, y_un, y_two, y_nilA, y_consA, y_call, y_make, y_stat, y_callV, y_callG, y_neg, y_tup, y_lst, y_ifE, y_raise, y_val, y_new, y_on, y_onx, y_mth, y_fmt, y_bits, y_tupG, y_consG, y_nilG, y_mthL, v_add, v_sub, v_neg, v_lt, v_le, v_gt, v_ge, v_tru, v_gcd, set0, set1, v_eqC, v_opC, v_negC, v_neC, Out.bind_ok, Out.bind_exn, List.getElem?_cons_zero, List.getElem?_cons_succ, List.append_nil, List.nil_append, List.cons_append, Bool.not_true, Bool.not_false, if_true, if_false, Bool.false_eq_true, Bool.true_eq_false, reduceCtorEq, List.take_length, eqV_int, List.length_cons, List.length_nil, c0 h, hi]
  exact lvx rfl
theorem c24_bot (h : plainD x = true) (hi : isI x = false ∨ x = .int 0) : callK (pf K) (n + 2) 24 none [.int t, x] hp = bn "bottom" hp := by
  show leave hp.length (runs (L24 K (callK (pf K) (n + 1))) ⟨[some (.int t), some x, none], hp, hp.length⟩) = _
  rcases hi with hi | hi
  · simp only [L24, y_nil, y_cons, y_asg, y_name, y_ret, y_drop, y_if, y_bl, y_tru, y_not, y_and, y_or, y_andE, y_orE, y_notE, y_con, y_var, y_bin, y_un, y_two, y_nilA, y_consA, y_call, y_make, y_stat, y_callV, y_callG, y_neg, y_tup, y_lst, y_ifE, y_raise, y_val, y_new, y_on, y_onx, y_mth, y_fmt, y_bits, y_tupG, y_consG, y_nilG, y_mthL, v_add, v_sub, v_neg, v_lt, v_le, v_gt, v_ge, v_tru, v_gcd, set0, set1, v_eqC, v_opC, v_negC, v_neC, Out.bind_ok, Out.bind_exn, List.getElem?_cons_zero, List.getElem?_cons_succ, List.append_nil, List.nil_append, List.cons_append, Bool.not_true, Bool.not_false, if_true, if_false, Bool.false_eq_true, Bool.true_eq_false, reduceCtorEq, List.take_length, eqV_int, List.length_cons, List.length_nil, c0 h, c0_int, hi]
    exact lvx rfl
  · subst hi
    simp only [L24, y_nil, y_cons, y_asg, y_name, y_ret, y_drop, y_if, y_bl, y_tru, y_not, y_and, y_or, y_andE, y_orE, y_notE, y_con, y_var, y_bin, y_un, y_two, y_nilA, y_consA, y_call, y_make, y_stat, y_callV, y_callG, y_neg, y_tup, y_lst, y_ifE, y_raise, y_val, y_new, y_on, y_onx, y_mth, y_fmt, y_bits, y_tupG, y_consG, y_nilG, y_mthL, v_add, v_sub, v_neg, v_lt, v_le, v_gt, v_ge, v_tru, v_gcd, set0, set1, v_eqC, v_opC, v_negC, v_neC, Out.bind_ok, Out.bind_exn, List.getElem?_cons_zero, List.getElem?_cons_succ, List.append_nil, List.nil_append, List.cons_append, Bool.not_true, Bool.not_false, if_true, if_false, Bool.false_eq_true, Bool.true_eq_false, reduceCtorEq, List.take_length, eqV_int, List.length_cons, List.length_nil, c0_int, decide_true]
    exact lvx rfl
/-! a new ratio -/
theorem get_last {α : Type} {l : List α} {x : α} : (l ++ [x])[l.length]? = some x := List.getElem?_concat_length
theorem set_last {α : Type} {l : List α} {x y : α} : (l ++ [x]).set l.length y = l ++ [y] := by
  rw [List.set_append_right _ _ (Nat.le_refl _), Nat.sub_self]
  rfl
theorem fg_t {e : List (Option D)} {y : D} (h : e[0]? = some (some (.ref hp.length))) : fldG (tb.px K) tb.noatF 4 2 (varE 0) y ⟨e, hp ++ [.ins 0 [] []], hp.length⟩ = .ok () ⟨e, hp ++ [.ins 0 [2] [y]], hp.length⟩ := by
  have hv : varE 0 ⟨e, hp ++ [.ins 0 [] []], hp.length⟩ = .ok (.ref hp.length) ⟨e, hp ++ [.ins 0 [] []], hp.length⟩ := by
    rw [y_var, h]
  have hc : (decide (0 < (tb.px K).ncls) && decide (2 < 4) && tb.noatF 0 2 && (([] : List Nat).all fun i => decide (i < 4)) && decide (([] : List Nat).length < 900) && decide (hp.length ≤ hp.length)) = true := by
    rw [decide_eq_true (Nat.le_refl hp.length), Bool.and_true]
    rfl
  unfold fldG
  rw [hv]
  show (match (hp ++ [Cell.ins 0 [] []])[hp.length]? with
    | some (.ins c fs xs) => if (decide (c < (tb.px K).ncls) && decide (2 < 4) && tb.noatF c 2 && (fs.all fun i => decide (i < 4)) && decide (fs.length < 900) && decide (hp.length ≤ hp.length)) = true then
        Out.ok () (⟨e, (hp ++ [Cell.ins 0 [] []]).set hp.length (.ins c (fldPut 2 y fs xs).1 (fldPut 2 y fs xs).2), hp.length⟩ : S) else .bad
    | _ => .bad) = _
  rw [get_last]
  dsimp only
  rw [if_pos hc, set_last]
  rfl
theorem fg_b {e : List (Option D)} {y z : D} (h : e[0]? = some (some (.ref hp.length))) : fldG (tb.px K) tb.noatF 4 3 (varE 0) y ⟨e, hp ++ [.ins 0 [2] [z]], hp.length⟩ = .ok () ⟨e, hp ++ [.ins 0 [2, 3] [z, y]], hp.length⟩ := by
  have hv : varE 0 ⟨e, hp ++ [.ins 0 [2] [z]], hp.length⟩ = .ok (.ref hp.length) ⟨e, hp ++ [.ins 0 [2] [z]], hp.length⟩ := by
    rw [y_var, h]
  have hc : (decide (0 < (tb.px K).ncls) && decide (3 < 4) && tb.noatF 0 3 && (([2] : List Nat).all fun i => decide (i < 4)) && decide (([2] : List Nat).length < 900) && decide (hp.length ≤ hp.length)) = true := by
    rw [decide_eq_true (Nat.le_refl hp.length), Bool.and_true]
    rfl
  unfold fldG
  rw [hv]
  show (match (hp ++ [Cell.ins 0 [2] [z]])[hp.length]? with
    | some (.ins c fs xs) => if (decide (c < (tb.px K).ncls) && decide (3 < 4) && tb.noatF c 3 && (fs.all fun i => decide (i < 4)) && decide (fs.length < 900) && decide (hp.length ≤ hp.length)) = true then
        Out.ok () (⟨e, (hp ++ [Cell.ins 0 [2] [z]]).set hp.length (.ins c (fldPut 3 y fs xs).1 (fldPut 3 y fs xs).2), hp.length⟩ : S) else .bad
    | _ => .bad) = _
  rw [get_last]
  dsimp only
  rw [if_pos hc, set_last]
  rfl
theorem fz_last {c : Cell} {xs : List D} (hc : c = .ins 0 [2, 3] xs) (hx : D.noRefs xs = true) : freeze (hp ++ [c]) hp.length (.ref hp.length) = some (.ins 0 [2, 3] xs) := by
  subst hc
  show fzCell (hp ++ [.ins 0 [2, 3] xs]) hp.length 8 hp.length = _
  unfold fzCell
  rw [if_neg (Nat.lt_irrefl _), get_last]
  dsimp only
  rw [fzs_pure hx]
theorem mk_end {e : List (Option D)} {xs : List D} (hx : D.noRefs xs = true) : leaveMk hp.length (.ok .next ⟨e, hp ++ [.ins 0 [2, 3] xs], hp.length⟩) = .ok (.ins 0 [2, 3] xs) hp := by
  show (match freeze (hp ++ [.ins 0 [2, 3] xs]) hp.length (.ref hp.length) with
    | some d' => OutC.ok d' ((hp ++ [Cell.ins 0 [2, 3] xs]).take hp.length)
    | none => .bad) = _
  rw [fz_last rfl hx]
  dsimp only
  rw [List.take_left' rfl]
theorem mk_exn {e : List (Option D)} {c : Nat} {fs : List Nat} {xs : List D} {q : Cell} (hx : D.noRefs xs = true) : leaveMk hp.length (.exn c fs xs ⟨e, hp ++ [q], hp.length⟩) = .exn c fs xs hp := by
  show (match freezes (hp ++ [q]) hp.length xs with
    | some xs' => OutC.exn c fs xs' ((hp ++ [q]).take hp.length)
    | none => .bad) = _
  unfold freezes
  rw [fzs_pure hx]
  dsimp only
  rw [List.take_left' rfl]
theorem c23 {k : Nat} (hb : b ≠ 0) (hk : b.natAbs < 2 ^ k) (h0 : 0 < k) (h9 : k ≤ 9000) : callK (pf K) (n + 3) 23 (some 0) [.int t, .int b] hp = .ok (rt (nm t b).1 (nm t b).2) hp := by
  refine (call_make (f := ⟨3, 3, false, B23 K⟩) rfl rfl).trans ?_
  have e1 := c24 (n := n) (K := K) (hp := hp ++ [.ins 0 [] []]) (t := t) hb hk h0 h9
  simp only [startEnv, List.map_cons, List.map_nil, List.length_cons, List.length_nil, Nat.sub_self, List.replicate, List.append_nil, List.cons_append, List.nil_append, B23, L23, y_nil, y_cons, y_asg, y_name, y_ret, y_drop, y_if, y_bl, y_tru, y_not, y_and, y_or, y_andE, y_orE, y_notE, y_con, y_var, y_bin, y_un, y_two, y_nilA, y_consA, y_call, y_make, y_stat, y_callV, y_callG, y_neg, y_tup, y_lst, y_ifE, y_raise, y_val, y_new, y_on, y_onx, y_mth, y_fmt, y_bits, y_tupG, y_consG, y_nilG, y_mthL, v_add, v_sub, v_neg, v_lt, v_le, v_gt, v_ge, v_tru, v_gcd, set0, set1, v_eqC, v_opC, v_negC, v_neC, Out.bind_ok, Out.bind_exn, List.getElem?_cons_zero, List.getElem?_cons_succ, List.append_nil, List.nil_append, List.cons_append, Bool.not_true, Bool.not_false, if_true, if_false, Bool.false_eq_true, Bool.true_eq_false, reduceCtorEq, List.take_length, eqV_int, List.length_cons, List.length_nil, e1]
  rw [fg_t rfl]
  simp only [y_nil, y_cons, y_asg, y_name, y_ret, y_drop, y_if, y_bl, y_tru, y_not, y_and, y_or, y_andE, y_orE, y_notE, y_con, y_var, y_bin, y_un, y_two, y_nilA, y_consA, y_call, y_make, y_stat, y_callV, y_callG, y_neg, y_tup, y_lst, y_ifE, y_raise, y_val, y_new, y_on, y_onx, y_mth, y_fmt, y_bits, y_tupG, y_consG, y_nilG, y_mthL, v_add, v_sub, v_neg, v_lt, v_le, v_gt, v_ge, v_tru, v_gcd, set0, set1, v_eqC, v_opC, v_negC, v_neC, Out.bind_ok, Out.bind_exn, List.getElem?_cons_zero, List.getElem?_cons_succ, List.append_nil, List.nil_append, List.cons_append, Bool.not_true, Bool.not_false, if_true, if_false, Bool.false_eq_true, Bool.true_eq_false, reduceCtorEq, List.take_length, eqV_int, List.length_cons, List.length_nil]
  rw [fg_b rfl]
  simp only [y_nil, y_cons, y_asg, y_name, y_ret, y_drop, y_if, y_bl, y_tru, y_not, y_and, y_or, y_andE, y_orE, y_notE, y_con, y_var, y_bin, y_un, y_two, y_nilA, y_consA, y_call, y_make, y_stat, y_callV, y_callG, y_neg, y_tup, y_lst, y_ifE, y_raise, y_val, y_new, y_on, y_onx, y_mth, y_fmt, y_bits, y_tupG, y_consG, y_nilG, y_mthL, v_add, v_sub, v_neg, v_lt, v_le, v_gt, v_ge, v_tru, v_gcd, set0, set1, v_eqC, v_opC, v_negC, v_neC, Out.bind_ok, Out.bind_exn, List.getElem?_cons_zero, List.getElem?_cons_succ, List.append_nil, List.nil_append, List.cons_append, Bool.not_true, Bool.not_false, if_true, if_false, Bool.false_eq_true, Bool.true_eq_false, reduceCtorEq, List.take_length, eqV_int, List.length_cons, List.length_nil]
  exact mk_end rfl
theorem c23_bad {y : D} (h : plainD x = true) (hi : isI x = false) : callK (pf K) (n + 3) 23 (some 0) [x, y] hp = bn "top" hp := by
  refine (call_make (f := ⟨3, 3, false, B23 K⟩) rfl rfl).trans ?_
  have e1 := c24_top (n := n) (K := K) (hp := hp ++ [.ins 0 [] []]) (y := y) h hi
  simp only [startEnv, List.map_cons, List.map_nil, List.length_cons, List.length_nil, Nat.sub_self, List.replicate, List.append_nil, List.cons_append, List.nil_append, B23, L23, y_nil, y_cons, y_asg, y_name, y_ret, y_drop, y_if, y_bl, y_tru, y_not, y_and, y_or, y_andE, y_orE, y_notE, y_con, y_var, y_bin, y_un, y_two, y_nilA, y_consA, y_call, y_make, y_stat, y_callV, y_callG, y_neg, y_tup, y_lst, y_ifE, y_raise, y_val, y_new, y_on, y_onx, y_mth, y_fmt, y_bits, y_tupG, y_consG, y_nilG, y_mthL, v_add, v_sub, v_neg, v_lt, v_le, v_gt, v_ge, v_tru, v_gcd, set0, set1, v_eqC, v_opC, v_negC, v_neC, Out.bind_ok, Out.bind_exn, List.getElem?_cons_zero, List.getElem?_cons_succ, List.append_nil, List.nil_append, List.cons_append, Bool.not_true, Bool.not_false, if_true, if_false, Bool.false_eq_true, Bool.true_eq_false, reduceCtorEq, List.take_length, eqV_int, List.length_cons, List.length_nil, e1]
  exact mk_exn rfl
theorem c23_bot (h : plainD x = true) (hi : isI x = false ∨ x = .int 0) : callK (pf K) (n + 3) 23 (some 0) [.int t, x] hp = bn "bottom" hp := by
  refine (call_make (f := ⟨3, 3, false, B23 K⟩) rfl rfl).trans ?_
  have e1 := c24_bot (n := n) (K := K) (hp := hp ++ [.ins 0 [] []]) (t := t) h hi
  simp only [startEnv, List.map_cons, List.map_nil, List.length_cons, List.length_nil, Nat.sub_self, List.replicate, List.append_nil, List.cons_append, List.nil_append, B23, L23, y_nil, y_cons, y_asg, y_name, y_ret, y_drop, y_if, y_bl, y_tru, y_not, y_and, y_or, y_andE, y_orE, y_notE, y_con, y_var, y_bin, y_un, y_two, y_nilA, y_consA, y_call, y_make, y_stat, y_callV, y_callG, y_neg, y_tup, y_lst, y_ifE, y_raise, y_val, y_new, y_on, y_onx, y_mth, y_fmt, y_bits, y_tupG, y_consG, y_nilG, y_mthL, v_add, v_sub, v_neg, v_lt, v_le, v_gt, v_ge, v_tru, v_gcd, set0, set1, v_eqC, v_opC, v_negC, v_neC, Out.bind_ok, Out.bind_exn, List.getElem?_cons_zero, List.getElem?_cons_succ, List.append_nil, List.nil_append, List.cons_append, Bool.not_true, Bool.not_false, if_true, if_false, Bool.false_eq_true, Bool.true_eq_false, reduceCtorEq, List.take_length, eqV_int, List.length_cons, List.length_nil, e1]
  exact mk_exn rfl
end
end Law
end

-- S78c
section
set_option maxHeartbeats 4000000
namespace Law
open PySem PySem.Spec Den
section
variable {K : PySem.W.Frag} {C : Calls} {n : Nat} {hp : List Cell} {t b u c i j : Int} {s : S} {a : SemE} {x y : D}
theorem o_add (h : okRight 0 y s.hp = true) : opC C (ow "__add__") (ow "__radd__") addV (rt t b) y s = (C 25 none [rt t b, y] s.hp).on s := by
  have e : opC C (ow "__add__") (ow "__radd__") addV (rt t b) y s = if okRight 0 y s.hp = true then (C 25 none [rt t b, y] s.hp).on s else .bad := by kernel_rfl
  rw [e, if_pos h]
theorem o_sub (h : okRight 0 y s.hp = true) : opC C (ow "__sub__") (ow "__rsub__") subV (rt t b) y s = (C 27 none [rt t b, y] s.hp).on s := by
  have e : opC C (ow "__sub__") (ow "__rsub__") subV (rt t b) y s = if okRight 0 y s.hp = true then (C 27 none [rt t b, y] s.hp).on s else .bad := by kernel_rfl
  rw [e, if_pos h]
theorem o_mul (h : okRight 0 y s.hp = true) : opC C (ow "__mul__") (ow "__rmul__") mulV (rt t b) y s = (C 29 none [rt t b, y] s.hp).on s := by
  have e : opC C (ow "__mul__") (ow "__rmul__") mulV (rt t b) y s = if okRight 0 y s.hp = true then (C 29 none [rt t b, y] s.hp).on s else .bad := by kernel_rfl
  rw [e, if_pos h]
theorem o_radd : opC C (ow "__add__") (ow "__radd__") addV (.int i) (rt t b) s = (C 26 none [rt t b, .int i] s.hp).on s := by kernel_rfl
theorem o_rsub : opC C (ow "__sub__") (ow "__rsub__") subV (.int i) (rt t b) s = (C 28 none [rt t b, .int i] s.hp).on s := by kernel_rfl
theorem o_rmul : opC C (ow "__mul__") (ow "__rmul__") mulV (.int i) (rt t b) s = (C 30 none [rt t b, .int i] s.hp).on s := by kernel_rfl
theorem o_neg : negC C (ow "__neg__") negV (rt t b) s = (C 31 none [rt t b] s.hp).on s := by kernel_rfl
theorem o_eq (h : okEq 0 y s.hp = true) : eqC C (ow "__eq__") (eqV false) (rt t b) y s = (C 32 none [rt t b, y] s.hp).on s := by
  have e : eqC C (ow "__eq__") (eqV false) (rt t b) y s = if okEq 0 y s.hp = true then (C 32 none [rt t b, y] s.hp).on s else .bad := by kernel_rfl
  rw [e, if_pos h]
theorem ok_rt {h : List Cell} : okRight 0 (rt t b) h = true := rfl
theorem ok_eqrt {h : List Cell} : okEq 0 (rt t b) h = true := rfl
theorem ok_eqint {h : List Cell} : okEq 0 (.int i) h = true := rfl
theorem ok_int {h : List Cell} : okRight 0 (.int i) h = true := rfl
/-- a number as the program takes it: a ratio, or an int in its place -/
inductive Num : D → Int → Int → Prop
  | rt (t b : Int) : Num (rt t b) t b
  | int (i : Int) : Num (.int i) i 1
theorem Num.okR {h : List Cell} (q : Num x t b) : okRight 0 x h = true := by cases q <;> rfl
theorem Num.okE {h : List Cell} (q : Num x t b) : okEq 0 x h = true := by cases q <;> rfl
theorem Num.plain (q : Num x t b) : plainD x = true := by cases q <;> rfl
/-! is_ratio -/
def isR : D → Bool
  | .int _ => true
  | .ins _ _ _ => true
  | _ => false
theorem c1 (h : plainD x = true) : callK (pf K) (n + 2) 1 none [x] hp = .ok (.bl (isR x)) hp := by
  refine (call_none (f := ⟨1, 1, false, B1 K⟩) rfl rfl rfl).trans ?_
  obtain ⟨_, _, e3⟩ := isa2 (K := K) (hp := hp) h
  simp only [startEnv, List.map_cons, List.map_nil, List.length_cons, List.length_nil, Nat.sub_self, List.replicate, List.append_nil, List.cons_append, List.nil_append, B1, L1, y_nil, y_cons, y_asg, y_name, y_ret, y_drop, y_if, y_bl, y_tru, y_not, y_and, y_or, y_andE, y_orE, y_notE, y_con, y_var, y_bin, y_un, y_two, y_nilA, y_consA, y_call, y_make, y_stat, y_callV, y_callG, y_neg, y_tup, y_lst, y_ifE, y_raise, y_val, y_new, y_on, y_onx, y_mth, y_fmt, y_bits, y_tupG, y_consG, y_nilG, y_mthL, v_add, v_sub, v_neg, v_lt, v_le, v_gt, v_ge, v_tru, v_gcd, set0, set1, v_eqC, v_opC, v_negC, v_neC, Out.bind_ok, Out.bind_exn, List.getElem?_cons_zero, List.getElem?_cons_succ, List.append_nil, List.nil_append, List.cons_append, Bool.not_true, Bool.not_false, if_true, if_false, Bool.false_eq_true, Bool.true_eq_false, reduceCtorEq, List.take_length, eqV_int, List.length_cons, List.length_nil, e3, c0 h]
  cases x <;> first | (cases h; done) | (simp only [y_nil, y_cons, y_asg, y_name, y_ret, y_drop, y_if, y_bl, y_tru, y_not, y_and, y_or, y_andE, y_orE, y_notE, y_con, y_var, y_bin, y_un, y_two, y_nilA, y_consA, y_call, y_make, y_stat, y_callV, y_callG, y_neg, y_tup, y_lst, y_ifE, y_raise, y_val, y_new, y_on, y_onx, y_mth, y_fmt, y_bits, y_tupG, y_consG, y_nilG, y_mthL, v_add, v_sub, v_neg, v_lt, v_le, v_gt, v_ge, v_tru, v_gcd, set0, set1, v_eqC, v_opC, v_negC, v_neC, Out.bind_ok, Out.bind_exn, List.getElem?_cons_zero, List.getElem?_cons_succ, List.append_nil, List.nil_append, List.cons_append, Bool.not_true, Bool.not_false, if_true, if_false, Bool.false_eq_true, Bool.true_eq_false, reduceCtorEq, List.take_length, eqV_int, List.length_cons, List.length_nil, isN, isI]; exact lv rfl)
theorem Num.isR (q : Num x t b) : Law.isR x = true := by cases q <;> rfl
/-! ratio_of -/
theorem nm_int : nm i 1 = (i, 1) := nm_one (by decide) (by simp)
theorem c2 (q : Num x t b) : callK (pf K) (n + 4) 2 none [x] hp = .ok (rt t b) hp := by
  refine (call_none (f := ⟨1, 1, false, B2 K⟩) rfl rfl rfl).trans ?_
  obtain ⟨e1, _, e3⟩ := isa2 (K := K) (hp := hp) q.plain
  cases q with
  | rt t b =>
    simp only [startEnv, List.map_cons, List.map_nil, List.length_cons, List.length_nil, Nat.sub_self, List.replicate, List.append_nil, List.cons_append, List.nil_append, B2, L2, y_nil, y_cons, y_asg, y_name, y_ret, y_drop, y_if, y_bl, y_tru, y_not, y_and, y_or, y_andE, y_orE, y_notE, y_con, y_var, y_bin, y_un, y_two, y_nilA, y_consA, y_call, y_make, y_stat, y_callV, y_callG, y_neg, y_tup, y_lst, y_ifE, y_raise, y_val, y_new, y_on, y_onx, y_mth, y_fmt, y_bits, y_tupG, y_consG, y_nilG, y_mthL, v_add, v_sub, v_neg, v_lt, v_le, v_gt, v_ge, v_tru, v_gcd, set0, set1, v_eqC, v_opC, v_negC, v_neC, Out.bind_ok, Out.bind_exn, List.getElem?_cons_zero, List.getElem?_cons_succ, List.append_nil, List.nil_append, List.cons_append, Bool.not_true, Bool.not_false, if_true, if_false, Bool.false_eq_true, Bool.true_eq_false, reduceCtorEq, List.take_length, eqV_int, List.length_cons, List.length_nil, e3, isN]
    exact lv rfl
  | int =>
    have e4 := c23 (K := K) (n := n) (hp := hp) (t := t) (b := 1) (k := 1) (by decide) (by decide) (by decide) (by decide)
    rw [nm_int] at e4
    simp only [startEnv, List.map_cons, List.map_nil, List.length_cons, List.length_nil, Nat.sub_self, List.replicate, List.append_nil, List.cons_append, List.nil_append, B2, L2, y_nil, y_cons, y_asg, y_name, y_ret, y_drop, y_if, y_bl, y_tru, y_not, y_and, y_or, y_andE, y_orE, y_notE, y_con, y_var, y_bin, y_un, y_two, y_nilA, y_consA, y_call, y_make, y_stat, y_callV, y_callG, y_neg, y_tup, y_lst, y_ifE, y_raise, y_val, y_new, y_on, y_onx, y_mth, y_fmt, y_bits, y_tupG, y_consG, y_nilG, y_mthL, v_add, v_sub, v_neg, v_lt, v_le, v_gt, v_ge, v_tru, v_gcd, set0, set1, v_eqC, v_opC, v_negC, v_neC, Out.bind_ok, Out.bind_exn, List.getElem?_cons_zero, List.getElem?_cons_succ, List.append_nil, List.nil_append, List.cons_append, Bool.not_true, Bool.not_false, if_true, if_false, Bool.false_eq_true, Bool.true_eq_false, reduceCtorEq, List.take_length, eqV_int, List.length_cons, List.length_nil, e3, isN, c0_int, e4]
    exact lv rfl
theorem c2_bad (h : plainD x = true) (hr : isR x = false) : callK (pf K) (n + 4) 2 none [x] hp = bn "thing" hp := by
  refine (call_none (f := ⟨1, 1, false, B2 K⟩) rfl rfl rfl).trans ?_
  obtain ⟨e1, _, e3⟩ := isa2 (K := K) (hp := hp) h
  have hi : isI x = false := by
    cases x <;> first | rfl | (cases hr; done)
  have hx : isN x = false := by
    cases x <;> first | rfl | (cases hr; done)
  rw [hx] at e3
  simp only [startEnv, List.map_cons, List.map_nil, List.length_cons, List.length_nil, Nat.sub_self, List.replicate, List.append_nil, List.cons_append, List.nil_append, B2, L2, y_nil, y_cons, y_asg, y_name, y_ret, y_drop, y_if, y_bl, y_tru, y_not, y_and, y_or, y_andE, y_orE, y_notE, y_con, y_var, y_bin, y_un, y_two, y_nilA, y_consA, y_call, y_make, y_stat, y_callV, y_callG, y_neg, y_tup, y_lst, y_ifE, y_raise, y_val, y_new, y_on, y_onx, y_mth, y_fmt, y_bits, y_tupG, y_consG, y_nilG, y_mthL, v_add, v_sub, v_neg, v_lt, v_le, v_gt, v_ge, v_tru, v_gcd, set0, set1, v_eqC, v_opC, v_negC, v_neC, Out.bind_ok, Out.bind_exn, List.getElem?_cons_zero, List.getElem?_cons_succ, List.append_nil, List.nil_append, List.cons_append, Bool.not_true, Bool.not_false, if_true, if_false, Bool.false_eq_true, Bool.true_eq_false, reduceCtorEq, List.take_length, eqV_int, List.length_cons, List.length_nil, e3, c0 h, hi]
  exact lvx rfl
/-! sums, products -/
theorem nz {b c : Int} (hb : 1 ≤ b) (hc : 1 ≤ c) : b * c ≠ 0 := Int.mul_ne_zero (by omega) (by omega)
section
variable {k : Nat} (hb : 1 ≤ b) (hc : 1 ≤ c) (h1 : t.natAbs < 2 ^ k) (h2 : b.natAbs < 2 ^ k) (h3 : u.natAbs < 2 ^ k) (h4 : c.natAbs < 2 ^ k) (h0 : 0 < k) (h9 : k + k ≤ 9000)
include hb hc h1 h2 h3 h4 h0 h9
theorem c25 (q : Num x u c) : callK (pf K) (n + 5) 25 none [rt t b, x] hp = .ok (rt (nm (t * c + u * b) (b * c)).1 (nm (t * c + u * b) (b * c)).2) hp := by
  refine (call_none (f := ⟨3, 2, false, B25 K⟩) rfl rfl rfl).trans ?_
  have e1 := c1 (K := K) (n := n + 2) (hp := hp) q.plain
  rw [q.isR] at e1
  have e2 := c2 (K := K) (n := n) (hp := hp) q
  have m1 : ∀ h : List Cell, mulV (.int t) (.int c) h = .val (.int (t * c)) := fun h => v_mul (mulOk_b h1 h4 h0 h0 (by omega))
  have m2 : ∀ h : List Cell, mulV (.int u) (.int b) h = .val (.int (u * b)) := fun h => v_mul (mulOk_b h3 h2 h0 h0 (by omega))
  have m3 : ∀ h : List Cell, mulV (.int b) (.int c) h = .val (.int (b * c)) := fun h => v_mul (mulOk_b h2 h4 h0 h0 (by omega))
  have e3 := c23 (K := K) (n := n + 1) (hp := hp) (t := t * c + u * b) (nz hb hc) (mul_b h2 h4) (by omega) h9
  simp only [startEnv, List.map_cons, List.map_nil, List.length_cons, List.length_nil, Nat.sub_self, List.replicate, List.append_nil, List.cons_append, List.nil_append, B25, L25, y_nil, y_cons, y_asg, y_name, y_ret, y_drop, y_if, y_bl, y_tru, y_not, y_and, y_or, y_andE, y_orE, y_notE, y_con, y_var, y_bin, y_un, y_two, y_nilA, y_consA, y_call, y_make, y_stat, y_callV, y_callG, y_neg, y_tup, y_lst, y_ifE, y_raise, y_val, y_new, y_on, y_onx, y_mth, y_fmt, y_bits, y_tupG, y_consG, y_nilG, y_mthL, v_add, v_sub, v_neg, v_lt, v_le, v_gt, v_ge, v_tru, v_gcd, set0, set1, v_eqC, v_opC, v_negC, v_neC, Out.bind_ok, Out.bind_exn, List.getElem?_cons_zero, List.getElem?_cons_succ, List.append_nil, List.nil_append, List.cons_append, Bool.not_true, Bool.not_false, if_true, if_false, Bool.false_eq_true, Bool.true_eq_false, reduceCtorEq, List.take_length, eqV_int, List.length_cons, List.length_nil, e1, e2, fld_t (a := varE _), fld_b (a := varE _), fld_t1, fld_b1, m1, m2, m3, e3]
  exact lv rfl
theorem c29 (q : Num x u c) : callK (pf K) (n + 5) 29 none [rt t b, x] hp = .ok (rt (nm (t * u) (b * c)).1 (nm (t * u) (b * c)).2) hp := by
  refine (call_none (f := ⟨3, 2, false, B29 K⟩) rfl rfl rfl).trans ?_
  have e1 := c1 (K := K) (n := n + 2) (hp := hp) q.plain
  rw [q.isR] at e1
  have e2 := c2 (K := K) (n := n) (hp := hp) q
  have m1 : ∀ h : List Cell, mulV (.int t) (.int u) h = .val (.int (t * u)) := fun h => v_mul (mulOk_b h1 h3 h0 h0 (by omega))
  have m3 : ∀ h : List Cell, mulV (.int b) (.int c) h = .val (.int (b * c)) := fun h => v_mul (mulOk_b h2 h4 h0 h0 (by omega))
  have e3 := c23 (K := K) (n := n + 1) (hp := hp) (t := t * u) (nz hb hc) (mul_b h2 h4) (by omega) h9
  simp only [startEnv, List.map_cons, List.map_nil, List.length_cons, List.length_nil, Nat.sub_self, List.replicate, List.append_nil, List.cons_append, List.nil_append, B29, L29, y_nil, y_cons, y_asg, y_name, y_ret, y_drop, y_if, y_bl, y_tru, y_not, y_and, y_or, y_andE, y_orE, y_notE, y_con, y_var, y_bin, y_un, y_two, y_nilA, y_consA, y_call, y_make, y_stat, y_callV, y_callG, y_neg, y_tup, y_lst, y_ifE, y_raise, y_val, y_new, y_on, y_onx, y_mth, y_fmt, y_bits, y_tupG, y_consG, y_nilG, y_mthL, v_add, v_sub, v_neg, v_lt, v_le, v_gt, v_ge, v_tru, v_gcd, set0, set1, v_eqC, v_opC, v_negC, v_neC, Out.bind_ok, Out.bind_exn, List.getElem?_cons_zero, List.getElem?_cons_succ, List.append_nil, List.nil_append, List.cons_append, Bool.not_true, Bool.not_false, if_true, if_false, Bool.false_eq_true, Bool.true_eq_false, reduceCtorEq, List.take_length, eqV_int, List.length_cons, List.length_nil, e1, e2, fld_t (a := varE _), fld_b (a := varE _), fld_t1, fld_b1, m1, m3, e3]
  exact lv rfl
end
end
end Law
end

-- S78d
section
set_option maxHeartbeats 4000000
namespace Law
open PySem PySem.Spec Den
section
variable {K : PySem.W.Frag} {C : Calls} {n : Nat} {hp : List Cell} {t b u c i j : Int} {s : S} {a : SemE} {x y : D}
theorem neg_one {u c : Int} (hc : 1 ≤ c) (g : Int.gcd u c = 1) : nm (-u) c = (-u, c) := nm_one hc (by rw [Int.neg_gcd]; exact g)
/-! the rest of the signs -/
theorem c31 {k : Nat} (hb : 1 ≤ b) (g : Int.gcd t b = 1) (h2 : b.natAbs < 2 ^ k) (h0 : 0 < k) (h9 : k ≤ 9000) : callK (pf K) (n + 4) 31 none [rt t b] hp = .ok (rt (-t) b) hp := by
  refine (call_none (f := ⟨1, 1, false, B31 K⟩) rfl rfl rfl).trans ?_
  have e3 := c23 (K := K) (n := n) (hp := hp) (t := -t) (b := b) (by omega) h2 h0 h9
  rw [neg_one hb g] at e3
  simp only [startEnv, List.map_cons, List.map_nil, List.length_cons, List.length_nil, Nat.sub_self, List.replicate, List.append_nil, List.cons_append, List.nil_append, B31, L31, y_nil, y_cons, y_asg, y_name, y_ret, y_drop, y_if, y_bl, y_tru, y_not, y_and, y_or, y_andE, y_orE, y_notE, y_con, y_var, y_bin, y_un, y_two, y_nilA, y_consA, y_call, y_make, y_stat, y_callV, y_callG, y_neg, y_tup, y_lst, y_ifE, y_raise, y_val, y_new, y_on, y_onx, y_mth, y_fmt, y_bits, y_tupG, y_consG, y_nilG, y_mthL, v_add, v_sub, v_neg, v_lt, v_le, v_gt, v_ge, v_tru, v_gcd, set0, set1, v_eqC, v_opC, v_negC, v_neC, Out.bind_ok, Out.bind_exn, List.getElem?_cons_zero, List.getElem?_cons_succ, List.append_nil, List.nil_append, List.cons_append, Bool.not_true, Bool.not_false, if_true, if_false, Bool.false_eq_true, Bool.true_eq_false, reduceCtorEq, List.take_length, eqV_int, List.length_cons, List.length_nil, fld_t (a := varE _), fld_b (a := varE _), fld_t1, fld_b1, e3]
  exact lv rfl
section
variable {k : Nat} (hb : 1 ≤ b) (hc : 1 ≤ c) (h1 : t.natAbs < 2 ^ k) (h2 : b.natAbs < 2 ^ k) (h3 : u.natAbs < 2 ^ k) (h4 : c.natAbs < 2 ^ k) (h0 : 0 < k) (h9 : k + k ≤ 9000)
include hb hc h1 h2 h3 h4 h0 h9
theorem c26 (q : Num x u c) : callK (pf K) (n + 6) 26 none [rt t b, x] hp = .ok (rt (nm (t * c + u * b) (b * c)).1 (nm (t * c + u * b) (b * c)).2) hp := by
  refine (call_none (f := ⟨2, 2, false, B26 K⟩) rfl rfl rfl).trans ?_
  have e := c25 (K := K) (n := n) (hp := hp) hb hc h1 h2 h3 h4 h0 h9 q
  simp only [startEnv, List.map_cons, List.map_nil, List.length_cons, List.length_nil, Nat.sub_self, List.replicate, List.append_nil, List.cons_append, List.nil_append, B26, L26, y_nil, y_cons, y_asg, y_name, y_ret, y_drop, y_if, y_bl, y_tru, y_not, y_and, y_or, y_andE, y_orE, y_notE, y_con, y_var, y_bin, y_un, y_two, y_nilA, y_consA, y_call, y_make, y_stat, y_callV, y_callG, y_neg, y_tup, y_lst, y_ifE, y_raise, y_val, y_new, y_on, y_onx, y_mth, y_fmt, y_bits, y_tupG, y_consG, y_nilG, y_mthL, v_add, v_sub, v_neg, v_lt, v_le, v_gt, v_ge, v_tru, v_gcd, set0, set1, v_eqC, v_opC, v_negC, v_neC, Out.bind_ok, Out.bind_exn, List.getElem?_cons_zero, List.getElem?_cons_succ, List.append_nil, List.nil_append, List.cons_append, Bool.not_true, Bool.not_false, if_true, if_false, Bool.false_eq_true, Bool.true_eq_false, reduceCtorEq, List.take_length, eqV_int, List.length_cons, List.length_nil, o_add q.okR, e]
  exact lv rfl
theorem c30 (q : Num x u c) : callK (pf K) (n + 6) 30 none [rt t b, x] hp = .ok (rt (nm (t * u) (b * c)).1 (nm (t * u) (b * c)).2) hp := by
  refine (call_none (f := ⟨2, 2, false, B30 K⟩) rfl rfl rfl).trans ?_
  have e := c29 (K := K) (n := n) (hp := hp) hb hc h1 h2 h3 h4 h0 h9 q
  simp only [startEnv, List.map_cons, List.map_nil, List.length_cons, List.length_nil, Nat.sub_self, List.replicate, List.append_nil, List.cons_append, List.nil_append, B30, L30, y_nil, y_cons, y_asg, y_name, y_ret, y_drop, y_if, y_bl, y_tru, y_not, y_and, y_or, y_andE, y_orE, y_notE, y_con, y_var, y_bin, y_un, y_two, y_nilA, y_consA, y_call, y_make, y_stat, y_callV, y_callG, y_neg, y_tup, y_lst, y_ifE, y_raise, y_val, y_new, y_on, y_onx, y_mth, y_fmt, y_bits, y_tupG, y_consG, y_nilG, y_mthL, v_add, v_sub, v_neg, v_lt, v_le, v_gt, v_ge, v_tru, v_gcd, set0, set1, v_eqC, v_opC, v_negC, v_neC, Out.bind_ok, Out.bind_exn, List.getElem?_cons_zero, List.getElem?_cons_succ, List.append_nil, List.nil_append, List.cons_append, Bool.not_true, Bool.not_false, if_true, if_false, Bool.false_eq_true, Bool.true_eq_false, reduceCtorEq, List.take_length, eqV_int, List.length_cons, List.length_nil, o_mul q.okR, e]
  exact lv rfl
theorem c27 (q : Num x u c) (g : Int.gcd u c = 1) : callK (pf K) (n + 6) 27 none [rt t b, x] hp = .ok (rt (nm (t * c + -u * b) (b * c)).1 (nm (t * c + -u * b) (b * c)).2) hp := by
  refine (call_none (f := ⟨2, 2, false, B27 K⟩) rfl rfl rfl).trans ?_
  have e1 := c1 (K := K) (n := n + 3) (hp := hp) q.plain
  rw [q.isR] at e1
  have e2 := c2 (K := K) (n := n + 1) (hp := hp) q
  have e3 := c31 (K := K) (n := n + 1) (hp := hp) (t := u) (b := c) hc g h4 h0 (by omega)
  have e := c25 (K := K) (n := n) (hp := hp) (u := -u) hb hc h1 h2 (by rw [Int.natAbs_neg]; exact h3) h4 h0 h9 (Num.rt (-u) c)
  simp only [startEnv, List.map_cons, List.map_nil, List.length_cons, List.length_nil, Nat.sub_self, List.replicate, List.append_nil, List.cons_append, List.nil_append, B27, L27, y_nil, y_cons, y_asg, y_name, y_ret, y_drop, y_if, y_bl, y_tru, y_not, y_and, y_or, y_andE, y_orE, y_notE, y_con, y_var, y_bin, y_un, y_two, y_nilA, y_consA, y_call, y_make, y_stat, y_callV, y_callG, y_neg, y_tup, y_lst, y_ifE, y_raise, y_val, y_new, y_on, y_onx, y_mth, y_fmt, y_bits, y_tupG, y_consG, y_nilG, y_mthL, v_add, v_sub, v_neg, v_lt, v_le, v_gt, v_ge, v_tru, v_gcd, set0, set1, v_eqC, v_opC, v_negC, v_neC, Out.bind_ok, Out.bind_exn, List.getElem?_cons_zero, List.getElem?_cons_succ, List.append_nil, List.nil_append, List.cons_append, Bool.not_true, Bool.not_false, if_true, if_false, Bool.false_eq_true, Bool.true_eq_false, reduceCtorEq, List.take_length, eqV_int, List.length_cons, List.length_nil, e1, e2, o_neg, e3, o_add ok_rt, e]
  exact lv rfl
theorem c28 (q : Num x u c) (g : Int.gcd t b = 1) : callK (pf K) (n + 6) 28 none [rt t b, x] hp = .ok (rt (nm (-t * c + u * b) (b * c)).1 (nm (-t * c + u * b) (b * c)).2) hp := by
  refine (call_none (f := ⟨2, 2, false, B28 K⟩) rfl rfl rfl).trans ?_
  have e3 := c31 (K := K) (n := n + 1) (hp := hp) (t := t) (b := b) hb g h2 h0 (by omega)
  have e := c25 (K := K) (n := n) (hp := hp) (t := -t) hb hc (by rw [Int.natAbs_neg]; exact h1) h2 h3 h4 h0 h9 q
  simp only [startEnv, List.map_cons, List.map_nil, List.length_cons, List.length_nil, Nat.sub_self, List.replicate, List.append_nil, List.cons_append, List.nil_append, B28, L28, y_nil, y_cons, y_asg, y_name, y_ret, y_drop, y_if, y_bl, y_tru, y_not, y_and, y_or, y_andE, y_orE, y_notE, y_con, y_var, y_bin, y_un, y_two, y_nilA, y_consA, y_call, y_make, y_stat, y_callV, y_callG, y_neg, y_tup, y_lst, y_ifE, y_raise, y_val, y_new, y_on, y_onx, y_mth, y_fmt, y_bits, y_tupG, y_consG, y_nilG, y_mthL, v_add, v_sub, v_neg, v_lt, v_le, v_gt, v_ge, v_tru, v_gcd, set0, set1, v_eqC, v_opC, v_negC, v_neC, Out.bind_ok, Out.bind_exn, List.getElem?_cons_zero, List.getElem?_cons_succ, List.append_nil, List.nil_append, List.cons_append, Bool.not_true, Bool.not_false, if_true, if_false, Bool.false_eq_true, Bool.true_eq_false, reduceCtorEq, List.take_length, eqV_int, List.length_cons, List.length_nil, o_neg, e3, o_add q.okR, e]
  exact lv rfl
end
/-! == -/
theorem c32 (q : Num x u c) : callK (pf K) (n + 2) 32 none [rt t b, x] hp = .ok (.bl (decide (t = u) && decide (b = c))) hp := by
  refine (call_none (f := ⟨2, 2, false, B32 K⟩) rfl rfl rfl).trans ?_
  obtain ⟨_, _, e3⟩ := isa2 (K := K) (hp := hp) q.plain
  cases q with
  | rt u c =>
    simp only [startEnv, List.map_cons, List.map_nil, List.length_cons, List.length_nil, Nat.sub_self, List.replicate, List.append_nil, List.cons_append, List.nil_append, B32, L32, y_nil, y_cons, y_asg, y_name, y_ret, y_drop, y_if, y_bl, y_tru, y_not, y_and, y_or, y_andE, y_orE, y_notE, y_con, y_var, y_bin, y_un, y_two, y_nilA, y_consA, y_call, y_make, y_stat, y_callV, y_callG, y_neg, y_tup, y_lst, y_ifE, y_raise, y_val, y_new, y_on, y_onx, y_mth, y_fmt, y_bits, y_tupG, y_consG, y_nilG, y_mthL, v_add, v_sub, v_neg, v_lt, v_le, v_gt, v_ge, v_tru, v_gcd, set0, set1, v_eqC, v_opC, v_negC, v_neC, Out.bind_ok, Out.bind_exn, List.getElem?_cons_zero, List.getElem?_cons_succ, List.append_nil, List.nil_append, List.cons_append, Bool.not_true, Bool.not_false, if_true, if_false, Bool.false_eq_true, Bool.true_eq_false, reduceCtorEq, List.take_length, eqV_int, List.length_cons, List.length_nil, e3, isN, fld_t (a := varE _), fld_b (a := varE _), fld_t1, fld_b1]
    by_cases h : t = u
    · simp only [y_nil, y_cons, y_asg, y_name, y_ret, y_drop, y_if, y_bl, y_tru, y_not, y_and, y_or, y_andE, y_orE, y_notE, y_con, y_var, y_bin, y_un, y_two, y_nilA, y_consA, y_call, y_make, y_stat, y_callV, y_callG, y_neg, y_tup, y_lst, y_ifE, y_raise, y_val, y_new, y_on, y_onx, y_mth, y_fmt, y_bits, y_tupG, y_consG, y_nilG, y_mthL, v_add, v_sub, v_neg, v_lt, v_le, v_gt, v_ge, v_tru, v_gcd, set0, set1, v_eqC, v_opC, v_negC, v_neC, Out.bind_ok, Out.bind_exn, List.getElem?_cons_zero, List.getElem?_cons_succ, List.append_nil, List.nil_append, List.cons_append, Bool.not_true, Bool.not_false, if_true, if_false, Bool.false_eq_true, Bool.true_eq_false, reduceCtorEq, List.take_length, eqV_int, List.length_cons, List.length_nil, h, decide_true, Bool.true_and]
      exact lv rfl
    · simp only [y_nil, y_cons, y_asg, y_name, y_ret, y_drop, y_if, y_bl, y_tru, y_not, y_and, y_or, y_andE, y_orE, y_notE, y_con, y_var, y_bin, y_un, y_two, y_nilA, y_consA, y_call, y_make, y_stat, y_callV, y_callG, y_neg, y_tup, y_lst, y_ifE, y_raise, y_val, y_new, y_on, y_onx, y_mth, y_fmt, y_bits, y_tupG, y_consG, y_nilG, y_mthL, v_add, v_sub, v_neg, v_lt, v_le, v_gt, v_ge, v_tru, v_gcd, set0, set1, v_eqC, v_opC, v_negC, v_neC, Out.bind_ok, Out.bind_exn, List.getElem?_cons_zero, List.getElem?_cons_succ, List.append_nil, List.nil_append, List.cons_append, Bool.not_true, Bool.not_false, if_true, if_false, Bool.false_eq_true, Bool.true_eq_false, reduceCtorEq, List.take_length, eqV_int, List.length_cons, List.length_nil, h, decide_false, Bool.false_and]
      exact lv rfl
  | int =>
    simp only [startEnv, List.map_cons, List.map_nil, List.length_cons, List.length_nil, Nat.sub_self, List.replicate, List.append_nil, List.cons_append, List.nil_append, B32, L32, y_nil, y_cons, y_asg, y_name, y_ret, y_drop, y_if, y_bl, y_tru, y_not, y_and, y_or, y_andE, y_orE, y_notE, y_con, y_var, y_bin, y_un, y_two, y_nilA, y_consA, y_call, y_make, y_stat, y_callV, y_callG, y_neg, y_tup, y_lst, y_ifE, y_raise, y_val, y_new, y_on, y_onx, y_mth, y_fmt, y_bits, y_tupG, y_consG, y_nilG, y_mthL, v_add, v_sub, v_neg, v_lt, v_le, v_gt, v_ge, v_tru, v_gcd, set0, set1, v_eqC, v_opC, v_negC, v_neC, Out.bind_ok, Out.bind_exn, List.getElem?_cons_zero, List.getElem?_cons_succ, List.append_nil, List.nil_append, List.cons_append, Bool.not_true, Bool.not_false, if_true, if_false, Bool.false_eq_true, Bool.true_eq_false, reduceCtorEq, List.take_length, eqV_int, List.length_cons, List.length_nil, e3, isN, c0_int, fld_t (a := varE _), fld_b (a := varE _), fld_t1, fld_b1]
    by_cases h : b = 1
    · simp only [y_nil, y_cons, y_asg, y_name, y_ret, y_drop, y_if, y_bl, y_tru, y_not, y_and, y_or, y_andE, y_orE, y_notE, y_con, y_var, y_bin, y_un, y_two, y_nilA, y_consA, y_call, y_make, y_stat, y_callV, y_callG, y_neg, y_tup, y_lst, y_ifE, y_raise, y_val, y_new, y_on, y_onx, y_mth, y_fmt, y_bits, y_tupG, y_consG, y_nilG, y_mthL, v_add, v_sub, v_neg, v_lt, v_le, v_gt, v_ge, v_tru, v_gcd, set0, set1, v_eqC, v_opC, v_negC, v_neC, Out.bind_ok, Out.bind_exn, List.getElem?_cons_zero, List.getElem?_cons_succ, List.append_nil, List.nil_append, List.cons_append, Bool.not_true, Bool.not_false, if_true, if_false, Bool.false_eq_true, Bool.true_eq_false, reduceCtorEq, List.take_length, eqV_int, List.length_cons, List.length_nil, h, decide_true, Bool.and_true]
      exact lv rfl
    · simp only [y_nil, y_cons, y_asg, y_name, y_ret, y_drop, y_if, y_bl, y_tru, y_not, y_and, y_or, y_andE, y_orE, y_notE, y_con, y_var, y_bin, y_un, y_two, y_nilA, y_consA, y_call, y_make, y_stat, y_callV, y_callG, y_neg, y_tup, y_lst, y_ifE, y_raise, y_val, y_new, y_on, y_onx, y_mth, y_fmt, y_bits, y_tupG, y_consG, y_nilG, y_mthL, v_add, v_sub, v_neg, v_lt, v_le, v_gt, v_ge, v_tru, v_gcd, set0, set1, v_eqC, v_opC, v_negC, v_neC, Out.bind_ok, Out.bind_exn, List.getElem?_cons_zero, List.getElem?_cons_succ, List.append_nil, List.nil_append, List.cons_append, Bool.not_true, Bool.not_false, if_true, if_false, Bool.false_eq_true, Bool.true_eq_false, reduceCtorEq, List.take_length, eqV_int, List.length_cons, List.length_nil, h, decide_false, Bool.and_false]
      exact lv rfl
theorem c32_bad (h : plainD x = true) (hr : isR x = false) : callK (pf K) (n + 2) 32 none [rt t b, x] hp = .ok (.bl false) hp := by
  refine (call_none (f := ⟨2, 2, false, B32 K⟩) rfl rfl rfl).trans ?_
  obtain ⟨_, _, e3⟩ := isa2 (K := K) (hp := hp) h
  have hi : isI x = false := by
    cases x <;> first | rfl | (cases hr; done)
  have hx : isN x = false := by
    cases x <;> first | rfl | (cases hr; done)
  rw [hx] at e3
  simp only [startEnv, List.map_cons, List.map_nil, List.length_cons, List.length_nil, Nat.sub_self, List.replicate, List.append_nil, List.cons_append, List.nil_append, B32, L32, y_nil, y_cons, y_asg, y_name, y_ret, y_drop, y_if, y_bl, y_tru, y_not, y_and, y_or, y_andE, y_orE, y_notE, y_con, y_var, y_bin, y_un, y_two, y_nilA, y_consA, y_call, y_make, y_stat, y_callV, y_callG, y_neg, y_tup, y_lst, y_ifE, y_raise, y_val, y_new, y_on, y_onx, y_mth, y_fmt, y_bits, y_tupG, y_consG, y_nilG, y_mthL, v_add, v_sub, v_neg, v_lt, v_le, v_gt, v_ge, v_tru, v_gcd, set0, set1, v_eqC, v_opC, v_negC, v_neC, Out.bind_ok, Out.bind_exn, List.getElem?_cons_zero, List.getElem?_cons_succ, List.append_nil, List.nil_append, List.cons_append, Bool.not_true, Bool.not_false, if_true, if_false, Bool.false_eq_true, Bool.true_eq_false, reduceCtorEq, List.take_length, eqV_int, List.length_cons, List.length_nil, e3, c0 h, hi]
  exact lv rfl
/-! truth -/
theorem b_bl {z : Bool} {h : List Cell} : boolG C (ow "__bool__") [.bl z] h = some (.bl z, h) := rfl
theorem c33 : callK (pf K) (n + 1) 33 none [rt t b] hp = .ok (.bl (!decide (t = 0))) hp := by
  refine (call_none (f := ⟨1, 1, false, B33 K⟩) rfl rfl rfl).trans ?_
  simp only [startEnv, List.map_cons, List.map_nil, List.length_cons, List.length_nil, Nat.sub_self, List.replicate, List.append_nil, List.cons_append, List.nil_append, B33, L33, y_nil, y_cons, y_asg, y_name, y_ret, y_drop, y_if, y_bl, y_tru, y_not, y_and, y_or, y_andE, y_orE, y_notE, y_con, y_var, y_bin, y_un, y_two, y_nilA, y_consA, y_call, y_make, y_stat, y_callV, y_callG, y_neg, y_tup, y_lst, y_ifE, y_raise, y_val, y_new, y_on, y_onx, y_mth, y_fmt, y_bits, y_tupG, y_consG, y_nilG, y_mthL, v_add, v_sub, v_neg, v_lt, v_le, v_gt, v_ge, v_tru, v_gcd, set0, set1, v_eqC, v_opC, v_negC, v_neC, Out.bind_ok, Out.bind_exn, List.getElem?_cons_zero, List.getElem?_cons_succ, List.append_nil, List.nil_append, List.cons_append, Bool.not_true, Bool.not_false, if_true, if_false, Bool.false_eq_true, Bool.true_eq_false, reduceCtorEq, List.take_length, eqV_int, List.length_cons, List.length_nil, fld_t (a := varE _), fld_t1, b_bl]
  exact lv rfl
/-! inverse, over -/
theorem c35 {k : Nat} (ht : t ≠ 0) (h1 : t.natAbs < 2 ^ k) (h0 : 0 < k) (h9 : k ≤ 9000) : callK (pf K) (n + 4) 35 none [rt t b] hp = .ok (rt (nm b t).1 (nm b t).2) hp := by
  refine (call_none (f := ⟨1, 1, false, B35 K⟩) rfl rfl rfl).trans ?_
  have e3 := c23 (K := K) (n := n) (hp := hp) (t := b) (b := t) ht h1 h0 h9
  simp only [startEnv, List.map_cons, List.map_nil, List.length_cons, List.length_nil, Nat.sub_self, List.replicate, List.append_nil, List.cons_append, List.nil_append, B35, L35, y_nil, y_cons, y_asg, y_name, y_ret, y_drop, y_if, y_bl, y_tru, y_not, y_and, y_or, y_andE, y_orE, y_notE, y_con, y_var, y_bin, y_un, y_two, y_nilA, y_consA, y_call, y_make, y_stat, y_callV, y_callG, y_neg, y_tup, y_lst, y_ifE, y_raise, y_val, y_new, y_on, y_onx, y_mth, y_fmt, y_bits, y_tupG, y_consG, y_nilG, y_mthL, v_add, v_sub, v_neg, v_lt, v_le, v_gt, v_ge, v_tru, v_gcd, set0, set1, v_eqC, v_opC, v_negC, v_neC, Out.bind_ok, Out.bind_exn, List.getElem?_cons_zero, List.getElem?_cons_succ, List.append_nil, List.nil_append, List.cons_append, Bool.not_true, Bool.not_false, if_true, if_false, Bool.false_eq_true, Bool.true_eq_false, reduceCtorEq, List.take_length, eqV_int, List.length_cons, List.length_nil, fld_t (a := varE _), fld_b (a := varE _), fld_t1, fld_b1, e3, ht, decide_false]
  exact lv rfl
theorem c35_bad : callK (pf K) (n + 4) 35 none [rt 0 b] hp = bn "top" hp := by
  refine (call_none (f := ⟨1, 1, false, B35 K⟩) rfl rfl rfl).trans ?_
  simp only [startEnv, List.map_cons, List.map_nil, List.length_cons, List.length_nil, Nat.sub_self, List.replicate, List.append_nil, List.cons_append, List.nil_append, B35, L35, y_nil, y_cons, y_asg, y_name, y_ret, y_drop, y_if, y_bl, y_tru, y_not, y_and, y_or, y_andE, y_orE, y_notE, y_con, y_var, y_bin, y_un, y_two, y_nilA, y_consA, y_call, y_make, y_stat, y_callV, y_callG, y_neg, y_tup, y_lst, y_ifE, y_raise, y_val, y_new, y_on, y_onx, y_mth, y_fmt, y_bits, y_tupG, y_consG, y_nilG, y_mthL, v_add, v_sub, v_neg, v_lt, v_le, v_gt, v_ge, v_tru, v_gcd, set0, set1, v_eqC, v_opC, v_negC, v_neC, Out.bind_ok, Out.bind_exn, List.getElem?_cons_zero, List.getElem?_cons_succ, List.append_nil, List.nil_append, List.cons_append, Bool.not_true, Bool.not_false, if_true, if_false, Bool.false_eq_true, Bool.true_eq_false, reduceCtorEq, List.take_length, eqV_int, List.length_cons, List.length_nil, fld_t (a := varE _), fld_b (a := varE _), fld_t1, fld_b1, decide_true]
  exact lvx rfl
theorem m_inv {t b : Int} {h : List Cell} : insOf (rt t b) h = some (0, [2, 3], [.int t, .int b]) := rfl
end
end Law
end

-- S78e
section
set_option maxHeartbeats 4000000
namespace Law
open PySem PySem.Spec Den
theorem tos_neg (m : Nat) : (toString (Int.negSucc m) : String) = "-" ++ toString (m + 1) := rfl
theorem tos_len {v : Int} {k : Nat} (hk : 0 < k) (h : v.natAbs < 10 ^ k) : (Str.ofString (toString v)).length ≤ k + 1 := by
  have pos : ∀ m : Nat, m < 10 ^ k → (toString m).toList.length ≤ k := fun m hm => by
    have e := PyProof.Rows.toString_length_le (v := (m : Int)) (by omega) hk (by exact_mod_cast hm)
    rw [PyProof.Rows.ofString_length] at e
    exact e
  cases v with
  | ofNat m =>
    rw [PyProof.Rows.ofString_length]
    have := pos m (by simpa using h)
    show (toString m).toList.length ≤ k + 1
    omega
  | negSucc m =>
    rw [PyProof.Rows.ofString_length, tos_neg, String.toList_append, List.length_append]
    have := pos (m + 1) (by simpa using h)
    have e1 : ("-" : String).toList.length = 1 := by decide
    omega
section
variable {K : PySem.W.Frag} {C : Calls} {n : Nat} {hp : List Cell} {t b u c i j : Int} {s : S} {a : SemE} {x y : D}
/-! over -/
section
variable {k : Nat} (hb : 1 ≤ b) (hc : 1 ≤ c) (h1 : t.natAbs < 2 ^ k) (h2 : b.natAbs < 2 ^ k) (h3 : u.natAbs < 2 ^ k) (h4 : c.natAbs < 2 ^ k) (h0 : 0 < k) (h9 : k + k ≤ 9000)
include hb hc h1 h2 h3 h4 h0 h9
theorem c34 (q : Num x u c) (hu : u ≠ 0) : callK (pf K) (n + 6) 34 none [rt t b, x] hp = .ok (rt (nm (t * (nm c u).1) (b * (nm c u).2)).1 (nm (t * (nm c u).1) (b * (nm c u).2)).2) hp := by
  refine (call_none (f := ⟨2, 2, false, B34 K⟩) rfl rfl rfl).trans ?_
  have e1 := c1 (K := K) (n := n + 3) (hp := hp) q.plain
  rw [q.isR] at e1
  have e2 := c2 (K := K) (n := n + 1) (hp := hp) q
  have e3 := c35 (K := K) (n := n + 1) (hp := hp) (b := c) hu h3 h0 (by omega)
  have a1 := nm_abs (t := c) hu
  have e := c29 (K := K) (n := n) (hp := hp) hb (nm_pos (t := c) hu) h1 h2 (Nat.lt_of_le_of_lt a1.1 h4) (Nat.lt_of_le_of_lt a1.2 h3) h0 h9 (Num.rt _ _)
  have ez : eqC (callK (pf K) (n + 5)) (ow "__eq__") (eqV false) x (.int 0) ⟨[some (rt t b), some x], hp, hp.length⟩ = .ok (.bl false) ⟨[some (rt t b), some x], hp, hp.length⟩ := by
    cases q with
    | rt u c =>
      rw [o_eq rfl]
      have e5 := c32 (K := K) (n := n + 3) (hp := hp) (t := u) (b := c) (Num.int 0)
      rw [e5]
      simp only [hu, decide_false, Bool.false_and]
      rfl
    | int =>
      rw [v_eqC, eqV_int]
      simp only [hu, decide_false]
      rfl
  simp only [startEnv, List.map_cons, List.map_nil, List.length_cons, List.length_nil, Nat.sub_self, List.replicate, List.append_nil, List.cons_append, List.nil_append, B34, L34, y_nil, y_cons, y_asg, y_name, y_ret, y_drop, y_if, y_bl, y_tru, y_not, y_and, y_or, y_andE, y_orE, y_notE, y_con, y_var, y_bin, y_un, y_two, y_nilA, y_consA, y_call, y_make, y_stat, y_callV, y_callG, y_neg, y_tup, y_lst, y_ifE, y_raise, y_val, y_new, y_on, y_onx, y_mth, y_fmt, y_bits, y_tupG, y_consG, y_nilG, y_mthL, v_add, v_sub, v_neg, v_lt, v_le, v_gt, v_ge, v_tru, v_gcd, set0, set1, v_eqC, v_opC, v_negC, v_neC, Out.bind_ok, Out.bind_exn, List.getElem?_cons_zero, List.getElem?_cons_succ, List.append_nil, List.nil_append, List.cons_append, Bool.not_true, Bool.not_false, if_true, if_false, Bool.false_eq_true, Bool.true_eq_false, reduceCtorEq, List.take_length, eqV_int, List.length_cons, List.length_nil, e1, ez, y_mth, e2, m_inv]
  have hf : (([2, 3] : List Nat).all fun i => decide (i < 4)) = true := rfl
  have hl : List.lookup 0 [(0, 35)] = some 35 := rfl
  simp only [hl, hf, y_nil, y_cons, y_asg, y_name, y_ret, y_drop, y_if, y_bl, y_tru, y_not, y_and, y_or, y_andE, y_orE, y_notE, y_con, y_var, y_bin, y_un, y_two, y_nilA, y_consA, y_call, y_make, y_stat, y_callV, y_callG, y_neg, y_tup, y_lst, y_ifE, y_raise, y_val, y_new, y_on, y_onx, y_mth, y_fmt, y_bits, y_tupG, y_consG, y_nilG, y_mthL, v_add, v_sub, v_neg, v_lt, v_le, v_gt, v_ge, v_tru, v_gcd, set0, set1, v_eqC, v_opC, v_negC, v_neC, Out.bind_ok, Out.bind_exn, List.getElem?_cons_zero, List.getElem?_cons_succ, List.append_nil, List.nil_append, List.cons_append, Bool.not_true, Bool.not_false, if_true, if_false, Bool.false_eq_true, Bool.true_eq_false, reduceCtorEq, List.take_length, eqV_int, List.length_cons, List.length_nil, e3, o_mul ok_rt, e]
  exact lv rfl
end
theorem c34_bad (h : plainD x = true) (hr : isR x = false) : callK (pf K) (n + 6) 34 none [rt t b, x] hp = bn "other" hp := by
  refine (call_none (f := ⟨2, 2, false, B34 K⟩) rfl rfl rfl).trans ?_
  have e1 := c1 (K := K) (n := n + 3) (hp := hp) h
  rw [hr] at e1
  simp only [startEnv, List.map_cons, List.map_nil, List.length_cons, List.length_nil, Nat.sub_self, List.replicate, List.append_nil, List.cons_append, List.nil_append, B34, L34, y_nil, y_cons, y_asg, y_name, y_ret, y_drop, y_if, y_bl, y_tru, y_not, y_and, y_or, y_andE, y_orE, y_notE, y_con, y_var, y_bin, y_un, y_two, y_nilA, y_consA, y_call, y_make, y_stat, y_callV, y_callG, y_neg, y_tup, y_lst, y_ifE, y_raise, y_val, y_new, y_on, y_onx, y_mth, y_fmt, y_bits, y_tupG, y_consG, y_nilG, y_mthL, v_add, v_sub, v_neg, v_lt, v_le, v_gt, v_ge, v_tru, v_gcd, set0, set1, v_eqC, v_opC, v_negC, v_neC, Out.bind_ok, Out.bind_exn, List.getElem?_cons_zero, List.getElem?_cons_succ, List.append_nil, List.nil_append, List.cons_append, Bool.not_true, Bool.not_false, if_true, if_false, Bool.false_eq_true, Bool.true_eq_false, reduceCtorEq, List.take_length, eqV_int, List.length_cons, List.length_nil, e1]
  exact lvx rfl
theorem c34_zero (q : Num x 0 1) : callK (pf K) (n + 6) 34 none [rt t b, x] hp = bn "other" hp := by
  refine (call_none (f := ⟨2, 2, false, B34 K⟩) rfl rfl rfl).trans ?_
  have e1 := c1 (K := K) (n := n + 3) (hp := hp) q.plain
  rw [q.isR] at e1
  have ez : eqC (callK (pf K) (n + 5)) (ow "__eq__") (eqV false) x (.int 0) ⟨[some (rt t b), some x], hp, hp.length⟩ = .ok (.bl true) ⟨[some (rt t b), some x], hp, hp.length⟩ := by
    cases q with
    | rt =>
      rw [o_eq rfl]
      have e5 := c32 (K := K) (n := n + 3) (hp := hp) (t := 0) (b := 1) (Num.int 0)
      rw [e5]
      rfl
    | int =>
      rw [v_eqC, eqV_int]
      rfl
  simp only [startEnv, List.map_cons, List.map_nil, List.length_cons, List.length_nil, Nat.sub_self, List.replicate, List.append_nil, List.cons_append, List.nil_append, B34, L34, y_nil, y_cons, y_asg, y_name, y_ret, y_drop, y_if, y_bl, y_tru, y_not, y_and, y_or, y_andE, y_orE, y_notE, y_con, y_var, y_bin, y_un, y_two, y_nilA, y_consA, y_call, y_make, y_stat, y_callV, y_callG, y_neg, y_tup, y_lst, y_ifE, y_raise, y_val, y_new, y_on, y_onx, y_mth, y_fmt, y_bits, y_tupG, y_consG, y_nilG, y_mthL, v_add, v_sub, v_neg, v_lt, v_le, v_gt, v_ge, v_tru, v_gcd, set0, set1, v_eqC, v_opC, v_negC, v_neC, Out.bind_ok, Out.bind_exn, List.getElem?_cons_zero, List.getElem?_cons_succ, List.append_nil, List.nil_append, List.cons_append, Bool.not_true, Bool.not_false, if_true, if_false, Bool.false_eq_true, Bool.true_eq_false, reduceCtorEq, List.take_length, eqV_int, List.length_cons, List.length_nil, e1, ez]
  exact lvx rfl
/-! told -/
def toldS (t b : Int) : Str := if b = 1 then Str.ofString (toString t) else Str.ofString (toString t) ++ Str.ofString "/" ++ Str.ofString (toString b)
theorem c37 (h1 : t.natAbs < 10 ^ 13) (h2 : b.natAbs < 10 ^ 13) : callK (pf K) (n + 1) 37 none [rt t b] hp = .ok (.str (toldS t b)) hp := by
  refine (call_none (f := ⟨1, 1, false, B37 K⟩) rfl rfl rfl).trans ?_
  have p : (10 : Nat) ^ 13 ≤ 2 ^ 64 := by decide
  have g1 : t.natAbs.log2 < 1920 := bound_log (k := 64) (by omega) (by decide) (by decide)
  have g2 : b.natAbs.log2 < 1920 := bound_log (k := 64) (by omega) (by decide) (by decide)
  have q1 : strV [.int t] hp = .val (.str (toString t)) := if_pos g1
  have l1 := tos_len (k := 13) (by decide) h1
  have l2 := tos_len (k := 13) (by decide) h2
  have ls : (Str.ofString "/").length = 1 := by decide
  simp only [startEnv, List.map_cons, List.map_nil, List.length_cons, List.length_nil, Nat.sub_self, List.replicate, List.append_nil, List.cons_append, List.nil_append, B37, L37, y_nil, y_cons, y_asg, y_name, y_ret, y_drop, y_if, y_bl, y_tru, y_not, y_and, y_or, y_andE, y_orE, y_notE, y_con, y_var, y_bin, y_un, y_two, y_nilA, y_consA, y_call, y_make, y_stat, y_callV, y_callG, y_neg, y_tup, y_lst, y_ifE, y_raise, y_val, y_new, y_on, y_onx, y_mth, y_fmt, y_bits, y_tupG, y_consG, y_nilG, y_mthL, v_add, v_sub, v_neg, v_lt, v_le, v_gt, v_ge, v_tru, v_gcd, set0, set1, v_eqC, v_opC, v_negC, v_neC, Out.bind_ok, Out.bind_exn, List.getElem?_cons_zero, List.getElem?_cons_succ, List.append_nil, List.nil_append, List.cons_append, Bool.not_true, Bool.not_false, if_true, if_false, Bool.false_eq_true, Bool.true_eq_false, reduceCtorEq, List.take_length, eqV_int, List.length_cons, List.length_nil, fld_t (a := varE _), fld_b (a := varE _), fld_t1, fld_b1, q1, g1, g2]
  unfold toldS
  by_cases h : b = 1
  · simp only [h, decide_true, y_nil, y_cons, y_asg, y_name, y_ret, y_drop, y_if, y_bl, y_tru, y_not, y_and, y_or, y_andE, y_orE, y_notE, y_con, y_var, y_bin, y_un, y_two, y_nilA, y_consA, y_call, y_make, y_stat, y_callV, y_callG, y_neg, y_tup, y_lst, y_ifE, y_raise, y_val, y_new, y_on, y_onx, y_mth, y_fmt, y_bits, y_tupG, y_consG, y_nilG, y_mthL, v_add, v_sub, v_neg, v_lt, v_le, v_gt, v_ge, v_tru, v_gcd, set0, set1, v_eqC, v_opC, v_negC, v_neC, Out.bind_ok, Out.bind_exn, List.getElem?_cons_zero, List.getElem?_cons_succ, List.append_nil, List.nil_append, List.cons_append, Bool.not_true, Bool.not_false, if_true, if_false, Bool.false_eq_true, Bool.true_eq_false, reduceCtorEq, List.take_length, eqV_int, List.length_cons, List.length_nil]
    exact lv rfl
  · simp only [h, decide_false, y_nil, y_cons, y_asg, y_name, y_ret, y_drop, y_if, y_bl, y_tru, y_not, y_and, y_or, y_andE, y_orE, y_notE, y_con, y_var, y_bin, y_un, y_two, y_nilA, y_consA, y_call, y_make, y_stat, y_callV, y_callG, y_neg, y_tup, y_lst, y_ifE, y_raise, y_val, y_new, y_on, y_onx, y_mth, y_fmt, y_bits, y_tupG, y_consG, y_nilG, y_mthL, v_add, v_sub, v_neg, v_lt, v_le, v_gt, v_ge, v_tru, v_gcd, set0, set1, v_eqC, v_opC, v_negC, v_neC, Out.bind_ok, Out.bind_exn, List.getElem?_cons_zero, List.getElem?_cons_succ, List.append_nil, List.nil_append, List.cons_append, Bool.not_true, Bool.not_false, if_true, if_false, Bool.false_eq_true, Bool.true_eq_false, reduceCtorEq, List.take_length, eqV_int, List.length_cons, List.length_nil, joinE, joinL, fld_t (a := varE _), fld_b (a := varE _), fld_t1, fld_b1, g1, g2]
    rw [if_pos (by rw [Str.empty_append, sizeLine_eq]; omega)]
    rw [if_pos (by rw [Str.empty_append, Str.length_append, sizeLine_eq]; omega)]
    rw [if_pos (by rw [Str.empty_append, Str.length_append, Str.length_append, sizeLine_eq]; omega)]
    rw [Str.empty_append]
    exact lv rfl
end
end Law
end

-- S78f
section
set_option maxHeartbeats 4000000
namespace Law
open PySem PySem.Spec Den
/-! ### powers -/
theorem gcd_pow {x y : Int} (h : Int.gcd x y = 1) (i : Nat) : Int.gcd (x ^ i) (y ^ i) = 1 := by
  have e : Nat.Coprime x.natAbs y.natAbs := h
  show Nat.gcd (x ^ i).natAbs (y ^ i).natAbs = 1
  rw [Int.natAbs_pow, Int.natAbs_pow]
  exact Nat.Coprime.pow i i e
theorem pow_pos' {y : Int} (h : 1 ≤ y) (i : Nat) : 1 ≤ y ^ i := Int.pow_pos (by omega)
theorem pow_b {x : Int} {k : Nat} (h : x.natAbs < 2 ^ k) (i : Nat) : (x ^ i).natAbs < 2 ^ (k * i + 1) := by
  rw [Int.natAbs_pow]
  have h1 : x.natAbs ^ i ≤ (2 ^ k) ^ i := Nat.pow_le_pow_left (Nat.le_of_lt h) i
  rw [← Nat.pow_mul] at h1
  exact Nat.lt_of_le_of_lt h1 (Nat.pow_lt_pow_right (by decide) (Nat.lt_succ_self _))
theorem abs_if (j : Int) : (if j < 0 then -j else j) = (j.natAbs : Int) := by
  split <;> omega
theorem nm_pow {x y : Int} (hy : 1 ≤ y) (h : Int.gcd x y = 1) (i : Nat) : nm (x ^ i * x) (y ^ i * y) = (x ^ (i + 1), y ^ (i + 1)) := by
  rw [← Int.pow_succ, ← Int.pow_succ]
  exact nm_one (pow_pos' hy _) (gcd_pow h _)
section
variable {K : PySem.W.Frag} {C : Calls} {n : Nat} {hp : List Cell} {t b u c i j : Int} {s : S} {a : SemE} {x y : D}
abbrev pwS (hp : List Cell) (t b j x y : Int) (i : Nat) (o : Option D) : S := ⟨[some (rt t b), some (.int j), some (rt x y), some (rt (x ^ i) (y ^ i)), o], hp, hp.length⟩
theorem pw_loop {x y : Int} (hj : j.natAbs ≤ 40) (hy : 1 ≤ y) (g : Int.gcd x y = 1) (h1 : x.natAbs < 2 ^ 40) (h2 : y.natAbs < 2 ^ 40) :
    ∃ o, forS (range1I (consA (callV absV (consA (varE 1) nilA)) nilA)) (nameG 4) (runs [(asgS (two (opC (callK (pf K) (n + 6)) (ow "__mul__") (ow "__rmul__") mulV) (varE 3) (varE 2)) (nameG 3))]) (pwS hp t b j x y 0 none) = .ok .next (pwS hp t b j x y j.natAbs o) := by
  obtain ⟨s', e, o, es⟩ := forS_ok (w := range1I (consA (callV absV (consA (varE 1) nilA)) nilA)) (g := nameG 4) (f := runs [(asgS (two (opC (callK (pf K) (n + 6)) (ow "__mul__") (ow "__rmul__") mulV) (varE 3) (varE 2)) (nameG 3))]) (xs := rangeL 0 j.natAbs) (s0 := pwS hp t b j x y 0 none) (s := pwS hp t b j x y 0 none)
    (fun i s => ∃ o, s = pwS hp t b j x y i o) (by
      have e := range1_ok (t := consA (callV absV (consA (varE 1) nilA)) nilA) (s := pwS hp t b j x y 0 none) (s' := pwS hp t b j x y 0 none) (j := (j.natAbs : Int)) (by
        show Out.ok [D.int (if j < 0 then -j else j)] _ = _
        rw [abs_if]) (by omega)
      rw [Int.toNat_natCast] at e
      exact e) ⟨none, rfl⟩ fun i d s hd ⟨o, es⟩ => by
      subst es
      obtain ⟨_, hi⟩ := range_at hd
      refine ⟨_, pwS hp t b j x y (i + 1) (some d), rfl, ?_, some d, rfl⟩
      have a1 := pow_b h1 i
      have a2 := pow_b h2 i
      have up : ∀ {z : Nat}, z < 2 ^ (40 * i + 1) → z < 2 ^ 2000 := fun {z} h => Nat.lt_of_lt_of_le h (Nat.pow_le_pow_right (by decide) (by omega))
      have e := c29 (K := K) (n := n + 1) (hp := hp) (t := x ^ i) (b := y ^ i) (u := x) (c := y) (k := 2000) (pow_pos' hy i) hy (up a1) (up a2) (Nat.lt_of_lt_of_le h1 (Nat.pow_le_pow_right (by decide) (by decide))) (Nat.lt_of_lt_of_le h2 (Nat.pow_le_pow_right (by decide) (by decide))) (by decide) (by decide) (Num.rt x y)
      rw [nm_pow hy g] at e
      simp only [y_nil, y_cons, y_asg, y_name, y_ret, y_drop, y_if, y_bl, y_tru, y_not, y_and, y_or, y_andE, y_orE, y_notE, y_con, y_var, y_bin, y_un, y_two, y_nilA, y_consA, y_call, y_make, y_stat, y_callV, y_callG, y_neg, y_tup, y_lst, y_ifE, y_raise, y_val, y_new, y_on, y_onx, y_mth, y_fmt, y_bits, y_tupG, y_consG, y_nilG, y_mthL, v_add, v_sub, v_neg, v_lt, v_le, v_gt, v_ge, v_tru, v_gcd, set0, set1, v_eqC, v_opC, v_negC, v_neC, Out.bind_ok, Out.bind_exn, List.getElem?_cons_zero, List.getElem?_cons_succ, List.append_nil, List.nil_append, List.cons_append, Bool.not_true, Bool.not_false, if_true, if_false, Bool.false_eq_true, Bool.true_eq_false, reduceCtorEq, List.take_length, eqV_int, List.length_cons, List.length_nil, o_mul ok_rt, e]
  rw [range_len] at es
  exact ⟨o, by rw [e, es]⟩
/-- the power, as it comes out -/
def pw (t b j : Int) : Int × Int := if j < 0 then ((nm b t).1 ^ j.natAbs, (nm b t).2 ^ j.natAbs) else (t ^ j.natAbs, b ^ j.natAbs)
theorem c36_bad (h : plainD x = true) (hx : isI x = false ∨ ∃ j, x = .int j ∧ (j < -40 ∨ 40 < j)) : callK (pf K) (n + 7) 36 none [rt t b, x] hp = bn "number" hp := by
  refine (call_none (f := ⟨5, 2, false, B36 K⟩) rfl rfl rfl).trans ?_
  have e0 := c0 (K := K) (n := n + 5) (hp := hp) h
  rcases hx with hi | ⟨j, rfl, hj⟩
  · rw [hi] at e0
    simp only [startEnv, List.map_cons, List.map_nil, List.length_cons, List.length_nil, Nat.sub_self, List.replicate, List.append_nil, List.cons_append, List.nil_append, B36, L36, y_nil, y_cons, y_asg, y_name, y_ret, y_drop, y_if, y_bl, y_tru, y_not, y_and, y_or, y_andE, y_orE, y_notE, y_con, y_var, y_bin, y_un, y_two, y_nilA, y_consA, y_call, y_make, y_stat, y_callV, y_callG, y_neg, y_tup, y_lst, y_ifE, y_raise, y_val, y_new, y_on, y_onx, y_mth, y_fmt, y_bits, y_tupG, y_consG, y_nilG, y_mthL, v_add, v_sub, v_neg, v_lt, v_le, v_gt, v_ge, v_tru, v_gcd, set0, set1, v_eqC, v_opC, v_negC, v_neC, Out.bind_ok, Out.bind_exn, List.getElem?_cons_zero, List.getElem?_cons_succ, List.append_nil, List.nil_append, List.cons_append, Bool.not_true, Bool.not_false, if_true, if_false, Bool.false_eq_true, Bool.true_eq_false, reduceCtorEq, List.take_length, eqV_int, List.length_cons, List.length_nil, e0]
    exact lvx rfl
  · by_cases z : j < -40
    · simp only [startEnv, List.map_cons, List.map_nil, List.length_cons, List.length_nil, Nat.sub_self, List.replicate, List.append_nil, List.cons_append, List.nil_append, B36, L36, y_nil, y_cons, y_asg, y_name, y_ret, y_drop, y_if, y_bl, y_tru, y_not, y_and, y_or, y_andE, y_orE, y_notE, y_con, y_var, y_bin, y_un, y_two, y_nilA, y_consA, y_call, y_make, y_stat, y_callV, y_callG, y_neg, y_tup, y_lst, y_ifE, y_raise, y_val, y_new, y_on, y_onx, y_mth, y_fmt, y_bits, y_tupG, y_consG, y_nilG, y_mthL, v_add, v_sub, v_neg, v_lt, v_le, v_gt, v_ge, v_tru, v_gcd, set0, set1, v_eqC, v_opC, v_negC, v_neC, Out.bind_ok, Out.bind_exn, List.getElem?_cons_zero, List.getElem?_cons_succ, List.append_nil, List.nil_append, List.cons_append, Bool.not_true, Bool.not_false, if_true, if_false, Bool.false_eq_true, Bool.true_eq_false, reduceCtorEq, List.take_length, eqV_int, List.length_cons, List.length_nil, c0_int, z, decide_true]
      exact lvx rfl
    · have z2 : 40 < j := by omega
      simp only [startEnv, List.map_cons, List.map_nil, List.length_cons, List.length_nil, Nat.sub_self, List.replicate, List.append_nil, List.cons_append, List.nil_append, B36, L36, y_nil, y_cons, y_asg, y_name, y_ret, y_drop, y_if, y_bl, y_tru, y_not, y_and, y_or, y_andE, y_orE, y_notE, y_con, y_var, y_bin, y_un, y_two, y_nilA, y_consA, y_call, y_make, y_stat, y_callV, y_callG, y_neg, y_tup, y_lst, y_ifE, y_raise, y_val, y_new, y_on, y_onx, y_mth, y_fmt, y_bits, y_tupG, y_consG, y_nilG, y_mthL, v_add, v_sub, v_neg, v_lt, v_le, v_gt, v_ge, v_tru, v_gcd, set0, set1, v_eqC, v_opC, v_negC, v_neC, Out.bind_ok, Out.bind_exn, List.getElem?_cons_zero, List.getElem?_cons_succ, List.append_nil, List.nil_append, List.cons_append, Bool.not_true, Bool.not_false, if_true, if_false, Bool.false_eq_true, Bool.true_eq_false, reduceCtorEq, List.take_length, eqV_int, List.length_cons, List.length_nil, c0_int, z, z2, decide_true, decide_false]
      exact lvx rfl
theorem c36_zero (hj : -40 ≤ j ∧ j < 0) : callK (pf K) (n + 7) 36 none [rt 0 b, .int j] hp = bn "number" hp := by
  refine (call_none (f := ⟨5, 2, false, B36 K⟩) rfl rfl rfl).trans ?_
  have z1 : ¬ j < -40 := by omega
  have z2 : ¬ 40 < j := by omega
  simp only [startEnv, List.map_cons, List.map_nil, List.length_cons, List.length_nil, Nat.sub_self, List.replicate, List.append_nil, List.cons_append, List.nil_append, B36, L36, y_nil, y_cons, y_asg, y_name, y_ret, y_drop, y_if, y_bl, y_tru, y_not, y_and, y_or, y_andE, y_orE, y_notE, y_con, y_var, y_bin, y_un, y_two, y_nilA, y_consA, y_call, y_make, y_stat, y_callV, y_callG, y_neg, y_tup, y_lst, y_ifE, y_raise, y_val, y_new, y_on, y_onx, y_mth, y_fmt, y_bits, y_tupG, y_consG, y_nilG, y_mthL, v_add, v_sub, v_neg, v_lt, v_le, v_gt, v_ge, v_tru, v_gcd, set0, set1, v_eqC, v_opC, v_negC, v_neC, Out.bind_ok, Out.bind_exn, List.getElem?_cons_zero, List.getElem?_cons_succ, List.append_nil, List.nil_append, List.cons_append, Bool.not_true, Bool.not_false, if_true, if_false, Bool.false_eq_true, Bool.true_eq_false, reduceCtorEq, List.take_length, eqV_int, List.length_cons, List.length_nil, c0_int, z1, z2, hj.2, decide_true, decide_false, fld_t (a := varE _), fld_b (a := varE _), fld_t1, fld_b1]
  exact lvx rfl
theorem c36 (hj : -40 ≤ j ∧ j ≤ 40) (hb : 1 ≤ b) (g : Int.gcd t b = 1) (h1 : t.natAbs < 2 ^ 40) (h2 : b.natAbs < 2 ^ 40) (ht : j < 0 → t ≠ 0) : callK (pf K) (n + 7) 36 none [rt t b, .int j] hp = .ok (rt (pw t b j).1 (pw t b j).2) hp := by
  refine (call_none (f := ⟨5, 2, false, B36 K⟩) rfl rfl rfl).trans ?_
  have z1 : ¬ j < -40 := by omega
  have z2 : ¬ 40 < j := by omega
  have e1 := c23 (K := K) (n := n + 3) (hp := hp) (t := 1) (b := 1) (k := 1) (by decide) (by decide) (by decide) (by decide)
  rw [nm_int] at e1
  by_cases hz : j < 0
  · have ht' := ht hz
    have e35 := c35 (K := K) (n := n + 2) (hp := hp) (t := t) (b := b) ht' h1 (by decide) (by decide)
    have a1 := nm_abs (t := b) ht'
    obtain ⟨o, lp⟩ := pw_loop (K := K) (n := n) (hp := hp) (t := t) (b := b) (j := j) (x := (nm b t).1) (y := (nm b t).2) (by omega) (nm_pos ht') (nm_gcd ht') (Nat.lt_of_le_of_lt a1.1 h2) (Nat.lt_of_le_of_lt a1.2 h1)
    have hf : (([2, 3] : List Nat).all fun i => decide (i < 4)) = true := rfl
    have hl : List.lookup 0 [(0, 35)] = some 35 := rfl
    simp only [startEnv, List.map_cons, List.map_nil, List.length_cons, List.length_nil, Nat.sub_self, List.replicate, List.append_nil, List.cons_append, List.nil_append, B36, L36, y_nil, y_cons, y_asg, y_name, y_ret, y_drop, y_if, y_bl, y_tru, y_not, y_and, y_or, y_andE, y_orE, y_notE, y_con, y_var, y_bin, y_un, y_two, y_nilA, y_consA, y_call, y_make, y_stat, y_callV, y_callG, y_neg, y_tup, y_lst, y_ifE, y_raise, y_val, y_new, y_on, y_onx, y_mth, y_fmt, y_bits, y_tupG, y_consG, y_nilG, y_mthL, v_add, v_sub, v_neg, v_lt, v_le, v_gt, v_ge, v_tru, v_gcd, set0, set1, v_eqC, v_opC, v_negC, v_neC, Out.bind_ok, Out.bind_exn, List.getElem?_cons_zero, List.getElem?_cons_succ, List.append_nil, List.nil_append, List.cons_append, Bool.not_true, Bool.not_false, if_true, if_false, Bool.false_eq_true, Bool.true_eq_false, reduceCtorEq, List.take_length, eqV_int, List.length_cons, List.length_nil, c0_int, z1, z2, hz, ht', decide_true, decide_false, fld_t (a := varE _), fld_b (a := varE _), fld_t1, fld_b1, y_mth, m_inv, hf, hl, e35, e1]
    simp only [pwS, Int.pow_zero] at lp
    rw [lp]
    unfold pw
    rw [if_pos hz]
    simp only [y_nil, y_cons, y_asg, y_name, y_ret, y_drop, y_if, y_bl, y_tru, y_not, y_and, y_or, y_andE, y_orE, y_notE, y_con, y_var, y_bin, y_un, y_two, y_nilA, y_consA, y_call, y_make, y_stat, y_callV, y_callG, y_neg, y_tup, y_lst, y_ifE, y_raise, y_val, y_new, y_on, y_onx, y_mth, y_fmt, y_bits, y_tupG, y_consG, y_nilG, y_mthL, v_add, v_sub, v_neg, v_lt, v_le, v_gt, v_ge, v_tru, v_gcd, set0, set1, v_eqC, v_opC, v_negC, v_neC, Out.bind_ok, Out.bind_exn, List.getElem?_cons_zero, List.getElem?_cons_succ, List.append_nil, List.nil_append, List.cons_append, Bool.not_true, Bool.not_false, if_true, if_false, Bool.false_eq_true, Bool.true_eq_false, reduceCtorEq, List.take_length, eqV_int, List.length_cons, List.length_nil]
    exact lv rfl
  · obtain ⟨o, lp⟩ := pw_loop (K := K) (n := n) (hp := hp) (t := t) (b := b) (j := j) (x := t) (y := b) (by omega) hb g h1 h2
    simp only [startEnv, List.map_cons, List.map_nil, List.length_cons, List.length_nil, Nat.sub_self, List.replicate, List.append_nil, List.cons_append, List.nil_append, B36, L36, y_nil, y_cons, y_asg, y_name, y_ret, y_drop, y_if, y_bl, y_tru, y_not, y_and, y_or, y_andE, y_orE, y_notE, y_con, y_var, y_bin, y_un, y_two, y_nilA, y_consA, y_call, y_make, y_stat, y_callV, y_callG, y_neg, y_tup, y_lst, y_ifE, y_raise, y_val, y_new, y_on, y_onx, y_mth, y_fmt, y_bits, y_tupG, y_consG, y_nilG, y_mthL, v_add, v_sub, v_neg, v_lt, v_le, v_gt, v_ge, v_tru, v_gcd, set0, set1, v_eqC, v_opC, v_negC, v_neC, Out.bind_ok, Out.bind_exn, List.getElem?_cons_zero, List.getElem?_cons_succ, List.append_nil, List.nil_append, List.cons_append, Bool.not_true, Bool.not_false, if_true, if_false, Bool.false_eq_true, Bool.true_eq_false, reduceCtorEq, List.take_length, eqV_int, List.length_cons, List.length_nil, c0_int, z1, z2, hz, decide_true, decide_false, fld_t (a := varE _), fld_b (a := varE _), fld_t1, fld_b1, e1]
    simp only [pwS, Int.pow_zero] at lp
    rw [lp]
    unfold pw
    rw [if_neg hz]
    simp only [y_nil, y_cons, y_asg, y_name, y_ret, y_drop, y_if, y_bl, y_tru, y_not, y_and, y_or, y_andE, y_orE, y_notE, y_con, y_var, y_bin, y_un, y_two, y_nilA, y_consA, y_call, y_make, y_stat, y_callV, y_callG, y_neg, y_tup, y_lst, y_ifE, y_raise, y_val, y_new, y_on, y_onx, y_mth, y_fmt, y_bits, y_tupG, y_consG, y_nilG, y_mthL, v_add, v_sub, v_neg, v_lt, v_le, v_gt, v_ge, v_tru, v_gcd, set0, set1, v_eqC, v_opC, v_negC, v_neC, Out.bind_ok, Out.bind_exn, List.getElem?_cons_zero, List.getElem?_cons_succ, List.append_nil, List.nil_append, List.cons_append, Bool.not_true, Bool.not_false, if_true, if_false, Bool.false_eq_true, Bool.true_eq_false, reduceCtorEq, List.take_length, eqV_int, List.length_cons, List.length_nil]
    exact lv rfl
end
end Law
end

-- S78g
section
set_option maxHeartbeats 4000000
namespace Law
open PySem PySem.Spec Den
/-! ### the law's own divisor -/
theorem bits_lt (j : Int) : j.natAbs < 2 ^ Builtin.Int.intBits j := by
  unfold Builtin.Int.intBits
  split
  · rename_i h
    have : j = 0 := by simpa using h
    subst this
    decide
  · exact Nat.lt_log2_self
theorem bits_le {j : Int} {k : Nat} (h : j.natAbs < 2 ^ k) (hk : 0 < k) : Builtin.Int.intBits j ≤ k := by
  unfold Builtin.Int.intBits
  split
  · omega
  · have := log_lt h hk
    omega
theorem range1_up {t : SemA} {s s' : S} {j : Int} (h : t s = .ok [.int j] s') (h0 : 0 ≤ j) (h1 : j ≤ 1000000) : range1I t s = .ok (.vals (rangeL 0 j.toNat)) s' := by
  have e := z_p62
  have q : (1000001 : Nat) ≤ 2 ^ 62 := by decide
  have hc : -(2 ^ 62) ≤ j ∧ j < 2 ^ 62 := by
    generalize (2 : Int) ^ 62 = x at e ⊢
    generalize (2 : Nat) ^ 62 = y at e q
    omega
  have e : range1I t s = if -(2 ^ 62) ≤ j ∧ j < 2 ^ 62 then .ok (.vals (rangeL 0 j.toNat)) s' else .bad := by
    unfold range1I
    rw [h]
    exact rfl
  exact e.trans (if_pos hc)
/-- Euclid's two numbers behind i turns, L bits in the second one at first -/
def Eu (g L i : Nat) (a b : Nat) : Prop := Nat.gcd a b = g ∧ ((i = 0 ∧ b < 2 ^ L) ∨ (b ≤ a ∧ a * b < 2 ^ (2 * L + 1 - i)))
theorem eu_turn {g L i a b : Nat} (h : Eu g L i a b) (hb : 0 < b) : Eu g L (i + 1) b (a % b) := by
  obtain ⟨h1, h2⟩ := h
  have hr := Nat.mod_lt a hb
  refine ⟨by rw [Nat.gcd_comm, ← Nat.gcd_rec, Nat.gcd_comm]; exact h1, .inr ⟨Nat.le_of_lt hr, ?_⟩⟩
  rcases h2 with ⟨hi, hl⟩ | ⟨ha, hl⟩
  · subst hi
    have e : 2 * L + 1 - (0 + 1) = L + L := by omega
    rw [e, Nat.pow_add]
    exact Nat.mul_lt_mul'' hl (Nat.lt_trans hr hl)
  · have hq : 1 ≤ a / b := Nat.div_pos ha hb
    have hd := Nat.div_add_mod a b
    have ha2 : b + a % b ≤ a := by
      have : b * 1 ≤ b * (a / b) := Nat.mul_le_mul_left b hq
      omega
    have h3 : 2 * (b * (a % b)) < a * b := by
      have h4 : 2 * (a % b) < a := by omega
      have h5 : b * (2 * (a % b)) < b * a := Nat.mul_lt_mul_of_pos_left h4 hb
      calc 2 * (b * (a % b)) = b * (2 * (a % b)) := by rw [Nat.mul_left_comm]
        _ < b * a := h5
        _ = a * b := Nat.mul_comm _ _
    by_cases he : 2 * L + 1 - i = 0
    · rw [he] at hl
      have : a * b = 0 := by simpa using hl
      rw [this] at h3
      omega
    · obtain ⟨e, he'⟩ : ∃ e, 2 * L + 1 - i = e + 1 := ⟨2 * L + 1 - i - 1, by omega⟩
      have e2 : 2 * L + 1 - (i + 1) = e := by omega
      rw [he', Nat.pow_succ] at hl
      rw [e2]
      omega
theorem eu_stay {g L i a : Nat} (h : Eu g L i a 0) : Eu g L (i + 1) a 0 := ⟨h.1, .inr ⟨Nat.zero_le _, by rw [Nat.mul_zero]; exact Nat.pow_pos (by decide)⟩⟩
theorem eu_end {g L a b : Nat} (h : Eu g L (2 * L + 2) a b) : a = g := by
  obtain ⟨h1, h2⟩ := h
  rcases h2 with ⟨hi, _⟩ | ⟨ha, hl⟩
  · omega
  · have e : 2 * L + 1 - (2 * L + 2) = 0 := by omega
    rw [e] at hl
    have hz : a * b = 0 := by simpa using hl
    have hb : b = 0 := by
      rcases Nat.mul_eq_zero.mp hz with z | z
      · omega
      · exact z
    rw [hb, Nat.gcd_zero_right] at h1
    exact h1
section
variable {K : PySem.W.Frag} {C : Calls} {n : Nat} {hp : List Cell} {t b u c i j : Int} {s : S} {a : SemE} {x y : D}
abbrev dvS (hp : List Cell) (n : Nat) (a b : Nat) (o r : Option D) : S := ⟨[some (.int a), some (.int b), o, r], hp, n⟩
def dvF : SemS := runs [(ifS (blT (bin gtV (varE 1) (conE (.int 0)))) (runs [(asgS (bin modV (callV intV (consA (varE 0) nilA)) (varE 1)) (nameG 3)), (asgS (varE 1) (nameG 0)), (asgS (varE 3) (nameG 1))]) (runs []))]
theorem dv_turn {a b : Nat} {o r : Option D} : ∃ a' b' r', dvF (dvS hp n a b o r) = .ok .next (dvS hp n a' b' o r') ∧ ((0 < b ∧ a' = b ∧ b' = a % b) ∨ (b = 0 ∧ a' = a ∧ b' = b)) := by
  have ei : ∀ h : List Cell, intV [.int (a : Int)] h = .val (.int a) := fun h => rfl
  by_cases hb : 0 < b
  · have hb' : (0 : Int) < (b : Int) := by omega
    have em : ∀ h : List Cell, modV (.int (a : Int)) (.int (b : Int)) h = .val (.int ((a % b : Nat) : Int)) := fun h => by
      rw [v_mod hb', Int.natCast_emod]
    refine ⟨b, a % b, some (.int ((a % b : Nat) : Int)), ?_, .inl ⟨hb, rfl, rfl⟩⟩
    unfold dvF dvS
    simp only [y_nil, y_cons, y_asg, y_name, y_ret, y_drop, y_if, y_bl, y_tru, y_not, y_and, y_or, y_andE, y_orE, y_notE, y_con, y_var, y_bin, y_un, y_two, y_nilA, y_consA, y_call, y_make, y_stat, y_callV, y_callG, y_neg, y_tup, y_lst, y_ifE, y_raise, y_val, y_new, y_on, y_onx, y_mth, y_fmt, y_bits, y_tupG, y_consG, y_nilG, y_mthL, v_add, v_sub, v_neg, v_lt, v_le, v_gt, v_ge, v_tru, v_gcd, set0, set1, v_eqC, v_opC, v_negC, v_neC, Out.bind_ok, Out.bind_exn, List.getElem?_cons_zero, List.getElem?_cons_succ, List.append_nil, List.nil_append, List.cons_append, Bool.not_true, Bool.not_false, if_true, if_false, Bool.false_eq_true, Bool.true_eq_false, reduceCtorEq, List.take_length, eqV_int, List.length_cons, List.length_nil, hb', decide_true, ei, em]
  · refine ⟨a, b, r, ?_, .inr ⟨by omega, rfl, rfl⟩⟩
    have hb' : ¬ (0 : Int) < (b : Int) := by omega
    unfold dvF dvS
    simp only [y_nil, y_cons, y_asg, y_name, y_ret, y_drop, y_if, y_bl, y_tru, y_not, y_and, y_or, y_andE, y_orE, y_notE, y_con, y_var, y_bin, y_un, y_two, y_nilA, y_consA, y_call, y_make, y_stat, y_callV, y_callG, y_neg, y_tup, y_lst, y_ifE, y_raise, y_val, y_new, y_on, y_onx, y_mth, y_fmt, y_bits, y_tupG, y_consG, y_nilG, y_mthL, v_add, v_sub, v_neg, v_lt, v_le, v_gt, v_ge, v_tru, v_gcd, set0, set1, v_eqC, v_opC, v_negC, v_neC, Out.bind_ok, Out.bind_exn, List.getElem?_cons_zero, List.getElem?_cons_succ, List.append_nil, List.nil_append, List.cons_append, Bool.not_true, Bool.not_false, if_true, if_false, Bool.false_eq_true, Bool.true_eq_false, reduceCtorEq, List.take_length, eqV_int, List.length_cons, List.length_nil, hb', decide_false]
theorem c7 {k : Nat} (hk : j.natAbs < 2 ^ k) (h0 : 0 < k) (h9 : k ≤ 9000) : callK (pf K) (n + 1) 7 none [.int i, .int j] hp = .ok (.int (Int.gcd i j : Nat)) hp := by
  refine (call_none (f := ⟨4, 2, false, B7 K⟩) rfl rfl rfl).trans ?_
  have ea : ∀ (z : Int) (h : List Cell), absV [.int z] h = .val (.int z.natAbs) := fun z h => by
    show VO.val (.int (if z < 0 then -z else z)) = _
    rw [abs_if]
  have eb : Builtin.Int.intBits ((j.natAbs : Nat) : Int) = Builtin.Int.intBits j := by
    unfold Builtin.Int.intBits
    simp
  have hL := bits_le hk h0
  have hlt := bits_lt j
  have e1 : ∀ s : S, s = dvS hp hp.length i.natAbs j.natAbs none none → range1I (consA (two (opC (callK (pf K) n) (ow "__add__") (ow "__radd__") addV) (two (opC (callK (pf K) n) (ow "__mul__") (ow "__rmul__") mulV) (conE (.int 2)) (bitsE (varE 1))) (conE (.int 2))) nilA) s = .ok (.vals (rangeL 0 (2 * Builtin.Int.intBits j + 2))) s := fun s es => by
    have m1 : ∀ h : List Cell, mulV (.int 2) (.int (Builtin.Int.intBits j : Nat)) h = .val (.int (2 * (Builtin.Int.intBits j : Nat))) := fun h => v_mul (mulOk_b (k := 2) (m := 14) (by decide) (by rw [Int.natAbs_natCast]; omega) (by decide) (by decide) (by decide))
    have q := range1_up (t := consA (two (opC (callK (pf K) n) (ow "__add__") (ow "__radd__") addV) (two (opC (callK (pf K) n) (ow "__mul__") (ow "__rmul__") mulV) (conE (.int 2)) (bitsE (varE 1))) (conE (.int 2))) nilA) (s := s) (s' := s) (j := 2 * (Builtin.Int.intBits j : Nat) + 2) (by
      subst es
      unfold dvS
      simp only [y_nil, y_cons, y_asg, y_name, y_ret, y_drop, y_if, y_bl, y_tru, y_not, y_and, y_or, y_andE, y_orE, y_notE, y_con, y_var, y_bin, y_un, y_two, y_nilA, y_consA, y_call, y_make, y_stat, y_callV, y_callG, y_neg, y_tup, y_lst, y_ifE, y_raise, y_val, y_new, y_on, y_onx, y_mth, y_fmt, y_bits, y_tupG, y_consG, y_nilG, y_mthL, v_add, v_sub, v_neg, v_lt, v_le, v_gt, v_ge, v_tru, v_gcd, set0, set1, v_eqC, v_opC, v_negC, v_neC, Out.bind_ok, Out.bind_exn, List.getElem?_cons_zero, List.getElem?_cons_succ, List.append_nil, List.nil_append, List.cons_append, Bool.not_true, Bool.not_false, if_true, if_false, Bool.false_eq_true, Bool.true_eq_false, reduceCtorEq, List.take_length, eqV_int, List.length_cons, List.length_nil, eb, m1]) (by omega) (by omega)
    rw [q]
    congr 3
  obtain ⟨s', e2, a', b', o, r, es, hE⟩ := forS_ok (w := range1I (consA (two (opC (callK (pf K) n) (ow "__add__") (ow "__radd__") addV) (two (opC (callK (pf K) n) (ow "__mul__") (ow "__rmul__") mulV) (conE (.int 2)) (bitsE (varE 1))) (conE (.int 2))) nilA)) (g := nameG 2) (f := dvF) (xs := rangeL 0 (2 * Builtin.Int.intBits j + 2)) (s0 := dvS hp hp.length i.natAbs j.natAbs none none) (s := dvS hp hp.length i.natAbs j.natAbs none none)
    (fun m s => ∃ a b o r, s = dvS hp hp.length a b o r ∧ Eu (Int.gcd i j) (Builtin.Int.intBits j) m a b) (e1 _ rfl) ⟨i.natAbs, j.natAbs, none, none, rfl, rfl, .inl ⟨rfl, hlt⟩⟩ fun m d s hd ⟨a, b, o, r, es, hE⟩ => by
      subst es
      obtain ⟨a', b', r', e3, h3⟩ := dv_turn (hp := hp) (n := hp.length) (a := a) (b := b) (o := some d) (r := r)
      refine ⟨_, _, rfl, e3, a', b', some d, r', rfl, ?_⟩
      rcases h3 with ⟨z1, z2, z3⟩ | ⟨z1, z2, z3⟩
      · rw [z2, z3]
        exact eu_turn hE z1
      · rw [z2, z3]
        subst z1
        exact eu_stay hE
  rw [range_len] at hE
  have ga := eu_end hE
  subst es
  subst ga
  unfold dvF dvS at e2
  simp only [startEnv, List.map_cons, List.map_nil, List.length_cons, List.length_nil, Nat.sub_self, List.replicate, List.append_nil, List.cons_append, List.nil_append, B7, L7, y_nil, y_cons, y_asg, y_name, y_ret, y_drop, y_if, y_bl, y_tru, y_not, y_and, y_or, y_andE, y_orE, y_notE, y_con, y_var, y_bin, y_un, y_two, y_nilA, y_consA, y_call, y_make, y_stat, y_callV, y_callG, y_neg, y_tup, y_lst, y_ifE, y_raise, y_val, y_new, y_on, y_onx, y_mth, y_fmt, y_bits, y_tupG, y_consG, y_nilG, y_mthL, v_add, v_sub, v_neg, v_lt, v_le, v_gt, v_ge, v_tru, v_gcd, set0, set1, v_eqC, v_opC, v_negC, v_neC, Out.bind_ok, Out.bind_exn, List.getElem?_cons_zero, List.getElem?_cons_succ, List.append_nil, List.nil_append, List.cons_append, Bool.not_true, Bool.not_false, if_true, if_false, Bool.false_eq_true, Bool.true_eq_false, reduceCtorEq, List.take_length, eqV_int, List.length_cons, List.length_nil, ea]
  rw [e2]
  simp only [y_nil, y_cons, y_asg, y_name, y_ret, y_drop, y_if, y_bl, y_tru, y_not, y_and, y_or, y_andE, y_orE, y_notE, y_con, y_var, y_bin, y_un, y_two, y_nilA, y_consA, y_call, y_make, y_stat, y_callV, y_callG, y_neg, y_tup, y_lst, y_ifE, y_raise, y_val, y_new, y_on, y_onx, y_mth, y_fmt, y_bits, y_tupG, y_consG, y_nilG, y_mthL, v_add, v_sub, v_neg, v_lt, v_le, v_gt, v_ge, v_tru, v_gcd, set0, set1, v_eqC, v_opC, v_negC, v_neC, Out.bind_ok, Out.bind_exn, List.getElem?_cons_zero, List.getElem?_cons_succ, List.append_nil, List.nil_append, List.cons_append, Bool.not_true, Bool.not_false, if_true, if_false, Bool.false_eq_true, Bool.true_eq_false, reduceCtorEq, List.take_length, eqV_int, List.length_cons, List.length_nil]
  exact lv rfl
/-! the law's own fractions -/
theorem c6 (h : plainD x = true) : callK (pf K) (n + 1) 6 none [x] hp = .ok (.bl (isI x)) hp := by
  refine (call_none (f := ⟨1, 1, false, B6 K⟩) rfl rfl rfl).trans ?_
  obtain ⟨e1, e2, _⟩ := isa2 (K := K) (hp := hp) h
  simp only [startEnv, List.map_cons, List.map_nil, List.length_cons, List.length_nil, Nat.sub_self, List.replicate, List.append_nil, List.cons_append, List.nil_append, B6, L6, y_nil, y_cons, y_asg, y_name, y_ret, y_drop, y_if, y_bl, y_tru, y_not, y_and, y_or, y_andE, y_orE, y_notE, y_con, y_var, y_bin, y_un, y_two, y_nilA, y_consA, y_call, y_make, y_stat, y_callV, y_callG, y_neg, y_tup, y_lst, y_ifE, y_raise, y_val, y_new, y_on, y_onx, y_mth, y_fmt, y_bits, y_tupG, y_consG, y_nilG, y_mthL, v_add, v_sub, v_neg, v_lt, v_le, v_gt, v_ge, v_tru, v_gcd, set0, set1, v_eqC, v_opC, v_negC, v_neC, Out.bind_ok, Out.bind_exn, List.getElem?_cons_zero, List.getElem?_cons_succ, List.append_nil, List.nil_append, List.cons_append, Bool.not_true, Bool.not_false, if_true, if_false, Bool.false_eq_true, Bool.true_eq_false, reduceCtorEq, List.take_length, eqV_int, List.length_cons, List.length_nil, e1, e2]
  cases isI x <;> exact lv rfl
theorem two_le : (2 : Nat) ≤ sizeLine := by rw [sizeLine_eq]; decide
theorem c8 {k : Nat} (hb : b ≠ 0) (hk : b.natAbs < 2 ^ k) (h0 : 0 < k) (h9 : k ≤ 9000) : callK (pf K) (n + 2) 8 none [.int t, .int b] hp = .ok (.tup [.int (nm t b).1, .int (nm t b).2]) hp := by
  refine (call_none (f := ⟨3, 2, false, B8 K⟩) rfl rfl rfl).trans ?_
  have g := gcd_pos (t := t) hb
  have gl : ((Int.gcd t b : Nat) : Int).natAbs < 2 ^ k := by
    have := gcd_le (t := t) hb
    rw [Int.natAbs_natCast]
    omega
  have dv : ∀ (i : Int) (h : List Cell), fdivV (.int i) (.int ((Int.gcd t b : Nat) : Int)) h = .val (.int (i / ((Int.gcd t b : Nat) : Int))) := fun i h => v_div (divOk_b (show 0 < ((Int.gcd t b : Nat) : Int) by omega) gl h0 h9)
  have two := two_le
  by_cases hz : b < 0
  · have e7 := c7 (K := K) (n := n) (hp := hp) (i := -t) (j := -b) (k := k) (by rw [Int.natAbs_neg]; exact hk) h0 h9
    rw [Int.neg_gcd, Int.gcd_neg] at e7
    simp only [startEnv, List.map_cons, List.map_nil, List.length_cons, List.length_nil, Nat.sub_self, List.replicate, List.append_nil, List.cons_append, List.nil_append, B8, L8, y_nil, y_cons, y_asg, y_name, y_ret, y_drop, y_if, y_bl, y_tru, y_not, y_and, y_or, y_andE, y_orE, y_notE, y_con, y_var, y_bin, y_un, y_two, y_nilA, y_consA, y_call, y_make, y_stat, y_callV, y_callG, y_neg, y_tup, y_lst, y_ifE, y_raise, y_val, y_new, y_on, y_onx, y_mth, y_fmt, y_bits, y_tupG, y_consG, y_nilG, y_mthL, v_add, v_sub, v_neg, v_lt, v_le, v_gt, v_ge, v_tru, v_gcd, set0, set1, v_eqC, v_opC, v_negC, v_neC, Out.bind_ok, Out.bind_exn, List.getElem?_cons_zero, List.getElem?_cons_succ, List.append_nil, List.nil_append, List.cons_append, Bool.not_true, Bool.not_false, if_true, if_false, Bool.false_eq_true, Bool.true_eq_false, reduceCtorEq, List.take_length, eqV_int, List.length_cons, List.length_nil, hz, decide_true, e7, dv, two]
    unfold nm
    rw [if_pos hz, Int.neg_ediv_of_dvd gcd_dt, Int.neg_ediv_of_dvd gcd_db]
    exact lv rfl
  · have e7 := c7 (K := K) (n := n) (hp := hp) (i := t) (j := b) (k := k) hk h0 h9
    simp only [startEnv, List.map_cons, List.map_nil, List.length_cons, List.length_nil, Nat.sub_self, List.replicate, List.append_nil, List.cons_append, List.nil_append, B8, L8, y_nil, y_cons, y_asg, y_name, y_ret, y_drop, y_if, y_bl, y_tru, y_not, y_and, y_or, y_andE, y_orE, y_notE, y_con, y_var, y_bin, y_un, y_two, y_nilA, y_consA, y_call, y_make, y_stat, y_callV, y_callG, y_neg, y_tup, y_lst, y_ifE, y_raise, y_val, y_new, y_on, y_onx, y_mth, y_fmt, y_bits, y_tupG, y_consG, y_nilG, y_mthL, v_add, v_sub, v_neg, v_lt, v_le, v_gt, v_ge, v_tru, v_gcd, set0, set1, v_eqC, v_opC, v_negC, v_neC, Out.bind_ok, Out.bind_exn, List.getElem?_cons_zero, List.getElem?_cons_succ, List.append_nil, List.nil_append, List.cons_append, Bool.not_true, Bool.not_false, if_true, if_false, Bool.false_eq_true, Bool.true_eq_false, reduceCtorEq, List.take_length, eqV_int, List.length_cons, List.length_nil, hz, decide_false, e7, dv, two]
    unfold nm
    rw [if_neg hz]
    exact lv rfl
/-- a pair of numbers -/
abbrev pr (t b : Int) : D := .tup [.int t, .int b]
theorem ix0 {h : List Cell} : ixV (pr t b) (.int 0) h = .val (.int t) := rfl
theorem ix1 {h : List Cell} : ixV (pr t b) (.int 1) h = .val (.int b) := rfl
section
variable {k : Nat} (h1 : t.natAbs < 2 ^ k) (h2 : b.natAbs < 2 ^ k) (h3 : u.natAbs < 2 ^ k) (h4 : c.natAbs < 2 ^ k) (h0 : 0 < k) (h9 : k + k ≤ 9000)
include h1 h2 h3 h4 h0 h9
theorem c9 (hb : 1 ≤ b) (hc : 1 ≤ c) : callK (pf K) (n + 3) 9 none [pr t b, pr u c] hp = .ok (pr (nm (t * c + u * b) (b * c)).1 (nm (t * c + u * b) (b * c)).2) hp := by
  refine (call_none (f := ⟨2, 2, false, B9 K⟩) rfl rfl rfl).trans ?_
  have m1 : ∀ h : List Cell, mulV (.int t) (.int c) h = .val (.int (t * c)) := fun h => v_mul (mulOk_b h1 h4 h0 h0 (by omega))
  have m2 : ∀ h : List Cell, mulV (.int u) (.int b) h = .val (.int (u * b)) := fun h => v_mul (mulOk_b h3 h2 h0 h0 (by omega))
  have m3 : ∀ h : List Cell, mulV (.int b) (.int c) h = .val (.int (b * c)) := fun h => v_mul (mulOk_b h2 h4 h0 h0 (by omega))
  have e := c8 (K := K) (n := n) (hp := hp) (t := t * c + u * b) (nz hb hc) (mul_b h2 h4) (by omega) h9
  simp only [startEnv, List.map_cons, List.map_nil, List.length_cons, List.length_nil, Nat.sub_self, List.replicate, List.append_nil, List.cons_append, List.nil_append, B9, L9, y_nil, y_cons, y_asg, y_name, y_ret, y_drop, y_if, y_bl, y_tru, y_not, y_and, y_or, y_andE, y_orE, y_notE, y_con, y_var, y_bin, y_un, y_two, y_nilA, y_consA, y_call, y_make, y_stat, y_callV, y_callG, y_neg, y_tup, y_lst, y_ifE, y_raise, y_val, y_new, y_on, y_onx, y_mth, y_fmt, y_bits, y_tupG, y_consG, y_nilG, y_mthL, v_add, v_sub, v_neg, v_lt, v_le, v_gt, v_ge, v_tru, v_gcd, set0, set1, v_eqC, v_opC, v_negC, v_neC, Out.bind_ok, Out.bind_exn, List.getElem?_cons_zero, List.getElem?_cons_succ, List.append_nil, List.nil_append, List.cons_append, Bool.not_true, Bool.not_false, if_true, if_false, Bool.false_eq_true, Bool.true_eq_false, reduceCtorEq, List.take_length, eqV_int, List.length_cons, List.length_nil, ix0, ix1, m1, m2, m3, e]
  exact lv rfl
theorem c10 (hb : 1 ≤ b) (hc : 1 ≤ c) : callK (pf K) (n + 3) 10 none [pr t b, pr u c] hp = .ok (pr (nm (t * c - u * b) (b * c)).1 (nm (t * c - u * b) (b * c)).2) hp := by
  refine (call_none (f := ⟨2, 2, false, B10 K⟩) rfl rfl rfl).trans ?_
  have m1 : ∀ h : List Cell, mulV (.int t) (.int c) h = .val (.int (t * c)) := fun h => v_mul (mulOk_b h1 h4 h0 h0 (by omega))
  have m2 : ∀ h : List Cell, mulV (.int u) (.int b) h = .val (.int (u * b)) := fun h => v_mul (mulOk_b h3 h2 h0 h0 (by omega))
  have m3 : ∀ h : List Cell, mulV (.int b) (.int c) h = .val (.int (b * c)) := fun h => v_mul (mulOk_b h2 h4 h0 h0 (by omega))
  have e := c8 (K := K) (n := n) (hp := hp) (t := t * c - u * b) (nz hb hc) (mul_b h2 h4) (by omega) h9
  have sb : opC (callK (pf K) (n + 2)) (ow "__sub__") (ow "__rsub__") subV (.int (t * c)) (.int (u * b)) ⟨[some (pr t b), some (pr u c)], hp, hp.length⟩ = .ok (.int (t * c - u * b)) ⟨[some (pr t b), some (pr u c)], hp, hp.length⟩ := rfl
  simp only [startEnv, List.map_cons, List.map_nil, List.length_cons, List.length_nil, Nat.sub_self, List.replicate, List.append_nil, List.cons_append, List.nil_append, B10, L10, y_nil, y_cons, y_asg, y_name, y_ret, y_drop, y_if, y_bl, y_tru, y_not, y_and, y_or, y_andE, y_orE, y_notE, y_con, y_var, y_bin, y_un, y_two, y_nilA, y_consA, y_call, y_make, y_stat, y_callV, y_callG, y_neg, y_tup, y_lst, y_ifE, y_raise, y_val, y_new, y_on, y_onx, y_mth, y_fmt, y_bits, y_tupG, y_consG, y_nilG, y_mthL, v_add, v_sub, v_neg, v_lt, v_le, v_gt, v_ge, v_tru, v_gcd, set0, set1, v_eqC, v_opC, v_negC, v_neC, Out.bind_ok, Out.bind_exn, List.getElem?_cons_zero, List.getElem?_cons_succ, List.append_nil, List.nil_append, List.cons_append, Bool.not_true, Bool.not_false, if_true, if_false, Bool.false_eq_true, Bool.true_eq_false, reduceCtorEq, List.take_length, eqV_int, List.length_cons, List.length_nil, ix0, ix1, m1, m2, m3, e]
  exact lv rfl
theorem c11 (hb : 1 ≤ b) (hc : 1 ≤ c) : callK (pf K) (n + 3) 11 none [pr t b, pr u c] hp = .ok (pr (nm (t * u) (b * c)).1 (nm (t * u) (b * c)).2) hp := by
  refine (call_none (f := ⟨2, 2, false, B11 K⟩) rfl rfl rfl).trans ?_
  have m1 : ∀ h : List Cell, mulV (.int t) (.int u) h = .val (.int (t * u)) := fun h => v_mul (mulOk_b h1 h3 h0 h0 (by omega))
  have m3 : ∀ h : List Cell, mulV (.int b) (.int c) h = .val (.int (b * c)) := fun h => v_mul (mulOk_b h2 h4 h0 h0 (by omega))
  have e := c8 (K := K) (n := n) (hp := hp) (t := t * u) (nz hb hc) (mul_b h2 h4) (by omega) h9
  simp only [startEnv, List.map_cons, List.map_nil, List.length_cons, List.length_nil, Nat.sub_self, List.replicate, List.append_nil, List.cons_append, List.nil_append, B11, L11, y_nil, y_cons, y_asg, y_name, y_ret, y_drop, y_if, y_bl, y_tru, y_not, y_and, y_or, y_andE, y_orE, y_notE, y_con, y_var, y_bin, y_un, y_two, y_nilA, y_consA, y_call, y_make, y_stat, y_callV, y_callG, y_neg, y_tup, y_lst, y_ifE, y_raise, y_val, y_new, y_on, y_onx, y_mth, y_fmt, y_bits, y_tupG, y_consG, y_nilG, y_mthL, v_add, v_sub, v_neg, v_lt, v_le, v_gt, v_ge, v_tru, v_gcd, set0, set1, v_eqC, v_opC, v_negC, v_neC, Out.bind_ok, Out.bind_exn, List.getElem?_cons_zero, List.getElem?_cons_succ, List.append_nil, List.nil_append, List.cons_append, Bool.not_true, Bool.not_false, if_true, if_false, Bool.false_eq_true, Bool.true_eq_false, reduceCtorEq, List.take_length, eqV_int, List.length_cons, List.length_nil, ix0, ix1, m1, m3, e]
  exact lv rfl
theorem c12 (hb : 1 ≤ b) (hu : u ≠ 0) : callK (pf K) (n + 3) 12 none [pr t b, pr u c] hp = .ok (pr (nm (t * c) (b * u)).1 (nm (t * c) (b * u)).2) hp := by
  refine (call_none (f := ⟨2, 2, false, B12 K⟩) rfl rfl rfl).trans ?_
  have m1 : ∀ h : List Cell, mulV (.int t) (.int c) h = .val (.int (t * c)) := fun h => v_mul (mulOk_b h1 h4 h0 h0 (by omega))
  have m3 : ∀ h : List Cell, mulV (.int b) (.int u) h = .val (.int (b * u)) := fun h => v_mul (mulOk_b h2 h3 h0 h0 (by omega))
  have e := c8 (K := K) (n := n) (hp := hp) (t := t * c) (Int.mul_ne_zero (show b ≠ 0 by omega) hu) (mul_b h2 h3) (by omega) h9
  simp only [startEnv, List.map_cons, List.map_nil, List.length_cons, List.length_nil, Nat.sub_self, List.replicate, List.append_nil, List.cons_append, List.nil_append, B12, L12, y_nil, y_cons, y_asg, y_name, y_ret, y_drop, y_if, y_bl, y_tru, y_not, y_and, y_or, y_andE, y_orE, y_notE, y_con, y_var, y_bin, y_un, y_two, y_nilA, y_consA, y_call, y_make, y_stat, y_callV, y_callG, y_neg, y_tup, y_lst, y_ifE, y_raise, y_val, y_new, y_on, y_onx, y_mth, y_fmt, y_bits, y_tupG, y_consG, y_nilG, y_mthL, v_add, v_sub, v_neg, v_lt, v_le, v_gt, v_ge, v_tru, v_gcd, set0, set1, v_eqC, v_opC, v_negC, v_neC, Out.bind_ok, Out.bind_exn, List.getElem?_cons_zero, List.getElem?_cons_succ, List.append_nil, List.nil_append, List.cons_append, Bool.not_true, Bool.not_false, if_true, if_false, Bool.false_eq_true, Bool.true_eq_false, reduceCtorEq, List.take_length, eqV_int, List.length_cons, List.length_nil, ix0, ix1, m1, m3, e]
  exact lv rfl
end
/-! a ratio as a pair -/
theorem c13 {k : Nat} (hb : 1 ≤ b) (g : Int.gcd t b = 1) (h2 : b.natAbs < 2 ^ k) (h0 : 0 < k) (h9 : k ≤ 9000) : callK (pf K) (n + 2) 13 none [rt t b] hp = .ok (pr t b) hp := by
  refine (call_none (f := ⟨1, 1, false, B13 K⟩) rfl rfl rfl).trans ?_
  obtain ⟨_, _, e3⟩ := isa2 (K := K) (hp := hp) (x := rt t b) rfl
  have i1 := c6 (K := K) (n := n) (hp := hp) (x := .int t) rfl
  have i2 := c6 (K := K) (n := n) (hp := hp) (x := .int b) rfl
  have e7 := c7 (K := K) (n := n) (hp := hp) (i := t) (j := b) (k := k) h2 h0 h9
  rw [g] at e7
  have hz : ¬ b < 1 := by omega
  have two := two_le
  simp only [startEnv, List.map_cons, List.map_nil, List.length_cons, List.length_nil, Nat.sub_self, List.replicate, List.append_nil, List.cons_append, List.nil_append, B13, L13, y_nil, y_cons, y_asg, y_name, y_ret, y_drop, y_if, y_bl, y_tru, y_not, y_and, y_or, y_andE, y_orE, y_notE, y_con, y_var, y_bin, y_un, y_two, y_nilA, y_consA, y_call, y_make, y_stat, y_callV, y_callG, y_neg, y_tup, y_lst, y_ifE, y_raise, y_val, y_new, y_on, y_onx, y_mth, y_fmt, y_bits, y_tupG, y_consG, y_nilG, y_mthL, v_add, v_sub, v_neg, v_lt, v_le, v_gt, v_ge, v_tru, v_gcd, set0, set1, v_eqC, v_opC, v_negC, v_neC, Out.bind_ok, Out.bind_exn, List.getElem?_cons_zero, List.getElem?_cons_succ, List.append_nil, List.nil_append, List.cons_append, Bool.not_true, Bool.not_false, if_true, if_false, Bool.false_eq_true, Bool.true_eq_false, reduceCtorEq, List.take_length, eqV_int, List.length_cons, List.length_nil, e3, isN, isI, i1, i2, fld_t (a := varE _), fld_b (a := varE _), fld_t1, fld_b1, hz, decide_false, e7]
  exact lv rfl
end
end Law
end

-- S78h
section
set_option maxHeartbeats 4000000
namespace Law
open PySem PySem.Spec Den
/-! ### whole numbers in proportion -/
def rts (qs : List (Int × Int)) : List D := qs.map fun q => rt q.1 q.2
def prs (qs : List (Int × Int)) : List D := qs.map fun q => pr q.1 q.2
def botS (B : Int) (q : Int × Int) : Int := B * q.2 / (Int.gcd B q.2 : Nat)
def botI (qs : List (Int × Int)) : Int := qs.foldl botS 1
def topsI (qs : List (Int × Int)) : List Int := qs.map fun q => q.1 * (botI qs / q.2)
def shS (s t : Int) : Int := (Int.gcd s t : Nat)
def shI (ts : List Int) : Int := ts.foldl shS 0
def wholeI (qs : List (Int × Int)) : List Int := if shI (topsI qs) = 0 then topsI qs else (topsI qs).map fun t => t / shI (topsI qs)
/-- the numbers are small, the bottoms positive -/
def Small (qs : List (Int × Int)) : Prop := qs.length ≤ 8 ∧ ∀ q ∈ qs, 1 ≤ q.2 ∧ q.1.natAbs < 2 ^ 40 ∧ q.2.natAbs < 2 ^ 40
theorem fold_take {α β : Type} (f : β → α → β) (z : β) (l : List α) {i : Nat} {x : α} (h : l[i]? = some x) : (l.take (i + 1)).foldl f z = f ((l.take i).foldl f z) x := by
  obtain ⟨h1, h2⟩ := List.getElem?_eq_some_iff.mp h
  rw [List.take_succ, h, List.foldl_append]
  rfl
theorem botS_ok {B : Int} {q : Int × Int} (hB : 1 ≤ B) (hq : 1 ≤ q.2) : 1 ≤ botS B q ∧ (botS B q).natAbs ≤ B.natAbs * q.2.natAbs := by
  unfold botS
  refine ⟨?_, ?_⟩
  · obtain ⟨c, hc⟩ := gcd_db (t := B) (b := q.2)
    have g := gcd_pos (t := B) (show q.2 ≠ 0 by omega)
    have e : B * q.2 / (Int.gcd B q.2 : Nat) = B * c := by
      conv => lhs; lhs; rw [hc]
      rw [Int.mul_left_comm]
      exact Int.mul_ediv_cancel_left _ (by omega)
    have hc1 : 1 ≤ c := by
      by_cases z : c ≤ 0
      · have := Int.mul_nonneg (show (0 : Int) ≤ (Int.gcd B q.2 : Nat) by omega) (show 0 ≤ -c by omega)
        rw [Int.mul_neg] at this
        omega
      · omega
    rw [e]
    have := Int.mul_le_mul hB hc1 (by omega) (by omega)
    omega
  · rw [← Int.natAbs_mul]
    exact Int.natAbs_ediv_le_natAbs _ _
theorem bot_take {qs : List (Int × Int)} (h : Small qs) : ∀ i, i ≤ qs.length → 1 ≤ (qs.take i).foldl botS 1 ∧ ((qs.take i).foldl botS 1).natAbs < 2 ^ (40 * i + 1)
  | 0, _ => ⟨by simp, by simp⟩
  | i + 1, hi => by
    obtain ⟨h1, h2⟩ := bot_take h i (by omega)
    have hq := h.2 qs[i] (List.getElem_mem (by omega))
    rw [fold_take botS 1 qs (List.getElem?_eq_getElem (show i < qs.length by omega))]
    obtain ⟨h3, h4⟩ := botS_ok (q := qs[i]) h1 hq.1
    refine ⟨h3, Nat.lt_of_le_of_lt h4 ?_⟩
    have e : 40 * (i + 1) + 1 = (40 * i + 1) + 40 := by omega
    rw [e, Nat.pow_add]
    exact Nat.mul_lt_mul'' h2 hq.2.2
theorem bot_ok {qs : List (Int × Int)} (h : Small qs) : 1 ≤ botI qs ∧ (botI qs).natAbs < 2 ^ 321 := by
  obtain ⟨h1, h2⟩ := bot_take h qs.length (Nat.le_refl _)
  rw [List.take_length] at h1 h2
  exact ⟨h1, Nat.lt_of_lt_of_le h2 (Nat.pow_le_pow_right (by decide) (by have := h.1; omega))⟩
theorem tops_b {qs : List (Int × Int)} (h : Small qs) : ∀ t ∈ topsI qs, t.natAbs < 2 ^ 361 := fun t ht => by
  obtain ⟨q, hq, e⟩ := List.mem_map.mp ht
  subst e
  have b := h.2 q hq
  have a := bot_ok h
  have e1 : (botI qs / q.2).natAbs < 2 ^ 321 := Nat.lt_of_le_of_lt (Int.natAbs_ediv_le_natAbs _ _) a.2
  exact mul_b (k := 40) (m := 321) b.2.1 e1
theorem sh_take {ts : List Int} (h : ∀ t ∈ ts, t.natAbs < 2 ^ 361) : ∀ i, i ≤ ts.length → 0 ≤ (ts.take i).foldl shS 0 ∧ ((ts.take i).foldl shS 0).natAbs < 2 ^ 361
  | 0, _ => ⟨by simp, by
    show (0 : Int).natAbs < 2 ^ 361
    exact Nat.pow_pos (by decide)⟩
  | i + 1, hi => by
    obtain ⟨h1, h2⟩ := sh_take h i (by omega)
    have ht := h ts[i] (List.getElem_mem (by omega))
    rw [fold_take shS 0 ts (List.getElem?_eq_getElem (show i < ts.length by omega))]
    unfold shS
    refine ⟨by omega, ?_⟩
    rw [Int.natAbs_natCast]
    by_cases z : ts[i] = 0
    · rw [z, Int.gcd_zero_right]
      exact h2
    · exact Nat.lt_of_le_of_lt (gcd_le z) ht
theorem sh_ok {ts : List Int} (h : ∀ t ∈ ts, t.natAbs < 2 ^ 361) : 0 ≤ shI ts ∧ (shI ts).natAbs < 2 ^ 361 := by
  have := sh_take h ts.length (Nat.le_refl _)
  rw [List.take_length] at this
  exact this
section
variable {K : PySem.W.Frag} {C : Calls} {n : Nat} {hp : List Cell} {t b u c i j : Int} {s : S} {a : SemE} {x y : D} {xs : List D} {qs : List (Int × Int)}
/-- a row of numbers, as ratios and ints -/
inductive Nums : List D → List (Int × Int) → Prop
  | nil : Nums [] []
  | cons {x : D} {q : Int × Int} {xs : List D} {qs : List (Int × Int)} : Num x q.1 q.2 → Nums xs qs → Nums (x :: xs) (q :: qs)
def ratD : D → D
  | .int i => rt i 1
  | d => d
theorem num_ratD (q : Num x t b) : ratD x = rt t b := by cases q <;> rfl
theorem Nums.rat (h : Nums xs qs) : xs.map ratD = rts qs := by
  induction h with
  | nil => rfl
  | cons h _ ih =>
    rw [List.map_cons, ih]
    show _ = rt _ _ :: rts _
    rw [num_ratD h]
theorem Nums.num (h : Nums xs qs) : ∀ d ∈ xs, ∃ t b, Num d t b ∧ ratD d = rt t b := by
  induction h with
  | nil => intro d hd; cases hd
  | cons h _ ih =>
    intro d hd
    rcases List.mem_cons.mp hd with rfl | hd
    · exact ⟨_, _, h, num_ratD h⟩
    · exact ih d hd
theorem Nums.len (h : Nums xs qs) : xs.length = qs.length := by
  induction h with
  | nil => rfl
  | cons _ _ ih => rw [List.length_cons, List.length_cons, ih]
theorem rts_len : (rts qs).length = qs.length := by simp [rts]
theorem small_le (h : qs.length ≤ 8) : qs.length ≤ sizeLine := by rw [sizeLine_eq]; omega
theorem getD_map {α β : Type} {f : α → β} {l : List α} {i : Nat} {d : β} (h : (l.map f)[i]? = some d) : ∃ x, l[i]? = some x ∧ d = f x := by
  rw [List.getElem?_map] at h
  cases e : l[i]? with
  | none => rw [e] at h; cases h
  | some x =>
    rw [e] at h
    exact ⟨x, rfl, (Option.some.inj h).symm⟩
theorem filt {α : Type} {l : List α} : l.filter (fun _ => true) = l := List.filter_eq_self.mpr fun _ _ => rfl
/-! the program's -/
abbrev w1 (hp : List Cell) (qs : List (Int × Int)) : List Cell := hp ++ [.lst (rts qs)]
abbrev w2 (hp : List Cell) (qs : List (Int × Int)) : List Cell := w1 hp qs ++ [.lst ((topsI qs).map .int)]
abbrev whS (x : D) (hp : List Cell) (qs : List (Int × Int)) (B : Int) (o : Option D) : S := ⟨[some x, some (.ref hp.length), some (.int B), o, none, none, none, none], w1 hp qs, hp.length⟩
theorem at_w1 : (w1 hp qs)[hp.length]? = some (.lst (rts qs)) := List.getElem?_concat_length
theorem wh_rats (hx : Nums xs qs) (hl : qs.length ≤ 8) (hrow : (∃ r, x = .ref r ∧ hp[r]? = some (.lst xs)) ∨ x = .tup xs) {e : List (Option D)} (h0 : e[0]? = some (some x)) (h7 : e.length = 8) :
    lcE (seqI (varE 0)) (.one 7) yesT (callE (callK (pf K) (n + 4)) 2 [] (consA (varE 7) nilA)) [7] ⟨e, hp, hp.length⟩ = .ok (.ref hp.length) ⟨e, w1 hp qs, hp.length⟩ := by
  have ev : varE 0 ⟨e, hp, hp.length⟩ = .ok x ⟨e, hp, hp.length⟩ := by rw [y_var, h0]
  have turn : ∀ d ∈ xs, Turns (.one 7) yesT (callE (callK (pf K) (n + 4)) 2 [] (consA (varE 7) nilA)) (wipeE e [7]) hp.length hp (fun _ => true) ratD d := fun d hd => by
    obtain ⟨t, b, q, er⟩ := hx.num d hd
    refine ⟨(wipeE e [7]).set 7 (some d), rfl, fun acc => ⟨(wipeE e [7]).set 7 (some d), rfl, fun _ => ⟨(wipeE e [7]).set 7 (some d), ?_⟩⟩⟩
    have e7 : ((wipeE e [7]).set 7 (some d))[7]? = some (some d) := List.getElem?_set_self (by show 7 < (e.set 7 none).length; rw [List.length_set, h7]; decide)
    have e2 := c2 (K := K) (n := n) (hp := hp ++ [.lst acc]) q
    rw [er]
    simp only [y_nil, y_cons, y_asg, y_name, y_ret, y_drop, y_if, y_bl, y_tru, y_not, y_and, y_or, y_andE, y_orE, y_notE, y_con, y_var, y_bin, y_un, y_two, y_nilA, y_consA, y_call, y_make, y_stat, y_callV, y_callG, y_neg, y_tup, y_lst, y_ifE, y_raise, y_val, y_new, y_on, y_onx, y_mth, y_fmt, y_bits, y_tupG, y_consG, y_nilG, y_mthL, v_add, v_sub, v_neg, v_lt, v_le, v_gt, v_ge, v_tru, v_gcd, set0, set1, v_eqC, v_opC, v_negC, v_neC, Out.bind_ok, Out.bind_exn, List.getElem?_cons_zero, List.getElem?_cons_succ, List.append_nil, List.nil_append, List.cons_append, Bool.not_true, Bool.not_false, if_true, if_false, Bool.false_eq_true, Bool.true_eq_false, reduceCtorEq, List.take_length, eqV_int, List.length_cons, List.length_nil, e7, e2]
  have key : ∀ {it : ItD}, seqI (varE 0) ⟨e, hp, hp.length⟩ = .ok it ⟨e, hp, hp.length⟩ → it.len ⟨e, hp, hp.length⟩ = xs.length → (∀ i e' acc, it.at i ⟨e', hp ++ [.lst acc], hp.length⟩ = some xs[i]?) →
      lcE (seqI (varE 0)) (.one 7) yesT (callE (callK (pf K) (n + 4)) 2 [] (consA (varE 7) nilA)) [7] ⟨e, hp, hp.length⟩ = .ok (.ref hp.length) ⟨e, w1 hp qs, hp.length⟩ := fun {it} hw hlen hit => by
    rw [lc_ok (φ := ratD) (p := fun _ => true) hw hlen hit (Nat.le_refl _) (by rw [hx.len]; exact small_le hl) turn, filt, hx.rat]
  rcases hrow with ⟨r, rfl, hr⟩ | rfl
  · refine key (it := .cell r) ?_ (cell_len hr) fun i e' acc => cell_at (get_app hr)
    show (varE 0 ⟨e, hp, hp.length⟩).bind _ = _
    rw [ev]
    simp only [Out.bind_ok, hr]
  · refine key (it := .vals xs) ?_ rfl fun i e' acc => vals_at
    show (varE 0 ⟨e, hp, hp.length⟩).bind _ = _
    rw [ev]
    rfl
theorem wh_seq {m : Nat} {ys : List D} {e : List (Option D)} {h : List Cell} {b0 r : Nat} (he : e[m]? = some (some (.ref r))) (hr : h[r]? = some (.lst ys)) : seqI (varE m) ⟨e, h, b0⟩ = .ok (.cell r) ⟨e, h, b0⟩ := by
  show (varE m ⟨e, h, b0⟩).bind _ = _
  rw [y_var, he]
  simp only [Out.bind_ok, hr]
theorem wh_bot (hs : Small qs) : ∃ o, forS (seqI (varE 1)) (nameG 3) (runs [(asgS (bin fdivV (two (opC (callK (pf K) (n + 4)) (ow "__mul__") (ow "__rmul__") mulV) (varE 2) (fldX (tb.px K) tb.E tb.noatF 4 3 (varE 3))) (callV gcdV (consA (varE 2) (consA (fldX (tb.px K) tb.E tb.noatF 4 3 (varE 3)) nilA)))) (nameG 2))]) (whS x hp qs 1 none) = .ok .next (whS x hp qs (botI qs) o) := by
  obtain ⟨s', e, o, es⟩ := forS_it (w := seqI (varE 1)) (g := nameG 3) (f := runs [(asgS (bin fdivV (two (opC (callK (pf K) (n + 4)) (ow "__mul__") (ow "__rmul__") mulV) (varE 2) (fldX (tb.px K) tb.E tb.noatF 4 3 (varE 3))) (callV gcdV (consA (varE 2) (consA (fldX (tb.px K) tb.E tb.noatF 4 3 (varE 3)) nilA)))) (nameG 2))])
    (it := .cell hp.length) (xs := rts qs) (s0 := whS x hp qs 1 none) (s := whS x hp qs 1 none) (fun i s => ∃ o, s = whS x hp qs ((qs.take i).foldl botS 1) o) (wh_seq rfl at_w1) (cell_len at_w1) ⟨none, by simp⟩ (fun i s ⟨o, es⟩ => by
      subst es
      exact cell_at at_w1) fun i d s hd ⟨o, es⟩ => by
      subst es
      obtain ⟨q, hq, ed⟩ := getD_map hd
      subst ed
      have hi := (List.getElem?_eq_some_iff.mp hq).1
      have hb := bot_take hs i (by omega)
      have hq2 := hs.2 q (List.mem_of_getElem? hq)
      have hb1 := bot_take hs (i + 1) hi
      rw [fold_take botS 1 qs hq] at hb1
      have g := gcd_pos (t := (qs.take i).foldl botS 1) (show q.2 ≠ 0 by omega)
      have gl := gcd_le (t := (qs.take i).foldl botS 1) (show q.2 ≠ 0 by omega)
      have m1 : ∀ h : List Cell, mulV (.int ((qs.take i).foldl botS 1)) (.int q.2) h = .val (.int ((qs.take i).foldl botS 1 * q.2)) := fun h => v_mul (mulOk_b (k := 40 * i + 1) (m := 40) hb.2 hq2.2.2 (by omega) (by decide) (by have := hs.1; omega))
      have d1 : ∀ (z : Int) (h : List Cell), fdivV (.int z) (.int ((Int.gcd ((qs.take i).foldl botS 1) q.2 : Nat) : Int)) h = .val (.int (z / ((Int.gcd ((qs.take i).foldl botS 1) q.2 : Nat) : Int))) := fun z h => v_div (divOk_b (k := 40) (by omega) (by rw [Int.natAbs_natCast]; exact Nat.lt_of_le_of_lt gl hq2.2.2) (by decide) (by decide))
      have gg : ∀ h : List Cell, gcdV [.int ((qs.take i).foldl botS 1), .int q.2] h = .val (.int ((Int.gcd ((qs.take i).foldl botS 1) q.2 : Nat) : Int)) := fun h => rfl
      refine ⟨_, whS x hp qs ((qs.take (i + 1)).foldl botS 1) (some (rt q.1 q.2)), rfl, ?_, _, rfl⟩
      rw [fold_take botS 1 qs hq]
      simp only [y_nil, y_cons, y_asg, y_name, y_ret, y_drop, y_if, y_bl, y_tru, y_not, y_and, y_or, y_andE, y_orE, y_notE, y_con, y_var, y_bin, y_un, y_two, y_nilA, y_consA, y_call, y_make, y_stat, y_callV, y_callG, y_neg, y_tup, y_lst, y_ifE, y_raise, y_val, y_new, y_on, y_onx, y_mth, y_fmt, y_bits, y_tupG, y_consG, y_nilG, y_mthL, v_add, v_sub, v_neg, v_lt, v_le, v_gt, v_ge, v_tru, v_gcd, set0, set1, v_eqC, v_opC, v_negC, v_neC, Out.bind_ok, Out.bind_exn, List.getElem?_cons_zero, List.getElem?_cons_succ, List.append_nil, List.nil_append, List.cons_append, Bool.not_true, Bool.not_false, if_true, if_false, Bool.false_eq_true, Bool.true_eq_false, reduceCtorEq, List.take_length, eqV_int, List.length_cons, List.length_nil, fld_t (a := varE _), fld_b (a := varE _), fld_t1, fld_b1, m1, gg, d1]
      rfl
  have e2 : (rts qs).length = qs.length := rts_len
  rw [e2, List.take_length] at es
  exact ⟨o, by rw [e, es]; rfl⟩
end
end Law
end

-- S78i
section
set_option maxHeartbeats 4000000
namespace Law
open PySem PySem.Spec Den
section
variable {K : PySem.W.Frag} {C : Calls} {n : Nat} {hp : List Cell} {t b u c i j : Int} {s : S} {a : SemE} {x y : D} {xs : List D} {qs : List (Int × Int)} {o : Option D}
def topD (B : Int) : D → D
  | .ins _ _ [.int t, .int b] => .int (t * (B / b))
  | d => d
theorem tops_map : (rts qs).map (topD (botI qs)) = (topsI qs).map .int := by
  unfold rts topsI
  rw [List.map_map, List.map_map]
  rfl
theorem tops_len : (topsI qs).length = qs.length := by simp [topsI]
theorem at_w2 : (w2 hp qs)[(w1 hp qs).length]? = some (.lst ((topsI qs).map .int)) := List.getElem?_concat_length
theorem w1_len : (w1 hp qs).length = hp.length + 1 := by simp [w1]
theorem w1_take : (w1 hp qs).take hp.length = hp := List.take_left' rfl
abbrev whT (x : D) (hp : List Cell) (qs : List (Int × Int)) (o : Option D) (sh : Option D) (o6 : Option D) : S := ⟨[some x, some (.ref hp.length), some (.int (botI qs)), o, some (.ref (w1 hp qs).length), sh, o6, none], w2 hp qs, hp.length⟩
theorem wh_tops (hs : Small qs) : lcE (seqI (varE 1)) (.one 3) yesT (two (opC (callK (pf K) (n + 4)) (ow "__mul__") (ow "__rmul__") mulV) (fldX (tb.px K) tb.E tb.noatF 4 2 (varE 3)) (bin fdivV (varE 2) (fldX (tb.px K) tb.E tb.noatF 4 3 (varE 3)))) [3] (whS x hp qs (botI qs) o) = .ok (.ref (w1 hp qs).length) ⟨[some x, some (.ref hp.length), some (.int (botI qs)), o, none, none, none, none], w2 hp qs, hp.length⟩ := by
  have e := lc_ok (it := .cell hp.length) (g := .one 3) (q := yesT) (e := two (opC (callK (pf K) (n + 4)) (ow "__mul__") (ow "__rmul__") mulV) (fldX (tb.px K) tb.E tb.noatF 4 2 (varE 3)) (bin fdivV (varE 2) (fldX (tb.px K) tb.E tb.noatF 4 3 (varE 3)))) (own := [3]) (xs := rts qs) (p := fun _ => true) (φ := topD (botI qs)) (w := seqI (varE 1)) (s := whS x hp qs (botI qs) o)
    (wh_seq rfl at_w1) (cell_len at_w1) (fun i e' acc => cell_at (get_app at_w1)) (by show hp.length ≤ (w1 hp qs).length; rw [w1_len]; omega) (by rw [rts_len]; exact small_le hs.1) fun d hd => by
      obtain ⟨q, hq, ed⟩ := List.mem_map.mp hd
      subst ed
      have hq2 := hs.2 q hq
      have hb := bot_ok hs
      have m1 : ∀ h : List Cell, mulV (.int q.1) (.int (botI qs / q.2)) h = .val (.int (q.1 * (botI qs / q.2))) := fun h => v_mul (mulOk_b (k := 40) (m := 321) hq2.2.1 (Nat.lt_of_le_of_lt (Int.natAbs_ediv_le_natAbs _ _) hb.2) (by decide) (by decide) (by decide))
      have d1 : ∀ (z : Int) (h : List Cell), fdivV (.int z) (.int q.2) h = .val (.int (z / q.2)) := fun z h => v_div (divOk_b (k := 40) (by omega) hq2.2.2 (by decide) (by decide))
      refine ⟨_, rfl, fun acc => ⟨_, rfl, fun _ => ⟨[some x, some (.ref hp.length), some (.int (botI qs)), some (rt q.1 q.2), none, none, none, none], ?_⟩⟩⟩
      simp only [wipeE, y_nil, y_cons, y_asg, y_name, y_ret, y_drop, y_if, y_bl, y_tru, y_not, y_and, y_or, y_andE, y_orE, y_notE, y_con, y_var, y_bin, y_un, y_two, y_nilA, y_consA, y_call, y_make, y_stat, y_callV, y_callG, y_neg, y_tup, y_lst, y_ifE, y_raise, y_val, y_new, y_on, y_onx, y_mth, y_fmt, y_bits, y_tupG, y_consG, y_nilG, y_mthL, v_add, v_sub, v_neg, v_lt, v_le, v_gt, v_ge, v_tru, v_gcd, set0, set1, v_eqC, v_opC, v_negC, v_neC, Out.bind_ok, Out.bind_exn, List.getElem?_cons_zero, List.getElem?_cons_succ, List.append_nil, List.nil_append, List.cons_append, Bool.not_true, Bool.not_false, if_true, if_false, Bool.false_eq_true, Bool.true_eq_false, reduceCtorEq, List.take_length, eqV_int, List.length_cons, List.length_nil, fld_t (a := varE _), fld_b (a := varE _), fld_t1, fld_b1, m1, d1]
      rfl
  rw [filt, tops_map] at e
  exact e
theorem wh_sh (hs : Small qs) : ∃ o6, forS (seqI (varE 4)) (nameG 6) (runs [(asgS (callV gcdV (consA (varE 5) (consA (varE 6) nilA))) (nameG 5))]) (whT x hp qs o (some (.int 0)) none) = .ok .next (whT x hp qs o (some (.int (shI (topsI qs)))) o6) := by
  obtain ⟨s', e, o6, es⟩ := forS_it (w := seqI (varE 4)) (g := nameG 6) (f := runs [(asgS (callV gcdV (consA (varE 5) (consA (varE 6) nilA))) (nameG 5))])
    (it := .cell (w1 hp qs).length) (xs := (topsI qs).map .int) (s0 := whT x hp qs o (some (.int 0)) none) (s := whT x hp qs o (some (.int 0)) none) (fun i s => ∃ o6, s = whT x hp qs o (some (.int (((topsI qs).take i).foldl shS 0))) o6) (wh_seq rfl at_w2) (cell_len at_w2) ⟨none, by simp⟩ (fun i s ⟨o6, es⟩ => by
      subst es
      exact cell_at at_w2) fun i d s hd ⟨o6, es⟩ => by
      subst es
      obtain ⟨t, ht, ed⟩ := getD_map hd
      subst ed
      refine ⟨_, whT x hp qs o (some (.int (((topsI qs).take (i + 1)).foldl shS 0))) (some (.int t)), rfl, ?_, _, rfl⟩
      rw [fold_take shS 0 _ ht]
      have gg : ∀ h : List Cell, gcdV [.int (((topsI qs).take i).foldl shS 0), .int t] h = .val (.int (shS (((topsI qs).take i).foldl shS 0) t)) := fun h => rfl
      simp only [y_nil, y_cons, y_asg, y_name, y_ret, y_drop, y_if, y_bl, y_tru, y_not, y_and, y_or, y_andE, y_orE, y_notE, y_con, y_var, y_bin, y_un, y_two, y_nilA, y_consA, y_call, y_make, y_stat, y_callV, y_callG, y_neg, y_tup, y_lst, y_ifE, y_raise, y_val, y_new, y_on, y_onx, y_mth, y_fmt, y_bits, y_tupG, y_consG, y_nilG, y_mthL, v_add, v_sub, v_neg, v_lt, v_le, v_gt, v_ge, v_tru, v_gcd, set0, set1, v_eqC, v_opC, v_negC, v_neC, Out.bind_ok, Out.bind_exn, List.getElem?_cons_zero, List.getElem?_cons_succ, List.append_nil, List.nil_append, List.cons_append, Bool.not_true, Bool.not_false, if_true, if_false, Bool.false_eq_true, Bool.true_eq_false, reduceCtorEq, List.take_length, eqV_int, List.length_cons, List.length_nil, gg]
  rw [List.length_map, List.take_length] at es
  exact ⟨o6, by rw [e, es]; rfl⟩
theorem noRefs_ints : ∀ l : List Int, D.noRefs (l.map .int) = true
  | [] => rfl
  | x :: l => by
    rw [List.map_cons]
    show (D.noRef (.int x) && D.noRefs (l.map .int)) = true
    rw [noRefs_ints l]
    rfl
theorem tup_cell {r : Nat} {ys : List D} {h : List Cell} (hr : h[r]? = some (.lst ys)) : tupleV [.ref r] h = .val (.tup ys) := by
  unfold tupleV lstOf' lstOf
  simp only [hr]
theorem c3 (hx : Nums xs qs) (hs : Small qs) (hrow : (∃ r, x = .ref r ∧ hp[r]? = some (.lst xs)) ∨ x = .tup xs) : callK (pf K) (n + 5) 3 none [x] hp = .ok (.tup ((wholeI qs).map .int)) hp := by
  refine (call_none (f := ⟨8, 1, false, B3 K⟩) rfl rfl rfl).trans ?_
  have e1 := wh_rats (K := K) (n := n) (e := [some x, none, none, none, none, none, none, none]) hx hs.1 hrow rfl rfl
  obtain ⟨o, e2⟩ := wh_bot (K := K) (n := n) (x := x) (hp := hp) hs
  have e3 := wh_tops (K := K) (n := n) (x := x) (hp := hp) (o := o) hs
  obtain ⟨o6, e4⟩ := wh_sh (x := x) (hp := hp) (o := o) hs
  have tk2 : (w2 hp qs).take hp.length = hp := by
    unfold w2
    rw [List.take_append_of_le_length (by rw [w1_len]; omega)]
    exact w1_take
  simp only [startEnv, List.map_cons, List.map_nil, List.length_cons, List.length_nil, Nat.sub_self, List.replicate, List.append_nil, List.cons_append, List.nil_append, B3, L3]
  rw [y_cons, y_asg, e1]
  simp only [Out.bind_ok, y_name, set1, set0]
  rw [y_cons, y_asg, y_con]
  simp only [Out.bind_ok, y_name, set1, set0]
  rw [y_cons, e2]
  dsimp only
  rw [y_cons, y_asg, e3]
  simp only [Out.bind_ok, y_name, set1, set0]
  rw [y_cons, y_asg, y_con]
  simp only [Out.bind_ok, y_name, set1, set0]
  rw [y_cons, e4]
  dsimp only
  unfold wholeI
  by_cases hz : shI (topsI qs) = 0
  · have tc : tupleV [.ref (w1 hp qs).length] (w2 hp qs) = .val (.tup ((topsI qs).map .int)) := tup_cell at_w2
    rw [if_pos hz]
    simp only [y_nil, y_cons, y_asg, y_name, y_ret, y_drop, y_if, y_bl, y_tru, y_not, y_and, y_or, y_andE, y_orE, y_notE, y_con, y_var, y_bin, y_un, y_two, y_nilA, y_consA, y_call, y_make, y_stat, y_callV, y_callG, y_neg, y_tup, y_lst, y_ifE, y_raise, y_val, y_new, y_on, y_onx, y_mth, y_fmt, y_bits, y_tupG, y_consG, y_nilG, y_mthL, v_add, v_sub, v_neg, v_lt, v_le, v_gt, v_ge, v_tru, v_gcd, set0, set1, v_eqC, v_opC, v_negC, v_neC, Out.bind_ok, Out.bind_exn, List.getElem?_cons_zero, List.getElem?_cons_succ, List.append_nil, List.nil_append, List.cons_append, Bool.not_true, Bool.not_false, if_true, if_false, Bool.false_eq_true, Bool.true_eq_false, reduceCtorEq, List.take_length, eqV_int, List.length_cons, List.length_nil, hz, decide_true, tc]
    exact lv' (noRefs_ints _) tk2
  · have hsh := sh_ok (tops_b hs)
    have d1 : ∀ (z : Int) (h : List Cell), fdivV (.int z) (.int (shI (topsI qs))) h = .val (.int (z / shI (topsI qs))) := fun z h => v_div (divOk_b (k := 361) (by omega) hsh.2 (by decide) (by decide))
    have e5 := lc_ok (it := .cell (w1 hp qs).length) (g := .one 6) (q := yesT) (e := bin fdivV (varE 6) (varE 5)) (own := [6]) (xs := (topsI qs).map .int) (p := fun _ => true) (φ := fun d => match d with | .int t => .int (t / shI (topsI qs)) | d => d) (w := seqI (varE 4)) (s := whT x hp qs o (some (.int (shI (topsI qs)))) o6)
      (wh_seq rfl at_w2) (cell_len at_w2) (fun i e' acc => cell_at (get_app at_w2)) (by show hp.length ≤ (w2 hp qs).length; simp [w2, w1]) (by rw [List.length_map, tops_len]; exact small_le hs.1) fun d hd => by
        obtain ⟨t, ht, ed⟩ := List.mem_map.mp hd
        subst ed
        refine ⟨_, rfl, fun acc => ⟨_, rfl, fun _ => ⟨[some x, some (.ref hp.length), some (.int (botI qs)), o, some (.ref (w1 hp qs).length), some (.int (shI (topsI qs))), some (.int t), none], ?_⟩⟩⟩
        simp only [wipeE, y_nil, y_cons, y_asg, y_name, y_ret, y_drop, y_if, y_bl, y_tru, y_not, y_and, y_or, y_andE, y_orE, y_notE, y_con, y_var, y_bin, y_un, y_two, y_nilA, y_consA, y_call, y_make, y_stat, y_callV, y_callG, y_neg, y_tup, y_lst, y_ifE, y_raise, y_val, y_new, y_on, y_onx, y_mth, y_fmt, y_bits, y_tupG, y_consG, y_nilG, y_mthL, v_add, v_sub, v_neg, v_lt, v_le, v_gt, v_ge, v_tru, v_gcd, set0, set1, v_eqC, v_opC, v_negC, v_neC, Out.bind_ok, Out.bind_exn, List.getElem?_cons_zero, List.getElem?_cons_succ, List.append_nil, List.nil_append, List.cons_append, Bool.not_true, Bool.not_false, if_true, if_false, Bool.false_eq_true, Bool.true_eq_false, reduceCtorEq, List.take_length, eqV_int, List.length_cons, List.length_nil, d1]
    rw [filt, List.map_map] at e5
    have e6 : ((topsI qs).map (((fun d => match d with | .int t => .int (t / shI (topsI qs)) | d => d) : D → D) ∘ D.int)) = ((topsI qs).map fun t => t / shI (topsI qs)).map .int := by
      rw [List.map_map]
      rfl
    rw [e6] at e5
    have tc : ∀ e b0, callV tupleV (consA (lcE (seqI (varE 4)) (.one 6) yesT (bin fdivV (varE 6) (varE 5)) [6]) nilA) (whT x hp qs o (some (.int (shI (topsI qs)))) o6) = .ok (.tup (((topsI qs).map fun t => t / shI (topsI qs)).map .int)) ⟨[some x, some (.ref hp.length), some (.int (botI qs)), o, some (.ref (w1 hp qs).length), some (.int (shI (topsI qs))), o6, none], w2 hp qs ++ [.lst (((topsI qs).map fun t => t / shI (topsI qs)).map .int)], hp.length⟩ := fun (_ _ : Unit) => by
      rw [y_callV, y_consA, e5]
      simp only [Out.bind_ok, y_nilA]
      rw [tup_cell (ys := ((topsI qs).map fun t => t / shI (topsI qs)).map .int) List.getElem?_concat_length]
      rfl
    rw [if_neg hz]
    rw [y_cons]
    simp only [y_if, y_bl, y_two, y_var, y_con, List.getElem?_cons_succ, List.getElem?_cons_zero, Out.bind_ok, v_eqC, eqV_int, hz, decide_false, y_val, Bool.false_eq_true, if_false, y_nil]
    rw [y_cons, y_ret, tc () ()]
    simp only [Out.bind_ok]
    refine lv' (noRefs_ints _) ?_
    rw [List.take_append_of_le_length (by simp [w2, w1])]
    exact tk2
end
end Law
end

-- S78j
section
set_option maxHeartbeats 4000000
namespace Law
open PySem PySem.Spec Den
section
variable {K : PySem.W.Frag} {C : Calls} {n : Nat} {hp : List Cell} {t b u c i j : Int} {s : S} {a : SemE} {x y : D} {xs : List D} {qs : List (Int × Int)} {o : Option D}
theorem lv_ref {hp' : List Cell} {e : List (Option D)} {m r : Nat} {ys : List D} (hr : hp'[r]? = some (.lst ys)) (hl : hp.length ≤ r) (hy : D.noRefs ys = true) (ht : hp'.take hp.length = hp) : leave hp.length (.ok (.ret (.ref r)) ⟨e, hp', m⟩) = .ok (.lst ys) hp := by
  have ef : freeze hp' hp.length (.ref r) = some (.lst ys) := by
    show fzCell hp' hp.length 8 r = _
    unfold fzCell
    rw [if_neg (by omega), hr]
    dsimp only
    rw [fzs_pure hy]
  show (match freeze hp' hp.length (.ref r) with
    | some d' => OutC.ok d' (hp'.take hp.length)
    | none => .bad) = _
  rw [ef]
  simp only [ht]
/-! the law's own row of whole numbers -/
theorem prs_len : (prs qs).length = qs.length := by simp [prs]
abbrev v2 (hp : List Cell) (qs : List (Int × Int)) : List Cell := hp ++ [.lst ((topsI qs).map .int)]
abbrev lwS (x : D) (hp : List Cell) (B : Int) (o : Option D) : S := ⟨[some x, some (.int B), o, none, none, none], hp, hp.length⟩
theorem lw_bot {r : Nat} (hr : hp[r]? = some (.lst (prs qs))) (hs : Small qs) : ∃ o, forS (seqI (varE 0)) (nameG 2) (runs [(asgS (bin fdivV (two (opC (callK (pf K) (n + 1)) (ow "__mul__") (ow "__rmul__") mulV) (varE 1) (bin ixV (varE 2) (conE (.int 1)))) (callE (callK (pf K) (n + 1)) 7 [] (consA (varE 1) (consA (bin ixV (varE 2) (conE (.int 1))) nilA)))) (nameG 1))]) (lwS (.ref r) hp 1 none) = .ok .next (lwS (.ref r) hp (botI qs) o) := by
  obtain ⟨s', e, o, es⟩ := forS_it (w := seqI (varE 0)) (g := nameG 2) (f := runs [(asgS (bin fdivV (two (opC (callK (pf K) (n + 1)) (ow "__mul__") (ow "__rmul__") mulV) (varE 1) (bin ixV (varE 2) (conE (.int 1)))) (callE (callK (pf K) (n + 1)) 7 [] (consA (varE 1) (consA (bin ixV (varE 2) (conE (.int 1))) nilA)))) (nameG 1))])
    (it := .cell r) (xs := prs qs) (s0 := lwS (.ref r) hp 1 none) (s := lwS (.ref r) hp 1 none) (fun i s => ∃ o, s = lwS (.ref r) hp ((qs.take i).foldl botS 1) o) (wh_seq rfl hr) (cell_len hr) ⟨none, by simp⟩ (fun i s ⟨o, es⟩ => by
      subst es
      exact cell_at hr) fun i d s hd ⟨o, es⟩ => by
      subst es
      obtain ⟨q, hq, ed⟩ := getD_map hd
      subst ed
      have hi := (List.getElem?_eq_some_iff.mp hq).1
      have hb := bot_take hs i (by omega)
      have hq2 := hs.2 q (List.mem_of_getElem? hq)
      have g := gcd_pos (t := (qs.take i).foldl botS 1) (show q.2 ≠ 0 by omega)
      have gl := gcd_le (t := (qs.take i).foldl botS 1) (show q.2 ≠ 0 by omega)
      have m1 : ∀ h : List Cell, mulV (.int ((qs.take i).foldl botS 1)) (.int q.2) h = .val (.int ((qs.take i).foldl botS 1 * q.2)) := fun h => v_mul (mulOk_b (k := 40 * i + 1) (m := 40) hb.2 hq2.2.2 (by omega) (by decide) (by have := hs.1; omega))
      have d1 : ∀ (z : Int) (h : List Cell), fdivV (.int z) (.int ((Int.gcd ((qs.take i).foldl botS 1) q.2 : Nat) : Int)) h = .val (.int (z / ((Int.gcd ((qs.take i).foldl botS 1) q.2 : Nat) : Int))) := fun z h => v_div (divOk_b (k := 40) (by omega) (by rw [Int.natAbs_natCast]; exact Nat.lt_of_le_of_lt gl hq2.2.2) (by decide) (by decide))
      have e7 := c7 (K := K) (n := n) (hp := hp) (i := (qs.take i).foldl botS 1) (j := q.2) (k := 40) hq2.2.2 (by decide) (by decide)
      refine ⟨_, lwS (.ref r) hp ((qs.take (i + 1)).foldl botS 1) (some (pr q.1 q.2)), rfl, ?_, _, rfl⟩
      rw [fold_take botS 1 qs hq]
      simp only [y_nil, y_cons, y_asg, y_name, y_ret, y_drop, y_if, y_bl, y_tru, y_not, y_and, y_or, y_andE, y_orE, y_notE, y_con, y_var, y_bin, y_un, y_two, y_nilA, y_consA, y_call, y_make, y_stat, y_callV, y_callG, y_neg, y_tup, y_lst, y_ifE, y_raise, y_val, y_new, y_on, y_onx, y_mth, y_fmt, y_bits, y_tupG, y_consG, y_nilG, y_mthL, v_add, v_sub, v_neg, v_lt, v_le, v_gt, v_ge, v_tru, v_gcd, set0, set1, v_eqC, v_opC, v_negC, v_neC, Out.bind_ok, Out.bind_exn, List.getElem?_cons_zero, List.getElem?_cons_succ, List.append_nil, List.nil_append, List.cons_append, Bool.not_true, Bool.not_false, if_true, if_false, Bool.false_eq_true, Bool.true_eq_false, reduceCtorEq, List.take_length, eqV_int, List.length_cons, List.length_nil, ix1, m1, e7, d1]
      rfl
  have e2 : (prs qs).length = qs.length := prs_len
  rw [e2, List.take_length] at es
  exact ⟨o, by rw [e, es]; rfl⟩
def topP (B : Int) : D → D
  | .tup [.int t, .int b] => .int (t * (B / b))
  | d => d
theorem topP_map : (prs qs).map (topP (botI qs)) = (topsI qs).map .int := by
  unfold prs topsI
  rw [List.map_map, List.map_map]
  rfl
theorem lw_tops {r : Nat} (hr : hp[r]? = some (.lst (prs qs))) (hs : Small qs) : lcE (seqI (varE 0)) (.one 2) yesT (two (opC (callK (pf K) (n + 1)) (ow "__mul__") (ow "__rmul__") mulV) (bin ixV (varE 2) (conE (.int 0))) (bin fdivV (varE 1) (bin ixV (varE 2) (conE (.int 1))))) [2] (lwS (.ref r) hp (botI qs) o) = .ok (.ref hp.length) ⟨[some (.ref r), some (.int (botI qs)), o, none, none, none], v2 hp qs, hp.length⟩ := by
  have e := lc_ok (it := .cell r) (g := .one 2) (q := yesT) (e := two (opC (callK (pf K) (n + 1)) (ow "__mul__") (ow "__rmul__") mulV) (bin ixV (varE 2) (conE (.int 0))) (bin fdivV (varE 1) (bin ixV (varE 2) (conE (.int 1))))) (own := [2]) (xs := prs qs) (p := fun _ => true) (φ := topP (botI qs)) (w := seqI (varE 0)) (s := lwS (.ref r) hp (botI qs) o)
    (wh_seq rfl hr) (cell_len hr) (fun i e' acc => cell_at (get_app hr)) (Nat.le_refl _) (by rw [prs_len]; exact small_le hs.1) fun d hd => by
      obtain ⟨q, hq, ed⟩ := List.mem_map.mp hd
      subst ed
      have hq2 := hs.2 q hq
      have hb := bot_ok hs
      have m1 : ∀ h : List Cell, mulV (.int q.1) (.int (botI qs / q.2)) h = .val (.int (q.1 * (botI qs / q.2))) := fun h => v_mul (mulOk_b (k := 40) (m := 321) hq2.2.1 (Nat.lt_of_le_of_lt (Int.natAbs_ediv_le_natAbs _ _) hb.2) (by decide) (by decide) (by decide))
      have d1 : ∀ (z : Int) (h : List Cell), fdivV (.int z) (.int q.2) h = .val (.int (z / q.2)) := fun z h => v_div (divOk_b (k := 40) (by omega) hq2.2.2 (by decide) (by decide))
      refine ⟨_, rfl, fun acc => ⟨_, rfl, fun _ => ⟨[some (.ref r), some (.int (botI qs)), some (pr q.1 q.2), none, none, none], ?_⟩⟩⟩
      simp only [wipeE, y_nil, y_cons, y_asg, y_name, y_ret, y_drop, y_if, y_bl, y_tru, y_not, y_and, y_or, y_andE, y_orE, y_notE, y_con, y_var, y_bin, y_un, y_two, y_nilA, y_consA, y_call, y_make, y_stat, y_callV, y_callG, y_neg, y_tup, y_lst, y_ifE, y_raise, y_val, y_new, y_on, y_onx, y_mth, y_fmt, y_bits, y_tupG, y_consG, y_nilG, y_mthL, v_add, v_sub, v_neg, v_lt, v_le, v_gt, v_ge, v_tru, v_gcd, set0, set1, v_eqC, v_opC, v_negC, v_neC, Out.bind_ok, Out.bind_exn, List.getElem?_cons_zero, List.getElem?_cons_succ, List.append_nil, List.nil_append, List.cons_append, Bool.not_true, Bool.not_false, if_true, if_false, Bool.false_eq_true, Bool.true_eq_false, reduceCtorEq, List.take_length, eqV_int, List.length_cons, List.length_nil, ix0, ix1, m1, d1]
      rfl
  rw [filt, topP_map] at e
  exact e
theorem at_v2 : (v2 hp qs)[hp.length]? = some (.lst ((topsI qs).map .int)) := List.getElem?_concat_length
theorem v2_take : (v2 hp qs).take hp.length = hp := List.take_left' rfl
abbrev lwT (r : Nat) (hp : List Cell) (qs : List (Int × Int)) (o : Option D) (sh : Option D) (o5 : Option D) : S := ⟨[some (.ref r), some (.int (botI qs)), o, some (.ref hp.length), sh, o5], v2 hp qs, hp.length⟩
theorem lw_sh {r : Nat} (hs : Small qs) : ∃ o5, forS (seqI (varE 3)) (nameG 5) (runs [(asgS (callE (callK (pf K) (n + 1)) 7 [] (consA (varE 4) (consA (varE 5) nilA))) (nameG 4))]) (lwT r hp qs o (some (.int 0)) none) = .ok .next (lwT r hp qs o (some (.int (shI (topsI qs)))) o5) := by
  obtain ⟨s', e, o5, es⟩ := forS_it (w := seqI (varE 3)) (g := nameG 5) (f := runs [(asgS (callE (callK (pf K) (n + 1)) 7 [] (consA (varE 4) (consA (varE 5) nilA))) (nameG 4))])
    (it := .cell hp.length) (xs := (topsI qs).map .int) (s0 := lwT r hp qs o (some (.int 0)) none) (s := lwT r hp qs o (some (.int 0)) none) (fun i s => ∃ o5, s = lwT r hp qs o (some (.int (((topsI qs).take i).foldl shS 0))) o5) (wh_seq rfl at_v2) (cell_len at_v2) ⟨none, by simp⟩ (fun i s ⟨o5, es⟩ => by
      subst es
      exact cell_at at_v2) fun i d s hd ⟨o5, es⟩ => by
      subst es
      obtain ⟨t, ht, ed⟩ := getD_map hd
      subst ed
      have tb := tops_b hs t (List.mem_of_getElem? ht)
      refine ⟨_, lwT r hp qs o (some (.int (((topsI qs).take (i + 1)).foldl shS 0))) (some (.int t)), rfl, ?_, _, rfl⟩
      rw [fold_take shS 0 _ ht]
      have e7 := c7 (K := K) (n := n) (hp := v2 hp qs) (i := ((topsI qs).take i).foldl shS 0) (j := t) (k := 361) tb (by decide) (by decide)
      simp only [y_nil, y_cons, y_asg, y_name, y_ret, y_drop, y_if, y_bl, y_tru, y_not, y_and, y_or, y_andE, y_orE, y_notE, y_con, y_var, y_bin, y_un, y_two, y_nilA, y_consA, y_call, y_make, y_stat, y_callV, y_callG, y_neg, y_tup, y_lst, y_ifE, y_raise, y_val, y_new, y_on, y_onx, y_mth, y_fmt, y_bits, y_tupG, y_consG, y_nilG, y_mthL, v_add, v_sub, v_neg, v_lt, v_le, v_gt, v_ge, v_tru, v_gcd, set0, set1, v_eqC, v_opC, v_negC, v_neC, Out.bind_ok, Out.bind_exn, List.getElem?_cons_zero, List.getElem?_cons_succ, List.append_nil, List.nil_append, List.cons_append, Bool.not_true, Bool.not_false, if_true, if_false, Bool.false_eq_true, Bool.true_eq_false, reduceCtorEq, List.take_length, eqV_int, List.length_cons, List.length_nil, e7]
      rfl
  rw [List.length_map, List.take_length] at es
  exact ⟨o5, by rw [e, es]; rfl⟩
theorem c14 {r : Nat} (hr : hp[r]? = some (.lst (prs qs))) (hs : Small qs) : callK (pf K) (n + 2) 14 none [.ref r] hp = .ok (.lst ((wholeI qs).map .int)) hp := by
  refine (call_none (f := ⟨6, 1, false, B14 K⟩) rfl rfl rfl).trans ?_
  obtain ⟨o, e2⟩ := lw_bot (K := K) (n := n) hr hs
  have e3 := lw_tops (K := K) (n := n) (o := o) hr hs
  obtain ⟨o5, e4⟩ := lw_sh (K := K) (n := n) (hp := hp) (o := o) (r := r) hs
  simp only [startEnv, List.map_cons, List.map_nil, List.length_cons, List.length_nil, Nat.sub_self, List.replicate, List.append_nil, List.cons_append, List.nil_append, B14, L14]
  rw [y_cons, y_asg, y_con]
  simp only [Out.bind_ok, y_name, set1, set0]
  rw [y_cons, e2]
  dsimp only
  rw [y_cons, y_asg, e3]
  simp only [Out.bind_ok, y_name, set1, set0]
  rw [y_cons, y_asg, y_con]
  simp only [Out.bind_ok, y_name, set1, set0]
  rw [y_cons, e4]
  dsimp only
  unfold wholeI
  by_cases hz : shI (topsI qs) = 0
  · rw [if_pos hz]
    simp only [y_nil, y_cons, y_asg, y_name, y_ret, y_drop, y_if, y_bl, y_tru, y_not, y_and, y_or, y_andE, y_orE, y_notE, y_con, y_var, y_bin, y_un, y_two, y_nilA, y_consA, y_call, y_make, y_stat, y_callV, y_callG, y_neg, y_tup, y_lst, y_ifE, y_raise, y_val, y_new, y_on, y_onx, y_mth, y_fmt, y_bits, y_tupG, y_consG, y_nilG, y_mthL, v_add, v_sub, v_neg, v_lt, v_le, v_gt, v_ge, v_tru, v_gcd, set0, set1, v_eqC, v_opC, v_negC, v_neC, Out.bind_ok, Out.bind_exn, List.getElem?_cons_zero, List.getElem?_cons_succ, List.append_nil, List.nil_append, List.cons_append, Bool.not_true, Bool.not_false, if_true, if_false, Bool.false_eq_true, Bool.true_eq_false, reduceCtorEq, List.take_length, eqV_int, List.length_cons, List.length_nil, hz, decide_true]
    exact lv_ref at_v2 (Nat.le_refl _) (noRefs_ints _) v2_take
  · have hsh := sh_ok (tops_b hs)
    have d1 : ∀ (z : Int) (h : List Cell), fdivV (.int z) (.int (shI (topsI qs))) h = .val (.int (z / shI (topsI qs))) := fun z h => v_div (divOk_b (k := 361) (by omega) hsh.2 (by decide) (by decide))
    have e5 := lc_ok (it := .cell hp.length) (g := .one 5) (q := yesT) (e := bin fdivV (varE 5) (varE 4)) (own := [5]) (xs := (topsI qs).map .int) (p := fun _ => true) (φ := fun d => match d with | .int t => .int (t / shI (topsI qs)) | d => d) (w := seqI (varE 3)) (s := lwT r hp qs o (some (.int (shI (topsI qs)))) o5)
      (wh_seq rfl at_v2) (cell_len at_v2) (fun i e' acc => cell_at (get_app at_v2)) (by show hp.length ≤ (v2 hp qs).length; simp [v2]) (by rw [List.length_map, tops_len]; exact small_le hs.1) fun d hd => by
        obtain ⟨t, ht, ed⟩ := List.mem_map.mp hd
        subst ed
        refine ⟨_, rfl, fun acc => ⟨_, rfl, fun _ => ⟨[some (.ref r), some (.int (botI qs)), o, some (.ref hp.length), some (.int (shI (topsI qs))), some (.int t)], ?_⟩⟩⟩
        simp only [wipeE, y_nil, y_cons, y_asg, y_name, y_ret, y_drop, y_if, y_bl, y_tru, y_not, y_and, y_or, y_andE, y_orE, y_notE, y_con, y_var, y_bin, y_un, y_two, y_nilA, y_consA, y_call, y_make, y_stat, y_callV, y_callG, y_neg, y_tup, y_lst, y_ifE, y_raise, y_val, y_new, y_on, y_onx, y_mth, y_fmt, y_bits, y_tupG, y_consG, y_nilG, y_mthL, v_add, v_sub, v_neg, v_lt, v_le, v_gt, v_ge, v_tru, v_gcd, set0, set1, v_eqC, v_opC, v_negC, v_neC, Out.bind_ok, Out.bind_exn, List.getElem?_cons_zero, List.getElem?_cons_succ, List.append_nil, List.nil_append, List.cons_append, Bool.not_true, Bool.not_false, if_true, if_false, Bool.false_eq_true, Bool.true_eq_false, reduceCtorEq, List.take_length, eqV_int, List.length_cons, List.length_nil, d1]
    rw [filt, List.map_map] at e5
    have e6 : ((topsI qs).map (((fun d => match d with | .int t => .int (t / shI (topsI qs)) | d => d) : D → D) ∘ D.int)) = ((topsI qs).map fun t => t / shI (topsI qs)).map .int := by
      rw [List.map_map]
      rfl
    rw [e6] at e5
    rw [if_neg hz]
    rw [y_cons]
    simp only [y_if, y_bl, y_two, y_var, y_con, List.getElem?_cons_succ, List.getElem?_cons_zero, Out.bind_ok, v_eqC, eqV_int, hz, decide_false, y_val, Bool.false_eq_true, if_false, y_nil]
    rw [y_cons, y_ret, e5]
    simp only [Out.bind_ok]
    refine lv_ref (ys := ((topsI qs).map fun t => t / shI (topsI qs)).map .int) List.getElem?_concat_length (by simp [v2]) (noRefs_ints _) ?_
    rw [List.take_append_of_le_length (by simp [v2])]
    exact v2_take
/-! the law's own power -/
def lpw (t b j : Int) : Int × Int := if 0 ≤ j then (t ^ j.natAbs, b ^ j.natAbs) else if t ^ j.natAbs < 0 then (-b ^ j.natAbs, -t ^ j.natAbs) else (b ^ j.natAbs, t ^ j.natAbs)
abbrev lpS (hp : List Cell) (t b j : Int) (i : Nat) (o : Option D) : S := ⟨[some (pr t b), some (.int j), some (.int (t ^ i)), some (.int (b ^ i)), o], hp, hp.length⟩
theorem c17 (hj : j.natAbs ≤ 40) (h1 : t.natAbs < 2 ^ 40) (h2 : b.natAbs < 2 ^ 40) : callK (pf K) (n + 1) 17 none [pr t b, .int j] hp = .ok (pr (lpw t b j).1 (lpw t b j).2) hp := by
  refine (call_none (f := ⟨5, 2, false, B17 K⟩) rfl rfl rfl).trans ?_
  obtain ⟨s', e, o, es⟩ := forS_ok (w := range1I (consA (callV absV (consA (varE 1) nilA)) nilA)) (g := nameG 4) (f := runs [(asgS (two (opC (callK (pf K) n) (ow "__mul__") (ow "__rmul__") mulV) (varE 2) (bin ixV (varE 0) (conE (.int 0)))) (nameG 2)), (asgS (two (opC (callK (pf K) n) (ow "__mul__") (ow "__rmul__") mulV) (varE 3) (bin ixV (varE 0) (conE (.int 1)))) (nameG 3))]) (xs := rangeL 0 j.natAbs) (s0 := lpS hp t b j 0 none) (s := lpS hp t b j 0 none)
    (fun i s => ∃ o, s = lpS hp t b j i o) (by
      have e := range1_ok (t := consA (callV absV (consA (varE 1) nilA)) nilA) (s := lpS hp t b j 0 none) (s' := lpS hp t b j 0 none) (j := (j.natAbs : Int)) (by
        show Out.ok [D.int (if j < 0 then -j else j)] _ = _
        rw [abs_if]) (by omega)
      rw [Int.toNat_natCast] at e
      exact e) ⟨none, rfl⟩ fun i d s hd ⟨o, es⟩ => by
      subst es
      obtain ⟨_, hi⟩ := range_at hd
      refine ⟨_, lpS hp t b j (i + 1) (some d), rfl, ?_, some d, rfl⟩
      have m1 : ∀ h : List Cell, mulV (.int (t ^ i)) (.int t) h = .val (.int (t ^ (i + 1))) := fun h => by
        rw [v_mul (mulOk_b (pow_b h1 i) h1 (by omega) (by decide) (by omega)), ← Int.pow_succ]
      have m2 : ∀ h : List Cell, mulV (.int (b ^ i)) (.int b) h = .val (.int (b ^ (i + 1))) := fun h => by
        rw [v_mul (mulOk_b (pow_b h2 i) h2 (by omega) (by decide) (by omega)), ← Int.pow_succ]
      simp only [y_nil, y_cons, y_asg, y_name, y_ret, y_drop, y_if, y_bl, y_tru, y_not, y_and, y_or, y_andE, y_orE, y_notE, y_con, y_var, y_bin, y_un, y_two, y_nilA, y_consA, y_call, y_make, y_stat, y_callV, y_callG, y_neg, y_tup, y_lst, y_ifE, y_raise, y_val, y_new, y_on, y_onx, y_mth, y_fmt, y_bits, y_tupG, y_consG, y_nilG, y_mthL, v_add, v_sub, v_neg, v_lt, v_le, v_gt, v_ge, v_tru, v_gcd, set0, set1, v_eqC, v_opC, v_negC, v_neC, Out.bind_ok, Out.bind_exn, List.getElem?_cons_zero, List.getElem?_cons_succ, List.append_nil, List.nil_append, List.cons_append, Bool.not_true, Bool.not_false, if_true, if_false, Bool.false_eq_true, Bool.true_eq_false, reduceCtorEq, List.take_length, eqV_int, List.length_cons, List.length_nil, ix0, ix1, m1, m2]
  rw [range_len] at es
  subst es
  have two := two_le
  simp only [lpS, Int.pow_zero] at e
  simp only [startEnv, List.map_cons, List.map_nil, List.length_cons, List.length_nil, Nat.sub_self, List.replicate, List.append_nil, List.cons_append, List.nil_append, B17, L17, y_nil, y_cons, y_asg, y_name, y_ret, y_drop, y_if, y_bl, y_tru, y_not, y_and, y_or, y_andE, y_orE, y_notE, y_con, y_var, y_bin, y_un, y_two, y_nilA, y_consA, y_call, y_make, y_stat, y_callV, y_callG, y_neg, y_tup, y_lst, y_ifE, y_raise, y_val, y_new, y_on, y_onx, y_mth, y_fmt, y_bits, y_tupG, y_consG, y_nilG, y_mthL, v_add, v_sub, v_neg, v_lt, v_le, v_gt, v_ge, v_tru, v_gcd, set0, set1, v_eqC, v_opC, v_negC, v_neC, Out.bind_ok, Out.bind_exn, List.getElem?_cons_zero, List.getElem?_cons_succ, List.append_nil, List.nil_append, List.cons_append, Bool.not_true, Bool.not_false, if_true, if_false, Bool.false_eq_true, Bool.true_eq_false, reduceCtorEq, List.take_length, eqV_int, List.length_cons, List.length_nil]
  rw [e]
  unfold lpw
  by_cases hz : 0 ≤ j
  · rw [if_pos hz]
    simp only [y_nil, y_cons, y_asg, y_name, y_ret, y_drop, y_if, y_bl, y_tru, y_not, y_and, y_or, y_andE, y_orE, y_notE, y_con, y_var, y_bin, y_un, y_two, y_nilA, y_consA, y_call, y_make, y_stat, y_callV, y_callG, y_neg, y_tup, y_lst, y_ifE, y_raise, y_val, y_new, y_on, y_onx, y_mth, y_fmt, y_bits, y_tupG, y_consG, y_nilG, y_mthL, v_add, v_sub, v_neg, v_lt, v_le, v_gt, v_ge, v_tru, v_gcd, set0, set1, v_eqC, v_opC, v_negC, v_neC, Out.bind_ok, Out.bind_exn, List.getElem?_cons_zero, List.getElem?_cons_succ, List.append_nil, List.nil_append, List.cons_append, Bool.not_true, Bool.not_false, if_true, if_false, Bool.false_eq_true, Bool.true_eq_false, reduceCtorEq, List.take_length, eqV_int, List.length_cons, List.length_nil, hz, decide_true, two]
    exact lv rfl
  · rw [if_neg hz]
    by_cases hn : t ^ j.natAbs < 0
    · rw [if_pos hn]
      simp only [y_nil, y_cons, y_asg, y_name, y_ret, y_drop, y_if, y_bl, y_tru, y_not, y_and, y_or, y_andE, y_orE, y_notE, y_con, y_var, y_bin, y_un, y_two, y_nilA, y_consA, y_call, y_make, y_stat, y_callV, y_callG, y_neg, y_tup, y_lst, y_ifE, y_raise, y_val, y_new, y_on, y_onx, y_mth, y_fmt, y_bits, y_tupG, y_consG, y_nilG, y_mthL, v_add, v_sub, v_neg, v_lt, v_le, v_gt, v_ge, v_tru, v_gcd, set0, set1, v_eqC, v_opC, v_negC, v_neC, Out.bind_ok, Out.bind_exn, List.getElem?_cons_zero, List.getElem?_cons_succ, List.append_nil, List.nil_append, List.cons_append, Bool.not_true, Bool.not_false, if_true, if_false, Bool.false_eq_true, Bool.true_eq_false, reduceCtorEq, List.take_length, eqV_int, List.length_cons, List.length_nil, hz, hn, decide_false, decide_true, two]
      exact lv rfl
    · rw [if_neg hn]
      simp only [y_nil, y_cons, y_asg, y_name, y_ret, y_drop, y_if, y_bl, y_tru, y_not, y_and, y_or, y_andE, y_orE, y_notE, y_con, y_var, y_bin, y_un, y_two, y_nilA, y_consA, y_call, y_make, y_stat, y_callV, y_callG, y_neg, y_tup, y_lst, y_ifE, y_raise, y_val, y_new, y_on, y_onx, y_mth, y_fmt, y_bits, y_tupG, y_consG, y_nilG, y_mthL, v_add, v_sub, v_neg, v_lt, v_le, v_gt, v_ge, v_tru, v_gcd, set0, set1, v_eqC, v_opC, v_negC, v_neC, Out.bind_ok, Out.bind_exn, List.getElem?_cons_zero, List.getElem?_cons_succ, List.append_nil, List.nil_append, List.cons_append, Bool.not_true, Bool.not_false, if_true, if_false, Bool.false_eq_true, Bool.true_eq_false, reduceCtorEq, List.take_length, eqV_int, List.length_cons, List.length_nil, hz, hn, decide_false, two]
      exact lv rfl
end
end Law
end

-- S78k
section
set_option maxHeartbeats 4000000
namespace Law
open PySem PySem.Spec Den
/-- lowest terms, small -/
structure Rat (t b : Int) : Prop where
  pos : 1 ≤ b
  one : Int.gcd t b = 1
  top : t.natAbs < 2 ^ 40
  bot : b.natAbs < 2 ^ 40
theorem Rat.int {i : Int} (h : i.natAbs < 2 ^ 40) : Rat i 1 := ⟨by decide, by simp, h, by decide⟩
theorem neg_pows (x y : Int) : ∀ m : Nat, ((-x) ^ m = x ^ m ∧ (-y) ^ m = y ^ m) ∨ ((-x) ^ m = -(x ^ m) ∧ (-y) ^ m = -(y ^ m))
  | 0 => .inl ⟨by simp, by simp⟩
  | m + 1 => by
    rcases neg_pows x y m with ⟨h1, h2⟩ | ⟨h1, h2⟩
    · right
      simp only [Int.pow_succ, h1, h2, Int.mul_neg]
      exact ⟨trivial, trivial⟩
    · left
      simp only [Int.pow_succ, h1, h2, Int.mul_neg, Int.neg_mul, Int.neg_neg]
      exact ⟨trivial, trivial⟩
theorem pw_eq {t b j : Int} (g : Int.gcd t b = 1) (ht : j < 0 → t ≠ 0) : pw t b j = lpw t b j := by
  unfold pw lpw
  by_cases hj : j < 0
  · rw [if_pos hj, if_neg (by omega)]
    have ht := ht hj
    have g' : Int.gcd b t = 1 := by rw [Int.gcd_comm]; exact g
    have en : nm b t = if t < 0 then (-b, -t) else (b, t) := by
      unfold nm
      rw [g']
      simp
    rw [en]
    by_cases hz : t < 0
    · rw [if_pos hz]
      have hp : 1 ≤ (-t) ^ j.natAbs := pow_pos' (by omega) _
      rcases neg_pows b t j.natAbs with ⟨h1, h2⟩ | ⟨h1, h2⟩
      · have : ¬ t ^ j.natAbs < 0 := by omega
        rw [if_neg this]
        show ((-b) ^ j.natAbs, (-t) ^ j.natAbs) = _
        rw [h1, h2]
      · have : t ^ j.natAbs < 0 := by omega
        rw [if_pos this]
        show ((-b) ^ j.natAbs, (-t) ^ j.natAbs) = _
        rw [h1, h2]
    · rw [if_neg hz]
      have hp : 1 ≤ t ^ j.natAbs := pow_pos' (by omega) _
      rw [if_neg (by omega)]
  · rw [if_neg hj, if_pos (by omega)]
/-! ### heaps that have grown -/
def Grown (h h' : List Cell) : Prop := ∃ l, h' = h ++ l
theorem Grown.refl (h : List Cell) : Grown h h := ⟨[], by simp⟩
theorem Grown.add {h h' : List Cell} (g : Grown h h') (c : Cell) : Grown h (h' ++ [c]) := by
  obtain ⟨l, rfl⟩ := g
  exact ⟨l ++ [c], by simp⟩
theorem Grown.trans {a b c : List Cell} (g : Grown a b) (q : Grown b c) : Grown a c := by
  obtain ⟨l, rfl⟩ := g
  obtain ⟨m, rfl⟩ := q
  exact ⟨l ++ m, by simp⟩
theorem Grown.take {h h' : List Cell} (g : Grown h h') : h'.take h.length = h := by
  obtain ⟨l, rfl⟩ := g
  exact List.take_left' rfl
theorem Grown.at {h h' : List Cell} (g : Grown h h') {r : Nat} {c : Cell} (e : h[r]? = some c) : h'[r]? = some c := by
  obtain ⟨l, rfl⟩ := g
  exact get_app e
section
variable {K : PySem.W.Frag} {C : Calls} {n m r k : Nat} {h : List Cell} {t b u c i j : Int} {s : S} {a : SemE} {q : SemA} {x y : D} {xs ys : List D} {e : List (Option D)}
theorem ins_none {hp : List Cell} (hr : hp[r]? = some (.lst xs)) : insOf (.ref r) hp = none := by
  unfold insOf
  simp only [hr]
theorem l_add {hp : List Cell} {tl tr : Nat → Option Nat} (h1 : hp[r]? = some (.lst xs)) (h2 : hp[m]? = some (.lst ys)) (hl : xs.length + ys.length ≤ sizeLine) : opC C tl tr addV (.ref r) (.ref m) ⟨e, hp, n⟩ = .ok (.ref hp.length) ⟨e, hp ++ [.lst (xs ++ ys)], n⟩ := by
  have ha : addV (.ref r) (.ref m) hp = .new (.lst (xs ++ ys)) := by
    show (match lstOf (.ref r) hp, lstOf (.ref m) hp with
      | some xs, some ys => if xs.length + ys.length ≤ sizeLine then VO.new (.lst (xs ++ ys)) else .bad
      | _, _ => .bad) = _
    unfold lstOf
    simp only [h1, h2]
    rw [if_pos hl]
  unfold opC
  simp only [ins_none h1, ins_none h2, ha]
  rfl
/-- a row made longer by a written row -/
theorem due_add {tl tr : Nat → Option Nat} (he : e[k]? = some (some (.ref r))) (hr : h[r]? = some (.lst xs)) (ht : q ⟨e, h, n⟩ = .ok ys ⟨e, h, n⟩) (h1 : ys.length ≤ 100) (h2 : xs.length ≤ 100) :
    ∃ h' r', asgS (two (opC C tl tr addV) (varE k) (lstE q)) (nameG k) ⟨e, h, n⟩ = .ok .next ⟨e.set k (some (.ref r')), h', n⟩ ∧ Grown h h' ∧ h'[r']? = some (.lst (xs ++ ys)) := by
  refine ⟨h ++ [Cell.lst ys] ++ [Cell.lst (xs ++ ys)], (h ++ [Cell.lst ys]).length, ?_, (Grown.add (Grown.add (Grown.refl h) _) _), List.getElem?_concat_length⟩
  have e1 : lstE q ⟨e, h, n⟩ = .ok (.ref h.length) ⟨e, h ++ [.lst ys], n⟩ := by
    rw [y_lst, ht]
    simp only [Out.bind_ok]
    rw [if_pos (by rw [sizeLine_eq]; omega)]
  rw [y_asg, y_two, y_var, he]
  simp only [Out.bind_ok]
  rw [e1]
  simp only [Out.bind_ok]
  rw [l_add (get_app hr) List.getElem?_concat_length (by rw [sizeLine_eq]; omega)]
  rfl
/-- a walk through a row whose turns only go on -/
theorem walk_on {w : SemI} {it : ItD} {f : SemS} {s0 : S} {k : Nat} {e : List (Option D)} {h : List Cell} (hw : w s0 = .ok it ⟨e, h, n⟩) (hlen : it.len ⟨e, h, n⟩ = xs.length) (hit : ∀ (i : Nat) (e' : List (Option D)), it.at i ⟨e', h, n⟩ = some xs[i]?)
    (hf : ∀ d ∈ xs, ∀ e' : List (Option D), (∀ j, j ≠ k → e'[j]? = e[j]?) → e'.length = e.length → f ⟨e'.set k (some d), h, n⟩ = .ok .next ⟨e'.set k (some d), h, n⟩) : ∃ e' : List (Option D), forS w (nameG k) f s0 = .ok .next ⟨e', h, n⟩ ∧ (∀ j, j ≠ k → e'[j]? = e[j]?) ∧ e'.length = e.length := by
  obtain ⟨s', e1, e', es, h1, h2⟩ := forS_it (w := w) (g := nameG k) (f := f) (it := it) (xs := xs) (s0 := s0) (s := ⟨e, h, n⟩) (fun _ s => ∃ e', s = ⟨e', h, n⟩ ∧ (∀ j, j ≠ k → e'[j]? = e[j]?) ∧ e'.length = e.length) hw hlen ⟨e, rfl, fun _ _ => rfl, rfl⟩ (fun i s ⟨e', es, _⟩ => by
      subst es
      exact hit i e') fun i d s hd ⟨e', es, h1, h2⟩ => by
      subst es
      refine ⟨_, _, rfl, hf d (List.mem_of_getElem? hd) e' h1 h2, _, rfl, fun j hj => ?_, by rw [List.length_set, h2]⟩
      rw [List.getElem?_set_ne (Ne.symm hj)]
      exact h1 j hj
  subst es
  exact ⟨e', e1, h1, h2⟩
end
end Law
end

-- S78l
section
set_option maxHeartbeats 4000000
namespace Law
open PySem PySem.Spec Den
mutual
def noD : PyData → Bool
  | .dict _ => false
  | .list xs => noDs xs
  | .tuple xs => noDs xs
  | _ => true
def noDs : List PyData → Bool
  | [] => true
  | x :: xs => noD x && noDs xs
end
mutual
theorem eqv_refl : ∀ x : PyData, noD x = true → PyData.eqv x x = true
  | .none, _ => by simp [PyData.eqv]
  | .bool b, _ => by simp [PyData.eqv]
  | .int i, _ => by simp [PyData.eqv]
  | .str s, _ => by simp [PyData.eqv]
  | .list xs, h => by
    rw [PyData.eqv]
    exact eqvAll_refl xs (by simpa [noD] using h)
  | .tuple xs, h => by
    rw [PyData.eqv]
    exact eqvAll_refl xs (by simpa [noD] using h)
  | .dict xs, h => by simp [noD] at h
theorem eqvAll_refl : ∀ xs : List PyData, noDs xs = true → PyData.eqvAll xs xs = true
  | [], _ => by simp [PyData.eqvAll]
  | x :: xs, h => by
    have h2 : noD x = true ∧ noDs xs = true := by simpa [noDs] using h
    rw [PyData.eqvAll, eqv_refl x h2.1, eqvAll_refl xs h2.2]
    rfl
end
/-- the same data twice -/
theorem eqV_same {neg : Bool} {d : D} {h : List Cell} {x : PyData} (e : pyOf d h = some x) (hn : noD x = true) (hs : SeqAt.shaped x = true) : eqV neg d d h = .val (.bl (if neg then false else true)) := by
  unfold eqV
  rw [e]
  simp only [hs, Bool.and_self, if_true, eqv_refl x hn, Bool.not_true]
theorem eqV_pr {neg : Bool} {t b u c : Int} {h : List Cell} : eqV neg (pr t b) (pr u c) h = .val (.bl (if neg then !(decide (t = u) && decide (b = c)) else (decide (t = u) && decide (b = c)))) := by
  have e : PyData.eqv (.tuple [.int t, .int b]) (.tuple [.int u, .int c]) = (decide (t = u) && decide (b = c)) := by
    rw [PyData.eqv, PyData.eqvAll, PyData.eqvAll, PyData.eqvAll, eqv_int, eqv_int, Bool.and_true]
  show (if (SeqAt.shaped (.tuple [.int t, .int b]) && SeqAt.shaped (.tuple [.int u, .int c])) = true then VO.val (.bl (if neg then !PyData.eqv (.tuple [.int t, .int b]) (.tuple [.int u, .int c]) else PyData.eqv (.tuple [.int t, .int b]) (.tuple [.int u, .int c]))) else .bad) = _
  rw [e]
  exact if_pos rfl
section
variable {K : PySem.W.Frag} {C : Calls} {n m r k : Nat} {h : List Cell} {t b u c i j : Int} {s : S} {a : SemE} {q : SemA} {x y : D} {xs ys : List D} {e : List (Option D)} {z : Bool} {w : Str}
theorem ne_pr : neC C (ow "__eq__") (pr t b) (pr t b) s = .ok (.bl false) s := by
  unfold neC
  rw [eqV_pr]
  simp
  rfl
theorem ne_bl : neC C (ow "__eq__") (.bl z) (.bl z) s = .ok (.bl false) s := by
  unfold neC
  rw [eqV_same (x := .bool z) rfl rfl rfl]
  rfl
theorem eq_pr {te : Nat → Option Nat} : eqC C te (eqV false) (pr t b) (pr u c) s = .ok (.bl (decide (t = u) && decide (b = c))) s := by
  show (eqV false (pr t b) (pr u c) s.hp).on s = _
  rw [eqV_pr]
  rfl
theorem ok_of (v : String) : PyData.strOk (Str.ofString v) = true := by
  unfold PyData.strOk
  rw [Str.ofString_eq_toList]
  simp only [List.all_toArray, List.all_map, List.all_eq_true, Function.comp, decide_eq_true_eq]
  intro c _
  have h : c.val.toNat < 0xd800 ∨ (0xdfff < c.val.toNat ∧ c.val.toNat < 0x110000) := c.valid
  show c.val.toNat < 0x110000
  omega
theorem ok_app {v w : Str} (h1 : PyData.strOk v = true) (h2 : PyData.strOk w = true) : PyData.strOk (v ++ w) = true := by
  unfold PyData.strOk at h1 h2 ⊢
  rw [Str.cps_append, Array.all_append, h1, h2]
  rfl
theorem sh_str {w : Str} (h : PyData.strOk w = true) : SeqAt.shaped (.str w) = true := by
  unfold SeqAt.shaped
  simp only [PyData.canLay0, h, Bool.true_and]
  rfl
theorem eq_str {te : Nat → Option Nat} (hw : PyData.strOk w = true) : eqC C te (eqV false) (.str w) (.str w) s = .ok (.bl true) s := by
  show (eqV false (.str w) (.str w) s.hp).on s = _
  rw [eqV_same (x := .str w) rfl rfl (sh_str hw)]
  rfl
theorem b_rt {v : Bool} {hp : List Cell} (hc : C 33 none [rt t b] h = .ok (.bl v) hp) : boolG C (ow "__bool__") [rt t b] h = some (.bl v, hp) := by
  have e : boolG C (ow "__bool__") [rt t b] h = (match C 33 none [rt t b] h with
    | .ok (.bl b) hp' => some (.bl b, hp')
    | _ => none) := by kernel_rfl
  rw [e, hc]
theorem str_add {tl tr : Nat → Option Nat} {v : Str} (hl : w.length + v.length ≤ sizeLine) : opC C tl tr addV (.str w) (.str v) s = .ok (.str (w ++ v)) s := by
  show (if w.length + v.length ≤ sizeLine then VO.val (.str (w ++ v)) else .bad).on s = _
  rw [if_pos hl]
  rfl
theorem isa_bl : isaX (tb.px K) tb.E [.bl z, .ty 1] h = .val (.bl true) := rfl
/-! ### the signs, all of them -/
def itm (q : Int × Int) : D := .tup [rt q.1 q.2, pr q.1 q.2]
theorem it0 {q : Int × Int} : ixV (itm q) (.int 0) h = .val (rt q.1 q.2) := rfl
theorem it1 {q : Int × Int} : ixV (itm q) (.int 1) h = .val (pr q.1 q.2) := rfl
def bl2 (z : Bool) : D := .tup [.bl z, .bl z]
theorem bl0 : ixV (bl2 z) (.int 0) h = .val (.bl z) := rfl
theorem bl1 : ixV (bl2 z) (.int 1) h = .val (.bl z) := rfl
/-- what a result must be for its pair to be read -/
def Good (q : Int × Int) : Prop := 1 ≤ q.2 ∧ Int.gcd q.1 q.2 = 1 ∧ q.2.natAbs < 2 ^ 100
theorem good_nm (hb : b ≠ 0) (h2 : b.natAbs < 2 ^ 100) : Good (nm t b) := ⟨nm_pos hb, nm_gcd hb, Nat.lt_of_le_of_lt (nm_abs hb).2 h2⟩
noncomputable abbrev sgF (K : PySem.W.Frag) (C : Calls) : SemS := runs [(ifS (blT (two (neC C (ow "__eq__")) (callE C 13 [] (consA (bin ixV (varE 7) (conE (.int 0))) nilA)) (bin ixV (varE 7) (conE (.int 1))))) (runs [(retS (conE (.bl false)))]) (runs []))]
theorem sg_turn {q : Int × Int} (g : Good q) (h7 : e[7]? = some (some (itm q))) : sgF K (callK (pf K) (k + 2)) ⟨e, h, n⟩ = .ok .next ⟨e, h, n⟩ := by
  have e13 := c13 (K := K) (n := k) (hp := h) (k := 100) g.1 g.2.1 g.2.2 (by decide) (by decide)
  simp only [sgF, y_nil, y_cons, y_asg, y_name, y_ret, y_drop, y_if, y_bl, y_tru, y_not, y_and, y_or, y_andE, y_orE, y_notE, y_con, y_var, y_bin, y_un, y_two, y_nilA, y_consA, y_call, y_make, y_stat, y_callV, y_callG, y_neg, y_tup, y_lst, y_ifE, y_raise, y_val, y_new, y_on, y_onx, y_mth, y_fmt, y_bits, y_tupG, y_consG, y_nilG, y_mthL, v_add, v_sub, v_neg, v_lt, v_le, v_gt, v_ge, v_tru, v_gcd, set0, set1, v_eqC, v_opC, v_negC, v_neC, Out.bind_ok, Out.bind_exn, List.getElem?_cons_zero, List.getElem?_cons_succ, List.append_nil, List.nil_append, List.cons_append, Bool.not_true, Bool.not_false, if_true, if_false, Bool.false_eq_true, Bool.true_eq_false, reduceCtorEq, List.take_length, eqV_int, List.length_cons, List.length_nil, h7, it0, it1, e13, ne_pr]
noncomputable abbrev sgG (K : PySem.W.Frag) (C : Calls) : SemS := runs [(ifS (orT (notT (truE truth (callV (isaX (tb.px K) tb.E) (consA (bin ixV (varE 7) (conE (.int 0))) (consA (conE (.ty 1)) nilA))))) (blT (two (neC C (ow "__eq__")) (bin ixV (varE 7) (conE (.int 0))) (bin ixV (varE 7) (conE (.int 1)))))) (runs [(retS (conE (.bl false)))]) (runs []))]
theorem sg_turn2 (h7 : e[7]? = some (some (bl2 z))) : sgG K C ⟨e, h, n⟩ = .ok .next ⟨e, h, n⟩ := by
  simp only [sgG, y_nil, y_cons, y_asg, y_name, y_ret, y_drop, y_if, y_bl, y_tru, y_not, y_and, y_or, y_andE, y_orE, y_notE, y_con, y_var, y_bin, y_un, y_two, y_nilA, y_consA, y_call, y_make, y_stat, y_callV, y_callG, y_neg, y_tup, y_lst, y_ifE, y_raise, y_val, y_new, y_on, y_onx, y_mth, y_fmt, y_bits, y_tupG, y_consG, y_nilG, y_mthL, v_add, v_sub, v_neg, v_lt, v_le, v_gt, v_ge, v_tru, v_gcd, set0, set1, v_eqC, v_opC, v_negC, v_neC, Out.bind_ok, Out.bind_exn, List.getElem?_cons_zero, List.getElem?_cons_succ, List.append_nil, List.nil_append, List.cons_append, Bool.not_true, Bool.not_false, if_true, if_false, Bool.false_eq_true, Bool.true_eq_false, reduceCtorEq, List.take_length, eqV_int, List.length_cons, List.length_nil, h7, bl0, bl1, isa_bl, ne_bl]
end
end Law
end

-- S78m
section
set_option maxHeartbeats 8000000
namespace Law
open PySem PySem.Spec Den
section
variable {K : PySem.W.Frag} {n : Nat} {hp : List Cell} {t b u c i : Int}
abbrev e18 (t b u c i : Int) (d6 : Option D) (d7 : Option D) (d8 : Option D) : List (Option D) := [some (rt t b), some (pr t b), some (rt u c), some (pr u c), some (.int i), some (pr i 1), d6, d7, d8]
def Q18 (t b u c i : Int) : List (Int × Int) := [nm (t * c + u * b) (b * c), nm (t * c - u * b) (b * c), nm (t * u) (b * c), (-t, b), nm (t * 1 + i * b) (b * 1), nm (t * 1 + i * b) (b * 1), nm (t * 1 - i * b) (b * 1), nm (i * b - t * 1) (1 * b), nm (t * i) (b * 1), nm (t * i) (b * 1)]
theorem up100 {z : Nat} (h : z < 2 ^ 80) : z < 2 ^ 100 := Nat.lt_of_lt_of_le h (Nat.pow_le_pow_right (by decide) (by decide))
theorem q18_good (r : Rat t b) (q : Rat u c) : ∀ p ∈ Q18 t b u c i, Good p := by
  have nb : b * c ≠ 0 := nz r.pos q.pos
  have n1 : b * 1 ≠ 0 := by have := r.pos; omega
  have n2 : 1 * b ≠ 0 := by have := r.pos; omega
  have z1 : (b * c).natAbs < 2 ^ 100 := up100 (mul_b (k := 40) (m := 40) r.bot q.bot)
  have z2 : (b * 1).natAbs < 2 ^ 100 := by rw [Int.mul_one]; exact Nat.lt_of_lt_of_le r.bot (Nat.pow_le_pow_right (by decide) (by decide))
  have z3 : (1 * b).natAbs < 2 ^ 100 := by rw [Int.one_mul]; exact Nat.lt_of_lt_of_le r.bot (Nat.pow_le_pow_right (by decide) (by decide))
  intro p hp
  simp only [Q18, List.mem_cons, List.not_mem_nil, or_false] at hp
  rcases hp with rfl | rfl | rfl | rfl | rfl | rfl | rfl | rfl | rfl | rfl
  · exact good_nm nb z1
  · exact good_nm nb z1
  · exact good_nm nb z1
  · exact ⟨r.pos, by rw [Int.neg_gcd]; exact r.one, Nat.lt_of_lt_of_le r.bot (Nat.pow_le_pow_right (by decide) (by decide))⟩
  · exact good_nm n1 z2
  · exact good_nm n1 z2
  · exact good_nm n1 z2
  · exact good_nm n2 z3
  · exact good_nm n1 z2
  · exact good_nm n1 z2
/-- the row of what is due -/
theorem due18 (r : Rat t b) (q : Rat u c) (hi : i.natAbs < 2 ^ 40) : ∃ h' r', runs ((L18 K (callK (pf K) (n + 7))).take 6) ⟨[some (rt t b), some (pr t b), some (rt u c), some (pr u c), some (.int i), none, none, none, none], hp, hp.length⟩ = .ok .next ⟨e18 t b u c i (some (.ref r')) none none, h', hp.length⟩ ∧ Grown hp h' ∧ h'[r']? = some (.lst ((Q18 t b u c i).map itm)) := by
  have t22 := two_le
  have ri := Rat.int hi
  have k0 : 0 < 40 := by decide
  have k9 : 40 + 40 ≤ 9000 := by decide
  have A1 : ∀ h, callK (pf K) (n + 7) 25 none [rt t b, rt u c] h = .ok (rt (nm (t * c + u * b) (b * c)).1 (nm (t * c + u * b) (b * c)).2) h := fun h => c25 (n := n + 2) r.pos q.pos r.top r.bot q.top q.bot k0 k9 (Num.rt u c)
  have A2 : ∀ h, callK (pf K) (n + 7) 9 none [pr t b, pr u c] h = .ok (pr (nm (t * c + u * b) (b * c)).1 (nm (t * c + u * b) (b * c)).2) h := fun h => c9 (n := n + 4) r.top r.bot q.top q.bot k0 k9 r.pos q.pos
  have B1 : ∀ h, callK (pf K) (n + 7) 27 none [rt t b, rt u c] h = .ok (rt (nm (t * c - u * b) (b * c)).1 (nm (t * c - u * b) (b * c)).2) h := fun h => by
    have e := c27 (K := K) (n := n + 1) (hp := h) r.pos q.pos r.top r.bot q.top q.bot k0 k9 (Num.rt u c) q.one
    rw [Int.neg_mul, ← Int.sub_eq_add_neg] at e
    exact e
  have B2 : ∀ h, callK (pf K) (n + 7) 10 none [pr t b, pr u c] h = .ok (pr (nm (t * c - u * b) (b * c)).1 (nm (t * c - u * b) (b * c)).2) h := fun h => c10 (n := n + 4) r.top r.bot q.top q.bot k0 k9 r.pos q.pos
  have C1 : ∀ h, callK (pf K) (n + 7) 29 none [rt t b, rt u c] h = .ok (rt (nm (t * u) (b * c)).1 (nm (t * u) (b * c)).2) h := fun h => c29 (n := n + 2) r.pos q.pos r.top r.bot q.top q.bot k0 k9 (Num.rt u c)
  have C2 : ∀ h, callK (pf K) (n + 7) 11 none [pr t b, pr u c] h = .ok (pr (nm (t * u) (b * c)).1 (nm (t * u) (b * c)).2) h := fun h => c11 (n := n + 4) r.top r.bot q.top q.bot k0 k9 r.pos q.pos
  have D1 : ∀ h, callK (pf K) (n + 7) 31 none [rt t b] h = .ok (rt (-t) b) h := fun h => c31 (n := n + 3) r.pos r.one r.bot k0 (by decide)
  have E1 : ∀ h, callK (pf K) (n + 7) 25 none [rt t b, .int i] h = .ok (rt (nm (t * 1 + i * b) (b * 1)).1 (nm (t * 1 + i * b) (b * 1)).2) h := fun h => c25 (n := n + 2) r.pos ri.pos r.top r.bot ri.top ri.bot k0 k9 (Num.int i)
  have E2 : ∀ h, callK (pf K) (n + 7) 26 none [rt t b, .int i] h = .ok (rt (nm (t * 1 + i * b) (b * 1)).1 (nm (t * 1 + i * b) (b * 1)).2) h := fun h => c26 (n := n + 1) r.pos ri.pos r.top r.bot ri.top ri.bot k0 k9 (Num.int i)
  have E3 : ∀ h, callK (pf K) (n + 7) 9 none [pr t b, pr i 1] h = .ok (pr (nm (t * 1 + i * b) (b * 1)).1 (nm (t * 1 + i * b) (b * 1)).2) h := fun h => c9 (n := n + 4) r.top r.bot ri.top ri.bot k0 k9 r.pos ri.pos
  have F1 : ∀ h, callK (pf K) (n + 7) 27 none [rt t b, .int i] h = .ok (rt (nm (t * 1 - i * b) (b * 1)).1 (nm (t * 1 - i * b) (b * 1)).2) h := fun h => by
    have e := c27 (K := K) (n := n + 1) (hp := h) r.pos ri.pos r.top r.bot ri.top ri.bot k0 k9 (Num.int i) ri.one
    rw [Int.neg_mul, ← Int.sub_eq_add_neg] at e
    exact e
  have F2 : ∀ h, callK (pf K) (n + 7) 10 none [pr t b, pr i 1] h = .ok (pr (nm (t * 1 - i * b) (b * 1)).1 (nm (t * 1 - i * b) (b * 1)).2) h := fun h => c10 (n := n + 4) r.top r.bot ri.top ri.bot k0 k9 r.pos ri.pos
  have G1 : ∀ h, callK (pf K) (n + 7) 28 none [rt t b, .int i] h = .ok (rt (nm (i * b - t * 1) (1 * b)).1 (nm (i * b - t * 1) (1 * b)).2) h := fun h => by
    have e := c28 (K := K) (n := n + 1) (hp := h) r.pos ri.pos r.top r.bot ri.top ri.bot k0 k9 (Num.int i) r.one
    have e1 : -t * 1 + i * b = i * b - t * 1 := by rw [Int.neg_mul]; omega
    rw [e1, Int.mul_comm b 1] at e
    exact e
  have G2 : ∀ h, callK (pf K) (n + 7) 10 none [pr i 1, pr t b] h = .ok (pr (nm (i * b - t * 1) (1 * b)).1 (nm (i * b - t * 1) (1 * b)).2) h := fun h => c10 (n := n + 4) ri.top ri.bot r.top r.bot k0 k9 ri.pos r.pos
  have H1 : ∀ h, callK (pf K) (n + 7) 29 none [rt t b, .int i] h = .ok (rt (nm (t * i) (b * 1)).1 (nm (t * i) (b * 1)).2) h := fun h => c29 (n := n + 2) r.pos ri.pos r.top r.bot ri.top ri.bot k0 k9 (Num.int i)
  have H2 : ∀ h, callK (pf K) (n + 7) 30 none [rt t b, .int i] h = .ok (rt (nm (t * i) (b * 1)).1 (nm (t * i) (b * 1)).2) h := fun h => c30 (n := n + 1) r.pos ri.pos r.top r.bot ri.top ri.bot k0 k9 (Num.int i)
  have H3 : ∀ h, callK (pf K) (n + 7) 11 none [pr t b, pr i 1] h = .ok (pr (nm (t * i) (b * 1)).1 (nm (t * i) (b * 1)).2) h := fun h => c11 (n := n + 4) r.top r.bot ri.top ri.bot k0 k9 r.pos ri.pos
  -- the first row
  obtain ⟨h1, r1, s1, g1, l1⟩ : ∃ h1 r1, runs [(asgS (tupE (consA (varE 4) (consA (conE (.int 1)) nilA))) (nameG 5)), (asgS (lstE (consA (tupE (consA (two (opC (callK (pf K) (n + 7)) (ow "__add__") (ow "__radd__") addV) (varE 0) (varE 2)) (consA (callE (callK (pf K) (n + 7)) 9 [] (consA (varE 1) (consA (varE 3) nilA))) nilA))) (consA (tupE (consA (two (opC (callK (pf K) (n + 7)) (ow "__sub__") (ow "__rsub__") subV) (varE 0) (varE 2)) (consA (callE (callK (pf K) (n + 7)) 10 [] (consA (varE 1) (consA (varE 3) nilA))) nilA))) nilA))) (nameG 6))] ⟨[some (rt t b), some (pr t b), some (rt u c), some (pr u c), some (.int i), none, none, none, none], hp, hp.length⟩ = .ok .next ⟨e18 t b u c i (some (.ref r1)) none none, h1, hp.length⟩ ∧ Grown hp h1 ∧ h1[r1]? = some (.lst [itm (nm (t * c + u * b) (b * c)), itm (nm (t * c - u * b) (b * c))]) := by
    refine ⟨hp ++ [.lst [itm (nm (t * c + u * b) (b * c)), itm (nm (t * c - u * b) (b * c))]], hp.length, ?_, (Grown.refl hp).add _, List.getElem?_concat_length⟩
    simp only [y_nil, y_cons, y_asg, y_name, y_ret, y_drop, y_if, y_bl, y_tru, y_not, y_and, y_or, y_andE, y_orE, y_notE, y_con, y_var, y_bin, y_un, y_two, y_nilA, y_consA, y_call, y_make, y_stat, y_callV, y_callG, y_neg, y_tup, y_lst, y_ifE, y_raise, y_val, y_new, y_on, y_onx, y_mth, y_fmt, y_bits, y_tupG, y_consG, y_nilG, y_mthL, v_add, v_sub, v_neg, v_lt, v_le, v_gt, v_ge, v_tru, v_gcd, set0, set1, v_eqC, v_opC, v_negC, v_neC, Out.bind_ok, Out.bind_exn, List.getElem?_cons_zero, List.getElem?_cons_succ, List.append_nil, List.nil_append, List.cons_append, Bool.not_true, Bool.not_false, if_true, if_false, Bool.false_eq_true, Bool.true_eq_false, reduceCtorEq, List.take_length, eqV_int, List.length_cons, List.length_nil, t22, o_add ok_rt, o_sub ok_rt, A1, A2, B1, B2]
    rfl
  obtain ⟨h2, r2, s2, g2, l2⟩ := due_add (k := 6) (n := hp.length) (e := e18 t b u c i (some (.ref r1)) none none) (h := h1) (q := (consA (tupE (consA (two (opC (callK (pf K) (n + 7)) (ow "__mul__") (ow "__rmul__") mulV) (varE 0) (varE 2)) (consA (callE (callK (pf K) (n + 7)) 11 [] (consA (varE 1) (consA (varE 3) nilA))) nilA))) (consA (tupE (consA (negE (callK (pf K) (n + 7)) (ow "__neg__") negV (varE 0)) (consA (tupE (consA (negE (callK (pf K) (n + 7)) (ow "__neg__") negV (bin ixV (varE 1) (conE (.int 0)))) (consA (bin ixV (varE 1) (conE (.int 1))) nilA))) nilA))) nilA))) (ys := [itm (nm (t * u) (b * c)), itm (-t, b)]) (tl := ow "__add__") (tr := ow "__radd__") (C := (callK (pf K) (n + 7))) rfl l1 (by
    simp only [e18, y_nil, y_cons, y_asg, y_name, y_ret, y_drop, y_if, y_bl, y_tru, y_not, y_and, y_or, y_andE, y_orE, y_notE, y_con, y_var, y_bin, y_un, y_two, y_nilA, y_consA, y_call, y_make, y_stat, y_callV, y_callG, y_neg, y_tup, y_lst, y_ifE, y_raise, y_val, y_new, y_on, y_onx, y_mth, y_fmt, y_bits, y_tupG, y_consG, y_nilG, y_mthL, v_add, v_sub, v_neg, v_lt, v_le, v_gt, v_ge, v_tru, v_gcd, set0, set1, v_eqC, v_opC, v_negC, v_neC, Out.bind_ok, Out.bind_exn, List.getElem?_cons_zero, List.getElem?_cons_succ, List.append_nil, List.nil_append, List.cons_append, Bool.not_true, Bool.not_false, if_true, if_false, Bool.false_eq_true, Bool.true_eq_false, reduceCtorEq, List.take_length, eqV_int, List.length_cons, List.length_nil, t22, o_mul ok_rt, o_neg, C1, C2, D1, ix0, ix1]
    rfl) (by simp) (by simp)
  obtain ⟨h3, r3, s3, g3, l3⟩ := due_add (k := 6) (n := hp.length) (e := e18 t b u c i (some (.ref r2)) none none) (h := h2) (q := (consA (tupE (consA (two (opC (callK (pf K) (n + 7)) (ow "__add__") (ow "__radd__") addV) (varE 0) (varE 4)) (consA (callE (callK (pf K) (n + 7)) 9 [] (consA (varE 1) (consA (varE 5) nilA))) nilA))) (consA (tupE (consA (two (opC (callK (pf K) (n + 7)) (ow "__add__") (ow "__radd__") addV) (varE 4) (varE 0)) (consA (callE (callK (pf K) (n + 7)) 9 [] (consA (varE 1) (consA (varE 5) nilA))) nilA))) nilA))) (ys := [itm (nm (t * 1 + i * b) (b * 1)), itm (nm (t * 1 + i * b) (b * 1))]) (tl := ow "__add__") (tr := ow "__radd__") (C := (callK (pf K) (n + 7))) rfl l2 (by
    simp only [e18, y_nil, y_cons, y_asg, y_name, y_ret, y_drop, y_if, y_bl, y_tru, y_not, y_and, y_or, y_andE, y_orE, y_notE, y_con, y_var, y_bin, y_un, y_two, y_nilA, y_consA, y_call, y_make, y_stat, y_callV, y_callG, y_neg, y_tup, y_lst, y_ifE, y_raise, y_val, y_new, y_on, y_onx, y_mth, y_fmt, y_bits, y_tupG, y_consG, y_nilG, y_mthL, v_add, v_sub, v_neg, v_lt, v_le, v_gt, v_ge, v_tru, v_gcd, set0, set1, v_eqC, v_opC, v_negC, v_neC, Out.bind_ok, Out.bind_exn, List.getElem?_cons_zero, List.getElem?_cons_succ, List.append_nil, List.nil_append, List.cons_append, Bool.not_true, Bool.not_false, if_true, if_false, Bool.false_eq_true, Bool.true_eq_false, reduceCtorEq, List.take_length, eqV_int, List.length_cons, List.length_nil, t22, o_add ok_int, o_radd, E1, E2, E3]
    rfl) (by simp) (by simp)
  obtain ⟨h4, r4, s4, g4, l4⟩ := due_add (k := 6) (n := hp.length) (e := e18 t b u c i (some (.ref r3)) none none) (h := h3) (q := (consA (tupE (consA (two (opC (callK (pf K) (n + 7)) (ow "__sub__") (ow "__rsub__") subV) (varE 0) (varE 4)) (consA (callE (callK (pf K) (n + 7)) 10 [] (consA (varE 1) (consA (varE 5) nilA))) nilA))) (consA (tupE (consA (two (opC (callK (pf K) (n + 7)) (ow "__sub__") (ow "__rsub__") subV) (varE 4) (varE 0)) (consA (callE (callK (pf K) (n + 7)) 10 [] (consA (varE 5) (consA (varE 1) nilA))) nilA))) nilA))) (ys := [itm (nm (t * 1 - i * b) (b * 1)), itm (nm (i * b - t * 1) (1 * b))]) (tl := ow "__add__") (tr := ow "__radd__") (C := (callK (pf K) (n + 7))) rfl l3 (by
    simp only [e18, y_nil, y_cons, y_asg, y_name, y_ret, y_drop, y_if, y_bl, y_tru, y_not, y_and, y_or, y_andE, y_orE, y_notE, y_con, y_var, y_bin, y_un, y_two, y_nilA, y_consA, y_call, y_make, y_stat, y_callV, y_callG, y_neg, y_tup, y_lst, y_ifE, y_raise, y_val, y_new, y_on, y_onx, y_mth, y_fmt, y_bits, y_tupG, y_consG, y_nilG, y_mthL, v_add, v_sub, v_neg, v_lt, v_le, v_gt, v_ge, v_tru, v_gcd, set0, set1, v_eqC, v_opC, v_negC, v_neC, Out.bind_ok, Out.bind_exn, List.getElem?_cons_zero, List.getElem?_cons_succ, List.append_nil, List.nil_append, List.cons_append, Bool.not_true, Bool.not_false, if_true, if_false, Bool.false_eq_true, Bool.true_eq_false, reduceCtorEq, List.take_length, eqV_int, List.length_cons, List.length_nil, t22, o_sub ok_int, o_rsub, F1, F2, G1, G2]
    rfl) (by simp) (by simp)
  obtain ⟨h5, r5, s5, g5, l5⟩ := due_add (k := 6) (n := hp.length) (e := e18 t b u c i (some (.ref r4)) none none) (h := h4) (q := (consA (tupE (consA (two (opC (callK (pf K) (n + 7)) (ow "__mul__") (ow "__rmul__") mulV) (varE 0) (varE 4)) (consA (callE (callK (pf K) (n + 7)) 11 [] (consA (varE 1) (consA (varE 5) nilA))) nilA))) (consA (tupE (consA (two (opC (callK (pf K) (n + 7)) (ow "__mul__") (ow "__rmul__") mulV) (varE 4) (varE 0)) (consA (callE (callK (pf K) (n + 7)) 11 [] (consA (varE 1) (consA (varE 5) nilA))) nilA))) nilA))) (ys := [itm (nm (t * i) (b * 1)), itm (nm (t * i) (b * 1))]) (tl := ow "__add__") (tr := ow "__radd__") (C := (callK (pf K) (n + 7))) rfl l4 (by
    simp only [e18, y_nil, y_cons, y_asg, y_name, y_ret, y_drop, y_if, y_bl, y_tru, y_not, y_and, y_or, y_andE, y_orE, y_notE, y_con, y_var, y_bin, y_un, y_two, y_nilA, y_consA, y_call, y_make, y_stat, y_callV, y_callG, y_neg, y_tup, y_lst, y_ifE, y_raise, y_val, y_new, y_on, y_onx, y_mth, y_fmt, y_bits, y_tupG, y_consG, y_nilG, y_mthL, v_add, v_sub, v_neg, v_lt, v_le, v_gt, v_ge, v_tru, v_gcd, set0, set1, v_eqC, v_opC, v_negC, v_neC, Out.bind_ok, Out.bind_exn, List.getElem?_cons_zero, List.getElem?_cons_succ, List.append_nil, List.nil_append, List.cons_append, Bool.not_true, Bool.not_false, if_true, if_false, Bool.false_eq_true, Bool.true_eq_false, reduceCtorEq, List.take_length, eqV_int, List.length_cons, List.length_nil, t22, o_mul ok_int, o_rmul, H1, H2, H3]
    rfl) (by simp) (by simp)
  refine ⟨h5, r5, ?_, g1.trans (g2.trans (g3.trans (g4.trans g5))), l5⟩
  exact (runs_append (a := [_, _]) s1).trans ((runs_step s2).trans ((runs_step s3).trans ((runs_step s4).trans ((runs_step s5).trans rfl))))
end
end Law
end

-- S78n
section
set_option maxHeartbeats 8000000
namespace Law
open PySem PySem.Spec Den
theorem env_set {e e' : List (Option D)} {k : Nat} (h : ∀ j, j ≠ k → e'[j]? = e[j]?) (hl : e'.length = e.length) : ∃ o, e' = e.set k o := by
  by_cases hk : k < e'.length
  · refine ⟨e'[k], List.ext_getElem? fun j => ?_⟩
    by_cases hj : j = k
    · subst hj
      rw [List.getElem?_set_self (by omega), List.getElem?_eq_getElem hk]
    · rw [List.getElem?_set_ne (Ne.symm hj), h j hj]
  · refine ⟨none, List.ext_getElem? fun j => ?_⟩
    by_cases hj : j = k
    · subst hj
      rw [List.getElem?_eq_none (by omega), List.getElem?_eq_none (by rw [List.length_set]; omega)]
    · rw [List.getElem?_set_ne (Ne.symm hj), h j hj]
section
variable {K : PySem.W.Frag} {n : Nat} {hp : List Cell} {t b u c i : Int}
theorem tail18 {h : List Cell} {m : Nat} {x y : Option D} (hpos : 1 ≤ b) (h1 : t.natAbs < 10 ^ 13) (h2 : b.natAbs < 10 ^ 13) : ∃ o, runs ((L18 K (callK (pf K) (n + 7))).drop 8) ⟨e18 t b u c i x y none, h, m⟩ = .ok (.ret (.bl true)) ⟨e18 t b u c i x y o, h, m⟩ := by
  have t22 := two_le
  have A1 : ∀ h, callK (pf K) (n + 7) 32 none [rt t b, .non] h = .ok (.bl false) h := fun h => c32_bad (n := n + 5) rfl rfl
  have A2 : ∀ h, callK (pf K) (n + 7) 32 none [rt t b, pr t b] h = .ok (.bl false) h := fun h => c32_bad (n := n + 5) rfl rfl
  have A3 : ∀ h, boolG (callK (pf K) (n + 7)) (ow "__bool__") [rt t b] h = some (.bl (!decide (t = 0)), h) := fun h => b_rt (c33 (n := n + 6))
  have A4 : ∀ h, callK (pf K) (n + 7) 37 none [rt t b] h = .ok (.str (toldS t b)) h := fun h => c37 (n := n + 6) h1 h2
  have p : (10 : Nat) ^ 13 ≤ 2 ^ 64 := by decide
  have g1 : t.natAbs.log2 < 1920 := bound_log (k := 64) (by omega) (by decide) (by decide)
  have g2 : b.natAbs.log2 < 1920 := bound_log (k := 64) (by omega) (by decide) (by decide)
  have q1 : ∀ h, strV [.int t] h = .val (.str (toString t)) := fun h => if_pos g1
  have q2 : ∀ h, strV [.int b] h = .val (.str (toString b)) := fun h => if_pos g2
  have l1 := tos_len (k := 13) (by decide) h1
  have l2 := tos_len (k := 13) (by decide) h2
  have ls : (Str.ofString "/").length = 1 := by decide
  have hf : (([2, 3] : List Nat).all fun i => decide (i < 4)) = true := rfl
  have hl : List.lookup 0 [(0, 37)] = some 37 := rfl
  have n1 : ∀ s : S, eqC (callK (pf K) (n + 7)) (ow "__eq__") (eqV false) (rt t b) .non s = .ok (.bl false) s := fun s => by
    rw [o_eq rfl, A1]
    rfl
  have n2 : ∀ s : S, eqC (callK (pf K) (n + 7)) (ow "__eq__") (eqV false) (rt t b) (pr t b) s = .ok (.bl false) s := fun s => by
    rw [o_eq rfl, A2]
    rfl
  have k1 : PyData.strOk (Str.ofString (toString t)) = true := ok_of _
  have k2 : PyData.strOk (Str.ofString (toString t) ++ Str.ofString "/" ++ Str.ofString (toString b)) = true := ok_app (ok_app (ok_of _) (ok_of _)) (ok_of _)
  by_cases hb : 1 < b
  · have eT : toldS t b = Str.ofString (toString t) ++ Str.ofString "/" ++ Str.ofString (toString b) := if_neg (by omega)
    refine ⟨some (.str (Str.ofString (toString t) ++ Str.ofString "/" ++ Str.ofString (toString b))), ?_⟩
    show runs [_, _, _, _] _ = _
    have a1 : ∀ s : S, opC (callK (pf K) (n + 7)) (ow "__add__") (ow "__radd__") addV (.str (Str.ofString (toString t))) (.str (Str.ofString "/")) s = .ok (.str (Str.ofString (toString t) ++ Str.ofString "/")) s := fun s => str_add (by rw [sizeLine_eq]; omega)
    have a2 : ∀ s : S, opC (callK (pf K) (n + 7)) (ow "__add__") (ow "__radd__") addV (.str (Str.ofString (toString t) ++ Str.ofString "/")) (.str (Str.ofString (toString b))) s = .ok (.str (Str.ofString (toString t) ++ Str.ofString "/" ++ Str.ofString (toString b))) s := fun s => str_add (by rw [Str.length_append, sizeLine_eq]; omega)
    simp only [y_nil, y_cons, y_asg, y_name, y_ret, y_drop, y_if, y_bl, y_tru, y_not, y_and, y_or, y_andE, y_orE, y_notE, y_con, y_var, y_bin, y_un, y_two, y_nilA, y_consA, y_call, y_make, y_stat, y_callV, y_callG, y_neg, y_tup, y_lst, y_ifE, y_raise, y_val, y_new, y_on, y_onx, y_mth, y_fmt, y_bits, y_tupG, y_consG, y_nilG, y_mthL, v_add, v_sub, v_neg, v_lt, v_le, v_gt, v_ge, v_tru, v_gcd, set0, set1, v_eqC, v_opC, v_negC, v_neC, Out.bind_ok, Out.bind_exn, List.getElem?_cons_zero, List.getElem?_cons_succ, List.append_nil, List.nil_append, List.cons_append, Bool.not_true, Bool.not_false, if_true, if_false, Bool.false_eq_true, Bool.true_eq_false, reduceCtorEq, List.take_length, eqV_int, List.length_cons, List.length_nil, n1, n2, A3, ix0, ix1, ne_bl, q1, q2, hb, decide_true, a1, a2, y_mth, m_inv, hf, hl, A4, eT, eq_str k2]
  · have eT : b = 1 → toldS t b = Str.ofString (toString t) := fun h => if_pos h
    by_cases h1 : b = 1
    · refine ⟨some (.str (Str.ofString (toString t))), ?_⟩
      show runs [_, _, _, _] _ = _
      simp only [y_nil, y_cons, y_asg, y_name, y_ret, y_drop, y_if, y_bl, y_tru, y_not, y_and, y_or, y_andE, y_orE, y_notE, y_con, y_var, y_bin, y_un, y_two, y_nilA, y_consA, y_call, y_make, y_stat, y_callV, y_callG, y_neg, y_tup, y_lst, y_ifE, y_raise, y_val, y_new, y_on, y_onx, y_mth, y_fmt, y_bits, y_tupG, y_consG, y_nilG, y_mthL, v_add, v_sub, v_neg, v_lt, v_le, v_gt, v_ge, v_tru, v_gcd, set0, set1, v_eqC, v_opC, v_negC, v_neC, Out.bind_ok, Out.bind_exn, List.getElem?_cons_zero, List.getElem?_cons_succ, List.append_nil, List.nil_append, List.cons_append, Bool.not_true, Bool.not_false, if_true, if_false, Bool.false_eq_true, Bool.true_eq_false, reduceCtorEq, List.take_length, eqV_int, List.length_cons, List.length_nil, n1, n2, A3, ix0, ix1, ne_bl, q1, q2, hb, decide_false, y_mth, m_inv, hf, hl, A4, eT h1, eq_str k1]
    · exact absurd hpos (by omega)
theorem c18 (r : Rat t b) (q : Rat u c) (hi : i.natAbs < 2 ^ 40) (h1 : t.natAbs < 10 ^ 13) (h2' : b.natAbs < 10 ^ 13) : callK (pf K) (n + 8) 18 none [rt t b, pr t b, rt u c, pr u c, .int i] hp = .ok (.bl true) hp := by
  refine (call_none (f := ⟨9, 5, false, B18 K⟩) rfl rfl rfl).trans ?_
  obtain ⟨h', r', e1, g1, l1⟩ := due18 (K := K) (n := n) (hp := hp) r q hi
  have t22 := two_le
  have t33 : (3 : Nat) ≤ sizeLine := by rw [sizeLine_eq]; decide
  -- the first walk
  have w1 : seqI (varE 6) ⟨e18 t b u c i (some (.ref r')) none none, h', hp.length⟩ = .ok (.cell r') ⟨e18 t b u c i (some (.ref r')) none none, h', hp.length⟩ := wh_seq rfl l1
  obtain ⟨e', f1, p1, p2⟩ := walk_on (k := 7) (f := sgF K (callK (pf K) (n + 7))) (xs := (Q18 t b u c i).map itm) w1 (cell_len l1) (fun j e' => cell_at l1) fun d hd e' h3 h4 => by
    obtain ⟨p, hp2, ed⟩ := List.mem_map.mp hd
    subst ed
    exact sg_turn (k := n + 5) (q18_good r q p hp2) (List.getElem?_set_self (by rw [h4]; exact (by decide : 7 < 9)))
  obtain ⟨o, rfl⟩ := env_set p1 p2
  -- the second walk
  have A1 : ∀ h, callK (pf K) (n + 7) 32 none [rt t b, rt u c] h = .ok (.bl (decide (t = u) && decide (b = c))) h := fun h => c32 (n := n + 5) (Num.rt u c)
  have A2 : ∀ h, callK (pf K) (n + 7) 32 none [rt t b, .int i] h = .ok (.bl (decide (t = i) && decide (b = 1))) h := fun h => c32 (n := n + 5) (Num.int i)
  have A3 : ∀ h, callK (pf K) (n + 7) 32 none [rt t b, rt i 1] h = .ok (.bl (decide (t = i) && decide (b = 1))) h := fun h => c32 (n := n + 5) (Num.rt i 1)
  have A4 : ∀ h, callK (pf K) (n + 7) 23 (some 0) [.int i, .int 1] h = .ok (rt i 1) h := fun h => by
    have e := c23 (K := K) (n := n + 4) (hp := h) (t := i) (b := 1) (k := 1) (by decide) (by decide) (by decide) (by decide)
    rw [nm_int] at e
    exact e
  have w2 : seqI (lstE (consA (tupE (consA (two (eqC (callK (pf K) (n + 7)) (ow "__eq__") (eqV false)) (varE 0) (varE 2)) (consA (two (eqC (callK (pf K) (n + 7)) (ow "__eq__") (eqV false)) (varE 1) (varE 3)) nilA))) (consA (tupE (consA (two (eqC (callK (pf K) (n + 7)) (ow "__eq__") (eqV false)) (varE 0) (varE 4)) (consA (two (eqC (callK (pf K) (n + 7)) (ow "__eq__") (eqV false)) (varE 1) (varE 5)) nilA))) (consA (tupE (consA (two (eqC (callK (pf K) (n + 7)) (ow "__eq__") (eqV false)) (varE 0) (makeE (callK (pf K) (n + 7)) 23 0 [.int 1] (consA (varE 4) nilA))) (consA (two (eqC (callK (pf K) (n + 7)) (ow "__eq__") (eqV false)) (varE 1) (varE 5)) nilA))) nilA))))
      ⟨e18 t b u c i (some (.ref r')) o none, h', hp.length⟩ = .ok (.cell h'.length) ⟨e18 t b u c i (some (.ref r')) o none, h' ++ [.lst [bl2 (decide (t = u) && decide (b = c)), bl2 (decide (t = i) && decide (b = 1)), bl2 (decide (t = i) && decide (b = 1))]], hp.length⟩ := by
    show (lstE _ _).bind _ = _
    have e : lstE (consA (tupE (consA (two (eqC (callK (pf K) (n + 7)) (ow "__eq__") (eqV false)) (varE 0) (varE 2)) (consA (two (eqC (callK (pf K) (n + 7)) (ow "__eq__") (eqV false)) (varE 1) (varE 3)) nilA))) (consA (tupE (consA (two (eqC (callK (pf K) (n + 7)) (ow "__eq__") (eqV false)) (varE 0) (varE 4)) (consA (two (eqC (callK (pf K) (n + 7)) (ow "__eq__") (eqV false)) (varE 1) (varE 5)) nilA))) (consA (tupE (consA (two (eqC (callK (pf K) (n + 7)) (ow "__eq__") (eqV false)) (varE 0) (makeE (callK (pf K) (n + 7)) 23 0 [.int 1] (consA (varE 4) nilA))) (consA (two (eqC (callK (pf K) (n + 7)) (ow "__eq__") (eqV false)) (varE 1) (varE 5)) nilA))) nilA)))
      ⟨e18 t b u c i (some (.ref r')) o none, h', hp.length⟩ = .ok (.ref h'.length) ⟨e18 t b u c i (some (.ref r')) o none, h' ++ [.lst [bl2 (decide (t = u) && decide (b = c)), bl2 (decide (t = i) && decide (b = 1)), bl2 (decide (t = i) && decide (b = 1))]], hp.length⟩ := by
      simp only [e18, y_nil, y_cons, y_asg, y_name, y_ret, y_drop, y_if, y_bl, y_tru, y_not, y_and, y_or, y_andE, y_orE, y_notE, y_con, y_var, y_bin, y_un, y_two, y_nilA, y_consA, y_call, y_make, y_stat, y_callV, y_callG, y_neg, y_tup, y_lst, y_ifE, y_raise, y_val, y_new, y_on, y_onx, y_mth, y_fmt, y_bits, y_tupG, y_consG, y_nilG, y_mthL, v_add, v_sub, v_neg, v_lt, v_le, v_gt, v_ge, v_tru, v_gcd, set0, set1, v_eqC, v_opC, v_negC, v_neC, Out.bind_ok, Out.bind_exn, List.getElem?_cons_zero, List.getElem?_cons_succ, List.append_nil, List.nil_append, List.cons_append, Bool.not_true, Bool.not_false, if_true, if_false, Bool.false_eq_true, Bool.true_eq_false, reduceCtorEq, List.take_length, eqV_int, List.length_cons, List.length_nil, t22, t33, o_eq ok_eqrt, o_eq ok_eqint, eq_pr, A1, A2, A3, A4]
      rfl
    rw [e]
    simp only [Out.bind_ok, List.getElem?_concat_length]
  have l2 : (h' ++ [Cell.lst [bl2 (decide (t = u) && decide (b = c)), bl2 (decide (t = i) && decide (b = 1)), bl2 (decide (t = i) && decide (b = 1))]])[h'.length]? = some (.lst [bl2 (decide (t = u) && decide (b = c)), bl2 (decide (t = i) && decide (b = 1)), bl2 (decide (t = i) && decide (b = 1))]) := List.getElem?_concat_length
  obtain ⟨e2, f2, q1, q2⟩ := walk_on (k := 7) (f := sgG K (callK (pf K) (n + 7))) (xs := [bl2 (decide (t = u) && decide (b = c)), bl2 (decide (t = i) && decide (b = 1)), bl2 (decide (t = i) && decide (b = 1))]) w2 (cell_len l2) (fun j e' => cell_at l2) fun d hd e' h3 h4 => by
    obtain ⟨z, rfl⟩ : ∃ z, d = bl2 z := by
      simp only [List.mem_cons, List.not_mem_nil, or_false] at hd
      rcases hd with rfl | rfl | rfl <;> exact ⟨_, rfl⟩
    exact sg_turn2 (List.getElem?_set_self (by rw [h4]; exact (by decide : 7 < 9)))
  obtain ⟨o2, rfl⟩ := env_set q1 q2
  have g2 : Grown hp (h' ++ [Cell.lst [bl2 (decide (t = u) && decide (b = c)), bl2 (decide (t = i) && decide (b = 1)), bl2 (decide (t = i) && decide (b = 1))]]) := g1.add _
  revert f2 g2
  generalize (h' ++ [Cell.lst [bl2 (decide (t = u) && decide (b = c)), bl2 (decide (t = i) && decide (b = 1)), bl2 (decide (t = i) && decide (b = 1))]]) = h2
  intro f2 g2
  obtain ⟨o3, rest⟩ := tail18 (K := K) (n := n) (h := h2) (m := hp.length) (t := t) (b := b) (u := u) (c := c) (i := i) (x := some (.ref r')) (y := o2) r.pos h1 h2'
  have all : B18 K (callK (pf K) (n + 7)) ⟨[some (rt t b), some (pr t b), some (rt u c), some (pr u c), some (.int i), none, none, none, none], hp, hp.length⟩ = .ok (.ret (.bl true)) ⟨e18 t b u c i (some (.ref r')) o2 o3, h2, hp.length⟩ :=
    (runs_append (a := (L18 K (callK (pf K) (n + 7))).take 6) e1).trans ((runs_step f1).trans ((runs_step f2).trans rest))
  show leave hp.length (B18 K (callK (pf K) (n + 7)) ⟨[some (rt t b), some (pr t b), some (rt u c), some (pr u c), some (.int i), none, none, none, none], hp, hp.length⟩) = _
  rw [all]
  exact lv' rfl g2.take
end
end Law
end

-- S78o
section
set_option maxHeartbeats 4000000
namespace Law
open PySem PySem.Spec Den
section
variable {K : PySem.W.Frag} {C : Calls} {n m r k : Nat} {hp h : List Cell} {t b u c i j : Int} {s : S} {a x y : D} {w : Str} {e : List (Option D)}
abbrev made (t b : Int) : D := .tup [.str "made", pr t b]
abbrev numb (w : Str) : D := .tup [.str "number", .str w, .bl false]
theorem y_try {E : Nat × Nat} {sub : Nat → Nat → Bool} {f : SemS} {hs : List Hd} : tryS E sub f hs s = match f s with
  | .exn c fs xs s' => catchS E sub c fs xs hs s'
  | o => o := rfl
noncomputable abbrev H16 (K : PySem.W.Frag) (C : Calls) : List Hd := [⟨2, some 3, fun ec fs xs => (seqS (asgS (tupE (consA (conE (.str ("number" : Str))) (consA (errFldE tb.E 4 ec fs xs 0) (consA (errIsE tb.E tb.subF ec 3) nilA)))) (nameG 2)) nextS)⟩, ⟨1, none, fun ec fs xs => (seqS (asgS (tupE (consA (conE (.str ("other" : Str))) (consA (conE (.int 0)) nilA))) (nameG 2)) nextS)⟩]
theorem catch16 : catchS tb.E tb.subF 2 [0] [.str w] (H16 K C) ⟨[some x, some y, some .non, none], h, m⟩ = .ok .next ⟨[some x, some y, some (numb w), none], h, m⟩ := by
  have t3 : (3 : Nat) ≤ sizeLine := by rw [sizeLine_eq]; decide
  have e : catchS tb.E tb.subF 2 [0] [.str w] (H16 K C) ⟨[some x, some y, some .non, none], h, m⟩ = offS (some 3) (seqS (asgS (tupE (consA (conE (.str ("number" : Str))) (consA (conE (.str w)) (consA (conE (.bl false)) nilA)))) (nameG 2)) nextS ⟨[some x, some y, some .non, none], h, m⟩) := by kernel_rfl
  rw [e]
  simp only [seqS, y_nil, y_cons, y_asg, y_name, y_ret, y_drop, y_if, y_bl, y_tru, y_not, y_and, y_or, y_andE, y_orE, y_notE, y_con, y_var, y_bin, y_un, y_two, y_nilA, y_consA, y_call, y_make, y_stat, y_callV, y_callG, y_neg, y_tup, y_lst, y_ifE, y_raise, y_val, y_new, y_on, y_onx, y_mth, y_fmt, y_bits, y_tupG, y_consG, y_nilG, y_mthL, v_add, v_sub, v_neg, v_lt, v_le, v_gt, v_ge, v_tru, v_gcd, set0, set1, v_eqC, v_opC, v_negC, v_neC, Out.bind_ok, Out.bind_exn, List.getElem?_cons_zero, List.getElem?_cons_succ, List.append_nil, List.nil_append, List.cons_append, Bool.not_true, Bool.not_false, if_true, if_false, Bool.false_eq_true, Bool.true_eq_false, reduceCtorEq, List.take_length, eqV_int, List.length_cons, List.length_nil, t3]
  rfl
theorem up13 (g : Good (t, b)) : callK (pf K) (n + 7) 13 none [rt t b] hp = .ok (pr t b) hp := c13 (n := n + 5) g.1 g.2.1 g.2.2 (by decide) (by decide)
theorem ixa : ixV (.tup [x, y]) (.int 0) h = .val x := rfl
theorem ixb : ixV (.tup [x, y]) (.int 1) h = .val y := rfl
theorem ix1a : ixV (.tup [x]) (.int 0) h = .val x := rfl
theorem lk34 : List.lookup 0 [(0, 34)] = some 34 := rfl
theorem lk35 : List.lookup 0 [(0, 35)] = some 35 := rfl
theorem lk36 : List.lookup 0 [(0, 36)] = some 36 := rfl
theorem hf23 : (([2, 3] : List Nat).all fun i => decide (i < 4)) = true := rfl
theorem d0 (q : callK (pf K) (n + 7) 23 (some 0) [x, y] hp = .ok (rt t b) hp) (g : Good (t, b)) : callK (pf K) (n + 8) 16 none [.tup [x, y], .int 0] hp = .ok (made t b) hp := by
  refine (call_none (f := ⟨4, 2, false, B16 K⟩) rfl rfl rfl).trans ?_
  have t22 := two_le
  have g13 := up13 (K := K) (n := n) (hp := hp) g
  simp only [startEnv, List.map_cons, List.map_nil, List.length_cons, List.length_nil, Nat.sub_self, List.replicate, List.append_nil, List.cons_append, List.nil_append, B16, L16, y_nil, y_cons, y_asg, y_name, y_ret, y_drop, y_if, y_bl, y_tru, y_not, y_and, y_or, y_andE, y_orE, y_notE, y_con, y_var, y_bin, y_un, y_two, y_nilA, y_consA, y_call, y_make, y_stat, y_callV, y_callG, y_neg, y_tup, y_lst, y_ifE, y_raise, y_val, y_new, y_on, y_onx, y_mth, y_fmt, y_bits, y_tupG, y_consG, y_nilG, y_mthL, v_add, v_sub, v_neg, v_lt, v_le, v_gt, v_ge, v_tru, v_gcd, set0, set1, v_eqC, v_opC, v_negC, v_neC, Out.bind_ok, Out.bind_exn, List.getElem?_cons_zero, List.getElem?_cons_succ, List.append_nil, List.nil_append, List.cons_append, Bool.not_true, Bool.not_false, if_true, if_false, Bool.false_eq_true, Bool.true_eq_false, reduceCtorEq, List.take_length, eqV_int, List.length_cons, List.length_nil, y_try, Int.reduceEq, decide_true, decide_false, ixa, ixb, q, g13, t22]
  exact lv rfl
theorem d0_bad (q : callK (pf K) (n + 7) 23 (some 0) [x, y] hp = bn w hp) : callK (pf K) (n + 8) 16 none [.tup [x, y], .int 0] hp = .ok (numb w) hp := by
  refine (call_none (f := ⟨4, 2, false, B16 K⟩) rfl rfl rfl).trans ?_
  have t22 := two_le
  simp only [startEnv, List.map_cons, List.map_nil, List.length_cons, List.length_nil, Nat.sub_self, List.replicate, List.append_nil, List.cons_append, List.nil_append, B16, L16, y_nil, y_cons, y_asg, y_name, y_ret, y_drop, y_if, y_bl, y_tru, y_not, y_and, y_or, y_andE, y_orE, y_notE, y_con, y_var, y_bin, y_un, y_two, y_nilA, y_consA, y_call, y_make, y_stat, y_callV, y_callG, y_neg, y_tup, y_lst, y_ifE, y_raise, y_val, y_new, y_on, y_onx, y_mth, y_fmt, y_bits, y_tupG, y_consG, y_nilG, y_mthL, v_add, v_sub, v_neg, v_lt, v_le, v_gt, v_ge, v_tru, v_gcd, set0, set1, v_eqC, v_opC, v_negC, v_neC, Out.bind_ok, Out.bind_exn, List.getElem?_cons_zero, List.getElem?_cons_succ, List.append_nil, List.nil_append, List.cons_append, Bool.not_true, Bool.not_false, if_true, if_false, Bool.false_eq_true, Bool.true_eq_false, reduceCtorEq, List.take_length, eqV_int, List.length_cons, List.length_nil, y_try, Int.reduceEq, decide_true, decide_false, ixa, ixb, q, bn, catch16, t22]
  exact lv rfl
theorem d1 (q : callK (pf K) (n + 7) 24 none [x, y] hp = .ok (pr t b) hp) : callK (pf K) (n + 8) 16 none [.tup [x, y], .int 1] hp = .ok (made t b) hp := by
  refine (call_none (f := ⟨4, 2, false, B16 K⟩) rfl rfl rfl).trans ?_
  have t22 := two_le
  simp only [startEnv, List.map_cons, List.map_nil, List.length_cons, List.length_nil, Nat.sub_self, List.replicate, List.append_nil, List.cons_append, List.nil_append, B16, L16, y_nil, y_cons, y_asg, y_name, y_ret, y_drop, y_if, y_bl, y_tru, y_not, y_and, y_or, y_andE, y_orE, y_notE, y_con, y_var, y_bin, y_un, y_two, y_nilA, y_consA, y_call, y_make, y_stat, y_callV, y_callG, y_neg, y_tup, y_lst, y_ifE, y_raise, y_val, y_new, y_on, y_onx, y_mth, y_fmt, y_bits, y_tupG, y_consG, y_nilG, y_mthL, v_add, v_sub, v_neg, v_lt, v_le, v_gt, v_ge, v_tru, v_gcd, set0, set1, v_eqC, v_opC, v_negC, v_neC, Out.bind_ok, Out.bind_exn, List.getElem?_cons_zero, List.getElem?_cons_succ, List.append_nil, List.nil_append, List.cons_append, Bool.not_true, Bool.not_false, if_true, if_false, Bool.false_eq_true, Bool.true_eq_false, reduceCtorEq, List.take_length, eqV_int, List.length_cons, List.length_nil, y_try, Int.reduceEq, decide_true, decide_false, ixa, ixb, q, t22]
  exact lv rfl
theorem d1_bad (q : callK (pf K) (n + 7) 24 none [x, y] hp = bn w hp) : callK (pf K) (n + 8) 16 none [.tup [x, y], .int 1] hp = .ok (numb w) hp := by
  refine (call_none (f := ⟨4, 2, false, B16 K⟩) rfl rfl rfl).trans ?_
  have t22 := two_le
  simp only [startEnv, List.map_cons, List.map_nil, List.length_cons, List.length_nil, Nat.sub_self, List.replicate, List.append_nil, List.cons_append, List.nil_append, B16, L16, y_nil, y_cons, y_asg, y_name, y_ret, y_drop, y_if, y_bl, y_tru, y_not, y_and, y_or, y_andE, y_orE, y_notE, y_con, y_var, y_bin, y_un, y_two, y_nilA, y_consA, y_call, y_make, y_stat, y_callV, y_callG, y_neg, y_tup, y_lst, y_ifE, y_raise, y_val, y_new, y_on, y_onx, y_mth, y_fmt, y_bits, y_tupG, y_consG, y_nilG, y_mthL, v_add, v_sub, v_neg, v_lt, v_le, v_gt, v_ge, v_tru, v_gcd, set0, set1, v_eqC, v_opC, v_negC, v_neC, Out.bind_ok, Out.bind_exn, List.getElem?_cons_zero, List.getElem?_cons_succ, List.append_nil, List.nil_append, List.cons_append, Bool.not_true, Bool.not_false, if_true, if_false, Bool.false_eq_true, Bool.true_eq_false, reduceCtorEq, List.take_length, eqV_int, List.length_cons, List.length_nil, y_try, Int.reduceEq, decide_true, decide_false, ixa, ixb, q, bn, catch16, t22]
  exact lv rfl
theorem d2 (q : callK (pf K) (n + 7) 34 none [rt u c, y] hp = .ok (rt t b) hp) (g : Good (t, b)) : callK (pf K) (n + 8) 16 none [.tup [rt u c, y], .int 2] hp = .ok (made t b) hp := by
  refine (call_none (f := ⟨4, 2, false, B16 K⟩) rfl rfl rfl).trans ?_
  have t22 := two_le
  have g13 := up13 (K := K) (n := n) (hp := hp) g
  simp only [startEnv, List.map_cons, List.map_nil, List.length_cons, List.length_nil, Nat.sub_self, List.replicate, List.append_nil, List.cons_append, List.nil_append, B16, L16, y_nil, y_cons, y_asg, y_name, y_ret, y_drop, y_if, y_bl, y_tru, y_not, y_and, y_or, y_andE, y_orE, y_notE, y_con, y_var, y_bin, y_un, y_two, y_nilA, y_consA, y_call, y_make, y_stat, y_callV, y_callG, y_neg, y_tup, y_lst, y_ifE, y_raise, y_val, y_new, y_on, y_onx, y_mth, y_fmt, y_bits, y_tupG, y_consG, y_nilG, y_mthL, v_add, v_sub, v_neg, v_lt, v_le, v_gt, v_ge, v_tru, v_gcd, set0, set1, v_eqC, v_opC, v_negC, v_neC, Out.bind_ok, Out.bind_exn, List.getElem?_cons_zero, List.getElem?_cons_succ, List.append_nil, List.nil_append, List.cons_append, Bool.not_true, Bool.not_false, if_true, if_false, Bool.false_eq_true, Bool.true_eq_false, reduceCtorEq, List.take_length, eqV_int, List.length_cons, List.length_nil, y_try, Int.reduceEq, decide_true, decide_false, ixa, ixb, y_mth, m_inv, hf23, lk34, q, g13, t22]
  exact lv rfl
theorem d2_bad (q : callK (pf K) (n + 7) 34 none [rt u c, y] hp = bn w hp) : callK (pf K) (n + 8) 16 none [.tup [rt u c, y], .int 2] hp = .ok (numb w) hp := by
  refine (call_none (f := ⟨4, 2, false, B16 K⟩) rfl rfl rfl).trans ?_
  have t22 := two_le
  simp only [startEnv, List.map_cons, List.map_nil, List.length_cons, List.length_nil, Nat.sub_self, List.replicate, List.append_nil, List.cons_append, List.nil_append, B16, L16, y_nil, y_cons, y_asg, y_name, y_ret, y_drop, y_if, y_bl, y_tru, y_not, y_and, y_or, y_andE, y_orE, y_notE, y_con, y_var, y_bin, y_un, y_two, y_nilA, y_consA, y_call, y_make, y_stat, y_callV, y_callG, y_neg, y_tup, y_lst, y_ifE, y_raise, y_val, y_new, y_on, y_onx, y_mth, y_fmt, y_bits, y_tupG, y_consG, y_nilG, y_mthL, v_add, v_sub, v_neg, v_lt, v_le, v_gt, v_ge, v_tru, v_gcd, set0, set1, v_eqC, v_opC, v_negC, v_neC, Out.bind_ok, Out.bind_exn, List.getElem?_cons_zero, List.getElem?_cons_succ, List.append_nil, List.nil_append, List.cons_append, Bool.not_true, Bool.not_false, if_true, if_false, Bool.false_eq_true, Bool.true_eq_false, reduceCtorEq, List.take_length, eqV_int, List.length_cons, List.length_nil, y_try, Int.reduceEq, decide_true, decide_false, ixa, ixb, y_mth, m_inv, hf23, lk34, q, bn, catch16, t22]
  exact lv rfl
theorem d3 (q : callK (pf K) (n + 7) 35 none [rt u c] hp = .ok (rt t b) hp) (g : Good (t, b)) : callK (pf K) (n + 8) 16 none [.tup [rt u c, y], .int 3] hp = .ok (made t b) hp := by
  refine (call_none (f := ⟨4, 2, false, B16 K⟩) rfl rfl rfl).trans ?_
  have t22 := two_le
  have g13 := up13 (K := K) (n := n) (hp := hp) g
  simp only [startEnv, List.map_cons, List.map_nil, List.length_cons, List.length_nil, Nat.sub_self, List.replicate, List.append_nil, List.cons_append, List.nil_append, B16, L16, y_nil, y_cons, y_asg, y_name, y_ret, y_drop, y_if, y_bl, y_tru, y_not, y_and, y_or, y_andE, y_orE, y_notE, y_con, y_var, y_bin, y_un, y_two, y_nilA, y_consA, y_call, y_make, y_stat, y_callV, y_callG, y_neg, y_tup, y_lst, y_ifE, y_raise, y_val, y_new, y_on, y_onx, y_mth, y_fmt, y_bits, y_tupG, y_consG, y_nilG, y_mthL, v_add, v_sub, v_neg, v_lt, v_le, v_gt, v_ge, v_tru, v_gcd, set0, set1, v_eqC, v_opC, v_negC, v_neC, Out.bind_ok, Out.bind_exn, List.getElem?_cons_zero, List.getElem?_cons_succ, List.append_nil, List.nil_append, List.cons_append, Bool.not_true, Bool.not_false, if_true, if_false, Bool.false_eq_true, Bool.true_eq_false, reduceCtorEq, List.take_length, eqV_int, List.length_cons, List.length_nil, y_try, Int.reduceEq, decide_true, decide_false, ixa, ixb, y_mth, m_inv, hf23, lk35, q, g13, t22]
  exact lv rfl
theorem d3_bad (q : callK (pf K) (n + 7) 35 none [rt u c] hp = bn w hp) : callK (pf K) (n + 8) 16 none [.tup [rt u c, y], .int 3] hp = .ok (numb w) hp := by
  refine (call_none (f := ⟨4, 2, false, B16 K⟩) rfl rfl rfl).trans ?_
  have t22 := two_le
  simp only [startEnv, List.map_cons, List.map_nil, List.length_cons, List.length_nil, Nat.sub_self, List.replicate, List.append_nil, List.cons_append, List.nil_append, B16, L16, y_nil, y_cons, y_asg, y_name, y_ret, y_drop, y_if, y_bl, y_tru, y_not, y_and, y_or, y_andE, y_orE, y_notE, y_con, y_var, y_bin, y_un, y_two, y_nilA, y_consA, y_call, y_make, y_stat, y_callV, y_callG, y_neg, y_tup, y_lst, y_ifE, y_raise, y_val, y_new, y_on, y_onx, y_mth, y_fmt, y_bits, y_tupG, y_consG, y_nilG, y_mthL, v_add, v_sub, v_neg, v_lt, v_le, v_gt, v_ge, v_tru, v_gcd, set0, set1, v_eqC, v_opC, v_negC, v_neC, Out.bind_ok, Out.bind_exn, List.getElem?_cons_zero, List.getElem?_cons_succ, List.append_nil, List.nil_append, List.cons_append, Bool.not_true, Bool.not_false, if_true, if_false, Bool.false_eq_true, Bool.true_eq_false, reduceCtorEq, List.take_length, eqV_int, List.length_cons, List.length_nil, y_try, Int.reduceEq, decide_true, decide_false, ixa, ixb, y_mth, m_inv, hf23, lk35, q, bn, catch16, t22]
  exact lv rfl
theorem d4 (q : callK (pf K) (n + 7) 36 none [rt u c, y] hp = .ok (rt t b) hp) (g : Good (t, b)) : callK (pf K) (n + 8) 16 none [.tup [rt u c, y], .int 4] hp = .ok (made t b) hp := by
  refine (call_none (f := ⟨4, 2, false, B16 K⟩) rfl rfl rfl).trans ?_
  have t22 := two_le
  have g13 := up13 (K := K) (n := n) (hp := hp) g
  simp only [startEnv, List.map_cons, List.map_nil, List.length_cons, List.length_nil, Nat.sub_self, List.replicate, List.append_nil, List.cons_append, List.nil_append, B16, L16, y_nil, y_cons, y_asg, y_name, y_ret, y_drop, y_if, y_bl, y_tru, y_not, y_and, y_or, y_andE, y_orE, y_notE, y_con, y_var, y_bin, y_un, y_two, y_nilA, y_consA, y_call, y_make, y_stat, y_callV, y_callG, y_neg, y_tup, y_lst, y_ifE, y_raise, y_val, y_new, y_on, y_onx, y_mth, y_fmt, y_bits, y_tupG, y_consG, y_nilG, y_mthL, v_add, v_sub, v_neg, v_lt, v_le, v_gt, v_ge, v_tru, v_gcd, set0, set1, v_eqC, v_opC, v_negC, v_neC, Out.bind_ok, Out.bind_exn, List.getElem?_cons_zero, List.getElem?_cons_succ, List.append_nil, List.nil_append, List.cons_append, Bool.not_true, Bool.not_false, if_true, if_false, Bool.false_eq_true, Bool.true_eq_false, reduceCtorEq, List.take_length, eqV_int, List.length_cons, List.length_nil, y_try, Int.reduceEq, decide_true, decide_false, ixa, ixb, y_mth, m_inv, hf23, lk36, q, g13, t22]
  exact lv rfl
theorem d4_bad (q : callK (pf K) (n + 7) 36 none [rt u c, y] hp = bn w hp) : callK (pf K) (n + 8) 16 none [.tup [rt u c, y], .int 4] hp = .ok (numb w) hp := by
  refine (call_none (f := ⟨4, 2, false, B16 K⟩) rfl rfl rfl).trans ?_
  have t22 := two_le
  simp only [startEnv, List.map_cons, List.map_nil, List.length_cons, List.length_nil, Nat.sub_self, List.replicate, List.append_nil, List.cons_append, List.nil_append, B16, L16, y_nil, y_cons, y_asg, y_name, y_ret, y_drop, y_if, y_bl, y_tru, y_not, y_and, y_or, y_andE, y_orE, y_notE, y_con, y_var, y_bin, y_un, y_two, y_nilA, y_consA, y_call, y_make, y_stat, y_callV, y_callG, y_neg, y_tup, y_lst, y_ifE, y_raise, y_val, y_new, y_on, y_onx, y_mth, y_fmt, y_bits, y_tupG, y_consG, y_nilG, y_mthL, v_add, v_sub, v_neg, v_lt, v_le, v_gt, v_ge, v_tru, v_gcd, set0, set1, v_eqC, v_opC, v_negC, v_neC, Out.bind_ok, Out.bind_exn, List.getElem?_cons_zero, List.getElem?_cons_succ, List.append_nil, List.nil_append, List.cons_append, Bool.not_true, Bool.not_false, if_true, if_false, Bool.false_eq_true, Bool.true_eq_false, reduceCtorEq, List.take_length, eqV_int, List.length_cons, List.length_nil, y_try, Int.reduceEq, decide_true, decide_false, ixa, ixb, y_mth, m_inv, hf23, lk36, q, bn, catch16, t22]
  exact lv rfl
theorem d5 (q : callK (pf K) (n + 7) 2 none [x] hp = .ok (rt t b) hp) (g : Good (t, b)) : callK (pf K) (n + 8) 16 none [.tup [x], .int 5] hp = .ok (made t b) hp := by
  refine (call_none (f := ⟨4, 2, false, B16 K⟩) rfl rfl rfl).trans ?_
  have t22 := two_le
  have g13 := up13 (K := K) (n := n) (hp := hp) g
  simp only [startEnv, List.map_cons, List.map_nil, List.length_cons, List.length_nil, Nat.sub_self, List.replicate, List.append_nil, List.cons_append, List.nil_append, B16, L16, y_nil, y_cons, y_asg, y_name, y_ret, y_drop, y_if, y_bl, y_tru, y_not, y_and, y_or, y_andE, y_orE, y_notE, y_con, y_var, y_bin, y_un, y_two, y_nilA, y_consA, y_call, y_make, y_stat, y_callV, y_callG, y_neg, y_tup, y_lst, y_ifE, y_raise, y_val, y_new, y_on, y_onx, y_mth, y_fmt, y_bits, y_tupG, y_consG, y_nilG, y_mthL, v_add, v_sub, v_neg, v_lt, v_le, v_gt, v_ge, v_tru, v_gcd, set0, set1, v_eqC, v_opC, v_negC, v_neC, Out.bind_ok, Out.bind_exn, List.getElem?_cons_zero, List.getElem?_cons_succ, List.append_nil, List.nil_append, List.cons_append, Bool.not_true, Bool.not_false, if_true, if_false, Bool.false_eq_true, Bool.true_eq_false, reduceCtorEq, List.take_length, eqV_int, List.length_cons, List.length_nil, y_try, Int.reduceEq, decide_true, decide_false, ixa, ixb, ix1a, q, g13, t22]
  exact lv rfl
theorem d5_bad (q : callK (pf K) (n + 7) 2 none [x] hp = bn w hp) : callK (pf K) (n + 8) 16 none [.tup [x], .int 5] hp = .ok (numb w) hp := by
  refine (call_none (f := ⟨4, 2, false, B16 K⟩) rfl rfl rfl).trans ?_
  have t22 := two_le
  simp only [startEnv, List.map_cons, List.map_nil, List.length_cons, List.length_nil, Nat.sub_self, List.replicate, List.append_nil, List.cons_append, List.nil_append, B16, L16, y_nil, y_cons, y_asg, y_name, y_ret, y_drop, y_if, y_bl, y_tru, y_not, y_and, y_or, y_andE, y_orE, y_notE, y_con, y_var, y_bin, y_un, y_two, y_nilA, y_consA, y_call, y_make, y_stat, y_callV, y_callG, y_neg, y_tup, y_lst, y_ifE, y_raise, y_val, y_new, y_on, y_onx, y_mth, y_fmt, y_bits, y_tupG, y_consG, y_nilG, y_mthL, v_add, v_sub, v_neg, v_lt, v_le, v_gt, v_ge, v_tru, v_gcd, set0, set1, v_eqC, v_opC, v_negC, v_neC, Out.bind_ok, Out.bind_exn, List.getElem?_cons_zero, List.getElem?_cons_succ, List.append_nil, List.nil_append, List.cons_append, Bool.not_true, Bool.not_false, if_true, if_false, Bool.false_eq_true, Bool.true_eq_false, reduceCtorEq, List.take_length, eqV_int, List.length_cons, List.length_nil, y_try, Int.reduceEq, decide_true, decide_false, ixa, ixb, ix1a, q, bn, catch16, t22]
  exact lv rfl
/-! the two sides of the tests -/
theorem sh_made : SeqAt.shaped (.tuple [.str "made", .tuple [.int t, .int b]]) = true := by
  unfold SeqAt.shaped
  simp only [PyData.canLay0, PyData.canLayAll0, ok_of, Bool.true_and, Bool.and_true]
  rfl
theorem sh_numb (hw : PyData.strOk w = true) : SeqAt.shaped (.tuple [.str "number", .str w, .bool false]) = true := by
  unfold SeqAt.shaped
  simp only [PyData.canLay0, PyData.canLayAll0, ok_of, hw, Bool.true_and, Bool.and_true]
  rfl
theorem ne_made : neC C (ow "__eq__") (made t b) (made t b) s = .ok (.bl false) s := by
  have e : eqV true (made t b) (made t b) s.hp = .val (.bl false) := by
    rw [eqV_same (x := .tuple [.str "made", .tuple [.int t, .int b]]) rfl rfl sh_made]
    rfl
  unfold neC
  rw [e]
  rfl
theorem ne_numb {v : String} : neC C (ow "__eq__") (numb v) (numb v) s = .ok (.bl false) s := by
  have e : eqV true (numb v) (numb v) s.hp = .val (.bl false) := by
    rw [eqV_same (x := .tuple [.str "number", .str v, .bool false]) rfl rfl (sh_numb (ok_of v))]
    rfl
  unfold neC
  rw [e]
  rfl
end
end Law
end

-- S78p
section
set_option maxHeartbeats 8000000
namespace Law
open PySem PySem.Spec Den
section
variable {K : PySem.W.Frag} {C : Calls} {n m r k : Nat} {hp h : List Cell} {t b u c i j : Int} {s : S} {a x y : D} {w : Str} {e : List (Option D)}
/-- a turn over what is refused at the top -/
noncomputable abbrev mgF (K : PySem.W.Frag) (C : Calls) : SemS := runs [(ifS (blT (two (neC C (ow "__eq__")) (callE C 16 [] (consA (varE 4) (consA (varE 3) nilA))) (tupE (consA (conE (.str ("number" : Str))) (consA (conE (.str ("top" : Str))) (consA (conE (.bl false)) nilA)))))) (runs [(retS (conE (.bl false)))]) (runs []))]
noncomputable abbrev mgG (K : PySem.W.Frag) (C : Calls) : SemS := runs [(ifS (blT (two (neC C (ow "__eq__")) (callE C 16 [] (consA (tupE (consA (varE 0) (consA (varE 4) nilA))) (consA (varE 3) nilA))) (tupE (consA (conE (.str ("number" : Str))) (consA (conE (.str ("bottom" : Str))) (consA (conE (.bl false)) nilA)))))) (runs [(retS (conE (.bl false)))]) (runs []))]
theorem three_le : (3 : Nat) ≤ sizeLine := by rw [sizeLine_eq]; decide
theorem mgF_ok (h4 : e[4]? = some (some (.tup [x, y]))) (h3 : e[3]? = some (some (.int i))) (hi : i = 0 ∨ i = 1) (hx : plainD x = true) (hn : isI x = false) : mgF K (callK (pf K) (n + 8)) ⟨e, h, m⟩ = .ok .next ⟨e, h, m⟩ := by
  have e16 : callK (pf K) (n + 8) 16 none [.tup [x, y], .int i] h = .ok (numb "top") h := by
    rcases hi with rfl | rfl
    · exact d0_bad (c23_bad (n := n + 4) hx hn)
    · exact d1_bad (c24_top (n := n + 5) hx hn)
  have t33 := three_le
  simp only [mgF, y_nil, y_cons, y_asg, y_name, y_ret, y_drop, y_if, y_bl, y_tru, y_not, y_and, y_or, y_andE, y_orE, y_notE, y_con, y_var, y_bin, y_un, y_two, y_nilA, y_consA, y_call, y_make, y_stat, y_callV, y_callG, y_neg, y_tup, y_lst, y_ifE, y_raise, y_val, y_new, y_on, y_onx, y_mth, y_fmt, y_bits, y_tupG, y_consG, y_nilG, y_mthL, v_add, v_sub, v_neg, v_lt, v_le, v_gt, v_ge, v_tru, v_gcd, set0, set1, v_eqC, v_opC, v_negC, v_neC, Out.bind_ok, Out.bind_exn, List.getElem?_cons_zero, List.getElem?_cons_succ, List.append_nil, List.nil_append, List.cons_append, Bool.not_true, Bool.not_false, if_true, if_false, Bool.false_eq_true, Bool.true_eq_false, reduceCtorEq, List.take_length, eqV_int, List.length_cons, List.length_nil, h4, h3, e16, t33, ne_numb]
theorem mgG_ok (h0 : e[0]? = some (some (.int t))) (h4 : e[4]? = some (some x)) (h3 : e[3]? = some (some (.int i))) (hi : i = 0 ∨ i = 1) (hx : plainD x = true) (hn : isI x = false ∨ x = .int 0) : mgG K (callK (pf K) (n + 8)) ⟨e, h, m⟩ = .ok .next ⟨e, h, m⟩ := by
  have e16 : callK (pf K) (n + 8) 16 none [.tup [.int t, x], .int i] h = .ok (numb "bottom") h := by
    rcases hi with rfl | rfl
    · exact d0_bad (c23_bot (n := n + 4) hx hn)
    · exact d1_bad (c24_bot (n := n + 5) hx hn)
  have t33 := three_le
  have t22 := two_le
  simp only [mgG, y_nil, y_cons, y_asg, y_name, y_ret, y_drop, y_if, y_bl, y_tru, y_not, y_and, y_or, y_andE, y_orE, y_notE, y_con, y_var, y_bin, y_un, y_two, y_nilA, y_consA, y_call, y_make, y_stat, y_callV, y_callG, y_neg, y_tup, y_lst, y_ifE, y_raise, y_val, y_new, y_on, y_onx, y_mth, y_fmt, y_bits, y_tupG, y_consG, y_nilG, y_mthL, v_add, v_sub, v_neg, v_lt, v_le, v_gt, v_ge, v_tru, v_gcd, set0, set1, v_eqC, v_opC, v_negC, v_neC, Out.bind_ok, Out.bind_exn, List.getElem?_cons_zero, List.getElem?_cons_succ, List.append_nil, List.nil_append, List.cons_append, Bool.not_true, Bool.not_false, if_true, if_false, Bool.false_eq_true, Bool.true_eq_false, reduceCtorEq, List.take_length, eqV_int, List.length_cons, List.length_nil, h0, h4, h3, e16, t33, t22, ne_numb]
end
end Law
end

-- S78q
section
set_option maxHeartbeats 8000000
namespace Law
open PySem PySem.Spec Den
section
variable {K : PySem.W.Frag} {C : Calls} {n m r k : Nat} {hp h : List Cell} {t b u c i j : Int} {s : S} {a x y : D} {w : Str} {e : List (Option D)} {xs : List D} {q : SemA} {f : SemS}
theorem walk_set {w : SemI} {it : ItD} {s0 : S} (hw : w s0 = .ok it ⟨e, h, n⟩) (hlen : it.len ⟨e, h, n⟩ = xs.length) (hit : ∀ (i : Nat) (e' : List (Option D)), it.at i ⟨e', h, n⟩ = some xs[i]?)
    (hf : ∀ d ∈ xs, f ⟨e.set k (some d), h, n⟩ = .ok .next ⟨e.set k (some d), h, n⟩) : ∃ o, forS w (nameG k) f s0 = .ok .next ⟨e.set k o, h, n⟩ := by
  obtain ⟨e2, f2, q1, q2⟩ := walk_on (k := k) (f := f) (xs := xs) hw hlen hit fun d hd e' h3 h4 => by
    obtain ⟨o, rfl⟩ := env_set h3 h4
    rw [List.set_set]
    exact hf d hd
  obtain ⟨o2, rfl⟩ := env_set q1 q2
  exact ⟨o2, f2⟩
theorem walk_lst (hq : q ⟨e, h, n⟩ = .ok xs ⟨e, h, n⟩) (hl : xs.length ≤ 100)
    (hf : ∀ d ∈ xs, f ⟨e.set k (some d), h ++ [.lst xs], n⟩ = .ok .next ⟨e.set k (some d), h ++ [.lst xs], n⟩) : ∃ o, forS (seqI (lstE q)) (nameG k) f ⟨e, h, n⟩ = .ok .next ⟨e.set k o, h ++ [.lst xs], n⟩ := by
  have l2 : (h ++ [Cell.lst xs])[h.length]? = some (.lst xs) := List.getElem?_concat_length
  refine walk_set (w := seqI (lstE q)) (it := .cell h.length) (xs := xs) ?_ (cell_len l2) (fun j e' => cell_at l2) hf
  show (lstE q _).bind _ = _
  rw [y_lst, hq]
  simp only [Out.bind_ok]
  rw [if_pos (by rw [sizeLine_eq]; omega)]
  simp only [Out.bind_ok, l2]
theorem mk1 : callK (pf K) (n + 8) 23 (some 0) [.int i, .int 1] h = .ok (rt i 1) h := by
  have e := c23 (K := K) (n := n + 5) (hp := h) (t := i) (b := 1) (k := 1) (by decide) (by decide) (by decide) (by decide)
  rw [nm_int] at e
  exact e
noncomputable abbrev mgT (K : PySem.W.Frag) (C : Calls) : SemS := runs [(forS (seqI (lstE (consA (tupE (consA (conE .non) (consA (conE (.int 0)) nilA))) (consA (tupE (consA (makeE C 23 0 [.int 1] (consA (conE (.int 1)) nilA)) (consA (conE (.int 2)) nilA))) (consA (tupE (consA (conE (.str ("1" : Str))) (consA (conE .non) nilA))) nilA))))) (nameG 4) (mgF K C)),
 (forS (seqI (lstE (consA (conE (.int 0)) (consA (conE .non) (consA (makeE C 23 0 [.int 1] (consA (conE (.int 2)) nilA)) nilA))))) (nameG 4) (mgG K C))]
theorem mgT_ok {d2 o4 : Option D} (hi : i = 0 ∨ i = 1) : ∃ o h', mgT K (callK (pf K) (n + 8)) ⟨[some (.int t), some (.int b), d2, some (.int i), o4], h, m⟩ = .ok .next ⟨[some (.int t), some (.int b), d2, some (.int i), o], h', m⟩ ∧ Grown h h' := by
  have t22 := two_le
  have a1 : ∀ h, callK (pf K) (n + 8) 23 (some 0) [.int 1, .int 1] h = .ok (rt 1 1) h := fun h => mk1
  have a2 : ∀ h, callK (pf K) (n + 8) 23 (some 0) [.int 2, .int 1] h = .ok (rt 2 1) h := fun h => mk1
  obtain ⟨o, e1⟩ := walk_lst (q := (consA (tupE (consA (conE .non) (consA (conE (.int 0)) nilA))) (consA (tupE (consA (makeE (callK (pf K) (n + 8)) 23 0 [.int 1] (consA (conE (.int 1)) nilA)) (consA (conE (.int 2)) nilA))) (consA (tupE (consA (conE (.str ("1" : Str))) (consA (conE .non) nilA))) nilA)))) (f := mgF K (callK (pf K) (n + 8))) (k := 4) (e := [some (.int t), some (.int b), d2, some (.int i), o4]) (h := h) (n := m) (xs := [.tup [.non, .int 0], .tup [rt 1 1, .int 2], .tup [.str "1", .non]]) (by
    simp only [y_nil, y_cons, y_asg, y_name, y_ret, y_drop, y_if, y_bl, y_tru, y_not, y_and, y_or, y_andE, y_orE, y_notE, y_con, y_var, y_bin, y_un, y_two, y_nilA, y_consA, y_call, y_make, y_stat, y_callV, y_callG, y_neg, y_tup, y_lst, y_ifE, y_raise, y_val, y_new, y_on, y_onx, y_mth, y_fmt, y_bits, y_tupG, y_consG, y_nilG, y_mthL, v_add, v_sub, v_neg, v_lt, v_le, v_gt, v_ge, v_tru, v_gcd, set0, set1, v_eqC, v_opC, v_negC, v_neC, Out.bind_ok, Out.bind_exn, List.getElem?_cons_zero, List.getElem?_cons_succ, List.append_nil, List.nil_append, List.cons_append, Bool.not_true, Bool.not_false, if_true, if_false, Bool.false_eq_true, Bool.true_eq_false, reduceCtorEq, List.take_length, eqV_int, List.length_cons, List.length_nil, t22, a1]) (by simp) fun d hd => by
    simp only [List.mem_cons, List.not_mem_nil, or_false] at hd
    rcases hd with rfl | rfl | rfl
    · exact mgF_ok rfl rfl hi rfl rfl
    · exact mgF_ok rfl rfl hi rfl rfl
    · exact mgF_ok rfl rfl hi rfl rfl
  obtain ⟨o2, e2⟩ := walk_lst (q := (consA (conE (.int 0)) (consA (conE .non) (consA (makeE (callK (pf K) (n + 8)) 23 0 [.int 1] (consA (conE (.int 2)) nilA)) nilA)))) (f := mgG K (callK (pf K) (n + 8))) (k := 4) (e := [some (.int t), some (.int b), d2, some (.int i), o]) (h := h ++ [.lst [.tup [.non, .int 0], .tup [rt 1 1, .int 2], .tup [.str "1", .non]]]) (n := m) (xs := [.int 0, .non, rt 2 1]) (by
    simp only [y_nil, y_cons, y_asg, y_name, y_ret, y_drop, y_if, y_bl, y_tru, y_not, y_and, y_or, y_andE, y_orE, y_notE, y_con, y_var, y_bin, y_un, y_two, y_nilA, y_consA, y_call, y_make, y_stat, y_callV, y_callG, y_neg, y_tup, y_lst, y_ifE, y_raise, y_val, y_new, y_on, y_onx, y_mth, y_fmt, y_bits, y_tupG, y_consG, y_nilG, y_mthL, v_add, v_sub, v_neg, v_lt, v_le, v_gt, v_ge, v_tru, v_gcd, set0, set1, v_eqC, v_opC, v_negC, v_neC, Out.bind_ok, Out.bind_exn, List.getElem?_cons_zero, List.getElem?_cons_succ, List.append_nil, List.nil_append, List.cons_append, Bool.not_true, Bool.not_false, if_true, if_false, Bool.false_eq_true, Bool.true_eq_false, reduceCtorEq, List.take_length, eqV_int, List.length_cons, List.length_nil, a2]) (by simp) fun d hd => by
    simp only [List.mem_cons, List.not_mem_nil, or_false] at hd
    rcases hd with rfl | rfl | rfl
    · exact mgG_ok rfl rfl rfl hi rfl (.inr rfl)
    · exact mgG_ok rfl rfl rfl hi rfl (.inl rfl)
    · exact mgG_ok rfl rfl rfl hi rfl (.inl rfl)
  exact ⟨o2, _, (runs_step e1).trans ((runs_step e2).trans rfl), ((Grown.refl h).add _).add _⟩
theorem c20 (hb : b ≠ 0) (ht : t.natAbs < 2 ^ 40) (hb2 : b.natAbs < 2 ^ 40) : callK (pf K) (n + 9) 20 none [.int t, .int b] hp = .ok (.bl true) hp := by
  refine (call_none (f := ⟨5, 2, false, B20 K⟩) rfl rfl rfl).trans ?_
  have t22 := two_le
  have g := good_nm (t := t) hb (Nat.lt_of_lt_of_le hb2 (Nat.pow_le_pow_right (by decide) (by decide)))
  have a8 : ∀ h, callK (pf K) (n + 8) 8 none [.int t, .int b] h = .ok (pr (nm t b).1 (nm t b).2) h := fun h => c8 (n := n + 6) hb hb2 (by decide) (by decide)
  have a0 : ∀ h, callK (pf K) (n + 8) 16 none [.tup [.int t, .int b], .int 0] h = .ok (made (nm t b).1 (nm t b).2) h := fun h => d0 (c23 (n := n + 4) hb hb2 (by decide) (by decide)) g
  have a1 : ∀ h, callK (pf K) (n + 8) 16 none [.tup [.int t, .int b], .int 1] h = .ok (made (nm t b).1 (nm t b).2) h := fun h => d1 (c24 (n := n + 5) hb hb2 (by decide) (by decide))
  have s12 : runs ((L20 K (callK (pf K) (n + 8))).take 2) ⟨[some (.int t), some (.int b), none, none, none], hp, hp.length⟩ = .ok .next ⟨[some (.int t), some (.int b), some (pr (nm t b).1 (nm t b).2), none, none], hp, hp.length⟩ := by
    show runs [_, _] _ = _
    simp only [y_nil, y_cons, y_asg, y_name, y_ret, y_drop, y_if, y_bl, y_tru, y_not, y_and, y_or, y_andE, y_orE, y_notE, y_con, y_var, y_bin, y_un, y_two, y_nilA, y_consA, y_call, y_make, y_stat, y_callV, y_callG, y_neg, y_tup, y_lst, y_ifE, y_raise, y_val, y_new, y_on, y_onx, y_mth, y_fmt, y_bits, y_tupG, y_consG, y_nilG, y_mthL, v_add, v_sub, v_neg, v_lt, v_le, v_gt, v_ge, v_tru, v_gcd, set0, set1, v_eqC, v_opC, v_negC, v_neC, Out.bind_ok, Out.bind_exn, List.getElem?_cons_zero, List.getElem?_cons_succ, List.append_nil, List.nil_append, List.cons_append, Bool.not_true, Bool.not_false, if_true, if_false, Bool.false_eq_true, Bool.true_eq_false, reduceCtorEq, List.take_length, eqV_int, List.length_cons, List.length_nil, t22, a8, a0, a1, ne_made]
  obtain ⟨s', e3, h3, o3, o4, g3, es⟩ := forS_ok (w := range1I (consA (conE (.int 2)) nilA)) (g := nameG 3) (f := mgT K (callK (pf K) (n + 8))) (xs := rangeL 0 2) (s0 := ⟨[some (.int t), some (.int b), some (pr (nm t b).1 (nm t b).2), none, none], hp, hp.length⟩) (s := ⟨[some (.int t), some (.int b), some (pr (nm t b).1 (nm t b).2), none, none], hp, hp.length⟩)
    (fun i s => ∃ h' o3 o4, Grown hp h' ∧ s = ⟨[some (.int t), some (.int b), some (pr (nm t b).1 (nm t b).2), o3, o4], h', hp.length⟩) (range1_ok (j := 2) rfl (by decide)) ⟨hp, none, none, Grown.refl hp, rfl⟩ fun i d s hd ⟨h', o3, o4, g', es⟩ => by
      subst es
      obtain ⟨ed, hi⟩ := range_at hd
      subst ed
      have hi2 : (0 + (i : Int)) = 0 ∨ (0 + (i : Int)) = 1 := by omega
      obtain ⟨o, h2, e2, g2⟩ := mgT_ok (K := K) (n := n) (h := h') (m := hp.length) (t := t) (b := b) (d2 := some (pr (nm t b).1 (nm t b).2)) (o4 := o4) hi2
      exact ⟨_, _, rfl, e2, h2, _, o, g'.trans g2, rfl⟩
  subst es
  have a4 : ∀ h, callK (pf K) (n + 8) 23 (some 0) [.int t, .int 1] h = .ok (rt t 1) h := fun h => mk1
  have a5 : ∀ h, callK (pf K) (n + 8) 13 none [rt t 1] h = .ok (pr t 1) h := fun h => c13 (n := n + 6) (k := 1) (by decide) (by simp) (by decide) (by decide) (by decide)
  have last : runs ((L20 K (callK (pf K) (n + 8))).drop 3) ⟨[some (.int t), some (.int b), some (pr (nm t b).1 (nm t b).2), o3, o4], h3, hp.length⟩ = .ok (.ret (.bl true)) ⟨[some (.int t), some (.int b), some (pr (nm t b).1 (nm t b).2), o3, o4], h3, hp.length⟩ := by
    show runs [_] _ = _
    simp only [y_nil, y_cons, y_asg, y_name, y_ret, y_drop, y_if, y_bl, y_tru, y_not, y_and, y_or, y_andE, y_orE, y_notE, y_con, y_var, y_bin, y_un, y_two, y_nilA, y_consA, y_call, y_make, y_stat, y_callV, y_callG, y_neg, y_tup, y_lst, y_ifE, y_raise, y_val, y_new, y_on, y_onx, y_mth, y_fmt, y_bits, y_tupG, y_consG, y_nilG, y_mthL, v_add, v_sub, v_neg, v_lt, v_le, v_gt, v_ge, v_tru, v_gcd, set0, set1, v_eqC, v_opC, v_negC, v_neC, Out.bind_ok, Out.bind_exn, List.getElem?_cons_zero, List.getElem?_cons_succ, List.append_nil, List.nil_append, List.cons_append, Bool.not_true, Bool.not_false, if_true, if_false, Bool.false_eq_true, Bool.true_eq_false, reduceCtorEq, List.take_length, eqV_int, List.length_cons, List.length_nil, t22, a4, a5, eq_pr, decide_true, Bool.and_self]
  have all : B20 K (callK (pf K) (n + 8)) ⟨[some (.int t), some (.int b), none, none, none], hp, hp.length⟩ = .ok (.ret (.bl true)) ⟨[some (.int t), some (.int b), some (pr (nm t b).1 (nm t b).2), o3, o4], h3, hp.length⟩ :=
    (runs_append (a := (L20 K (callK (pf K) (n + 8))).take 2) s12).trans ((runs_step e3).trans last)
  show leave hp.length (B20 K (callK (pf K) (n + 8)) ⟨[some (.int t), some (.int b), none, none, none], hp, hp.length⟩) = _
  rw [all]
  exact lv' rfl g3.take
end
end Law
end

-- S78r
section
set_option maxHeartbeats 8000000
namespace Law
open PySem PySem.Spec Den
section
variable {K : PySem.W.Frag} {C : Calls} {n m r k l : Nat} {hp h : List Cell} {t b u c i j : Int} {s : S} {a x y : D} {w : Str} {e : List (Option D)} {xs ys : List D} {q q2 : SemA} {f : SemS} {P : D → Prop}
/-- a list that grows, own cells above hp -/
def Has (hp h : List Cell) (r : Nat) (P : D → Prop) (k : Nat) : Prop := ∃ xs, h[r]? = some (.lst xs) ∧ (∀ x ∈ xs, P x) ∧ xs.length ≤ k ∧ hp.length ≤ r ∧ h.take hp.length = hp
theorem Has.one (hg : Grown hp h) (hx : P x) : Has hp (h ++ [.lst [x]]) h.length P 1 := by
  refine ⟨[x], List.getElem?_concat_length, by simpa using hx, Nat.le_refl _, ?_, (hg.add _).take⟩
  obtain ⟨z, rfl⟩ := hg
  simp
theorem Has.le (g : Has hp h r P k) (hl : k ≤ l) : Has hp h r P l := by
  obtain ⟨xs, h1, h2, h3, h4⟩ := g
  exact ⟨xs, h1, h2, by omega, h4⟩
theorem Has.add (g : Has hp h r P k) (z : Cell) : Has hp (h ++ [z]) r P k := by
  obtain ⟨xs, h1, h2, h3, h4, h5⟩ := g
  refine ⟨xs, get_app h1, h2, h3, h4, ?_⟩
  have : hp.length ≤ h.length := by have := (List.getElem?_eq_some_iff.mp h1).1; omega
  rw [List.take_append_of_le_length this, h5]
theorem take_set (h1 : hp.length ≤ r) (h2 : h.take hp.length = hp) {z : Cell} : (h.set r z).take hp.length = hp := by
  rw [List.take_set, h2]
  exact List.set_eq_of_length_le h1
theorem push {o : Nat} (he : e[o]? = some (some (.ref r))) (g : Has hp h r P k) (hk : k ≤ 200) (hq : q ⟨e, h, hp.length⟩ = .ok [y] ⟨e, h, hp.length⟩) (hy : P y) :
    ∃ h', dropS (mthL appendM (varE o) q) ⟨e, h, hp.length⟩ = .ok .next ⟨e, h', hp.length⟩ ∧ Has hp h' r P (k + 1) ∧ ∀ m, m ≠ r → h'[m]? = h[m]? := by
  obtain ⟨xs, h1, h2, h3, h4, h5⟩ := g
  have hr := (List.getElem?_eq_some_iff.mp h1).1
  refine ⟨h.set r (.lst (xs ++ [y])), ?_, ⟨xs ++ [y], List.getElem?_set_self hr, fun x hx => ?_, by simp; omega, h4, take_set h4 h5⟩, fun m hm => List.getElem?_set_ne (Ne.symm hm)⟩
  · have e1 : isLst (.ref r) h = true := by
      unfold isLst lstOf' lstOf
      simp only [h1, Option.isSome]
    have e2 : appendM (.ref r) [y] h hp.length = some (.non, h.set r (.lst (xs ++ [y]))) := by
      unfold appendM cellOfL
      simp only [h1]
      rw [if_pos]
      rw [Bool.and_eq_true]
      refine ⟨?_, decide_eq_true (by rw [sizeLine_eq]; omega)⟩
      unfold mayPut
      rw [decide_eq_true h4]
      rfl
    rw [y_drop, y_mthL, y_var, he]
    simp only [Out.bind_ok, e1, if_true, hq, e2]
  · rw [List.mem_append, List.mem_singleton] at hx
    rcases hx with hx | rfl
    · exact h2 x hx
    · exact hy
/-- a walk through a written row, each turn of which appends -/
theorem loop_push {o v : Nat} (hov : o ≠ v) (hv : v < e.length) (he : e[o]? = some (some (.ref r))) (g : Has hp h r P k) (hk : k + ys.length ≤ 200) (hq : q ⟨e, h, hp.length⟩ = .ok ys ⟨e, h, hp.length⟩)
    (row : D → D) (hf : ∀ y ∈ ys, P (row y) ∧ ∀ h', q2 ⟨e.set v (some y), h', hp.length⟩ = .ok [row y] ⟨e.set v (some y), h', hp.length⟩) :
    ∃ z h', forS (seqI (lstE q)) (nameG v) (runs [dropS (mthL appendM (varE o) q2)]) ⟨e, h, hp.length⟩ = .ok .next ⟨e.set v z, h', hp.length⟩ ∧ Has hp h' r P (k + ys.length) ∧ ∀ m, m < h.length → m ≠ r → h'[m]? = h[m]? := by
  have hr : r < h.length := by
    obtain ⟨xs, h1, _⟩ := g
    exact (List.getElem?_eq_some_iff.mp h1).1
  obtain ⟨s', e1, z, h', es, g', hm, _⟩ := forS_it (w := seqI (lstE q)) (g := nameG v) (f := runs [dropS (mthL appendM (varE o) q2)]) (it := .cell h.length) (xs := ys) (s0 := ⟨e, h, hp.length⟩) (s := ⟨e, h ++ [.lst ys], hp.length⟩)
    (fun i s => ∃ z h', s = ⟨e.set v z, h', hp.length⟩ ∧ Has hp h' r P (k + min i ys.length) ∧ (∀ m, m < h.length → m ≠ r → h'[m]? = h[m]?) ∧ h'[h.length]? = some (.lst ys)) (by
      show (lstE q _).bind _ = _
      rw [y_lst, hq]
      simp only [Out.bind_ok]
      rw [if_pos (by rw [sizeLine_eq]; omega)]
      simp only [Out.bind_ok, List.getElem?_concat_length]) (cell_len List.getElem?_concat_length) ⟨e[v], h ++ [.lst ys], by rw [List.set_getElem_self], (g.add _).le (by omega), fun m hm _ => List.getElem?_append_left hm, List.getElem?_concat_length⟩ (fun i s ⟨z, h', es, g', hm, hc⟩ => by
      subst es
      exact cell_at hc) fun i d s hd ⟨z, h', es, g', hm, hc⟩ => by
      subst es
      have hi := (List.getElem?_eq_some_iff.mp hd).1
      obtain ⟨p1, p2⟩ := hf d (List.mem_of_getElem? hd)
      have he' : (e.set v (some d))[o]? = some (some (.ref r)) := by rw [List.getElem?_set_ne (Ne.symm hov)]; exact he
      obtain ⟨h2, e2, g2, m2⟩ := push he' g' (by omega) (p2 h') p1
      refine ⟨⟨e.set v (some d), h', hp.length⟩, ⟨e.set v (some d), h2, hp.length⟩, ?_, ?_, some d, h2, rfl, g2.le (by omega), fun m a1 a2 => (m2 m a2).trans (hm m a1 a2), (m2 _ (by omega)).trans hc⟩
      · rw [y_name, List.set_set]
      · rw [y_cons, e2]
        rfl
  subst es
  exact ⟨z, h', e1, g'.le (by omega), hm⟩
end
end Law
end

-- S78s
section
set_option maxHeartbeats 8000000
set_option exponentiation.threshold 4000
namespace Law
open PySem PySem.Spec Den
theorem nm_neg {x y : Int} (hy : y ≠ 0) : nm (-x) (-y) = nm x y := by
  unfold nm
  have d1 : ((Int.gcd x y : Nat) : Int) ∣ x := Int.gcd_dvd_left ..
  have d2 : ((Int.gcd x y : Nat) : Int) ∣ y := Int.gcd_dvd_right ..
  rw [Int.neg_gcd, Int.gcd_neg, Int.neg_ediv_of_dvd d1, Int.neg_ediv_of_dvd d2]
  by_cases h : y < 0
  · rw [if_pos h, if_neg (by omega)]
  · rw [if_neg h, if_pos (by omega), Int.neg_neg, Int.neg_neg]
theorem nm_over {t b u c : Int} (hb : 1 ≤ b) (hu : u ≠ 0) (g : Int.gcd u c = 1) : nm (t * (nm c u).1) (b * (nm c u).2) = nm (t * c) (b * u) := by
  have e : nm c u = if u < 0 then (-c, -u) else (c, u) := by
    unfold nm
    rw [Int.gcd_comm, g]
    simp
  rw [e]
  by_cases h : u < 0
  · rw [if_pos h]
    show nm (t * -c) (b * -u) = _
    rw [Int.mul_neg, Int.mul_neg]
    refine nm_neg fun h0 => ?_
    rcases Int.mul_eq_zero.mp h0 with h1 | h1
    · omega
    · exact hu h1
  · rw [if_neg h]
section
variable {K : PySem.W.Frag} {C : Calls} {n m r k l : Nat} {hp h : List Cell} {t b u c i j : Int} {s : S} {a x y th due : D} {w : Str} {e : List (Option D)} {xs ys : List D} {q q2 : SemA} {f : SemS} {P : D → Prop}
theorem d4' (q : callK (pf K) (n + 7) 36 none [rt u c, y] hp = .ok (rt t b) hp) (g13 : callK (pf K) (n + 7) 13 none [rt t b] hp = .ok (pr t b) hp) : callK (pf K) (n + 8) 16 none [.tup [rt u c, y], .int 4] hp = .ok (made t b) hp := by
  refine (call_none (f := ⟨4, 2, false, B16 K⟩) rfl rfl rfl).trans ?_
  have t22 := two_le
  simp only [startEnv, List.map_cons, List.map_nil, List.length_cons, List.length_nil, Nat.sub_self, List.replicate, List.append_nil, List.cons_append, List.nil_append, B16, L16, y_nil, y_cons, y_asg, y_name, y_ret, y_drop, y_if, y_bl, y_tru, y_not, y_and, y_or, y_andE, y_orE, y_notE, y_con, y_var, y_bin, y_un, y_two, y_nilA, y_consA, y_call, y_make, y_stat, y_callV, y_callG, y_neg, y_tup, y_lst, y_ifE, y_raise, y_val, y_new, y_on, y_onx, y_mth, y_fmt, y_bits, y_tupG, y_consG, y_nilG, y_mthL, v_add, v_sub, v_neg, v_lt, v_le, v_gt, v_ge, v_tru, v_gcd, set0, set1, v_eqC, v_opC, v_negC, v_neC, Out.bind_ok, Out.bind_exn, List.getElem?_cons_zero, List.getElem?_cons_succ, List.append_nil, List.nil_append, List.cons_append, Bool.not_true, Bool.not_false, if_true, if_false, Bool.false_eq_true, Bool.true_eq_false, reduceCtorEq, List.take_length, eqV_int, List.length_cons, List.length_nil, y_try, Int.reduceEq, decide_true, decide_false, ixa, ixb, y_mth, m_inv, hf23, lk36, q, g13, t22]
  exact lv rfl
/-- a question whose answer is due -/
def Asked (K : PySem.W.Frag) (n : Nat) (row : D) : Prop := ∃ th d due, row = .tup [th, .int d, due] ∧ (∀ h, callK (pf K) (n + 8) 16 none [th, .int d] h = .ok due h) ∧ ∀ C s, neC C (ow "__eq__") due due s = .ok (.bl false) s
theorem asked_made {d : Int} (h : ∀ h, callK (pf K) (n + 8) 16 none [th, .int d] h = .ok (made t b) h) : Asked K n (.tup [th, .int d, made t b]) := ⟨_, _, _, rfl, h, fun _ _ => ne_made⟩
theorem asked_numb {d : Int} {v : String} (h : ∀ h, callK (pf K) (n + 8) 16 none [th, .int d] h = .ok (numb v) h) : Asked K n (.tup [th, .int d, numb v]) := ⟨_, _, _, rfl, h, fun _ _ => ne_numb⟩
section
variable (r1 : Rat t b) (q1 : Rat u c)
include r1
theorem ask_power (hj : -40 ≤ j ∧ j ≤ 40) (ht : j < 0 → t ≠ 0) : Asked K n (.tup [.tup [rt t b, .int j], .int 4, made (lpw t b j).1 (lpw t b j).2]) := asked_made fun h => by
  have e := c36 (K := K) (n := n) (hp := h) hj r1.pos r1.one r1.top r1.bot ht
  rw [pw_eq r1.one ht] at e
  have big : ∀ {x : Int}, x.natAbs < 2 ^ 40 → (x ^ j.natAbs).natAbs < 2 ^ 2000 := fun {x} hx => Nat.lt_of_lt_of_le (pow_b hx _) (Nat.pow_le_pow_right (by decide) (by omega))
  have g1 : 1 ≤ (lpw t b j).2 ∧ Int.gcd (lpw t b j).1 (lpw t b j).2 = 1 ∧ (lpw t b j).2.natAbs < 2 ^ 2000 := by
    unfold lpw
    by_cases hz : 0 ≤ j
    · rw [if_pos hz]
      exact ⟨pow_pos' r1.pos _, gcd_pow r1.one _, big r1.bot⟩
    · have ht := ht (by omega)
      have hn : t ^ j.natAbs ≠ 0 := Int.pow_ne_zero ht
      rw [if_neg hz]
      by_cases hl : t ^ j.natAbs < 0
      · rw [if_pos hl]
        refine ⟨by show 1 ≤ -t ^ j.natAbs; omega, ?_, by show (-t ^ j.natAbs).natAbs < _; rw [Int.natAbs_neg]; exact big r1.top⟩
        show Int.gcd (-b ^ j.natAbs) (-t ^ j.natAbs) = 1
        rw [Int.neg_gcd, Int.gcd_neg, Int.gcd_comm]
        exact gcd_pow r1.one _
      · rw [if_neg hl]
        refine ⟨by show 1 ≤ t ^ j.natAbs; omega, ?_, big r1.top⟩
        show Int.gcd (b ^ j.natAbs) (t ^ j.natAbs) = 1
        rw [Int.gcd_comm]
        exact gcd_pow r1.one _
  exact d4' e (c13 (n := n + 5) (k := 2000) g1.1 g1.2.1 g1.2.2 (by decide) (by decide))
omit r1 in
theorem ask_power0 (hj : -40 ≤ j ∧ j < 0) : Asked K n (.tup [.tup [rt 0 b, .int j], .int 4, numb "number"]) := asked_numb fun h => d4_bad (c36_zero (n := n) hj)
omit r1 in
theorem ask_power_bad (hx : plainD x = true) (hn : isI x = false ∨ ∃ j, x = .int j ∧ (j < -40 ∨ 40 < j)) : Asked K n (.tup [.tup [rt t b, x], .int 4, numb "number"]) := asked_numb fun h => d4_bad (c36_bad (n := n) hx hn)
theorem ask_inv (ht : t ≠ 0) : Asked K n (.tup [.tup [rt t b, .int 0], .int 3, made (nm (1 * b) (1 * t)).1 (nm (1 * b) (1 * t)).2]) := asked_made fun h => by
  rw [Int.one_mul, Int.one_mul]
  exact d3 (c35 (n := n + 3) ht r1.top (by decide) (by decide)) (good_nm ht (Nat.lt_of_lt_of_le r1.top (Nat.pow_le_pow_right (by decide) (by decide))))
omit r1 in
theorem ask_inv0 : Asked K n (.tup [.tup [rt 0 b, .int 0], .int 3, numb "top"]) := asked_numb fun h => d3_bad (c35_bad (n := n + 3))
include q1 in
theorem ask_over (q : Num x u c) (hu : u ≠ 0) : Asked K n (.tup [.tup [rt t b, x], .int 2, made (nm (t * c) (b * u)).1 (nm (t * c) (b * u)).2]) := asked_made fun h => by
  have e := c34 (K := K) (n := n + 1) (hp := h) (k := 40) r1.pos q1.pos r1.top r1.bot q1.top q1.bot (by decide) (by decide) q hu
  rw [nm_over r1.pos hu q1.one] at e
  have z : b * u ≠ 0 := fun h0 => by
    rcases Int.mul_eq_zero.mp h0 with h1 | h1
    · have := r1.pos; omega
    · exact hu h1
  exact d2 e (good_nm z (up100 (mul_b (k := 40) (m := 40) r1.bot q1.top)))
omit r1 in
theorem ask_over0 (q : Num x 0 1) : Asked K n (.tup [.tup [rt t b, x], .int 2, numb "other"]) := asked_numb fun h => d2_bad (c34_zero (n := n + 1) q)
omit r1 in
theorem ask_over_bad (hx : plainD x = true) (hr : isR x = false) : Asked K n (.tup [.tup [rt t b, x], .int 2, numb "other"]) := asked_numb fun h => d2_bad (c34_bad (n := n + 1) hx hr)
omit r1 in
theorem ask_of (g : Good (t, b)) (q : Num x t b) : Asked K n (.tup [.tup [x], .int 5, made t b]) := asked_made fun h => d5 (c2 (n := n + 3) q) g
omit r1 in
theorem ask_of_bad (hx : plainD x = true) (hr : isR x = false) : Asked K n (.tup [.tup [x], .int 5, numb "thing"]) := asked_numb fun h => d5_bad (c2_bad (n := n + 3) hx hr)
end
end
end Law
end

-- S78t
section
set_option maxHeartbeats 8000000
namespace Law
open PySem PySem.Spec Den
section
variable {K : PySem.W.Frag} {n m r k l : Nat} {hp h : List Cell} {t b u c i j : Int} {e : List (Option D)}
theorem if_yes {q : SemT} {f g : SemS} {s : S} (h : q s = .ok true s) : ifS q f g s = f s := by
  rw [y_if, h]
  rfl
theorem if_no {q : SemT} {f g : SemS} {s : S} (h : q s = .ok false s) : ifS q f g s = g s := by
  rw [y_if, h]
  rfl
abbrev e19 (t b u c j : Int) (d5 d6 d7 : Option D) : List (Option D) := [some (rt t b), some (pr t b), some (rt u c), some (pr u c), some (.int j), d5, d6, d7]
/-- the first questions -/
theorem m19a (r1 : Rat t b) (q1 : Rat u c) (hj : -40 ≤ j ∧ j ≤ 40) : ∃ h r, runs ((L19 K (callK (pf K) (n + 8))).take 2) ⟨e19 t b u c j none none none, hp, hp.length⟩ = .ok .next ⟨e19 t b u c j (some (.ref r)) none none, h, hp.length⟩ ∧ Has hp h r (Asked K n) 1 := by
  have t22 := two_le
  have t33 := three_le
  have t11 : (0 : Nat) + 1 ≤ sizeLine := by rw [sizeLine_eq]; decide
  have e17 : ∀ h, callK (pf K) (n + 8) 17 none [pr t b, .int j] h = .ok (pr (lpw t b j).1 (lpw t b j).2) h := fun h => c17 (n := n + 7) (by omega) r1.top r1.bot
  by_cases hz : j < 0
  · by_cases ht : t = 0
    · subst ht
      refine ⟨_, _, ?_, Has.one ((Grown.refl hp).add (.lst [.tup [.tup [rt 0 b, .int j], .int 4, made (lpw 0 b j).1 (lpw 0 b j).2]])) (ask_power0 (b := b) ⟨hj.1, hz⟩)⟩
      show runs [_, _] _ = _
      simp only [e19, y_nil, y_cons, y_asg, y_name, y_ret, y_drop, y_if, y_bl, y_tru, y_not, y_and, y_or, y_andE, y_orE, y_notE, y_con, y_var, y_bin, y_un, y_two, y_nilA, y_consA, y_call, y_make, y_stat, y_callV, y_callG, y_neg, y_tup, y_lst, y_ifE, y_raise, y_val, y_new, y_on, y_onx, y_mth, y_fmt, y_bits, y_tupG, y_consG, y_nilG, y_mthL, v_add, v_sub, v_neg, v_lt, v_le, v_gt, v_ge, v_tru, v_gcd, set0, set1, v_eqC, v_opC, v_negC, v_neC, Out.bind_ok, Out.bind_exn, List.getElem?_cons_zero, List.getElem?_cons_succ, List.append_nil, List.nil_append, List.cons_append, Bool.not_true, Bool.not_false, if_true, if_false, Bool.false_eq_true, Bool.true_eq_false, reduceCtorEq, List.take_length, eqV_int, List.length_cons, List.length_nil, t11, t22, t33, e17, hz, ix0, decide_true]
    · refine ⟨_, _, ?_, Has.one (Grown.refl hp) (ask_power r1 hj fun _ => ht)⟩
      show runs [_, _] _ = _
      simp only [e19, y_nil, y_cons, y_asg, y_name, y_ret, y_drop, y_if, y_bl, y_tru, y_not, y_and, y_or, y_andE, y_orE, y_notE, y_con, y_var, y_bin, y_un, y_two, y_nilA, y_consA, y_call, y_make, y_stat, y_callV, y_callG, y_neg, y_tup, y_lst, y_ifE, y_raise, y_val, y_new, y_on, y_onx, y_mth, y_fmt, y_bits, y_tupG, y_consG, y_nilG, y_mthL, v_add, v_sub, v_neg, v_lt, v_le, v_gt, v_ge, v_tru, v_gcd, set0, set1, v_eqC, v_opC, v_negC, v_neC, Out.bind_ok, Out.bind_exn, List.getElem?_cons_zero, List.getElem?_cons_succ, List.append_nil, List.nil_append, List.cons_append, Bool.not_true, Bool.not_false, if_true, if_false, Bool.false_eq_true, Bool.true_eq_false, reduceCtorEq, List.take_length, eqV_int, List.length_cons, List.length_nil, t11, t22, t33, e17, hz, ht, ix0, decide_true, decide_false]
  · refine ⟨_, _, ?_, Has.one (Grown.refl hp) (ask_power r1 hj fun h => absurd h hz)⟩
    show runs [_, _] _ = _
    simp only [e19, y_nil, y_cons, y_asg, y_name, y_ret, y_drop, y_if, y_bl, y_tru, y_not, y_and, y_or, y_andE, y_orE, y_notE, y_con, y_var, y_bin, y_un, y_two, y_nilA, y_consA, y_call, y_make, y_stat, y_callV, y_callG, y_neg, y_tup, y_lst, y_ifE, y_raise, y_val, y_new, y_on, y_onx, y_mth, y_fmt, y_bits, y_tupG, y_consG, y_nilG, y_mthL, v_add, v_sub, v_neg, v_lt, v_le, v_gt, v_ge, v_tru, v_gcd, set0, set1, v_eqC, v_opC, v_negC, v_neC, Out.bind_ok, Out.bind_exn, List.getElem?_cons_zero, List.getElem?_cons_succ, List.append_nil, List.nil_append, List.cons_append, Bool.not_true, Bool.not_false, if_true, if_false, Bool.false_eq_true, Bool.true_eq_false, reduceCtorEq, List.take_length, eqV_int, List.length_cons, List.length_nil, t11, t22, t33, e17, hz, ix0, decide_true, decide_false]
/-- the next, one by one -/
theorem m19b (r1 : Rat t b) (q1 : Rat u c) (g : Has hp h r (Asked K n) 1) : ∃ h', runs (((L19 K (callK (pf K) (n + 8))).drop 2).take 2) ⟨e19 t b u c j (some (.ref r)) none none, h, hp.length⟩ = .ok .next ⟨e19 t b u c j (some (.ref r)) none none, h', hp.length⟩ ∧ Has hp h' r (Asked K n) 3 := by
  have t22 := two_le
  have t33 := three_le
  obtain ⟨h1, e1, g1⟩ : ∃ h', (ifS (blT (two (eqC (callK (pf K) (n + 8)) (ow "__eq__") (eqV false)) (bin ixV (varE 1) (conE (.int 0))) (conE (.int 0)))) (runs [(dropS (mthL appendM (varE 5) (consA (tupE (consA (tupE (consA (varE 0) (consA (conE (.int 0)) nilA))) (consA (conE (.int 3)) (consA (tupE (consA (conE (.str ("number" : Str))) (consA (conE (.str ("top" : Str))) (consA (conE (.bl false)) nilA)))) nilA)))) nilA)))]) (runs [(dropS (mthL appendM (varE 5) (consA (tupE (consA (tupE (consA (varE 0) (consA (conE (.int 0)) nilA))) (consA (conE (.int 3)) (consA (tupE (consA (conE (.str ("made" : Str))) (consA (callE (callK (pf K) (n + 8)) 12 [] (consA (tupE (consA (conE (.int 1)) (consA (conE (.int 1)) nilA))) (consA (varE 1) nilA))) nilA))) nilA)))) nilA)))])) ⟨e19 t b u c j (some (.ref r)) none none, h, hp.length⟩ = .ok .next ⟨e19 t b u c j (some (.ref r)) none none, h', hp.length⟩ ∧ Has hp h' r (Asked K n) 2 := by
    by_cases ht : t = 0
    · subst ht
      obtain ⟨h', e1, g1, _⟩ := push (o := 5) (e := e19 0 b u c j (some (.ref r)) none none) (q := (consA (tupE (consA (tupE (consA (varE 0) (consA (conE (.int 0)) nilA))) (consA (conE (.int 3)) (consA (tupE (consA (conE (.str ("number" : Str))) (consA (conE (.str ("top" : Str))) (consA (conE (.bl false)) nilA)))) nilA)))) nilA)) rfl g (by decide) (by simp only [e19, y_nil, y_cons, y_asg, y_name, y_ret, y_drop, y_if, y_bl, y_tru, y_not, y_and, y_or, y_andE, y_orE, y_notE, y_con, y_var, y_bin, y_un, y_two, y_nilA, y_consA, y_call, y_make, y_stat, y_callV, y_callG, y_neg, y_tup, y_lst, y_ifE, y_raise, y_val, y_new, y_on, y_onx, y_mth, y_fmt, y_bits, y_tupG, y_consG, y_nilG, y_mthL, v_add, v_sub, v_neg, v_lt, v_le, v_gt, v_ge, v_tru, v_gcd, set0, set1, v_eqC, v_opC, v_negC, v_neC, Out.bind_ok, Out.bind_exn, List.getElem?_cons_zero, List.getElem?_cons_succ, List.append_nil, List.nil_append, List.cons_append, Bool.not_true, Bool.not_false, if_true, if_false, Bool.false_eq_true, Bool.true_eq_false, reduceCtorEq, List.take_length, eqV_int, List.length_cons, List.length_nil, t22, t33]) (ask_inv0 (b := b))
      exact ⟨h', (if_yes (by simp only [e19, y_nil, y_cons, y_asg, y_name, y_ret, y_drop, y_if, y_bl, y_tru, y_not, y_and, y_or, y_andE, y_orE, y_notE, y_con, y_var, y_bin, y_un, y_two, y_nilA, y_consA, y_call, y_make, y_stat, y_callV, y_callG, y_neg, y_tup, y_lst, y_ifE, y_raise, y_val, y_new, y_on, y_onx, y_mth, y_fmt, y_bits, y_tupG, y_consG, y_nilG, y_mthL, v_add, v_sub, v_neg, v_lt, v_le, v_gt, v_ge, v_tru, v_gcd, set0, set1, v_eqC, v_opC, v_negC, v_neC, Out.bind_ok, Out.bind_exn, List.getElem?_cons_zero, List.getElem?_cons_succ, List.append_nil, List.nil_append, List.cons_append, Bool.not_true, Bool.not_false, if_true, if_false, Bool.false_eq_true, Bool.true_eq_false, reduceCtorEq, List.take_length, eqV_int, List.length_cons, List.length_nil, ix0, decide_true])).trans ((runs_step e1).trans rfl), g1⟩
    · have e12 : ∀ h, callK (pf K) (n + 8) 12 none [pr 1 1, pr t b] h = .ok (pr (nm (1 * b) (1 * t)).1 (nm (1 * b) (1 * t)).2) h := fun h => c12 (n := n + 5) (k := 40) (by decide) (by decide) r1.top r1.bot (by decide) (by decide) (by decide) ht
      obtain ⟨h', e1, g1, _⟩ := push (o := 5) (e := e19 t b u c j (some (.ref r)) none none) (q := (consA (tupE (consA (tupE (consA (varE 0) (consA (conE (.int 0)) nilA))) (consA (conE (.int 3)) (consA (tupE (consA (conE (.str ("made" : Str))) (consA (callE (callK (pf K) (n + 8)) 12 [] (consA (tupE (consA (conE (.int 1)) (consA (conE (.int 1)) nilA))) (consA (varE 1) nilA))) nilA))) nilA)))) nilA)) rfl g (by decide) (by simp only [e19, y_nil, y_cons, y_asg, y_name, y_ret, y_drop, y_if, y_bl, y_tru, y_not, y_and, y_or, y_andE, y_orE, y_notE, y_con, y_var, y_bin, y_un, y_two, y_nilA, y_consA, y_call, y_make, y_stat, y_callV, y_callG, y_neg, y_tup, y_lst, y_ifE, y_raise, y_val, y_new, y_on, y_onx, y_mth, y_fmt, y_bits, y_tupG, y_consG, y_nilG, y_mthL, v_add, v_sub, v_neg, v_lt, v_le, v_gt, v_ge, v_tru, v_gcd, set0, set1, v_eqC, v_opC, v_negC, v_neC, Out.bind_ok, Out.bind_exn, List.getElem?_cons_zero, List.getElem?_cons_succ, List.append_nil, List.nil_append, List.cons_append, Bool.not_true, Bool.not_false, if_true, if_false, Bool.false_eq_true, Bool.true_eq_false, reduceCtorEq, List.take_length, eqV_int, List.length_cons, List.length_nil, t22, t33, e12]) (ask_inv r1 ht)
      exact ⟨h', (if_no (by simp only [e19, y_nil, y_cons, y_asg, y_name, y_ret, y_drop, y_if, y_bl, y_tru, y_not, y_and, y_or, y_andE, y_orE, y_notE, y_con, y_var, y_bin, y_un, y_two, y_nilA, y_consA, y_call, y_make, y_stat, y_callV, y_callG, y_neg, y_tup, y_lst, y_ifE, y_raise, y_val, y_new, y_on, y_onx, y_mth, y_fmt, y_bits, y_tupG, y_consG, y_nilG, y_mthL, v_add, v_sub, v_neg, v_lt, v_le, v_gt, v_ge, v_tru, v_gcd, set0, set1, v_eqC, v_opC, v_negC, v_neC, Out.bind_ok, Out.bind_exn, List.getElem?_cons_zero, List.getElem?_cons_succ, List.append_nil, List.nil_append, List.cons_append, Bool.not_true, Bool.not_false, if_true, if_false, Bool.false_eq_true, Bool.true_eq_false, reduceCtorEq, List.take_length, eqV_int, List.length_cons, List.length_nil, ix0, ht, decide_false])).trans ((runs_step e1).trans rfl), g1⟩
  obtain ⟨h2, e2, g2⟩ : ∃ h', (ifS (blT (two (eqC (callK (pf K) (n + 8)) (ow "__eq__") (eqV false)) (bin ixV (varE 3) (conE (.int 0))) (conE (.int 0)))) (runs [(dropS (mthL appendM (varE 5) (consA (tupE (consA (tupE (consA (varE 0) (consA (varE 2) nilA))) (consA (conE (.int 2)) (consA (tupE (consA (conE (.str ("number" : Str))) (consA (conE (.str ("other" : Str))) (consA (conE (.bl false)) nilA)))) nilA)))) nilA)))]) (runs [(dropS (mthL appendM (varE 5) (consA (tupE (consA (tupE (consA (varE 0) (consA (varE 2) nilA))) (consA (conE (.int 2)) (consA (tupE (consA (conE (.str ("made" : Str))) (consA (callE (callK (pf K) (n + 8)) 12 [] (consA (varE 1) (consA (varE 3) nilA))) nilA))) nilA)))) nilA)))])) ⟨e19 t b u c j (some (.ref r)) none none, h1, hp.length⟩ = .ok .next ⟨e19 t b u c j (some (.ref r)) none none, h', hp.length⟩ ∧ Has hp h' r (Asked K n) 3 := by
    by_cases ht : u = 0
    · subst ht
      have hc : c = 1 := by
        have a := q1.one
        rw [Int.zero_gcd] at a
        have := q1.pos
        omega
      subst hc
      obtain ⟨h', e1, g1, _⟩ := push (o := 5) (e := e19 t b 0 1 j (some (.ref r)) none none) (q := (consA (tupE (consA (tupE (consA (varE 0) (consA (varE 2) nilA))) (consA (conE (.int 2)) (consA (tupE (consA (conE (.str ("number" : Str))) (consA (conE (.str ("other" : Str))) (consA (conE (.bl false)) nilA)))) nilA)))) nilA)) rfl g1 (by decide) (by simp only [e19, y_nil, y_cons, y_asg, y_name, y_ret, y_drop, y_if, y_bl, y_tru, y_not, y_and, y_or, y_andE, y_orE, y_notE, y_con, y_var, y_bin, y_un, y_two, y_nilA, y_consA, y_call, y_make, y_stat, y_callV, y_callG, y_neg, y_tup, y_lst, y_ifE, y_raise, y_val, y_new, y_on, y_onx, y_mth, y_fmt, y_bits, y_tupG, y_consG, y_nilG, y_mthL, v_add, v_sub, v_neg, v_lt, v_le, v_gt, v_ge, v_tru, v_gcd, set0, set1, v_eqC, v_opC, v_negC, v_neC, Out.bind_ok, Out.bind_exn, List.getElem?_cons_zero, List.getElem?_cons_succ, List.append_nil, List.nil_append, List.cons_append, Bool.not_true, Bool.not_false, if_true, if_false, Bool.false_eq_true, Bool.true_eq_false, reduceCtorEq, List.take_length, eqV_int, List.length_cons, List.length_nil, t22, t33]) (ask_over0 (t := t) (b := b) (Num.rt 0 1))
      exact ⟨h', (if_yes (by simp only [e19, y_nil, y_cons, y_asg, y_name, y_ret, y_drop, y_if, y_bl, y_tru, y_not, y_and, y_or, y_andE, y_orE, y_notE, y_con, y_var, y_bin, y_un, y_two, y_nilA, y_consA, y_call, y_make, y_stat, y_callV, y_callG, y_neg, y_tup, y_lst, y_ifE, y_raise, y_val, y_new, y_on, y_onx, y_mth, y_fmt, y_bits, y_tupG, y_consG, y_nilG, y_mthL, v_add, v_sub, v_neg, v_lt, v_le, v_gt, v_ge, v_tru, v_gcd, set0, set1, v_eqC, v_opC, v_negC, v_neC, Out.bind_ok, Out.bind_exn, List.getElem?_cons_zero, List.getElem?_cons_succ, List.append_nil, List.nil_append, List.cons_append, Bool.not_true, Bool.not_false, if_true, if_false, Bool.false_eq_true, Bool.true_eq_false, reduceCtorEq, List.take_length, eqV_int, List.length_cons, List.length_nil, ix0, decide_true])).trans ((runs_step e1).trans rfl), g1⟩
    · have e12 : ∀ h, callK (pf K) (n + 8) 12 none [pr t b, pr u c] h = .ok (pr (nm (t * c) (b * u)).1 (nm (t * c) (b * u)).2) h := fun h => c12 (n := n + 5) (k := 40) r1.top r1.bot q1.top q1.bot (by decide) (by decide) r1.pos ht
      obtain ⟨h', e1, g1, _⟩ := push (o := 5) (e := e19 t b u c j (some (.ref r)) none none) (q := (consA (tupE (consA (tupE (consA (varE 0) (consA (varE 2) nilA))) (consA (conE (.int 2)) (consA (tupE (consA (conE (.str ("made" : Str))) (consA (callE (callK (pf K) (n + 8)) 12 [] (consA (varE 1) (consA (varE 3) nilA))) nilA))) nilA)))) nilA)) rfl g1 (by decide) (by simp only [e19, y_nil, y_cons, y_asg, y_name, y_ret, y_drop, y_if, y_bl, y_tru, y_not, y_and, y_or, y_andE, y_orE, y_notE, y_con, y_var, y_bin, y_un, y_two, y_nilA, y_consA, y_call, y_make, y_stat, y_callV, y_callG, y_neg, y_tup, y_lst, y_ifE, y_raise, y_val, y_new, y_on, y_onx, y_mth, y_fmt, y_bits, y_tupG, y_consG, y_nilG, y_mthL, v_add, v_sub, v_neg, v_lt, v_le, v_gt, v_ge, v_tru, v_gcd, set0, set1, v_eqC, v_opC, v_negC, v_neC, Out.bind_ok, Out.bind_exn, List.getElem?_cons_zero, List.getElem?_cons_succ, List.append_nil, List.nil_append, List.cons_append, Bool.not_true, Bool.not_false, if_true, if_false, Bool.false_eq_true, Bool.true_eq_false, reduceCtorEq, List.take_length, eqV_int, List.length_cons, List.length_nil, t22, t33, e12]) (ask_over r1 q1 (Num.rt u c) ht)
      exact ⟨h', (if_no (by simp only [e19, y_nil, y_cons, y_asg, y_name, y_ret, y_drop, y_if, y_bl, y_tru, y_not, y_and, y_or, y_andE, y_orE, y_notE, y_con, y_var, y_bin, y_un, y_two, y_nilA, y_consA, y_call, y_make, y_stat, y_callV, y_callG, y_neg, y_tup, y_lst, y_ifE, y_raise, y_val, y_new, y_on, y_onx, y_mth, y_fmt, y_bits, y_tupG, y_consG, y_nilG, y_mthL, v_add, v_sub, v_neg, v_lt, v_le, v_gt, v_ge, v_tru, v_gcd, set0, set1, v_eqC, v_opC, v_negC, v_neC, Out.bind_ok, Out.bind_exn, List.getElem?_cons_zero, List.getElem?_cons_succ, List.append_nil, List.nil_append, List.cons_append, Bool.not_true, Bool.not_false, if_true, if_false, Bool.false_eq_true, Bool.true_eq_false, reduceCtorEq, List.take_length, eqV_int, List.length_cons, List.length_nil, ix0, ht, decide_false])).trans ((runs_step e1).trans rfl), g1⟩
  exact ⟨h2, (runs_step e1).trans ((runs_step e2).trans rfl), g2⟩
theorem m19c (r1 : Rat t b) (g : Has hp h r (Asked K n) 3) : ∃ o h', runs (((L19 K (callK (pf K) (n + 8))).drop 4).take 6) ⟨e19 t b u c j (some (.ref r)) none none, h, hp.length⟩ = .ok .next ⟨e19 t b u c j (some (.ref r)) o none, h', hp.length⟩ ∧ Has hp h' r (Asked K n) 15 := by
  have t22 := two_le
  have t33 := three_le
  have t11 : (0 : Nat) + 1 ≤ sizeLine := by rw [sizeLine_eq]; decide
  have a2 : ∀ h, callK (pf K) (n + 8) 23 (some 0) [.int 2, .int 1] h = .ok (rt 2 1) h := fun h => mk1
  have gt : Good (t, b) := ⟨r1.pos, r1.one, Nat.lt_of_lt_of_le r1.bot (Nat.pow_le_pow_right (by decide) (by decide))⟩
  obtain ⟨o1, h1, e1, g1, _⟩ := loop_push (o := 5) (v := 6) (e := e19 t b u c j (some (.ref r)) none none) (q := (consA (conE (.int 41)) (consA (negE (callK (pf K) (n + 8)) (ow "__neg__") negV (conE (.int 41))) (consA (conE .non) (consA (makeE (callK (pf K) (n + 8)) 23 0 [.int 1] (consA (conE (.int 2)) nilA)) nilA))))) (q2 := (consA (tupE (consA (tupE (consA (varE 0) (consA (varE 6) nilA))) (consA (conE (.int 4)) (consA (tupE (consA (conE (.str ("number" : Str))) (consA (conE (.str ("number" : Str))) (consA (conE (.bl false)) nilA)))) nilA)))) nilA)) (ys := [.int 41, .int (-41), .non, rt 2 1]) (by decide) (by simp [e19]) rfl g (by decide) (by simp only [y_nil, y_cons, y_asg, y_name, y_ret, y_drop, y_if, y_bl, y_tru, y_not, y_and, y_or, y_andE, y_orE, y_notE, y_con, y_var, y_bin, y_un, y_two, y_nilA, y_consA, y_call, y_make, y_stat, y_callV, y_callG, y_neg, y_tup, y_lst, y_ifE, y_raise, y_val, y_new, y_on, y_onx, y_mth, y_fmt, y_bits, y_tupG, y_consG, y_nilG, y_mthL, v_add, v_sub, v_neg, v_lt, v_le, v_gt, v_ge, v_tru, v_gcd, set0, set1, v_eqC, v_opC, v_negC, v_neC, Out.bind_ok, Out.bind_exn, List.getElem?_cons_zero, List.getElem?_cons_succ, List.append_nil, List.nil_append, List.cons_append, Bool.not_true, Bool.not_false, if_true, if_false, Bool.false_eq_true, Bool.true_eq_false, reduceCtorEq, List.take_length, eqV_int, List.length_cons, List.length_nil, a2])
    (fun d => .tup [.tup [rt t b, d], .int 4, numb "number"]) fun d hd => ⟨by
      simp only [List.mem_cons, List.not_mem_nil, or_false] at hd
      rcases hd with rfl | rfl | rfl | rfl
      · exact ask_power_bad rfl (.inr ⟨41, rfl, .inr (by decide)⟩)
      · exact ask_power_bad rfl (.inr ⟨-41, rfl, .inl (by decide)⟩)
      · exact ask_power_bad rfl (.inl rfl)
      · exact ask_power_bad rfl (.inl rfl), fun h' => by simp only [e19, y_nil, y_cons, y_asg, y_name, y_ret, y_drop, y_if, y_bl, y_tru, y_not, y_and, y_or, y_andE, y_orE, y_notE, y_con, y_var, y_bin, y_un, y_two, y_nilA, y_consA, y_call, y_make, y_stat, y_callV, y_callG, y_neg, y_tup, y_lst, y_ifE, y_raise, y_val, y_new, y_on, y_onx, y_mth, y_fmt, y_bits, y_tupG, y_consG, y_nilG, y_mthL, v_add, v_sub, v_neg, v_lt, v_le, v_gt, v_ge, v_tru, v_gcd, set0, set1, v_eqC, v_opC, v_negC, v_neC, Out.bind_ok, Out.bind_exn, List.getElem?_cons_zero, List.getElem?_cons_succ, List.append_nil, List.nil_append, List.cons_append, Bool.not_true, Bool.not_false, if_true, if_false, Bool.false_eq_true, Bool.true_eq_false, reduceCtorEq, List.take_length, eqV_int, List.length_cons, List.length_nil, t22, t33]⟩
  obtain ⟨o2, h2, e2, g2, _⟩ := loop_push (o := 5) (v := 6) (e := e19 t b u c j (some (.ref r)) o1 none) (q := (consA (conE (.int 0)) (consA (conE .non) (consA (conE (.str ("2" : Str))) nilA)))) (q2 := (consA (tupE (consA (tupE (consA (varE 0) (consA (varE 6) nilA))) (consA (conE (.int 2)) (consA (tupE (consA (conE (.str ("number" : Str))) (consA (conE (.str ("other" : Str))) (consA (conE (.bl false)) nilA)))) nilA)))) nilA)) (ys := [.int 0, .non, .str "2"]) (by decide) (by simp [e19]) rfl g1 (by decide) (by simp only [y_nil, y_cons, y_asg, y_name, y_ret, y_drop, y_if, y_bl, y_tru, y_not, y_and, y_or, y_andE, y_orE, y_notE, y_con, y_var, y_bin, y_un, y_two, y_nilA, y_consA, y_call, y_make, y_stat, y_callV, y_callG, y_neg, y_tup, y_lst, y_ifE, y_raise, y_val, y_new, y_on, y_onx, y_mth, y_fmt, y_bits, y_tupG, y_consG, y_nilG, y_mthL, v_add, v_sub, v_neg, v_lt, v_le, v_gt, v_ge, v_tru, v_gcd, set0, set1, v_eqC, v_opC, v_negC, v_neC, Out.bind_ok, Out.bind_exn, List.getElem?_cons_zero, List.getElem?_cons_succ, List.append_nil, List.nil_append, List.cons_append, Bool.not_true, Bool.not_false, if_true, if_false, Bool.false_eq_true, Bool.true_eq_false, reduceCtorEq, List.take_length, eqV_int, List.length_cons, List.length_nil])
    (fun d => .tup [.tup [rt t b, d], .int 2, numb "other"]) fun d hd => ⟨by
      simp only [List.mem_cons, List.not_mem_nil, or_false] at hd
      rcases hd with rfl | rfl | rfl
      · exact ask_over0 (Num.int 0)
      · exact ask_over_bad rfl rfl
      · exact ask_over_bad rfl rfl, fun h' => by simp only [e19, y_nil, y_cons, y_asg, y_name, y_ret, y_drop, y_if, y_bl, y_tru, y_not, y_and, y_or, y_andE, y_orE, y_notE, y_con, y_var, y_bin, y_un, y_two, y_nilA, y_consA, y_call, y_make, y_stat, y_callV, y_callG, y_neg, y_tup, y_lst, y_ifE, y_raise, y_val, y_new, y_on, y_onx, y_mth, y_fmt, y_bits, y_tupG, y_consG, y_nilG, y_mthL, v_add, v_sub, v_neg, v_lt, v_le, v_gt, v_ge, v_tru, v_gcd, set0, set1, v_eqC, v_opC, v_negC, v_neC, Out.bind_ok, Out.bind_exn, List.getElem?_cons_zero, List.getElem?_cons_succ, List.append_nil, List.nil_append, List.cons_append, Bool.not_true, Bool.not_false, if_true, if_false, Bool.false_eq_true, Bool.true_eq_false, reduceCtorEq, List.take_length, eqV_int, List.length_cons, List.length_nil, t22, t33]⟩
  have e12 : ∀ h, callK (pf K) (n + 8) 12 none [pr t b, pr (-3) 1] h = .ok (pr (nm (t * 1) (b * -3)).1 (nm (t * 1) (b * -3)).2) h := fun h => c12 (n := n + 5) (k := 40) r1.top r1.bot (by decide) (by decide) (by decide) (by decide) r1.pos (by decide)
  obtain ⟨h3, e3, g3, _⟩ := push (o := 5) (e := e19 t b u c j (some (.ref r)) o2 none) (q := (consA (tupE (consA (tupE (consA (varE 0) (consA (negE (callK (pf K) (n + 8)) (ow "__neg__") negV (conE (.int 3))) nilA))) (consA (conE (.int 2)) (consA (tupE (consA (conE (.str ("made" : Str))) (consA (callE (callK (pf K) (n + 8)) 12 [] (consA (varE 1) (consA (tupE (consA (negE (callK (pf K) (n + 8)) (ow "__neg__") negV (conE (.int 3))) (consA (conE (.int 1)) nilA))) nilA))) nilA))) nilA)))) nilA)) rfl g2 (by decide) (by simp only [e19, y_nil, y_cons, y_asg, y_name, y_ret, y_drop, y_if, y_bl, y_tru, y_not, y_and, y_or, y_andE, y_orE, y_notE, y_con, y_var, y_bin, y_un, y_two, y_nilA, y_consA, y_call, y_make, y_stat, y_callV, y_callG, y_neg, y_tup, y_lst, y_ifE, y_raise, y_val, y_new, y_on, y_onx, y_mth, y_fmt, y_bits, y_tupG, y_consG, y_nilG, y_mthL, v_add, v_sub, v_neg, v_lt, v_le, v_gt, v_ge, v_tru, v_gcd, set0, set1, v_eqC, v_opC, v_negC, v_neC, Out.bind_ok, Out.bind_exn, List.getElem?_cons_zero, List.getElem?_cons_succ, List.append_nil, List.nil_append, List.cons_append, Bool.not_true, Bool.not_false, if_true, if_false, Bool.false_eq_true, Bool.true_eq_false, reduceCtorEq, List.take_length, eqV_int, List.length_cons, List.length_nil, t22, t33, e12]) (ask_over r1 (Rat.int (i := -3) (by decide)) (Num.int (-3)) (by decide))
  obtain ⟨h4, e4, g4, _⟩ := push (o := 5) (e := e19 t b u c j (some (.ref r)) o2 none) (q := (consA (tupE (consA (tupE (consA (varE 0) nilA)) (consA (conE (.int 5)) (consA (tupE (consA (conE (.str ("made" : Str))) (consA (varE 1) nilA))) nilA)))) nilA)) rfl g3 (by decide) (by simp only [e19, y_nil, y_cons, y_asg, y_name, y_ret, y_drop, y_if, y_bl, y_tru, y_not, y_and, y_or, y_andE, y_orE, y_notE, y_con, y_var, y_bin, y_un, y_two, y_nilA, y_consA, y_call, y_make, y_stat, y_callV, y_callG, y_neg, y_tup, y_lst, y_ifE, y_raise, y_val, y_new, y_on, y_onx, y_mth, y_fmt, y_bits, y_tupG, y_consG, y_nilG, y_mthL, v_add, v_sub, v_neg, v_lt, v_le, v_gt, v_ge, v_tru, v_gcd, set0, set1, v_eqC, v_opC, v_negC, v_neC, Out.bind_ok, Out.bind_exn, List.getElem?_cons_zero, List.getElem?_cons_succ, List.append_nil, List.nil_append, List.cons_append, Bool.not_true, Bool.not_false, if_true, if_false, Bool.false_eq_true, Bool.true_eq_false, reduceCtorEq, List.take_length, eqV_int, List.length_cons, List.length_nil, t11, t22, t33]) (ask_of gt (Num.rt t b))
  obtain ⟨h5, e5, g5, _⟩ := push (o := 5) (e := e19 t b u c j (some (.ref r)) o2 none) (q := (consA (tupE (consA (tupE (consA (negE (callK (pf K) (n + 8)) (ow "__neg__") negV (conE (.int 7))) nilA)) (consA (conE (.int 5)) (consA (tupE (consA (conE (.str ("made" : Str))) (consA (tupE (consA (negE (callK (pf K) (n + 8)) (ow "__neg__") negV (conE (.int 7))) (consA (conE (.int 1)) nilA))) nilA))) nilA)))) nilA)) rfl g4 (by decide) (by simp only [e19, y_nil, y_cons, y_asg, y_name, y_ret, y_drop, y_if, y_bl, y_tru, y_not, y_and, y_or, y_andE, y_orE, y_notE, y_con, y_var, y_bin, y_un, y_two, y_nilA, y_consA, y_call, y_make, y_stat, y_callV, y_callG, y_neg, y_tup, y_lst, y_ifE, y_raise, y_val, y_new, y_on, y_onx, y_mth, y_fmt, y_bits, y_tupG, y_consG, y_nilG, y_mthL, v_add, v_sub, v_neg, v_lt, v_le, v_gt, v_ge, v_tru, v_gcd, set0, set1, v_eqC, v_opC, v_negC, v_neC, Out.bind_ok, Out.bind_exn, List.getElem?_cons_zero, List.getElem?_cons_succ, List.append_nil, List.nil_append, List.cons_append, Bool.not_true, Bool.not_false, if_true, if_false, Bool.false_eq_true, Bool.true_eq_false, reduceCtorEq, List.take_length, eqV_int, List.length_cons, List.length_nil, t11, t22, t33]) (ask_of ⟨by decide, by decide, by decide⟩ (Num.int (-7)))
  obtain ⟨o6, h6, e6, g6, _⟩ := loop_push (o := 5) (v := 6) (e := e19 t b u c j (some (.ref r)) o2 none) (q := (consA (conE .non) (consA (conE (.str ("1" : Str))) nilA))) (q2 := (consA (tupE (consA (tupE (consA (varE 6) nilA)) (consA (conE (.int 5)) (consA (tupE (consA (conE (.str ("number" : Str))) (consA (conE (.str ("thing" : Str))) (consA (conE (.bl false)) nilA)))) nilA)))) nilA)) (ys := [.non, .str "1"]) (by decide) (by simp [e19]) rfl g5 (by decide) (by simp only [y_nil, y_cons, y_asg, y_name, y_ret, y_drop, y_if, y_bl, y_tru, y_not, y_and, y_or, y_andE, y_orE, y_notE, y_con, y_var, y_bin, y_un, y_two, y_nilA, y_consA, y_call, y_make, y_stat, y_callV, y_callG, y_neg, y_tup, y_lst, y_ifE, y_raise, y_val, y_new, y_on, y_onx, y_mth, y_fmt, y_bits, y_tupG, y_consG, y_nilG, y_mthL, v_add, v_sub, v_neg, v_lt, v_le, v_gt, v_ge, v_tru, v_gcd, set0, set1, v_eqC, v_opC, v_negC, v_neC, Out.bind_ok, Out.bind_exn, List.getElem?_cons_zero, List.getElem?_cons_succ, List.append_nil, List.nil_append, List.cons_append, Bool.not_true, Bool.not_false, if_true, if_false, Bool.false_eq_true, Bool.true_eq_false, reduceCtorEq, List.take_length, eqV_int, List.length_cons, List.length_nil])
    (fun d => .tup [.tup [d], .int 5, numb "thing"]) fun d hd => ⟨by
      simp only [List.mem_cons, List.not_mem_nil, or_false] at hd
      rcases hd with rfl | rfl
      · exact ask_of_bad rfl rfl
      · exact ask_of_bad rfl rfl, fun h' => by simp only [e19, y_nil, y_cons, y_asg, y_name, y_ret, y_drop, y_if, y_bl, y_tru, y_not, y_and, y_or, y_andE, y_orE, y_notE, y_con, y_var, y_bin, y_un, y_two, y_nilA, y_consA, y_call, y_make, y_stat, y_callV, y_callG, y_neg, y_tup, y_lst, y_ifE, y_raise, y_val, y_new, y_on, y_onx, y_mth, y_fmt, y_bits, y_tupG, y_consG, y_nilG, y_mthL, v_add, v_sub, v_neg, v_lt, v_le, v_gt, v_ge, v_tru, v_gcd, set0, set1, v_eqC, v_opC, v_negC, v_neC, Out.bind_ok, Out.bind_exn, List.getElem?_cons_zero, List.getElem?_cons_succ, List.append_nil, List.nil_append, List.cons_append, Bool.not_true, Bool.not_false, if_true, if_false, Bool.false_eq_true, Bool.true_eq_false, reduceCtorEq, List.take_length, eqV_int, List.length_cons, List.length_nil, t11, t22, t33]⟩
  exact ⟨o6, h6, (runs_step e1).trans ((runs_step e2).trans ((runs_step e3).trans ((runs_step e4).trans ((runs_step e5).trans ((runs_step e6).trans rfl))))), g6⟩
theorem ix3a {x y z : D} : ixV (.tup [x, y, z]) (.int 0) h = .val x := rfl
theorem ix3b {x y z : D} : ixV (.tup [x, y, z]) (.int 1) h = .val y := rfl
theorem ix3c {x y z : D} : ixV (.tup [x, y, z]) (.int 2) h = .val z := rfl
theorem c19 (r1 : Rat t b) (q1 : Rat u c) (hj : -40 ≤ j ∧ j ≤ 40) : callK (pf K) (n + 9) 19 none [rt t b, pr t b, rt u c, pr u c, .int j] hp = .ok (.bl true) hp := by
  refine (call_none (f := ⟨8, 5, false, B19 K⟩) rfl rfl rfl).trans ?_
  obtain ⟨h1, r, e1, g1⟩ := m19a (K := K) (n := n) (hp := hp) r1 q1 hj
  obtain ⟨h2, e2, g2⟩ := m19b (j := j) r1 q1 g1
  obtain ⟨o, h3, e3, g3⟩ := m19c (u := u) (c := c) (j := j) r1 g2
  obtain ⟨xs, hx, ha, _, _, ht⟩ := g3
  obtain ⟨o2, e4⟩ := walk_set (w := seqI (varE 5)) (it := .cell r) (k := 7) (xs := xs) (e := e19 t b u c j (some (.ref r)) o none) (h := h3) (n := hp.length) (s0 := ⟨e19 t b u c j (some (.ref r)) o none, h3, hp.length⟩) (f := runs [(ifS (blT (two (neC (callK (pf K) (n + 8)) (ow "__eq__")) (callE (callK (pf K) (n + 8)) 16 [] (consA (bin ixV (varE 7) (conE (.int 0))) (consA (bin ixV (varE 7) (conE (.int 1))) nilA))) (bin ixV (varE 7) (conE (.int 2))))) (runs [(retS (conE (.bl false)))]) (runs []))]) (wh_seq rfl hx) (cell_len hx) (fun j e' => cell_at hx) fun d hd => by
      obtain ⟨th, dd, due, ed, h16, hne⟩ := ha d hd
      subst ed
      simp only [e19, y_nil, y_cons, y_asg, y_name, y_ret, y_drop, y_if, y_bl, y_tru, y_not, y_and, y_or, y_andE, y_orE, y_notE, y_con, y_var, y_bin, y_un, y_two, y_nilA, y_consA, y_call, y_make, y_stat, y_callV, y_callG, y_neg, y_tup, y_lst, y_ifE, y_raise, y_val, y_new, y_on, y_onx, y_mth, y_fmt, y_bits, y_tupG, y_consG, y_nilG, y_mthL, v_add, v_sub, v_neg, v_lt, v_le, v_gt, v_ge, v_tru, v_gcd, set0, set1, v_eqC, v_opC, v_negC, v_neC, Out.bind_ok, Out.bind_exn, List.getElem?_cons_zero, List.getElem?_cons_succ, List.append_nil, List.nil_append, List.cons_append, Bool.not_true, Bool.not_false, if_true, if_false, Bool.false_eq_true, Bool.true_eq_false, reduceCtorEq, List.take_length, eqV_int, List.length_cons, List.length_nil, ix3a, ix3b, ix3c, h16, hne]
  have all : B19 K (callK (pf K) (n + 8)) ⟨e19 t b u c j none none none, hp, hp.length⟩ = .ok (.ret (.bl true)) ⟨e19 t b u c j (some (.ref r)) o o2, h3, hp.length⟩ :=
    (runs_append (a := (L19 K (callK (pf K) (n + 8))).take 2) e1).trans ((runs_append (a := ((L19 K (callK (pf K) (n + 8))).drop 2).take 2) e2).trans ((runs_append (a := ((L19 K (callK (pf K) (n + 8))).drop 4).take 6) e3).trans ((runs_step e4).trans rfl)))
  show leave hp.length (B19 K (callK (pf K) (n + 8)) ⟨e19 t b u c j none none none, hp, hp.length⟩) = _
  rw [all]
  exact lv' rfl ht
end
end Law
end

-- S78u
section
set_option maxHeartbeats 8000000
namespace Law
open PySem PySem.Spec Den
section
variable {K : PySem.W.Frag} {C : Calls} {n m r k l : Nat} {hp h : List Cell} {t b u c i j : Int} {e : List (Option D)} {ns zs : List Int} {s : S} {a : SemE}
theorem c4 (hn : ns.length ≤ 63) : ∃ zs : List Int, callK (pf K) (n + 1) 4 none [.scr (ns.map .int)] [] = .ok (.ref 0) [.lst (zs.map .int)] := by
  obtain ⟨zs, env, h⟩ := streamO_ok (ops_own (C := callK (pf K) n) (a1 := ow "__add__") (a2 := ow "__radd__") (s1 := ow "__sub__") (s2 := ow "__rsub__") (m1 := ow "__mul__") (m2 := ow "__rmul__")) hn
  refine ⟨zs, ?_⟩
  refine (call_keep (f := ⟨6, 1, true, B4 K⟩) rfl rfl rfl).trans ?_
  show leaveKeep (B4 K (callK (pf K) n) ⟨[some (.scr (ns.map .int)), none, none, none, none, none], [], 0⟩) = _
  have e : B4 K (callK (pf K) n) = streamBO (two (opC (callK (pf K) n) (ow "__add__") (ow "__radd__") addV)) (two (opC (callK (pf K) n) (ow "__sub__") (ow "__rsub__") subV)) (two (opC (callK (pf K) n) (ow "__mul__") (ow "__rmul__") mulV)) := by kernel_rfl
  rw [e, h]
  rfl
theorem two_bin {te : Nat → Option Nat} {w : V2} {d : SemE} (h : a s = .ok (.int i) s) : two (eqC C te w) a d s = bin w a d s := by
  rw [y_two, y_bin, h]
  rfl
theorem runs_head {f g : SemS} {l : List SemS} (h : f s = g s) : runs (f :: l) s = runs (g :: l) s := by
  rw [y_cons, y_cons, h]
theorem set_len {z : Cell} : (hp.set r z).take hp.length = hp.set r z := List.take_of_length_le (by rw [List.length_set]; exact Nat.le_refl _)
theorem c5 {m : Int} (hm : 0 < m) (hi : hp[r]? = some (.lst (zs.map .int))) : callK (pf K) (n + 1) 5 none [.ref r, .int m] hp = .ok (.int (drawV zs m)) (hp.set r (.lst (zs.dropLast.map .int))) := by
  refine (call_none (f := ⟨2, 2, false, B5 K⟩) rfl rfl rfl).trans ?_
  have el : callV lenV (consA (varE 0) nilA) ⟨[some (.ref r), some (.int m)], hp, hp.length⟩ = .ok (.int zs.length) ⟨[some (.ref r), some (.int m)], hp, hp.length⟩ := by
    refine call_ok (d := .ref r) rfl ?_
    show lenV [.ref r] hp = _
    unfold lenV lstOf' lstOf
    simp only [hi, List.length_map]
  have e0 : runs (L5 K (callK (pf K) n)) ⟨[some (.ref r), some (.int m)], hp, hp.length⟩ = runs takeB ⟨[some (.ref r), some (.int m)], hp, hp.length⟩ := by
    refine runs_head ?_
    rw [y_if, y_if, y_bl, y_bl, two_bin el]
  show leave hp.length (runs (L5 K (callK (pf K) n)) ⟨[some (.ref r), some (.int m)], hp, hp.length⟩) = _
  rw [e0, take_ok hm hi]
  show OutC.ok _ ((hp.set r (.lst (zs.dropLast.map .int))).take hp.length) = _
  rw [set_len]
theorem ix_cell {ts : List Int} {v : Int} (hr : h[r]? = some (.lst (ts.map .int))) (hv : 0 ≤ v ∧ v < ts.length) : ∃ t ∈ ts, ixV (.ref r) (.int v) h = .val (.int t) := by
  have hl : v.toNat < ts.length := by omega
  refine ⟨ts[v.toNat], List.getElem_mem hl, ?_⟩
  have e1 : lstOf' (.ref r) h = some (ts.map .int) := by
    unfold lstOf' lstOf
    simp only [hr]
  have e2 : L2.atI (ts.map D.int) v = some (.int ts[v.toNat]) := by
    have e := at_ok (ds := ts.map D.int) (i := v.toNat) (d := .int ts[v.toNat]) (by rw [List.getElem?_map, List.getElem?_eq_getElem hl]; rfl)
    have ev : (0 : Int) + (v.toNat : Nat) = v := by omega
    rw [ev] at e
    exact e
  show (match lstOf' (.ref r) h with
    | some xs => match L2.atI xs v with
      | some x => VO.val x
      | none => .bad
    | none => .bad) = _
  rw [e1]
  simp only [e2]
def menuT : List Int := [1, 0, -1, 2, -6, 12, 999999999999, -999999999999, 35, -4, 9, 100]
def menuB : List Int := [1, -1, 2, -3, 4, 6, -12, 999999999989, 5, -7, 10, -999999999989]
structure Draw (t b : Int) : Prop where
  nz : b ≠ 0
  top : t.natAbs < 10 ^ 12
  bot : b.natAbs < 10 ^ 12
theorem menu_ok : (∀ t ∈ menuT, t.natAbs < 10 ^ 12) ∧ ∀ b ∈ menuB, b ≠ 0 ∧ b.natAbs < 10 ^ 12 := by decide
theorem c15 (hr : hp[r]? = some (.lst (zs.map .int))) : ∃ t b, Draw t b ∧ ∃ zs' : List Int, callK (pf K) (n + 2) 15 none [.ref r] hp = .ok (pr t b) (hp.set r (.lst (zs'.map .int))) := by
  have hl := (List.getElem?_eq_some_iff.mp hr).1
  have t12 : (12 : Nat) ≤ sizeLine := by rw [sizeLine_eq]; decide
  have t22 := two_le
  have d1 := drawV_lt (zs := zs) (m := 12) (by decide)
  have d2 := drawV_lt (zs := zs.dropLast) (m := 12) (by decide)
  obtain ⟨t, ht, it⟩ := ix_cell (h := (hp ++ [Cell.lst (menuT.map D.int)] ++ [Cell.lst (menuB.map D.int)]).set r (.lst (zs.dropLast.map .int))) (r := hp.length) (ts := menuT) (v := drawV zs 12) (by
    rw [List.getElem?_set_ne (by omega)]
    exact get_app List.getElem?_concat_length) d1
  obtain ⟨b, hb, ib⟩ := ix_cell (h := ((hp ++ [Cell.lst (menuT.map D.int)] ++ [Cell.lst (menuB.map D.int)]).set r (.lst (zs.dropLast.map .int))).set r (.lst (zs.dropLast.dropLast.map .int))) (r := hp.length + 1) (ts := menuB) (v := drawV zs.dropLast 12) (by
    rw [List.getElem?_set_ne (by omega), List.getElem?_set_ne (by omega)]
    rw [List.getElem?_append_right (by simp)]
    simp) d2
  refine ⟨t, b, ⟨(menu_ok.2 b hb).1, menu_ok.1 t ht, (menu_ok.2 b hb).2⟩, zs.dropLast.dropLast, ?_⟩
  refine (call_none (f := ⟨3, 1, false, B15 K⟩) rfl rfl rfl).trans ?_
  have e1 := c5 (K := K) (n := n) (hp := hp ++ [Cell.lst (menuT.map D.int)] ++ [Cell.lst (menuB.map D.int)]) (r := r) (zs := zs) (m := 12) (by decide) (get_app (get_app hr))
  have e2 := c5 (K := K) (n := n) (hp := (hp ++ [Cell.lst (menuT.map D.int)] ++ [Cell.lst (menuB.map D.int)]).set r (.lst (zs.dropLast.map .int))) (r := r) (zs := zs.dropLast) (m := 12) (by decide) (List.getElem?_set_self (by simp; omega))
  have al : runs ((L15 K (callK (pf K) (n + 1))).take 2) ⟨[some (.ref r), none, none], hp, hp.length⟩ = .ok .next ⟨[some (.ref r), some (.ref hp.length), some (.ref (hp.length + 1))], hp ++ [Cell.lst (menuT.map D.int)] ++ [Cell.lst (menuB.map D.int)], hp.length⟩ := by
    show runs [_, _] _ = _
    simp only [y_nil, y_cons, y_asg, y_name, y_ret, y_drop, y_if, y_bl, y_tru, y_not, y_and, y_or, y_andE, y_orE, y_notE, y_con, y_var, y_bin, y_un, y_two, y_nilA, y_consA, y_call, y_make, y_stat, y_callV, y_callG, y_neg, y_tup, y_lst, y_ifE, y_raise, y_val, y_new, y_on, y_onx, y_mth, y_fmt, y_bits, y_tupG, y_consG, y_nilG, y_mthL, v_add, v_sub, v_neg, v_lt, v_le, v_gt, v_ge, v_tru, v_gcd, set0, set1, v_eqC, v_opC, v_negC, v_neC, Out.bind_ok, Out.bind_exn, List.getElem?_cons_zero, List.getElem?_cons_succ, List.append_nil, List.nil_append, List.cons_append, Bool.not_true, Bool.not_false, if_true, if_false, Bool.false_eq_true, Bool.true_eq_false, reduceCtorEq, List.take_length, eqV_int, List.length_cons, List.length_nil, t12, List.length_append]
    rfl
  have last : runs ((L15 K (callK (pf K) (n + 1))).drop 2) ⟨[some (.ref r), some (.ref hp.length), some (.ref (hp.length + 1))], hp ++ [Cell.lst (menuT.map D.int)] ++ [Cell.lst (menuB.map D.int)], hp.length⟩ = .ok (.ret (pr t b)) ⟨[some (.ref r), some (.ref hp.length), some (.ref (hp.length + 1))], ((hp ++ [Cell.lst (menuT.map D.int)] ++ [Cell.lst (menuB.map D.int)]).set r (.lst (zs.dropLast.map .int))).set r (.lst (zs.dropLast.dropLast.map .int)), hp.length⟩ := by
    show runs [_] _ = _
    simp only [y_cons, y_ret, y_tup, y_consA, y_nilA, y_bin, y_var, y_call, y_con, List.getElem?_cons_succ, List.getElem?_cons_zero, Out.bind_ok, List.append_nil, e1, y_on, it, y_val, e2, ib, List.length_cons, List.length_nil, t22, if_true]
  show leave hp.length (runs ((L15 K (callK (pf K) (n + 1))).take 2 ++ (L15 K (callK (pf K) (n + 1))).drop 2) ⟨[some (.ref r), none, none], hp, hp.length⟩) = _
  rw [runs_append al, last]
  show OutC.ok (pr t b) ((((hp ++ [Cell.lst (menuT.map D.int)] ++ [Cell.lst (menuB.map D.int)]).set r (.lst (zs.dropLast.map .int))).set r (.lst (zs.dropLast.dropLast.map .int))).take hp.length) = _
  rw [List.set_set, List.take_set, List.append_assoc, List.take_left' rfl]
end
end Law
end

-- S78v
section
set_option maxHeartbeats 8000000
namespace Law
open PySem PySem.Spec Den
section
variable {K : PySem.W.Frag} {C : Calls} {n m r k l : Nat} {hp h : List Cell} {t b u c i j : Int} {e : List (Option D)} {ns zs : List Int} {s : S} {a : SemE} {x y v : D} {xs : List D} {qs : List (Int × Int)} {q : SemA}
theorem push_at {o : Nat} (he : e[o]? = some (some (.ref r))) (hr : h[r]? = some (.lst xs)) (hn : n ≤ r) (hl : xs.length ≤ 200) (hq : q ⟨e, h, n⟩ = .ok [y] ⟨e, h, n⟩) :
    dropS (mthL appendM (varE o) q) ⟨e, h, n⟩ = .ok .next ⟨e, h.set r (.lst (xs ++ [y])), n⟩ := by
  have e1 : isLst (.ref r) h = true := by
    unfold isLst lstOf' lstOf
    simp only [hr, Option.isSome]
  have e2 : appendM (.ref r) [y] h n = some (.non, h.set r (.lst (xs ++ [y]))) := by
    unfold appendM cellOfL
    simp only [hr]
    rw [if_pos]
    rw [Bool.and_eq_true]
    refine ⟨?_, decide_eq_true (by rw [sizeLine_eq]; omega)⟩
    unfold mayPut
    rw [decide_eq_true hn]
    rfl
  rw [y_drop, y_mthL, y_var, he]
  simp only [Out.bind_ok, e1, if_true, hq, e2]
theorem len_cell (hr : h[r]? = some (.lst xs)) : lenV [.ref r] h = .val (.int xs.length) := by
  unfold lenV lstOf' lstOf
  simp only [hr]
theorem Nums.snoc (h : Nums xs qs) {q : Int × Int} (hx : Num x q.1 q.2) : Nums (xs ++ [x]) (qs ++ [q]) := by
  induction h with
  | nil => exact .cons hx .nil
  | cons h _ ih => exact .cons h ih
theorem prs_snoc {q : Int × Int} : prs (qs ++ [q]) = prs qs ++ [pr q.1 q.2] := by simp [prs]
theorem Draw.rat (d : Draw t b) : Rat (nm t b).1 (nm t b).2 := by
  have a := nm_abs (t := t) d.nz
  have p : (10 : Nat) ^ 12 ≤ 2 ^ 40 := by decide
  have := d.top
  have := d.bot
  exact ⟨nm_pos d.nz, nm_gcd d.nz, by omega, by omega⟩
/-- putting the last item anew -/
theorem put_last {o : Nat} {z : D} (he : e[o]? = some (some (.ref r))) (hr : h[r]? = some (.lst (xs ++ [z]))) (hn : n ≤ r) (ha : a ⟨e, h, n⟩ = .ok v ⟨e, h, n⟩) :
    asgS a (subG (varE o) (two (opC C (ow "__sub__") (ow "__rsub__") subV) (callV lenV (consA (varE o) nilA)) (conE (.int 1)))) ⟨e, h, n⟩ = .ok .next ⟨e, h.set r (.lst (xs ++ [v])), n⟩ := by
  have e1 : two (opC C (ow "__sub__") (ow "__rsub__") subV) (callV lenV (consA (varE o) nilA)) (conE (.int 1)) ⟨e, h, n⟩ = .ok (.int xs.length) ⟨e, h, n⟩ := by
    rw [y_two, y_callV, y_consA, y_var, he]
    simp only [Out.bind_ok, y_nilA, len_cell hr, y_val, y_con, v_opC, v_sub]
    have : (((xs ++ [z]).length : Nat) : Int) - 1 = (xs.length : Int) := by simp
    rw [this]
  have e2 : cellOfL (.ref r) h = some (r, xs ++ [z]) := by
    unfold cellOfL
    simp only [hr]
  have e3 : L2.ixN (xs ++ [z]).length (xs.length : Int) = some xs.length := by
    unfold L2.ixN
    simp
    omega
  have e4 : mayPut r n [v] = true := by
    unfold mayPut
    rw [decide_eq_true hn]
    rfl
  rw [y_asg, ha]
  simp only [Out.bind_ok]
  unfold subG
  rw [y_var, he]
  simp only [Out.bind_ok, e1, e2]
  rw [e3]
  simp only [e4, if_true, Out.bind_ok]
  rw [set_last']
end
end Law
end

-- S78w
section
set_option maxHeartbeats 8000000
namespace Law
open PySem PySem.Spec Den
section
variable {K : PySem.W.Frag} {C : Calls} {n m r k l N : Nat} {hp h : List Cell} {t b u c i j : Int} {e : List (Option D)} {ns zs : List Int} {s : S} {a : SemE} {x y v : D} {xs : List D} {qs : List (Int × Int)} {q : SemA} {o5 o6 o7 o8 o9 : Option D}
abbrev e21 (r : Nat) (t b : Int) (N : Nat) (o5 o6 o7 o8 o9 : Option D) : List (Option D) := [some (.ref r), some (rt t b), some (pr t b), some (.ref N), some (.ref (N + 1)), o5, o6, o7, o8, o9, none]
structure W21 (h : List Cell) (r N : Nat) (zs : List Int) (xs : List D) (qs : List (Int × Int)) : Prop where
  s : h[r]? = some (.lst (zs.map .int))
  x : h[N]? = some (.lst xs)
  p : h[N + 1]? = some (.lst (prs qs))
  lt : r < N
theorem W21.setS (w : W21 h r N zs xs qs) (ys : List Int) : W21 (h.set r (.lst (ys.map .int))) r N ys xs qs :=
  ⟨List.getElem?_set_self (List.getElem?_eq_some_iff.mp w.s).1, (List.getElem?_set_ne (by have := w.lt; omega)).trans w.x, (List.getElem?_set_ne (by have := w.lt; omega)).trans w.p, w.lt⟩
theorem W21.setX (w : W21 h r N zs xs qs) (ys : List D) : W21 (h.set N (.lst ys)) r N zs ys qs :=
  ⟨(List.getElem?_set_ne (by have := w.lt; omega)).trans w.s, List.getElem?_set_self (List.getElem?_eq_some_iff.mp w.x).1, (List.getElem?_set_ne (by omega)).trans w.p, w.lt⟩
theorem W21.setP (w : W21 h r N zs xs qs) {ys : List (Int × Int)} {zz : List D} (e : zz = prs ys) : W21 (h.set (N + 1) (.lst zz)) r N zs xs ys := by
  subst e
  exact ⟨(List.getElem?_set_ne (by have := w.lt; omega)).trans w.s, (List.getElem?_set_ne (by omega)).trans w.x, List.getElem?_set_self (List.getElem?_eq_some_iff.mp w.p).1, w.lt⟩
def Rats (qs : List (Int × Int)) : Prop := ∀ q ∈ qs, 1 ≤ q.2 ∧ q.1.natAbs < 2 ^ 40 ∧ q.2.natAbs < 2 ^ 40
theorem rats_nil : Rats [] := fun q hq => nomatch hq
theorem Rats.snoc (h : Rats qs) {q : Int × Int} (r : Rat q.1 q.2) : Rats (qs ++ [q]) := fun p hp => by
  rw [List.mem_append, List.mem_singleton] at hp
  rcases hp with hp | rfl
  · exact h p hp
  · exact ⟨r.pos, r.top, r.bot⟩
noncomputable abbrev T21 (K : PySem.W.Frag) (C : Calls) : List SemS := [(asgS (callE C 15 [] (consA (varE 0) nilA)) (tupG 2 (consG (nameG 8) (consG (nameG 9) nilG)))),
 (dropS (mthL appendM (varE 4) (consA (callE C 8 [] (consA (varE 8) (consA (varE 9) nilA))) nilA))),
 (dropS (mthL appendM (varE 3) (consA (makeE C 23 0 [] (consA (varE 8) (consA (varE 9) nilA))) nilA))),
 (ifS (blT (two (eqC C (ow "__eq__") (eqV false)) (varE 9) (conE (.int 1)))) (runs [(asgS (varE 8) (subG (varE 3) (two (opC C (ow "__sub__") (ow "__rsub__") subV) (callV lenV (consA (varE 3) nilA)) (conE (.int 1)))))]) (runs []))]
theorem turn21 (w : W21 h r N zs xs qs) (hx : Nums xs qs) (hq : Rats qs) (hl : qs.length ≤ 8) : ∃ h' zs' xs' qs' t' b', runs (T21 K (callK (pf K) (n + 8))) ⟨e21 r t b N o5 o6 o7 o8 o9, h, N⟩ = .ok .next ⟨e21 r t b N o5 o6 o7 (some (.int t')) (some (.int b')), h', N⟩ ∧ W21 h' r N zs' xs' qs' ∧ Nums xs' qs' ∧ Rats qs' ∧ qs'.length = qs.length + 1 := by
  obtain ⟨t', b', d, zs', e15⟩ := c15 (K := K) (n := n + 6) w.s
  have w1 := w.setS zs'
  have lx : xs.length ≤ 200 := by rw [hx.len]; omega
  have lp : (prs qs).length ≤ 200 := by rw [prs_len]; omega
  have p40 : (10 : Nat) ^ 12 ≤ 2 ^ 40 := by decide
  have hb : b'.natAbs < 2 ^ 40 := by have := d.bot; omega
  have s1 : asgS (callE (callK (pf K) (n + 8)) 15 [] (consA (varE 0) nilA)) (tupG 2 (consG (nameG 8) (consG (nameG 9) nilG))) ⟨e21 r t b N o5 o6 o7 o8 o9, h, N⟩ = .ok .next ⟨e21 r t b N o5 o6 o7 (some (.int t')) (some (.int b')), h.set r (.lst (zs'.map .int)), N⟩ := by
    simp only [e21, y_nil, y_cons, y_asg, y_name, y_ret, y_drop, y_if, y_bl, y_tru, y_not, y_and, y_or, y_andE, y_orE, y_notE, y_con, y_var, y_bin, y_un, y_two, y_nilA, y_consA, y_call, y_make, y_stat, y_callV, y_callG, y_neg, y_tup, y_lst, y_ifE, y_raise, y_val, y_new, y_on, y_onx, y_mth, y_fmt, y_bits, y_tupG, y_consG, y_nilG, y_mthL, v_add, v_sub, v_neg, v_lt, v_le, v_gt, v_ge, v_tru, v_gcd, set0, set1, v_eqC, v_opC, v_negC, v_neC, Out.bind_ok, Out.bind_exn, List.getElem?_cons_zero, List.getElem?_cons_succ, List.append_nil, List.nil_append, List.cons_append, Bool.not_true, Bool.not_false, if_true, if_false, Bool.false_eq_true, Bool.true_eq_false, reduceCtorEq, List.take_length, eqV_int, List.length_cons, List.length_nil, e15]
  have s2 := push_at (o := 4) (e := e21 r t b N o5 o6 o7 (some (.int t')) (some (.int b'))) (n := N) (q := consA (callE (callK (pf K) (n + 8)) 8 [] (consA (varE 8) (consA (varE 9) nilA))) nilA) (y := pr (nm t' b').1 (nm t' b').2) rfl w1.p (by omega) lp (by
    have e8 : ∀ h, callK (pf K) (n + 8) 8 none [.int t', .int b'] h = .ok (pr (nm t' b').1 (nm t' b').2) h := fun h => c8 (n := n + 6) d.nz hb (by decide) (by decide)
    simp only [e21, y_nil, y_cons, y_asg, y_name, y_ret, y_drop, y_if, y_bl, y_tru, y_not, y_and, y_or, y_andE, y_orE, y_notE, y_con, y_var, y_bin, y_un, y_two, y_nilA, y_consA, y_call, y_make, y_stat, y_callV, y_callG, y_neg, y_tup, y_lst, y_ifE, y_raise, y_val, y_new, y_on, y_onx, y_mth, y_fmt, y_bits, y_tupG, y_consG, y_nilG, y_mthL, v_add, v_sub, v_neg, v_lt, v_le, v_gt, v_ge, v_tru, v_gcd, set0, set1, v_eqC, v_opC, v_negC, v_neC, Out.bind_ok, Out.bind_exn, List.getElem?_cons_zero, List.getElem?_cons_succ, List.append_nil, List.nil_append, List.cons_append, Bool.not_true, Bool.not_false, if_true, if_false, Bool.false_eq_true, Bool.true_eq_false, reduceCtorEq, List.take_length, eqV_int, List.length_cons, List.length_nil, e8])
  have w2 := w1.setP (ys := qs ++ [nm t' b']) prs_snoc.symm
  have s3 := push_at (o := 3) (e := e21 r t b N o5 o6 o7 (some (.int t')) (some (.int b'))) (n := N) (q := consA (makeE (callK (pf K) (n + 8)) 23 0 [] (consA (varE 8) (consA (varE 9) nilA))) nilA) (y := rt (nm t' b').1 (nm t' b').2) rfl w2.x (by omega) lx (by
    have e23 : ∀ h, callK (pf K) (n + 8) 23 (some 0) [.int t', .int b'] h = .ok (rt (nm t' b').1 (nm t' b').2) h := fun h => c23 (n := n + 5) d.nz hb (by decide) (by decide)
    simp only [e21, y_nil, y_cons, y_asg, y_name, y_ret, y_drop, y_if, y_bl, y_tru, y_not, y_and, y_or, y_andE, y_orE, y_notE, y_con, y_var, y_bin, y_un, y_two, y_nilA, y_consA, y_call, y_make, y_stat, y_callV, y_callG, y_neg, y_tup, y_lst, y_ifE, y_raise, y_val, y_new, y_on, y_onx, y_mth, y_fmt, y_bits, y_tupG, y_consG, y_nilG, y_mthL, v_add, v_sub, v_neg, v_lt, v_le, v_gt, v_ge, v_tru, v_gcd, set0, set1, v_eqC, v_opC, v_negC, v_neC, Out.bind_ok, Out.bind_exn, List.getElem?_cons_zero, List.getElem?_cons_succ, List.append_nil, List.nil_append, List.cons_append, Bool.not_true, Bool.not_false, if_true, if_false, Bool.false_eq_true, Bool.true_eq_false, reduceCtorEq, List.take_length, eqV_int, List.length_cons, List.length_nil, e23])
  have w3 := w2.setX (xs ++ [rt (nm t' b').1 (nm t' b').2])
  have hr := d.rat
  by_cases h1 : b' = 1
  · subst h1
    rw [nm_int] at s2 s3 w2 w3 hr
    have s4 := put_last (C := callK (pf K) (n + 8)) (o := 3) (e := e21 r t b N o5 o6 o7 (some (.int t')) (some (.int 1))) (n := N) (a := varE 8) (v := .int t') rfl w3.x (by omega) rfl
    refine ⟨_, zs', xs ++ [.int t'], qs ++ [(t', 1)], t', 1, ?_, w3.setX _, hx.snoc (Num.int t'), hq.snoc hr, by simp⟩
    refine (runs_step s1).trans ((runs_step s2).trans ((runs_step s3).trans ((runs_step ((if_yes ?_).trans ((runs_step s4).trans rfl))).trans rfl)))
    simp only [e21, y_nil, y_cons, y_asg, y_name, y_ret, y_drop, y_if, y_bl, y_tru, y_not, y_and, y_or, y_andE, y_orE, y_notE, y_con, y_var, y_bin, y_un, y_two, y_nilA, y_consA, y_call, y_make, y_stat, y_callV, y_callG, y_neg, y_tup, y_lst, y_ifE, y_raise, y_val, y_new, y_on, y_onx, y_mth, y_fmt, y_bits, y_tupG, y_consG, y_nilG, y_mthL, v_add, v_sub, v_neg, v_lt, v_le, v_gt, v_ge, v_tru, v_gcd, set0, set1, v_eqC, v_opC, v_negC, v_neC, Out.bind_ok, Out.bind_exn, List.getElem?_cons_zero, List.getElem?_cons_succ, List.append_nil, List.nil_append, List.cons_append, Bool.not_true, Bool.not_false, if_true, if_false, Bool.false_eq_true, Bool.true_eq_false, reduceCtorEq, List.take_length, eqV_int, List.length_cons, List.length_nil, decide_true]
  · refine ⟨_, zs', xs ++ [rt (nm t' b').1 (nm t' b').2], qs ++ [nm t' b'], t', b', ?_, w3, hx.snoc (Num.rt _ _), hq.snoc hr, by simp⟩
    refine (runs_step s1).trans ((runs_step s2).trans ((runs_step s3).trans ((runs_step ((if_no ?_).trans rfl)).trans rfl)))
    simp only [e21, y_nil, y_cons, y_asg, y_name, y_ret, y_drop, y_if, y_bl, y_tru, y_not, y_and, y_or, y_andE, y_orE, y_notE, y_con, y_var, y_bin, y_un, y_two, y_nilA, y_consA, y_call, y_make, y_stat, y_callV, y_callG, y_neg, y_tup, y_lst, y_ifE, y_raise, y_val, y_new, y_on, y_onx, y_mth, y_fmt, y_bits, y_tupG, y_consG, y_nilG, y_mthL, v_add, v_sub, v_neg, v_lt, v_le, v_gt, v_ge, v_tru, v_gcd, set0, set1, v_eqC, v_opC, v_negC, v_neC, Out.bind_ok, Out.bind_exn, List.getElem?_cons_zero, List.getElem?_cons_succ, List.append_nil, List.nil_append, List.cons_append, Bool.not_true, Bool.not_false, if_true, if_false, Bool.false_eq_true, Bool.true_eq_false, reduceCtorEq, List.take_length, eqV_int, List.length_cons, List.length_nil, h1, decide_false]
/-- the row, drawn -/
theorem row21 (r1 : Rat t b) (hz : hp[r]? = some (.lst (zs.map .int))) : ∃ h zs' xs qs o5 o8 o9, runs ((L21 K (callK (pf K) (n + 8))).take 5) ⟨[some (.ref r), some (rt t b), some (pr t b), none, none, none, none, none, none, none, none], hp, hp.length⟩ = .ok .next ⟨e21 r t b hp.length o5 none none o8 o9, h, hp.length⟩ ∧ W21 h r hp.length zs' (xs ++ [rt t b]) (qs ++ [(t, b)]) ∧ Nums (xs ++ [rt t b]) (qs ++ [(t, b)]) ∧ Small (qs ++ [(t, b)]) := by
  have hl := (List.getElem?_eq_some_iff.mp hz).1
  have w0 : W21 (hp ++ [Cell.lst []] ++ [Cell.lst []]) r hp.length zs [] [] := ⟨get_app (get_app hz), get_app List.getElem?_concat_length, by
    rw [List.getElem?_append_right (by simp)]
    simp [prs], hl⟩
  have s12 : runs ((L21 K (callK (pf K) (n + 8))).take 2) ⟨[some (.ref r), some (rt t b), some (pr t b), none, none, none, none, none, none, none, none], hp, hp.length⟩ = .ok .next ⟨e21 r t b hp.length none none none none none, hp ++ [Cell.lst []] ++ [Cell.lst []], hp.length⟩ := by
    show runs [_, _] _ = _
    have t0 : (0 : Nat) ≤ sizeLine := Nat.zero_le _
    simp only [e21, y_nil, y_cons, y_asg, y_name, y_ret, y_drop, y_if, y_bl, y_tru, y_not, y_and, y_or, y_andE, y_orE, y_notE, y_con, y_var, y_bin, y_un, y_two, y_nilA, y_consA, y_call, y_make, y_stat, y_callV, y_callG, y_neg, y_tup, y_lst, y_ifE, y_raise, y_val, y_new, y_on, y_onx, y_mth, y_fmt, y_bits, y_tupG, y_consG, y_nilG, y_mthL, v_add, v_sub, v_neg, v_lt, v_le, v_gt, v_ge, v_tru, v_gcd, set0, set1, v_eqC, v_opC, v_negC, v_neC, Out.bind_ok, Out.bind_exn, List.getElem?_cons_zero, List.getElem?_cons_succ, List.append_nil, List.nil_append, List.cons_append, Bool.not_true, Bool.not_false, if_true, if_false, Bool.false_eq_true, Bool.true_eq_false, reduceCtorEq, List.take_length, eqV_int, List.length_cons, List.length_nil, t0, List.length_append]
  have dl := drawV_lt (zs := zs) (m := 6) (by decide)
  have e5 := c5 (K := K) (n := n + 7) (hp := hp ++ [Cell.lst []] ++ [Cell.lst []]) (r := r) (zs := zs) (m := 6) (by decide) w0.s
  have w1 := w0.setS zs.dropLast
  obtain ⟨s', e3, h3, zs3, xs, qs, o5, o8, o9, es, w3, hx, hq, hn⟩ := forS_ok (w := range1I (consA (callE (callK (pf K) (n + 8)) 5 [] (consA (varE 0) (consA (conE (.int 6)) nilA))) nilA)) (g := nameG 5) (f := runs (T21 K (callK (pf K) (n + 8)))) (xs := rangeL 0 (drawV zs 6).toNat) (s0 := ⟨e21 r t b hp.length none none none none none, hp ++ [Cell.lst []] ++ [Cell.lst []], hp.length⟩) (s := ⟨e21 r t b hp.length none none none none none, (hp ++ [Cell.lst []] ++ [Cell.lst []]).set r (.lst (zs.dropLast.map .int)), hp.length⟩)
    (fun i s => ∃ h' zs' xs qs o5 o8 o9, s = ⟨e21 r t b hp.length o5 none none o8 o9, h', hp.length⟩ ∧ W21 h' r hp.length zs' xs qs ∧ Nums xs qs ∧ Rats qs ∧ qs.length = i) (range1_ok (by
      simp only [e21, y_nil, y_cons, y_asg, y_name, y_ret, y_drop, y_if, y_bl, y_tru, y_not, y_and, y_or, y_andE, y_orE, y_notE, y_con, y_var, y_bin, y_un, y_two, y_nilA, y_consA, y_call, y_make, y_stat, y_callV, y_callG, y_neg, y_tup, y_lst, y_ifE, y_raise, y_val, y_new, y_on, y_onx, y_mth, y_fmt, y_bits, y_tupG, y_consG, y_nilG, y_mthL, v_add, v_sub, v_neg, v_lt, v_le, v_gt, v_ge, v_tru, v_gcd, set0, set1, v_eqC, v_opC, v_negC, v_neC, Out.bind_ok, Out.bind_exn, List.getElem?_cons_zero, List.getElem?_cons_succ, List.append_nil, List.nil_append, List.cons_append, Bool.not_true, Bool.not_false, if_true, if_false, Bool.false_eq_true, Bool.true_eq_false, reduceCtorEq, List.take_length, eqV_int, List.length_cons, List.length_nil, e5]) (by omega)) ⟨_, _, [], [], none, none, none, rfl, w1, .nil, rats_nil, rfl⟩ fun i d s hd ⟨h', zs', xs, qs, o5, o8, o9, es, w, hx, hq, hn⟩ => by
      subst es
      obtain ⟨_, hi⟩ := range_at hd
      obtain ⟨h2, zs2, xs2, qs2, t', b', e2, w2, hx2, hq2, hn2⟩ := turn21 (K := K) (n := n) (t := t) (b := b) (o5 := some d) (o6 := none) (o7 := none) (o8 := o8) (o9 := o9) w hx hq (by omega)
      exact ⟨_, _, rfl, e2, h2, zs2, xs2, qs2, _, _, _, rfl, w2, hx2, hq2, by omega⟩
  subst es
  rw [range_len] at hn
  have s4 := push_at (o := 3) (e := e21 r t b hp.length o5 none none o8 o9) (n := hp.length) (q := consA (varE 1) nilA) (y := rt t b) rfl w3.x (Nat.le_refl _) (by rw [hx.len]; omega) rfl
  have w4 := w3.setX (xs ++ [rt t b])
  have s5 := push_at (o := 4) (e := e21 r t b hp.length o5 none none o8 o9) (n := hp.length) (q := consA (varE 2) nilA) (y := pr t b) rfl w4.p (by omega) (by rw [prs_len]; omega) rfl
  have w5 := w4.setP (ys := qs ++ [(t, b)]) (zz := prs qs ++ [pr t b]) (prs_snoc (q := (t, b))).symm
  exact ⟨_, zs3, xs, qs, o5, o8, o9, (runs_append (a := (L21 K (callK (pf K) (n + 8))).take 2) s12).trans ((runs_step e3).trans ((runs_step s4).trans ((runs_step s5).trans rfl))), w5, hx.snoc (q := (t, b)) (Num.rt t b), ⟨by simp; omega, hq.snoc (q := (t, b)) r1⟩⟩
end
end Law
end

-- S78x
section
set_option maxHeartbeats 8000000
namespace Law
open PySem PySem.Spec Den
section
variable {K : PySem.W.Frag} {C : Calls} {n m r k l N : Nat} {hp h : List Cell} {t b u c i j : Int} {e : List (Option D)} {ns zs : List Int} {s : S} {a : SemE} {x y v : D} {xs : List D} {qs : List (Int × Int)} {q : SemA} {o5 o6 o7 o8 o9 : Option D}
theorem lv2 {d : D} (hd : d.noRef = true) : leave m (.ok (.ret d) ⟨e, h, n⟩) = .ok d (h.take m) := by
  show (match freeze h m d with
    | some d' => OutC.ok d' (h.take m)
    | none => .bad) = _
  unfold freeze
  rw [fz_pure hd]
def intsP (ws : List Int) : PyData := .tuple (ws.map .int)
theorem pys_ints {get : Nat → Option PyData} : ∀ ws : List Int, pys get (ws.map D.int) = some (ws.map .int)
  | [] => rfl
  | w :: ws => by
    show (match py get (.int w), pys get (ws.map D.int) with
      | some y, some ys => some (y :: ys)
      | _, _ => none) = _
    rw [pys_ints ws]
    rfl
theorem py_ints (ws : List Int) : pyOf (.tup (ws.map .int)) h = some (intsP ws) := by
  show (match pys (pyCell h 8) (ws.map D.int) with
    | some ys => some (PyData.tuple ys)
    | none => none) = _
  rw [pys_ints]
  rfl
theorem noDs_ints : ∀ ws : List Int, noDs (ws.map .int) = true
  | [] => rfl
  | w :: ws => by
    show (true && noDs (ws.map .int)) = true
    rw [noDs_ints ws]
    rfl
theorem lay_ints : ∀ ws : List Int, PyData.canLayAll0 (ws.map .int) = true
  | [] => by simp [PyData.canLayAll0]
  | w :: ws => by
    simp only [List.map_cons, PyData.canLayAll0, PyData.canLay0, lay_ints ws, Bool.and_self]
theorem dep_ints : ∀ ws : List Int, PyData.depthAll (ws.map .int) ≤ 1
  | [] => by simp [PyData.depthAll]
  | w :: ws => by
    have := dep_ints ws
    simp only [List.map_cons, PyData.depthAll, PyData.depth]
    omega
theorem sh_ints (ws : List Int) : SeqAt.shaped (intsP ws) = true := by
  unfold SeqAt.shaped intsP
  have hd : (PyData.tuple (ws.map .int)).depth ≤ 64 := by
    have := dep_ints ws
    rw [PyData.depth]
    omega
  rw [decide_eq_true hd]
  simp only [PyData.canLay0, lay_ints, Bool.and_self]
theorem ne_ints (ws : List Int) : neC C (ow "__eq__") (.tup (ws.map .int)) (.tup (ws.map .int)) s = .ok (.bl false) s := by
  have e : eqV true (.tup (ws.map .int)) (.tup (ws.map .int)) s.hp = .val (.bl false) := by
    rw [eqV_same (py_ints ws) (noDs_ints ws) (sh_ints ws)]
    rfl
  unfold neC
  rw [e]
  rfl
theorem eq_ints (ws : List Int) : eqC C (ow "__eq__") (eqV false) (.tup (ws.map .int)) (.tup (ws.map .int)) s = .ok (.bl true) s := by
  show (eqV false (.tup (ws.map .int)) (.tup (ws.map .int)) s.hp).on s = _
  rw [eqV_same (py_ints ws) (noDs_ints ws) (sh_ints ws)]
  rfl
theorem pys_last {get : Nat → Option PyData} : ∀ xs : List D, pys get (xs ++ [rt t b]) = none
  | [] => rfl
  | x :: xs => by
    show (match py get x, pys get (xs ++ [rt t b]) with
      | some y, some ys => some (y :: ys)
      | _, _ => none) = _
    rw [pys_last xs]
    split
    · rename_i h; cases h
    · rfl
theorem ne_rows (hx : Nums (xs ++ [rt t b]) qs) (h1 : h[r]? = some (.lst (xs ++ [rt t b]))) (h2 : h[k]? = some (.lst (xs ++ [rt t b]))) : neC (callK (pf K) (n + 8)) (ow "__eq__") (.ref r) (.ref k) ⟨e, h, m⟩ = .ok (.bl false) ⟨e, h, m⟩ := by
  have p1 : pyOf (.ref r) h = none := by
    show pyCell h 8 r = none
    unfold pyCell
    rw [h1]
    dsimp only
    rw [pys_last]
  have e1 : eqV true (.ref r) (.ref k) h = .bad := by
    unfold eqV
    rw [p1]
  have l : ∀ {r}, h[r]? = some (.lst (xs ++ [rt t b])) → lstOf (.ref r) h = some (xs ++ [rt t b]) := fun h1 => by
    unfold lstOf
    simp only [h1]
  have sm : SameL (callK (pf K) (n + 8)) (ow "__eq__") (.ref r) (.ref k) h := ⟨_, l h1, l h2, fun z hz => by
    obtain ⟨t, b, nz, _⟩ := hx.num z hz
    cases nz with
    | int i => exact .inl ⟨_, rfl⟩
    | rt t b =>
      refine .inr ⟨0, [2, 3], [.int t, .int b], 32, rfl, by kernel_rfl, ?_⟩
      have e := c32 (K := K) (n := n + 6) (hp := h) (t := t) (b := b) (Num.rt t b)
      simpa using e⟩
  unfold neC
  simp only [e1]
  exact if_pos sm
theorem isa_tup : isaX (tb.px K) tb.E [.tup xs, .ty 5] h = .val (.bl true) := rfl
theorem tup_lst : tupleV [.lst xs] h = .val (.tup xs) := rfl
theorem tup_ref (h1 : h[r]? = some (.lst xs)) : tupleV [.ref r] h = .val (.tup xs) := tup_cell h1
theorem list_ref (h1 : h[r]? = some (.lst xs)) : listV [.ref r] h = .new (.lst xs) := by
  unfold listV lstOf' lstOf
  simp only [h1]
end
end Law
end

-- S78y
section
set_option maxHeartbeats 8000000
namespace Law
open PySem PySem.Spec Den
section
variable {K : PySem.W.Frag} {C : Calls} {n m r k l N : Nat} {hp h : List Cell} {t b u c i j : Int} {e : List (Option D)} {ns zs : List Int} {s : S} {a : SemE} {x y v : D} {xs : List D} {qs : List (Int × Int)} {q : SemA} {o5 o6 o7 o8 o9 : Option D}
theorem whole_zero : wholeI [(0, 1), (0, 1), (0, 1)] = [0, 0, 0] := by decide
theorem whole_two : wholeI [(-2, 1), (4, 1)] = [-1, 2] := by decide
theorem y_seqI_var {ys : List D} {o : Nat} (he : e[o]? = some (some (.tup ys))) : seqI (varE o) ⟨e, h, n⟩ = .ok (.vals ys) ⟨e, h, n⟩ := by
  show (varE o _).bind _ = _
  rw [y_var, he]
  rfl
/-- the parts that are no integers: none -/
theorem parts21 {ws : List Int} (he : e[7]? = some (some (.tup (ws.map .int)))) (hl : e.length = 11) (hw : ws.length ≤ 100) (hN : N ≤ h.length) : ∃ h', callV lenV (consA (lcE (seqI (varE 7)) (.one 10) (notT (truE truth (callE (callK (pf K) (n + 8)) 6 [] (consA (varE 10) nilA)))) (varE 10) [10]) nilA) ⟨e, h, N⟩ = .ok (.int 0) ⟨e, h', N⟩ ∧ Grown h h' := by
  have e5 := lc_ok (it := .vals (ws.map D.int)) (g := .one 10) (q := notT (truE truth (callE (callK (pf K) (n + 8)) 6 [] (consA (varE 10) nilA)))) (e := varE 10) (own := [10]) (xs := ws.map D.int) (p := fun _ => false) (φ := id) (w := seqI (varE 7)) (s := ⟨e, h, N⟩)
    (y_seqI_var he) rfl (fun i e' acc => vals_at) hN (by rw [List.length_map, sizeLine_eq]; omega) fun d hd => by
      obtain ⟨t, ht, ed⟩ := List.mem_map.mp hd
      subst ed
      have e6 : ∀ h, callK (pf K) (n + 8) 6 none [.int t] h = .ok (.bl true) h := fun h => c6 (n := n + 7) rfl
      have lw : (wipeE e [10]).length = 11 := by simp [wipeE, hl]
      refine ⟨(wipeE e [10]).set 10 (some (.int t)), ?_, fun acc => ⟨(wipeE e [10]).set 10 (some (.int t)), ?_, fun hh => absurd hh (by simp)⟩⟩
      · rfl
      · have e10 : ((wipeE e [10]).set 10 (some (D.int t)))[10]? = some (some (.int t)) := List.getElem?_set_self (by omega)
        simp only [y_nil, y_cons, y_asg, y_name, y_ret, y_drop, y_if, y_bl, y_tru, y_not, y_and, y_or, y_andE, y_orE, y_notE, y_con, y_var, y_bin, y_un, y_two, y_nilA, y_consA, y_call, y_make, y_stat, y_callV, y_callG, y_neg, y_tup, y_lst, y_ifE, y_raise, y_val, y_new, y_on, y_onx, y_mth, y_fmt, y_bits, y_tupG, y_consG, y_nilG, y_mthL, v_add, v_sub, v_neg, v_lt, v_le, v_gt, v_ge, v_tru, v_gcd, set0, set1, v_eqC, v_opC, v_negC, v_neC, Out.bind_ok, Out.bind_exn, List.getElem?_cons_zero, List.getElem?_cons_succ, List.append_nil, List.nil_append, List.cons_append, Bool.not_true, Bool.not_false, if_true, if_false, Bool.false_eq_true, Bool.true_eq_false, reduceCtorEq, List.take_length, eqV_int, List.length_cons, List.length_nil, e10, e6]
  have ef : ((ws.map D.int).filter fun _ => false) = [] := List.filter_eq_nil_iff.mpr fun _ _ => Bool.false_ne_true
  rw [ef] at e5
  refine ⟨h ++ [.lst []], ?_, (Grown.refl h).add _⟩
  rw [y_callV, y_consA, e5]
  simp only [Out.bind_ok, y_nilA, List.map_nil]
  rw [len_cell List.getElem?_concat_length]
  rfl
theorem c21 (r1 : Rat t b) (hz : hp[r]? = some (.lst (zs.map .int))) : ∃ hp', callK (pf K) (n + 9) 21 none [.ref r, rt t b, pr t b] hp = .ok (.bl true) hp' := by
  obtain ⟨h, zs', xs, qs, o5, o8, o9, e1, w, hx, hs⟩ := row21 (K := K) (n := n) r1 hz
  have hN : hp.length ≤ h.length := Nat.le_of_lt (List.getElem?_eq_some_iff.mp w.x).1
  have ew := hx.len
  have wl : (wholeI (qs ++ [(t, b)])).length ≤ 100 := by
    have hs1 := hs.1
    unfold wholeI
    split
    · rw [tops_len]; omega
    · rw [List.length_map, tops_len]; omega
  -- the kept row, and what is found
  have s2 : runs (((L21 K (callK (pf K) (n + 8))).drop 5).take 2) ⟨e21 r t b hp.length o5 none none o8 o9, h, hp.length⟩ = .ok .next ⟨e21 r t b hp.length o5 (some (.ref h.length)) (some (.tup ((wholeI (qs ++ [(t, b)])).map .int))) o8 o9, h ++ [.lst (xs ++ [rt t b])], hp.length⟩ := by
    have e3 := c3 (K := K) (n := n + 3) (hp := h ++ [Cell.lst (xs ++ [rt t b])]) (x := .ref hp.length) hx hs (.inl ⟨_, rfl, get_app w.x⟩)
    show runs [_, _] _ = _
    simp only [e21, y_nil, y_cons, y_asg, y_name, y_ret, y_drop, y_if, y_bl, y_tru, y_not, y_and, y_or, y_andE, y_orE, y_notE, y_con, y_var, y_bin, y_un, y_two, y_nilA, y_consA, y_call, y_make, y_stat, y_callV, y_callG, y_neg, y_tup, y_lst, y_ifE, y_raise, y_val, y_new, y_on, y_onx, y_mth, y_fmt, y_bits, y_tupG, y_consG, y_nilG, y_mthL, v_add, v_sub, v_neg, v_lt, v_le, v_gt, v_ge, v_tru, v_gcd, set0, set1, v_eqC, v_opC, v_negC, v_neC, Out.bind_ok, Out.bind_exn, List.getElem?_cons_zero, List.getElem?_cons_succ, List.append_nil, List.nil_append, List.cons_append, Bool.not_true, Bool.not_false, if_true, if_false, Bool.false_eq_true, Bool.true_eq_false, reduceCtorEq, List.take_length, eqV_int, List.length_cons, List.length_nil, list_ref w.x, e3]
  obtain ⟨h2, e4, g2⟩ := parts21 (K := K) (n := n) (N := hp.length) (h := h ++ [Cell.lst (xs ++ [rt t b])]) (e := e21 r t b hp.length o5 (some (.ref h.length)) (some (.tup ((wholeI (qs ++ [(t, b)])).map .int))) o8 o9) rfl rfl wl (by rw [List.length_append]; omega)
  have x1 : h2[hp.length]? = some (.lst (xs ++ [rt t b])) := g2.at (get_app w.x)
  have x2 : h2[h.length]? = some (.lst (xs ++ [rt t b])) := g2.at List.getElem?_concat_length
  have x3 : h2[hp.length + 1]? = some (.lst (prs (qs ++ [(t, b)]))) := g2.at (get_app w.p)
  have s3 : ifS (orT (notT (truE truth (callV (isaX (tb.px K) tb.E) (consA (varE 7) (consA (conE (.ty 5)) nilA))))) (blT (bin gtV (callV lenV (consA (lcE (seqI (varE 7)) (.one 10) (notT (truE truth (callE (callK (pf K) (n + 8)) 6 [] (consA (varE 10) nilA)))) (varE 10) [10]) nilA)) (conE (.int 0))))) (runs [(retS (conE (.bl false)))]) (runs []) ⟨e21 r t b hp.length o5 (some (.ref h.length)) (some (.tup ((wholeI (qs ++ [(t, b)])).map .int))) o8 o9, h ++ [.lst (xs ++ [rt t b])], hp.length⟩ = .ok .next ⟨e21 r t b hp.length o5 (some (.ref h.length)) (some (.tup ((wholeI (qs ++ [(t, b)])).map .int))) o8 o9, h2, hp.length⟩ := by
    refine (y_if).trans ?_
    rw [y_or, y_not, y_tru]
    have i1 : callV (isaX (tb.px K) tb.E) (consA (varE 7) (consA (conE (.ty 5)) nilA)) ⟨e21 r t b hp.length o5 (some (.ref h.length)) (some (.tup ((wholeI (qs ++ [(t, b)])).map .int))) o8 o9, h ++ [.lst (xs ++ [rt t b])], hp.length⟩ = .ok (.bl true) ⟨e21 r t b hp.length o5 (some (.ref h.length)) (some (.tup ((wholeI (qs ++ [(t, b)])).map .int))) o8 o9, h ++ [.lst (xs ++ [rt t b])], hp.length⟩ := by
      simp only [e21, y_nil, y_cons, y_asg, y_name, y_ret, y_drop, y_if, y_bl, y_tru, y_not, y_and, y_or, y_andE, y_orE, y_notE, y_con, y_var, y_bin, y_un, y_two, y_nilA, y_consA, y_call, y_make, y_stat, y_callV, y_callG, y_neg, y_tup, y_lst, y_ifE, y_raise, y_val, y_new, y_on, y_onx, y_mth, y_fmt, y_bits, y_tupG, y_consG, y_nilG, y_mthL, v_add, v_sub, v_neg, v_lt, v_le, v_gt, v_ge, v_tru, v_gcd, set0, set1, v_eqC, v_opC, v_negC, v_neC, Out.bind_ok, Out.bind_exn, List.getElem?_cons_zero, List.getElem?_cons_succ, List.append_nil, List.nil_append, List.cons_append, Bool.not_true, Bool.not_false, if_true, if_false, Bool.false_eq_true, Bool.true_eq_false, reduceCtorEq, List.take_length, eqV_int, List.length_cons, List.length_nil, isa_tup]
    rw [i1]
    simp only [Out.bind_ok, v_tru, Bool.not_true, Bool.false_eq_true, if_false, y_bl, y_bin]
    rw [e4]
    simp only [Out.bind_ok, y_con, v_gt, y_val]
    rfl
  have s4 : ifS (orT (blT (two (neC (callK (pf K) (n + 8)) (ow "__eq__")) (varE 7) (callV tupleV (consA (callE (callK (pf K) (n + 8)) 14 [] (consA (varE 4) nilA)) nilA)))) (orT (blT (two (neC (callK (pf K) (n + 8)) (ow "__eq__")) (callE (callK (pf K) (n + 8)) 3 [] (consA (callV tupleV (consA (varE 3) nilA)) nilA)) (varE 7))) (blT (two (neC (callK (pf K) (n + 8)) (ow "__eq__")) (varE 3) (varE 6))))) (runs [(retS (conE (.bl false)))]) (runs []) ⟨e21 r t b hp.length o5 (some (.ref h.length)) (some (.tup ((wholeI (qs ++ [(t, b)])).map .int))) o8 o9, h2, hp.length⟩ = .ok .next ⟨e21 r t b hp.length o5 (some (.ref h.length)) (some (.tup ((wholeI (qs ++ [(t, b)])).map .int))) o8 o9, h2, hp.length⟩ := by
    have e14 := c14 (K := K) (n := n + 6) (hp := h2) x3 hs
    have e3 := c3 (K := K) (n := n + 3) (hp := h2) (x := .tup (xs ++ [rt t b])) hx hs (.inr rfl)
    simp only [e21, y_nil, y_cons, y_asg, y_name, y_ret, y_drop, y_if, y_bl, y_tru, y_not, y_and, y_or, y_andE, y_orE, y_notE, y_con, y_var, y_bin, y_un, y_two, y_nilA, y_consA, y_call, y_make, y_stat, y_callV, y_callG, y_neg, y_tup, y_lst, y_ifE, y_raise, y_val, y_new, y_on, y_onx, y_mth, y_fmt, y_bits, y_tupG, y_consG, y_nilG, y_mthL, v_add, v_sub, v_neg, v_lt, v_le, v_gt, v_ge, v_tru, v_gcd, set0, set1, v_eqC, v_opC, v_negC, v_neC, Out.bind_ok, Out.bind_exn, List.getElem?_cons_zero, List.getElem?_cons_succ, List.append_nil, List.nil_append, List.cons_append, Bool.not_true, Bool.not_false, if_true, if_false, Bool.false_eq_true, Bool.true_eq_false, reduceCtorEq, List.take_length, eqV_int, List.length_cons, List.length_nil, e14, tup_lst, ne_ints, tup_ref x1, e3, ne_rows hx x1 x2]
  have s5 : ∃ h3, runs ((L21 K (callK (pf K) (n + 8))).drop 9) ⟨e21 r t b hp.length o5 (some (.ref h.length)) (some (.tup ((wholeI (qs ++ [(t, b)])).map .int))) o8 o9, h2, hp.length⟩ = .ok (.ret (.bl true)) ⟨e21 r t b hp.length o5 (some (.ref h.length)) (some (.tup ((wholeI (qs ++ [(t, b)])).map .int))) o8 o9, h3, hp.length⟩ := by
    have t33 : (0 : Nat) + 1 + 1 + 1 ≤ sizeLine := three_le
    have t22 : (0 : Nat) + 1 + 1 ≤ sizeLine := two_le
    have a0 : ∀ h, callK (pf K) (n + 8) 23 (some 0) [.int 0, .int 1] h = .ok (rt 0 1) h := fun h => mk1
    have z1 : ∀ h : List Cell, callK (pf K) (n + 8) 3 none [.ref h.length] (h ++ [.lst [.int 0, rt 0 1, .int 0]]) = .ok (.tup [.int 0, .int 0, .int 0]) (h ++ [.lst [.int 0, rt 0 1, .int 0]]) := fun h => by
      have e := c3 (K := K) (n := n + 3) (hp := h ++ [.lst [.int 0, rt 0 1, .int 0]]) (x := .ref h.length) (xs := [.int 0, rt 0 1, .int 0]) (qs := [(0, 1), (0, 1), (0, 1)]) (.cons (Num.int 0) (.cons (Num.rt 0 1) (.cons (Num.int 0) .nil))) ⟨by decide, by decide⟩ (.inl ⟨_, rfl, List.getElem?_concat_length⟩)
      rw [whole_zero] at e
      exact e
    have z2 : ∀ h : List Cell, callK (pf K) (n + 8) 3 none [.ref h.length] (h ++ [.lst [.int (-2), .int 4]]) = .ok (.tup [.int (-1), .int 2]) (h ++ [.lst [.int (-2), .int 4]]) := fun h => by
      have e := c3 (K := K) (n := n + 3) (hp := h ++ [.lst [.int (-2), .int 4]]) (x := .ref h.length) (xs := [.int (-2), .int 4]) (qs := [(-2, 1), (4, 1)]) (.cons (Num.int (-2)) (.cons (Num.int 4) .nil)) ⟨by decide, by decide⟩ (.inl ⟨_, rfl, List.getElem?_concat_length⟩)
      rw [whole_two] at e
      exact e
    have q1 : ∀ s, eqC (callK (pf K) (n + 8)) (ow "__eq__") (eqV false) (.tup [.int 0, .int 0, .int 0]) (.tup [.int 0, .int 0, .int 0]) s = .ok (.bl true) s := fun s => eq_ints [0, 0, 0]
    have q2 : ∀ s, eqC (callK (pf K) (n + 8)) (ow "__eq__") (eqV false) (.tup [.int (-1), .int 2]) (.tup [.int (-1), .int 2]) s = .ok (.bl true) s := fun s => eq_ints [-1, 2]
    refine ⟨h2 ++ [.lst [.int 0, rt 0 1, .int 0]] ++ [.lst [.int (-2), .int 4]], ?_⟩
    show runs [_] _ = _
    simp only [y_nil, y_cons, y_asg, y_name, y_ret, y_drop, y_if, y_bl, y_tru, y_not, y_and, y_or, y_andE, y_orE, y_notE, y_con, y_var, y_bin, y_un, y_two, y_nilA, y_consA, y_call, y_make, y_stat, y_callV, y_callG, y_neg, y_tup, y_lst, y_ifE, y_raise, y_val, y_new, y_on, y_onx, y_mth, y_fmt, y_bits, y_tupG, y_consG, y_nilG, y_mthL, v_add, v_sub, v_neg, v_lt, v_le, v_gt, v_ge, v_tru, v_gcd, set0, set1, v_eqC, v_opC, v_negC, v_neC, Out.bind_ok, Out.bind_exn, List.getElem?_cons_zero, List.getElem?_cons_succ, List.append_nil, List.nil_append, List.cons_append, Bool.not_true, Bool.not_false, if_true, if_false, Bool.false_eq_true, Bool.true_eq_false, reduceCtorEq, List.take_length, eqV_int, List.length_cons, List.length_nil, t33, t22, a0, z1, q1, z2, q2]
  obtain ⟨h3, s5⟩ := s5
  refine ⟨h3.take hp.length, ?_⟩
  refine (call_none (f := ⟨11, 3, false, B21 K⟩) rfl rfl rfl).trans ?_
  have all : B21 K (callK (pf K) (n + 8)) ⟨[some (.ref r), some (rt t b), some (pr t b), none, none, none, none, none, none, none, none], hp, hp.length⟩ = .ok (.ret (.bl true)) ⟨e21 r t b hp.length o5 (some (.ref h.length)) (some (.tup ((wholeI (qs ++ [(t, b)])).map .int))) o8 o9, h3, hp.length⟩ :=
    (runs_append (a := (L21 K (callK (pf K) (n + 8))).take 5) e1).trans ((runs_append (a := ((L21 K (callK (pf K) (n + 8))).drop 5).take 2) s2).trans ((runs_step s3).trans ((runs_step s4).trans s5)))
  show leave hp.length (B21 K (callK (pf K) (n + 8)) ⟨[some (.ref r), some (rt t b), some (pr t b), none, none, none, none, none, none, none, none], hp, hp.length⟩) = _
  rw [all]
  exact lv2 rfl
end
end Law
end

-- S78z
section
set_option maxHeartbeats 8000000
namespace Law
open PySem PySem.Spec Den
section
variable {K : PySem.W.Frag} {n : Nat} {ns zs : List Int} {t b u c i j : Int} {a1 a2 : Int × Int}
def menu7 : List Int := [2, 0, -1, 1, -5, 7, 999999999999]
def menu9 : List Int := [2, 0, -1, 1, -3, 40, -40, 5, -2]
theorem menu7_ok : ∀ i ∈ menu7, i.natAbs < 2 ^ 40 := by decide
theorem menu9_ok : ∀ j ∈ menu9, -40 ≤ j ∧ j ≤ 40 := by decide
abbrev e22 (ns : List Int) (a1 a2 : Int × Int) (t b u c : Int) (o6 : Option D) : List (Option D) := [some (.scr (ns.map .int)), some (.ref 0), some (pr a1.1 a1.2), some (pr a2.1 a2.2), some (rt a1.1 a1.2), some (rt a2.1 a2.2), o6, some (.int t), some (.int b), some (.int u), some (.int c)]
theorem says (K : PySem.W.Frag) : Says K := by
  intro ns hn
  rw [fns_eq]
  obtain ⟨zs, e4⟩ := c4 (K := K) (n := 28) hn
  obtain ⟨t, b, d1, zs1, e15⟩ := c15 (K := K) (n := 27) (hp := [.lst (zs.map .int)]) (r := 0) (zs := zs) rfl
  obtain ⟨u, c, d2, zs2, e15'⟩ := c15 (K := K) (n := 27) (hp := [.lst (zs1.map .int)]) (r := 0) (zs := zs1) rfl
  simp only [set0] at e15 e15'
  have p40 : (10 : Nat) ^ 12 ≤ 2 ^ 40 := by decide
  have p13 : (10 : Nat) ^ 12 ≤ 10 ^ 13 := by decide
  have hb1 : b.natAbs < 2 ^ 40 := by have := d1.bot; omega
  have hb2 : c.natAbs < 2 ^ 40 := by have := d2.bot; omega
  have ht1 : t.natAbs < 2 ^ 40 := by have := d1.top; omega
  have n1 := nm_abs (t := t) d1.nz
  have s1 : runs ((L22 K (callK (pf K) 29)).take 3) ⟨[some (.scr (ns.map .int)), none, none, none, none, none, none, none, none, none, none], [], 0⟩ = .ok .next ⟨[some (.scr (ns.map .int)), some (.ref 0), none, none, none, none, none, some (.int t), some (.int b), some (.int u), some (.int c)], [.lst (zs2.map .int)], 0⟩ := by
    show runs [_, _, _] _ = _
    simp only [y_nil, y_cons, y_asg, y_name, y_ret, y_drop, y_if, y_bl, y_tru, y_not, y_and, y_or, y_andE, y_orE, y_notE, y_con, y_var, y_bin, y_un, y_two, y_nilA, y_consA, y_call, y_make, y_stat, y_callV, y_callG, y_neg, y_tup, y_lst, y_ifE, y_raise, y_val, y_new, y_on, y_onx, y_mth, y_fmt, y_bits, y_tupG, y_consG, y_nilG, y_mthL, v_add, v_sub, v_neg, v_lt, v_le, v_gt, v_ge, v_tru, v_gcd, set0, set1, v_eqC, v_opC, v_negC, v_neC, Out.bind_ok, Out.bind_exn, List.getElem?_cons_zero, List.getElem?_cons_succ, List.append_nil, List.nil_append, List.cons_append, Bool.not_true, Bool.not_false, if_true, if_false, Bool.false_eq_true, Bool.true_eq_false, reduceCtorEq, List.take_length, eqV_int, List.length_cons, List.length_nil, e4, e15, e15']
  have f1 : ∀ h, callK (pf K) 29 8 none [.int t, .int b] h = .ok (pr (nm t b).1 (nm t b).2) h := fun h => c8 (n := 27) d1.nz hb1 (by decide) (by decide)
  have f2 : ∀ h, callK (pf K) 29 8 none [.int u, .int c] h = .ok (pr (nm u c).1 (nm u c).2) h := fun h => c8 (n := 27) d2.nz hb2 (by decide) (by decide)
  have f3 : ∀ h, callK (pf K) 29 23 (some 0) [.int t, .int b] h = .ok (rt (nm t b).1 (nm t b).2) h := fun h => c23 (n := 26) d1.nz hb1 (by decide) (by decide)
  have f4 : ∀ h, callK (pf K) 29 23 (some 0) [.int u, .int c] h = .ok (rt (nm u c).1 (nm u c).2) h := fun h => c23 (n := 26) d2.nz hb2 (by decide) (by decide)
  have s2 : runs (((L22 K (callK (pf K) 29)).drop 3).take 4) ⟨[some (.scr (ns.map .int)), some (.ref 0), none, none, none, none, none, some (.int t), some (.int b), some (.int u), some (.int c)], [.lst (zs2.map .int)], 0⟩ = .ok .next ⟨e22 ns (nm t b) (nm u c) t b u c none, [.lst (zs2.map .int)], 0⟩ := by
    show runs [_, _, _, _] _ = _
    simp only [e22, y_nil, y_cons, y_asg, y_name, y_ret, y_drop, y_if, y_bl, y_tru, y_not, y_and, y_or, y_andE, y_orE, y_notE, y_con, y_var, y_bin, y_un, y_two, y_nilA, y_consA, y_call, y_make, y_stat, y_callV, y_callG, y_neg, y_tup, y_lst, y_ifE, y_raise, y_val, y_new, y_on, y_onx, y_mth, y_fmt, y_bits, y_tupG, y_consG, y_nilG, y_mthL, v_add, v_sub, v_neg, v_lt, v_le, v_gt, v_ge, v_tru, v_gcd, set0, set1, v_eqC, v_opC, v_negC, v_neC, Out.bind_ok, Out.bind_exn, List.getElem?_cons_zero, List.getElem?_cons_succ, List.append_nil, List.nil_append, List.cons_append, Bool.not_true, Bool.not_false, if_true, if_false, Bool.false_eq_true, Bool.true_eq_false, reduceCtorEq, List.take_length, eqV_int, List.length_cons, List.length_nil, f1, f2, f3, f4]
  have q7 := drawV_lt (zs := zs2) (m := 7) (by decide)
  have g5 := c5 (K := K) (n := 28) (hp := [Cell.lst (zs2.map .int), Cell.lst (menu7.map .int)]) (r := 0) (zs := zs2) (m := 7) (by decide) rfl
  obtain ⟨i, hi, ix⟩ := ix_cell (h := [Cell.lst (zs2.dropLast.map .int), Cell.lst (menu7.map .int)]) (r := 1) (ts := menu7) (v := drawV zs2 7) rfl q7
  simp only [set0] at g5
  have t7 : (7 : Nat) ≤ sizeLine := by rw [sizeLine_eq]; decide
  have s3 : runs (((L22 K (callK (pf K) 29)).drop 7).take 1) ⟨e22 ns (nm t b) (nm u c) t b u c none, [.lst (zs2.map .int)], 0⟩ = .ok .next ⟨e22 ns (nm t b) (nm u c) t b u c (some (.int i)), [Cell.lst (zs2.dropLast.map .int), Cell.lst (menu7.map .int)], 0⟩ := by
    have t7 : (0 : Nat) + 1 + 1 + 1 + 1 + 1 + 1 + 1 ≤ sizeLine := t7
    have g5 : callK (pf K) 29 5 none [.ref 0, .int 7] [Cell.lst (zs2.map .int), Cell.lst [.int 2, .int 0, .int (-1), .int 1, .int (-5), .int 7, .int 999999999999]] = .ok (.int (drawV zs2 7)) [Cell.lst (zs2.dropLast.map .int), Cell.lst [.int 2, .int 0, .int (-1), .int 1, .int (-5), .int 7, .int 999999999999]] := g5
    have ix : ixV (.ref (0 + 1)) (.int (drawV zs2 7)) [Cell.lst (zs2.dropLast.map .int), Cell.lst [.int 2, .int 0, .int (-1), .int 1, .int (-5), .int 7, .int 999999999999]] = .val (.int i) := ix
    show runs [_] _ = _
    simp only [e22, y_nil, y_cons, y_asg, y_name, y_ret, y_drop, y_if, y_bl, y_tru, y_not, y_and, y_or, y_andE, y_orE, y_notE, y_con, y_var, y_bin, y_un, y_two, y_nilA, y_consA, y_call, y_make, y_stat, y_callV, y_callG, y_neg, y_tup, y_lst, y_ifE, y_raise, y_val, y_new, y_on, y_onx, y_mth, y_fmt, y_bits, y_tupG, y_consG, y_nilG, y_mthL, v_add, v_sub, v_neg, v_lt, v_le, v_gt, v_ge, v_tru, v_gcd, set0, set1, v_eqC, v_opC, v_negC, v_neC, Out.bind_ok, Out.bind_exn, List.getElem?_cons_zero, List.getElem?_cons_succ, List.append_nil, List.nil_append, List.cons_append, Bool.not_true, Bool.not_false, if_true, if_false, Bool.false_eq_true, Bool.true_eq_false, reduceCtorEq, List.take_length, eqV_int, List.length_cons, List.length_nil, t7, g5, ix]
    rfl
  have r1 := d1.rat
  have r2 := d2.rat
  have b20 : ∀ h, callK (pf K) 29 20 none [.int t, .int b] h = .ok (.bl true) h := fun h => c20 (n := 20) d1.nz ht1 hb1
  have b18 : ∀ h, callK (pf K) 29 18 none [rt (nm t b).1 (nm t b).2, pr (nm t b).1 (nm t b).2, rt (nm u c).1 (nm u c).2, pr (nm u c).1 (nm u c).2, .int i] h = .ok (.bl true) h := fun h => c18 (n := 21) r1 r2 (menu7_ok i hi) (by have := d1.top; omega) (by have := d1.bot; omega)
  have s4 : runs (((L22 K (callK (pf K) 29)).drop 8).take 1) ⟨e22 ns (nm t b) (nm u c) t b u c (some (.int i)), [Cell.lst (zs2.dropLast.map .int), Cell.lst (menu7.map .int)], 0⟩ = .ok .next ⟨e22 ns (nm t b) (nm u c) t b u c (some (.int i)), [Cell.lst (zs2.dropLast.map .int), Cell.lst (menu7.map .int)], 0⟩ := by
    show runs [_] _ = _
    simp only [e22, y_nil, y_cons, y_asg, y_name, y_ret, y_drop, y_if, y_bl, y_tru, y_not, y_and, y_or, y_andE, y_orE, y_notE, y_con, y_var, y_bin, y_un, y_two, y_nilA, y_consA, y_call, y_make, y_stat, y_callV, y_callG, y_neg, y_tup, y_lst, y_ifE, y_raise, y_val, y_new, y_on, y_onx, y_mth, y_fmt, y_bits, y_tupG, y_consG, y_nilG, y_mthL, v_add, v_sub, v_neg, v_lt, v_le, v_gt, v_ge, v_tru, v_gcd, set0, set1, v_eqC, v_opC, v_negC, v_neC, Out.bind_ok, Out.bind_exn, List.getElem?_cons_zero, List.getElem?_cons_succ, List.append_nil, List.nil_append, List.cons_append, Bool.not_true, Bool.not_false, if_true, if_false, Bool.false_eq_true, Bool.true_eq_false, reduceCtorEq, List.take_length, eqV_int, List.length_cons, List.length_nil, b20, b18]
  have q9 := drawV_lt (zs := zs2.dropLast) (m := 9) (by decide)
  have g9 := c5 (K := K) (n := 28) (hp := [Cell.lst (zs2.dropLast.map .int), Cell.lst (menu7.map .int), Cell.lst (menu9.map .int)]) (r := 0) (zs := zs2.dropLast) (m := 9) (by decide) rfl
  obtain ⟨j, hj, jx⟩ := ix_cell (h := [Cell.lst (zs2.dropLast.dropLast.map .int), Cell.lst (menu7.map .int), Cell.lst (menu9.map .int)]) (r := 2) (ts := menu9) (v := drawV zs2.dropLast 9) rfl q9
  simp only [set0] at g9
  have t9 : (9 : Nat) ≤ sizeLine := by rw [sizeLine_eq]; decide
  have s5 : runs (((L22 K (callK (pf K) 29)).drop 9).take 1) ⟨e22 ns (nm t b) (nm u c) t b u c (some (.int i)), [Cell.lst (zs2.dropLast.map .int), Cell.lst (menu7.map .int)], 0⟩ = .ok .next ⟨e22 ns (nm t b) (nm u c) t b u c (some (.int j)), [Cell.lst (zs2.dropLast.dropLast.map .int), Cell.lst (menu7.map .int), Cell.lst (menu9.map .int)], 0⟩ := by
    have t9 : (0 : Nat) + 1 + 1 + 1 + 1 + 1 + 1 + 1 + 1 + 1 ≤ sizeLine := t9
    have g9 : callK (pf K) 29 5 none [.ref 0, .int 9] [Cell.lst (zs2.dropLast.map .int), Cell.lst (menu7.map .int), Cell.lst [.int 2, .int 0, .int (-1), .int 1, .int (-3), .int 40, .int (-40), .int 5, .int (-2)]] = .ok (.int (drawV zs2.dropLast 9)) [Cell.lst (zs2.dropLast.dropLast.map .int), Cell.lst (menu7.map .int), Cell.lst [.int 2, .int 0, .int (-1), .int 1, .int (-3), .int 40, .int (-40), .int 5, .int (-2)]] := g9
    have jx : ixV (.ref (0 + 1 + 1)) (.int (drawV zs2.dropLast 9)) [Cell.lst (zs2.dropLast.dropLast.map .int), Cell.lst (menu7.map .int), Cell.lst [.int 2, .int 0, .int (-1), .int 1, .int (-3), .int 40, .int (-40), .int 5, .int (-2)]] = .val (.int j) := jx
    show runs [_] _ = _
    simp only [e22, y_nil, y_cons, y_asg, y_name, y_ret, y_drop, y_if, y_bl, y_tru, y_not, y_and, y_or, y_andE, y_orE, y_notE, y_con, y_var, y_bin, y_un, y_two, y_nilA, y_consA, y_call, y_make, y_stat, y_callV, y_callG, y_neg, y_tup, y_lst, y_ifE, y_raise, y_val, y_new, y_on, y_onx, y_mth, y_fmt, y_bits, y_tupG, y_consG, y_nilG, y_mthL, v_add, v_sub, v_neg, v_lt, v_le, v_gt, v_ge, v_tru, v_gcd, set0, set1, v_eqC, v_opC, v_negC, v_neC, Out.bind_ok, Out.bind_exn, List.getElem?_cons_zero, List.getElem?_cons_succ, List.append_nil, List.nil_append, List.cons_append, Bool.not_true, Bool.not_false, if_true, if_false, Bool.false_eq_true, Bool.true_eq_false, reduceCtorEq, List.take_length, eqV_int, List.length_cons, List.length_nil, t9, g9, jx]
    rfl
  have b19 : ∀ h, callK (pf K) 29 19 none [rt (nm t b).1 (nm t b).2, pr (nm t b).1 (nm t b).2, rt (nm u c).1 (nm u c).2, pr (nm u c).1 (nm u c).2, .int j] h = .ok (.bl true) h := fun h => c19 (n := 20) r1 r2 (menu9_ok j hj)
  obtain ⟨hp', b21⟩ := c21 (K := K) (n := 20) (hp := [Cell.lst (zs2.dropLast.dropLast.map .int), Cell.lst (menu7.map .int), Cell.lst (menu9.map .int)]) (r := 0) (zs := zs2.dropLast.dropLast) r1 rfl
  have s6 : runs ((L22 K (callK (pf K) 29)).drop 10) ⟨e22 ns (nm t b) (nm u c) t b u c (some (.int j)), [Cell.lst (zs2.dropLast.dropLast.map .int), Cell.lst (menu7.map .int), Cell.lst (menu9.map .int)], 0⟩ = .ok (.ret (.bl true)) ⟨e22 ns (nm t b) (nm u c) t b u c (some (.int j)), hp', 0⟩ := by
    show runs [_] _ = _
    simp only [e22, y_nil, y_cons, y_asg, y_name, y_ret, y_drop, y_if, y_bl, y_tru, y_not, y_and, y_or, y_andE, y_orE, y_notE, y_con, y_var, y_bin, y_un, y_two, y_nilA, y_consA, y_call, y_make, y_stat, y_callV, y_callG, y_neg, y_tup, y_lst, y_ifE, y_raise, y_val, y_new, y_on, y_onx, y_mth, y_fmt, y_bits, y_tupG, y_consG, y_nilG, y_mthL, v_add, v_sub, v_neg, v_lt, v_le, v_gt, v_ge, v_tru, v_gcd, set0, set1, v_eqC, v_opC, v_negC, v_neC, Out.bind_ok, Out.bind_exn, List.getElem?_cons_zero, List.getElem?_cons_succ, List.append_nil, List.nil_append, List.cons_append, Bool.not_true, Bool.not_false, if_true, if_false, Bool.false_eq_true, Bool.true_eq_false, reduceCtorEq, List.take_length, eqV_int, List.length_cons, List.length_nil, b19, b21]
  have all : B22 K (callK (pf K) 29) ⟨[some (.scr (ns.map .int)), none, none, none, none, none, none, none, none, none, none], [], 0⟩ = .ok (.ret (.bl true)) ⟨e22 ns (nm t b) (nm u c) t b u c (some (.int j)), hp', 0⟩ :=
    (runs_append (a := (L22 K (callK (pf K) 29)).take 3) s1).trans ((runs_append (a := ((L22 K (callK (pf K) 29)).drop 3).take 4) s2).trans ((runs_append (a := ((L22 K (callK (pf K) 29)).drop 7).take 1) s3).trans ((runs_append (a := ((L22 K (callK (pf K) 29)).drop 8).take 1) s4).trans ((runs_append (a := ((L22 K (callK (pf K) 29)).drop 9).take 1) s5).trans s6))))
  refine ⟨hp'.take 0, ?_⟩
  refine (call_none (k := 29) (f := ⟨11, 1, false, B22 K⟩) rfl rfl rfl).trans ?_
  show leave 0 (B22 K (callK (pf K) 29) ⟨[some (.scr (ns.map .int)), none, none, none, none, none, none, none, none, none, none], [], 0⟩) = _
  rw [all]
  exact lv2 rfl
end
end Law
end

open PySem PySem.W PySem.Calls PyProof.Rows
theorem PySem.Challenge.cw_steprows_k78_exact_fractions_holds : PySem.Challenge.rw_steprows_k78_exact_fractions.Holds := by
  w_on; o_law
  refine HandSHeadRun.head_imp (r := OpenLaw.row PySem.Challenge.rw_steprows_k78_exact_fractions) (q := view (OpenLaw.row PySem.Challenge.rw_steprows_k78_exact_fractions).prog [0, 30]) (H := Law.hk) (ob := Law.ob) (M := 40000) (loose := Law.loose) (d := HandSHeadRun.topDef (OpenLaw.row PySem.Challenge.rw_steprows_k78_exact_fractions).prog 30) (kwd := []) Law.ob_eq
    Law.run (by kernel_rfl) (by kernel_rfl) (by kernel_rfl) (by rfl) (by first | assumption | decide +kernel) (by decide +kernel) ⟨rfl, rfl, rfl, rfl, rfl, by decide +kernel⟩ ?hw ?hc
  case hw => w_witness2
  case hc =>
    refine L2.walk_ofE (l := PySem.Challenge.rw_steprows_k78_exact_fractions) (n := 63) (k := 5 * Law.depth + 1) (x := "_law_script") (CX := L2.CX0) rfl (by decide) (by kernel_rfl) ⟨rfl, by decide, by decide⟩ ?F (fun _ _ _ _ z => z)
    intro w mg fa h Y G hmg0
    obtain ⟨K, KX, c⟩ := Y
    have hmg : mg ("law" : PySem.Str) = some (.ref fa) := by
      have e : (HandSHeadRun.topDef (OpenLaw.row PySem.Challenge.rw_steprows_k78_exact_fractions).prog 30).name = ("law" : PySem.Str) := by kernel_rfl
      rw [← e]
      exact hmg0
    obtain ⟨fd, hb, hF⟩ := Law.facts (P := (PySem.Challenge.rw_steprows_k78_exact_fractions).prog) (w := w) KX G hmg c
    exact ⟨K, fd, fun vs H Q _ => Den.spF (Law.tb.px K) (Den.callK (Law.tb.fns K) Law.depth) 22 1 vs H Q fun _ _ _ => False, KX, hb, fun H a ns hl _ hS => Law.spec (P := (PySem.Challenge.rw_steprows_k78_exact_fractions).prog) (w := w) Law.says hl hS, hF⟩
